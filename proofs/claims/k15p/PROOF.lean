import PyProof.Rows.All
import Wide.All
import OpenK.AllK
import Wide.FinOn
import HandS.ForMost
import HandS.Lambda
import HandS.ExcInit
import HandS.Wide
import HandS.Gcd
import HandS.IsInst
import HandS.Style
import HandS.ForExc
import HandS.MakeKwOnly
import HandS.ExcIs
import HandS.ExcField
import KE.KExcIs
import KE.Datum
import PyProof.ReprRoads
import HandS.EndTab
import KE.GoesZip
import KE.KRevIter
import HandS.Rev
import HandS.Zip
import HandS.ClsMeth
import PyProof.ListNew
import HandS.TupAny
import HandS.TupLe
import PyProof.ListMulAny
import PyProof.Rows.ListMulArg
import HandS.Steps
import HandS.SetKeys
import HandS.DictComp
import HandS.Deep
import PyProof.DictMoreH
import HandS.SortInts
import KE.KSortTupG
import HandS.Codes
import HandS.Conv
import HandS.Text
import HandS.SetFor
import HandS.Strs
import PyProof.StrOps2
import HandS.NoneIn
import PyProof.Rows.SeqMore
import KE.KNestM
import PySem.Challenge.RW_littlewebs_k15_traces_of_words
set_option Elab.async false
set_option linter.all false
set_option maxRecDepth 100000
set_option maxHeartbeats 4000000
/-! Zc: regions, codecs, effects; what an expression gives (JT: total; J: with effects). -/
namespace Z
open PySem L2

/-! ### regions -/
abbrev Rg := Addr → Prop
structure Ext (A : Rg) (H H' : Hp) : Prop where
  keep : ∀ a o, A a → H a = some o → H' a = some o
  free : ∀ a, H' a = none → H a = none
structure Exz (Z : Rg) (H H' : Hp) : Prop where
  keep : ∀ a o, ¬ Z a → H a = some o → H' a = some o
  free : ∀ a, H' a = none → H a = none
def Fr (A : Rg) (H : Hp) : Prop := ∀ p, H p = none → A p
theorem Ext.refl (A : Rg) (H : Hp) : Ext A H H := ⟨fun _ _ _ h => h, fun _ h => h⟩
theorem Exz.refl (A : Rg) (H : Hp) : Exz A H H := ⟨fun _ _ _ h => h, fun _ h => h⟩
theorem Ext.trans {A : Rg} {H H1 H2 : Hp} (a : Ext A H H1) (b : Ext A H1 H2) : Ext A H H2 := ⟨fun p o h e => b.keep p o h (a.keep p o h e), fun p e => a.free p (b.free p e)⟩
theorem Exz.trans {A : Rg} {H H1 H2 : Hp} (a : Exz A H H1) (b : Exz A H1 H2) : Exz A H H2 := ⟨fun p o h e => b.keep p o h (a.keep p o h e), fun p e => a.free p (b.free p e)⟩
theorem sameExt {A : Rg} {H H' : Hp} (s : Same H H') : Ext A H H' := ⟨fun p o _ e => s p o e, fun _ e => s.free e⟩
theorem sameExz {A : Rg} {H H' : Hp} (s : Same H H') : Exz A H H' := ⟨fun p o _ e => s p o e, fun _ e => s.free e⟩
theorem Exz.ext {A Z : Rg} {H H' : Hp} (s : Exz Z H H') (nA : ∀ a, A a → ¬ Z a) : Ext A H H' := ⟨fun p o h e => s.keep p o (nA p h) e, s.free⟩
theorem Exz.wide {Y Z : Rg} {H H' : Hp} (s : Exz Z H H') (k : ∀ a, Z a → Y a) : Exz Y H H' := ⟨fun p o h e => s.keep p o (fun z => h (k p z)) e, s.free⟩
theorem Fr.ext {A : Rg} {H H' : Hp} (f : Fr A H) (e : Ext A H H') : Fr A H' := fun p h => f p (e.free p h)
theorem Fr.exz {A Z : Rg} {H H' : Hp} (f : Fr A H) (e : Exz Z H H') : Fr A H' := fun p h => f p (e.free p h)
theorem Fr.same {A : Rg} {H H' : Hp} (f : Fr A H) (e : Same H H') : Fr A H' := fun p h => f p (e.free h)
theorem same_new {H : Hp} {p : Addr} {o : HO} (h : H p = none) : Same H (upd H p o) := fun b x e => by
  rw [upd_ne (ne_of_none e h)]; exact e
/-- an object that was not there at H may change -/
theorem Exz.mut {Z : Rg} {H H' : Hp} {l : Addr} {o : HO} (e : Exz Z H H') (n : H l = none) : Exz Z H (upd H' l o) :=
  ⟨fun a u h q => by rw [upd_ne (ne_of_none q n)]; exact e.keep a u h q, fun a h => by
    by_cases q : a = l
    · rw [q, upd_same] at h; cases h
    · rw [upd_ne q] at h; exact e.free a h⟩
/-- an object outside of the region changes -/
theorem Ext.put {A : Rg} {H : Hp} {l : Addr} {o : HO} (n : ¬ A l) : Ext A H (upd H l o) :=
  ⟨fun a u h q => by rw [upd_ne (fun z => n (by rw [← z]; exact h))]; exact q, fun a h => by
    by_cases q : a = l
    · rw [q, upd_same] at h; cases h
    · rw [upd_ne q] at h; exact h⟩
/-- the region without one address -/
def Rg.less (A : Rg) (l : Addr) : Rg := fun a => A a ∧ a ≠ l
theorem Fr.less {A : Rg} {H : Hp} {l : Addr} {o : HO} (f : Fr A H) (h : H l = some o) : Fr (A.less l) H := fun p e => ⟨f p e, fun z => by rw [z, h] at e; cases e⟩
theorem less_no {A : Rg} {l : Addr} : ¬ (A.less l) l := fun h => h.2 rfl
theorem less_le {A : Rg} {l : Addr} : ∀ a, (A.less l) a → A a := fun _ h => h.1
/-- the region B at H' bears all that A bore at H -/
structure Sub (A : Rg) (H : Hp) (B : Rg) (H' : Hp) : Prop where
  le : ∀ a, B a → A a
  tr : ∀ a o, A a → H a = some o → B a ∧ H' a = some o
  fB : Fr B H'
theorem Sub.of {A : Rg} {H H' : Hp} (e : Ext A H H') (f : Fr A H') : Sub A H A H' := ⟨fun _ h => h, fun a o h q => ⟨h, e.keep a o h q⟩, f⟩
theorem Sub.ext {A B : Rg} {H H1 H2 : Hp} (s : Sub A H B H1) (e : Ext B H1 H2) : Sub A H B H2 := ⟨s.le, fun a o h q => ⟨(s.tr a o h q).1, e.keep a o (s.tr a o h q).1 (s.tr a o h q).2⟩, s.fB.ext e⟩

/-! ### codecs -/
structure Cd (α : Type) where
  r : Rg → Hp → V → α → Prop
  st : ∀ {A : Rg} {H H' : Hp} {v : V} {x : α}, (∀ a o, A a → H a = some o → H' a = some o) → r A H v x → r A H' v x
  mono : ∀ {A B : Rg} {H : Hp} {v : V} {x : α}, (∀ a, A a → H a ≠ none → B a) → r A H v x → r B H v x

section
variable {α β γ δ : Type} {A : Rg} {H H' : Hp} {v : V} {x : α} {c : Cd α}
theorem Cd.e (c : Cd α) (e : Ext A H H') (h : c.r A H v x) : c.r A H' v x := c.st e.keep h
theorem Cd.s (c : Cd α) (e : Same H H') (h : c.r A H v x) : c.r A H' v x := c.st (fun a o _ q => e a o q) h
/-- what stands for x knows nothing of an address that was not there -/
theorem Cd.av (c : Cd α) {l : Addr} (n : H l = none) (h : c.r A H v x) : c.r (A.less l) H v x := c.mono (fun a k t => ⟨k, fun z => t (by rw [z]; exact n)⟩) h
theorem Cd.up (c : Cd α) {l : Addr} (h : c.r (A.less l) H v x) : c.r A H v x := c.mono (fun a k _ => k.1) h
end
theorem Cd.sub {α : Type} (c : Cd α) {A B : Rg} {H H' : Hp} {v : V} {x : α} (s : Sub A H B H') (h : c.r A H v x) : c.r B H' v x := by
  have h1 : c.r B H v x := c.mono (fun a k t => by
    cases e : H a with
    | none => exact absurd e t
    | some o => exact (s.tr a o k e).1) h
  exact c.st (fun a o k e => (s.tr a o (s.le a k) e).2) h1
theorem pst {α : Type} {c : Cd α} {A : Rg} {H H' : Hp} (k : ∀ a o, A a → H a = some o → H' a = some o) {vs : List V} {xs : List α} (h : Paired (c.r A H) vs xs) : Paired (c.r A H') vs xs := Paired.mapP h fun _ _ q => c.st k q
theorem pmono {α : Type} {c : Cd α} {A B : Rg} {H : Hp} (k : ∀ a, A a → H a ≠ none → B a) {vs : List V} {xs : List α} (h : Paired (c.r A H) vs xs) : Paired (c.r B H) vs xs := Paired.mapP h fun _ _ q => c.mono k q

theorem psub {α : Type} {c : Cd α} {A B : Rg} {H H' : Hp} (s : Sub A H B H') {vs : List V} {xs : List α} (h : Paired (c.r A H) vs xs) : Paired (c.r B H') vs xs := Paired.mapP h fun _ _ q => c.sub s q
def cInt : Cd Int := ⟨fun _ _ v i => v = .int i, fun _ h => h, fun _ h => h⟩
def cBl : Cd Bool := ⟨fun _ _ v i => v = .bl i, fun _ h => h, fun _ h => h⟩
def cStr : Cd Str := ⟨fun _ _ v i => v = .str i, fun _ h => h, fun _ h => h⟩
def cNon : Cd Unit := ⟨fun _ _ v _ => v = .non, fun _ h => h, fun _ h => h⟩
/-- any value -/
def cAny : Cd V := ⟨fun _ _ v x => v = x, fun _ h => h, fun _ h => h⟩
/-- a list that stands in the heap -/
def cL {α : Type} (c : Cd α) : Cd (List α) where
  r A H v xs := ∃ (a : Addr) (vs : List V), v = .ref a ∧ A a ∧ H a = some (.lst vs) ∧ Paired (c.r A H) vs xs
  st k := fun ⟨a, vs, e, n, h, p⟩ => ⟨a, vs, e, n, k a _ n h, pst k p⟩
  mono k := fun ⟨a, vs, e, n, h, p⟩ => ⟨a, vs, e, k a n (by rw [h]; exact fun z => nomatch z), h, pmono k p⟩
/-- a list that was not there at Hb, and that nothing else knows -/
def cF {α : Type} (Hb : Hp) (c : Cd α) : Cd (List α) where
  r A H v xs := ∃ (a : Addr) (vs : List V), v = .ref a ∧ Hb a = none ∧ A a ∧ H a = some (.lst vs) ∧ Paired (c.r (A.less a) H) vs xs
  st k := fun ⟨a, vs, e, hb, n, h, p⟩ => ⟨a, vs, e, hb, n, k a _ n h, pst (fun b o kb q => k b o kb.1 q) p⟩
  mono k := fun ⟨a, vs, e, hb, n, h, p⟩ => ⟨a, vs, e, hb, k a n (by rw [h]; exact fun z => nomatch z), h, pmono (fun b kb t => ⟨k b kb.1 t, kb.2⟩) p⟩
theorem cF_l {α : Type} {Hb : Hp} {c : Cd α} {A : Rg} {H : Hp} {v : V} {xs : List α} (h : (cF Hb c).r A H v xs) : (cL c).r A H v xs := by
  obtain ⟨a, vs, e, _, n, h, p⟩ := h
  exact ⟨a, vs, e, n, h, pmono (fun b k _ => k.1) p⟩
/-- a tuple of the written part -/
def KT (K : PySem.W.Frag) (a : Addr) (xs : List V) : Prop := ∃ (o : Obj) (its : Array Value) (n : Nat), K.lookup a = some o ∧ o.cls = .type "tuple" ∧ o.data = .seq its n ∧ its.size ≤ sizeLine ∧ Vals xs its.toList
def TupAt (K : PySem.W.Frag) (A : Rg) (H : Hp) (a : Addr) (vs : List V) : Prop := (A a ∧ H a = some (.tup vs)) ∨ KT K a vs
theorem TupAt.st {K : PySem.W.Frag} {A : Rg} {H H' : Hp} {a : Addr} {vs : List V} (k : ∀ a o, A a → H a = some o → H' a = some o) (h : TupAt K A H a vs) : TupAt K A H' a vs := by
  rcases h with ⟨n, h⟩ | h
  · exact .inl ⟨n, k a _ n h⟩
  · exact .inr h
theorem TupAt.mono {K : PySem.W.Frag} {A B : Rg} {H : Hp} {a : Addr} {vs : List V} (k : ∀ a, A a → H a ≠ none → B a) (h : TupAt K A H a vs) : TupAt K B H a vs := by
  rcases h with ⟨n, h⟩ | h
  · exact .inl ⟨k a n (by rw [h]; exact fun z => nomatch z), h⟩
  · exact .inr h
theorem TupAt.sub {K : PySem.W.Frag} {A B : Rg} {H H' : Hp} {a : Addr} {vs : List V} (s : Sub A H B H') (h : TupAt K A H a vs) : TupAt K B H' a vs := by
  rcases h with ⟨n, h⟩ | h
  · exact .inl (s.tr a _ n h)
  · exact .inr h
theorem TupAt.sq {K : PySem.W.Frag} {A : Rg} {H : Hp} {a : Addr} {vs : List V} (h : TupAt K A H a vs) : SqT K H a vs := by
  rcases h with ⟨_, h⟩ | h
  · exact SqT.of h
  · exact .inr h
/-- a tuple of like items -/
def cU {α : Type} (K : PySem.W.Frag) (c : Cd α) : Cd (List α) where
  r A H v xs := ∃ (a : Addr) (vs : List V), v = .ref a ∧ TupAt K A H a vs ∧ Paired (c.r A H) vs xs
  st k := fun ⟨a, vs, e, h, p⟩ => ⟨a, vs, e, h.st k, pst k p⟩
  mono k := fun ⟨a, vs, e, h, p⟩ => ⟨a, vs, e, h.mono k, pmono k p⟩
def c2 {α β : Type} (K : PySem.W.Frag) (c : Cd α) (d : Cd β) : Cd (α × β) where
  r A H v x := ∃ (a : Addr) (v1 v2 : V), v = .ref a ∧ TupAt K A H a [v1, v2] ∧ c.r A H v1 x.1 ∧ d.r A H v2 x.2
  st k := fun ⟨a, v1, v2, e, h, p, q⟩ => ⟨a, v1, v2, e, h.st k, c.st k p, d.st k q⟩
  mono k := fun ⟨a, v1, v2, e, h, p, q⟩ => ⟨a, v1, v2, e, h.mono k, c.mono k p, d.mono k q⟩
def c3 {α β γ : Type} (K : PySem.W.Frag) (c : Cd α) (d : Cd β) (f : Cd γ) : Cd (α × β × γ) where
  r A H v x := ∃ (a : Addr) (v1 v2 v3 : V), v = .ref a ∧ TupAt K A H a [v1, v2, v3] ∧ c.r A H v1 x.1 ∧ d.r A H v2 x.2.1 ∧ f.r A H v3 x.2.2
  st k := fun ⟨a, v1, v2, v3, e, h, p, q, q3⟩ => ⟨a, v1, v2, v3, e, h.st k, c.st k p, d.st k q, f.st k q3⟩
  mono k := fun ⟨a, v1, v2, v3, e, h, p, q, q3⟩ => ⟨a, v1, v2, v3, e, h.mono k, c.mono k p, d.mono k q, f.mono k q3⟩
/-- the script: a list of ints that is read only -/
def KL (K : PySem.W.Frag) (a : Addr) (xs : List V) : Prop := ∃ (o : Obj) (its : Array Value) (n : Nat), K.lookup a = some o ∧ o.cls = .type "list" ∧ o.dict = none ∧ o.data = .seq its n ∧ its.size ≤ sizeLine ∧ Vals xs its.toList
def cScr (K : PySem.W.Frag) : Cd (List Int) where
  r A H v xs := ∃ (a : Addr), v = .ref a ∧ ((A a ∧ Rd H a (.lst (xs.map V.int))) ∨ KL K a (xs.map V.int))
  st k := fun ⟨a, e, h⟩ => ⟨a, e, by
    rcases h with ⟨n, h | ⟨o, h⟩⟩ | h
    · exact .inl ⟨n, .inl (k a _ n h)⟩
    · exact .inl ⟨n, .inr ⟨o, k a _ n h⟩⟩
    · exact .inr h⟩
  mono k := fun ⟨a, e, h⟩ => ⟨a, e, by
    rcases h with ⟨n, h⟩ | h
    · refine .inl ⟨k a n ?_, h⟩
      rcases h with h | ⟨o, h⟩
      · rw [h]; exact fun z => nomatch z
      · rw [h]; exact fun z => nomatch z
    · exact .inr h⟩
theorem cScr_sq {K : PySem.W.Frag} {A : Rg} {H : Hp} {v : V} {xs : List Int} (h : (cScr K).r A H v xs) : ∃ a, v = .ref a ∧ SqL K H a (xs.map V.int) := by
  obtain ⟨a, e, ⟨_, h⟩ | h⟩ := h
  · exact ⟨a, e, .inl h⟩
  · exact ⟨a, e, .inr h⟩

/-! ### effects: what is computed, with a count of draws -/
/-- an answer, or none -/
inductive M (α : Type) where
  | ok (x : α) | bad
def M.bind {α β : Type} (m : M α) (f : α → M β) : M β := match m with | .ok x => f x | .bad => .bad
instance : Monad M where
  pure := M.ok
  bind := M.bind
theorem M.bind_ok {α β : Type} {m : M α} {f : α → M β} {y : β} (h : (m >>= f) = .ok y) : ∃ x, m = .ok x ∧ f x = .ok y := by
  cases m with
  | ok x => exact ⟨x, rfl, h⟩
  | bad => cases h
@[simp] theorem M.ok_bind {α β : Type} {x : α} {f : α → M β} : (M.ok x >>= f) = f x := rfl
@[simp] theorem M.pure_eq {α : Type} {x : α} : (pure x : M α) = M.ok x := rfl
@[simp] theorem M.bad_bind {α β : Type} {f : α → M β} : (M.bad >>= f) = M.bad := rfl
def M.guard {α : Type} (b : Bool) (x : α) : M α := if b = true then .ok x else .bad
theorem M.guard_ok {α : Type} {b : Bool} {x y : α} (h : M.guard b x = .ok y) : b = true ∧ x = y := by
  unfold M.guard at h
  split at h
  · exact ⟨by assumption, M.ok.inj h⟩
  · cases h
@[simp] theorem M.guard_true {α : Type} {x : α} : M.guard true x = .ok x := rfl
def M.opt {α : Type} : Option α → M α | some x => .ok x | none => .bad
theorem M.opt_ok {α : Type} {o : Option α} {x : α} (h : M.opt o = .ok x) : o = some x := by
  cases o with
  | none => cases h
  | some y => cases h; rfl
/-- with draws: what is wanted of every way, from a count of draws on -/
structure D (α : Type) where
  run : Nat → (α → Nat → Prop) → Prop
  mono : ∀ {n : Nat} {Q R : α → Nat → Prop}, (∀ x k, Q x k → R x k) → run n Q → run n R
instance : Monad D where
  pure x := ⟨fun n Q => Q x n, fun k h => k _ _ h⟩
  bind m f := ⟨fun n Q => m.run n fun x k => (f x).run k Q, fun h q => m.mono (fun x k q => (f x).mono h q) q⟩
def D.lift {α : Type} (m : M α) : D α := ⟨fun n Q => ∃ x, m = .ok x ∧ Q x n, fun k ⟨x, e, h⟩ => ⟨x, e, k _ _ h⟩⟩
instance : MonadLift M D := ⟨D.lift⟩
def drawLine : Nat := 1000000
def D.draw (many : Int) : D Int := ⟨fun n Q => n < drawLine ∧ 0 < many ∧ many < 1073741824 ∧ ∀ v : Int, 0 ≤ v → v < many → Q v (n + 1), fun k ⟨a, b, c, h⟩ => ⟨a, b, c, fun v h1 h2 => k _ _ (h v h1 h2)⟩⟩
@[simp] theorem D.run_pure {α : Type} {x : α} {n : Nat} {Q : α → Nat → Prop} : (pure x : D α).run n Q ↔ Q x n := Iff.rfl
@[simp] theorem D.run_bind {α β : Type} {m : D α} {f : α → D β} {n : Nat} {Q : β → Nat → Prop} : (m >>= f).run n Q ↔ m.run n fun x k => (f x).run k Q := Iff.rfl
@[simp] theorem D.run_lift {α : Type} {m : M α} {n : Nat} {Q : α → Nat → Prop} : (D.lift m).run n Q ↔ ∃ x, m = .ok x ∧ Q x n := Iff.rfl
theorem D.lift_ok {α : Type} {x : α} : D.lift (.ok x) = pure x := by
  unfold D.lift
  have e : (fun (n : Nat) (Q : α → Nat → Prop) => ∃ y, M.ok x = M.ok y ∧ Q y n) = fun n Q => Q x n := by
    funext n Q
    exact propext ⟨fun ⟨y, e, h⟩ => by cases e; exact h, fun h => ⟨x, rfl, h⟩⟩
  show (⟨_, _⟩ : D α) = ⟨_, _⟩
  simp only [e]
/-- the common face of both -/
class Eff (F : Type → Type) extends Monad F where
  wp : {α : Type} → F α → Nat → (α → Nat → Prop) → Prop
  wp_ret : ∀ {α : Type} {x : α} {n : Nat} {Q : α → Nat → Prop}, wp (pure x) n Q → Q x n
  wp_bnd : ∀ {α β : Type} {m : F α} {f : α → F β} {n : Nat} {Q : β → Nat → Prop}, wp (m >>= f) n Q → wp m n fun x k => wp (f x) k Q
  wp_of_ret : ∀ {α : Type} {x : α} {n : Nat} {Q : α → Nat → Prop}, Q x n → wp (pure x) n Q
  bnd_wp : ∀ {α β : Type} {m : F α} {f : α → F β} {n : Nat} {Q : β → Nat → Prop}, wp m n (fun x k => wp (f x) k Q) → wp (m >>= f) n Q
  wp_mono : ∀ {α : Type} {m : F α} {n : Nat} {Q R : α → Nat → Prop}, (∀ x k, Q x k → R x k) → wp m n Q → wp m n R
  up : {α : Type} → M α → F α
  wp_up : ∀ {α : Type} {m : M α} {n : Nat} {Q : α → Nat → Prop}, wp (up m) n Q → ∃ x, m = .ok x ∧ Q x n
instance : Eff M where
  wp m n Q := ∃ x, m = .ok x ∧ Q x n
  wp_ret := fun ⟨_, e, h⟩ => by cases e; exact h
  wp_of_ret := fun h => ⟨_, rfl, h⟩
  wp_bnd := fun ⟨_, e, h⟩ => by
    obtain ⟨x, e1, e2⟩ := M.bind_ok e
    exact ⟨x, e1, _, e2, h⟩
  bnd_wp := fun ⟨x, e1, y, e2, h⟩ => ⟨y, by rw [e1]; exact e2, h⟩
  wp_mono := fun k ⟨x, e, h⟩ => ⟨x, e, k _ _ h⟩
  up := fun m => m
  wp_up := fun h => h
instance : Eff D where
  wp m n Q := m.run n Q
  wp_ret h := h
  wp_of_ret h := h
  wp_bnd h := h
  bnd_wp h := h
  wp_mono k h := D.mono _ k h
  up := D.lift
  wp_up h := h

/-! ### the world around: what may change, what is held of it by the count of draws -/
structure Wd where
  Z : Rg
  Y : Rg
  T : Nat → Hp → Prop
  stY : ∀ {n : Nat} {H H' : Hp}, (∀ a o, Y a → H a = some o → H' a = some o) → T n H → T n H'
  tr : ∀ {n : Nat} {H : Hp}, T n H → ∀ a, Y a → H a ≠ none
  zy : ∀ a, Z a → Y a
theorem Wd.st (w : Wd) {n : Nat} {H H' : Hp} (s : Same H H') (t : w.T n H) : w.T n H' := w.stY (fun a o _ h => s a o h) t
def wPure : Wd := ⟨fun _ => False, fun _ => False, fun _ _ => True, fun _ h => h, fun _ _ h => h.elim, fun _ h => h⟩

section
variable {F : Type → Type} [Eff F] {w : Wd} {A : Rg} {σ : St} {H H' : Hp} {α β γ δ ε : Type}
/-- total: te gives what stands for x, and leaves all that stood -/
def JT (A : Rg) (σ : St) (H : Hp) (c : Cd α) (te : TE) (x : α) : Prop := ∀ H1, Ext A H H1 → ∀ Q : VK, (∀ v H2, Same H1 H2 → c.r A H2 v x → Q v H2) → te σ H1 Q
/-- te does what m says -/
def J (w : Wd) (A : Rg) (σ : St) (H : Hp) (c : Cd α) (te : TE) (m : F α) : Prop := ∀ H1 n, Ext A H H1 → w.T n H1 → ∀ Q : VK, Eff.wp m n (fun x k => ∀ v H2, Exz w.Z H1 H2 → w.T k H2 → c.r A H2 v x → Q v H2) → te σ H1 Q
/-- an argument list -/
structure Ca (α : Type) where
  r : Rg → Hp → List V → α → Prop
  st : ∀ {A : Rg} {H H' : Hp} {v : List V} {x : α}, (∀ a o, A a → H a = some o → H' a = some o) → r A H v x → r A H' v x
  mono : ∀ {A B : Rg} {H : Hp} {v : List V} {x : α}, (∀ a, A a → H a ≠ none → B a) → r A H v x → r B H v x
def caN : Ca Unit := ⟨fun _ _ vs _ => vs = [], fun _ h => h, fun _ h => h⟩
def caC (c : Cd α) (d : Ca β) : Ca (α × β) := ⟨fun A H vs x => ∃ v r, vs = v :: r ∧ c.r A H v x.1 ∧ d.r A H r x.2, fun k ⟨v, r, e, p, q⟩ => ⟨v, r, e, c.st k p, d.st k q⟩, fun k ⟨v, r, e, p, q⟩ => ⟨v, r, e, c.mono k p, d.mono k q⟩⟩
def JTA (A : Rg) (σ : St) (H : Hp) (c : Ca α) (ta : TA) (x : α) : Prop := ∀ H1, Ext A H H1 → ∀ Q : List V → Hp → Prop, (∀ vs H2, Same H1 H2 → c.r A H2 vs x → Q vs H2) → ta σ H1 Q
def JA (w : Wd) (A : Rg) (σ : St) (H : Hp) (c : Ca α) (ta : TA) (m : F α) : Prop := ∀ H1 n, Ext A H H1 → w.T n H1 → ∀ Q : List V → Hp → Prop, Eff.wp m n (fun x k => ∀ vs H2, Exz w.Z H1 H2 → w.T k H2 → c.r A H2 vs x → Q vs H2) → ta σ H1 Q
/-- a test -/
def JTt (A : Rg) (σ : St) (H : Hp) (tt : TT) (b : Bool) : Prop := ∀ H1, Ext A H H1 → ∀ Q : Bool → Hp → Prop, (∀ H2, Same H1 H2 → Q b H2) → tt σ H1 Q
def Jt (w : Wd) (A : Rg) (σ : St) (H : Hp) (tt : TT) (m : F Bool) : Prop := ∀ H1 n, Ext A H H1 → w.T n H1 → ∀ Q : Bool → Hp → Prop, Eff.wp m n (fun b k => ∀ H2, Exz w.Z H1 H2 → w.T k H2 → Q b H2) → tt σ H1 Q

variable {c : Cd α} {d : Cd β} {f : Cd γ} {te ta tb : TE} {tt tu : TT} {x : α} {y : β} {z : γ}
theorem JT.later (e : Ext A H H') (h : JT A σ H c te x) : JT A σ H' c te x := fun H1 e1 => h H1 (e.trans e1)
theorem J.later {m : F α} (e : Ext A H H') (h : J w A σ H c te m) : J w A σ H' c te m := fun H1 n e1 => h H1 n (e.trans e1)
theorem J.of (h : JT A σ H c te x) : J w A σ H c te (pure x : F α) := fun H1 n e t Q q => h H1 e Q fun v H2 s r => Eff.wp_ret q v H2 (sameExz s) (w.st s t) r
theorem Jt.of {b : Bool} (h : JTt A σ H tt b) : Jt w A σ H tt (pure b : F Bool) := fun H1 n e t Q q => h H1 e Q fun H2 s => Eff.wp_ret q H2 (sameExz s) (w.st s t)
theorem JA.of {c : Ca α} {ta : TA} (h : JTA A σ H c ta x) : JA w A σ H c ta (pure x : F α) := fun H1 n e t Q q => h H1 e Q fun v H2 s r => Eff.wp_ret q v H2 (sameExz s) (w.st s t) r

/-! ### names, constants -/
theorem jt_var {i : Nat} {v : V} (h : σ[i]? = some (some v)) (r : c.r A H v x) : JT A σ H c (tVar i) x := fun H1 e Q q => ⟨v, h, q v H1 (Same.refl H1) (c.e e r)⟩
theorem jt_int {i : Int} : JT A σ H cInt (tC (.int i)) i := fun H1 e Q q => q _ H1 (Same.refl H1) rfl
theorem jt_bl {i : Bool} : JT A σ H cBl (tC (.bl i)) i := fun H1 e Q q => q _ H1 (Same.refl H1) rfl
theorem jt_str {i : Str} : JT A σ H cStr (tC (.str i)) i := fun H1 e Q q => q _ H1 (Same.refl H1) rfl
theorem jt_non : JT A σ H cNon (tC .non) () := fun H1 e Q q => q _ H1 (Same.refl H1) rfl
theorem jt_any {i : V} : JT A σ H cAny (tC i) i := fun H1 e Q q => q _ H1 (Same.refl H1) rfl
theorem jt_eq {x' : α} (h : JT A σ H c te x) (e : x = x') : JT A σ H c te x' := e ▸ h

/-! ### two-place operations, by values -/
def OT (A : Rg) (r : R2) (c : Cd α) (d : Cd β) (f : Cd γ) (g : α → β → γ) : Prop := ∀ H u v x y, Fr A H → c.r A H u x → d.r A H v y → ∀ Q : VK, (∀ z H2, Same H H2 → f.r A H2 z (g x y) → Q z H2) → r u v H Q
def OM (A : Rg) (r : R2) (c : Cd α) (d : Cd β) (f : Cd γ) (g : α → β → M γ) : Prop := ∀ H u v x y, Fr A H → c.r A H u x → d.r A H v y → ∀ t, g x y = .ok t → ∀ Q : VK, (∀ z H2, Same H H2 → f.r A H2 z t → Q z H2) → r u v H Q
theorem jt_op {r : R2} {g : α → β → γ} (fA : Fr A H) (o : OT A r c d f g) (ja : JT A σ H c ta x) (jb : JT A σ H d tb y) : JT A σ H f (tOp r ta tb) (g x y) := fun H1 e Q q =>
  ja H1 e _ fun u H2 s2 r2 => jb H2 (e.trans (sameExt s2)) _ fun v H3 s3 r3 => o H3 u v x y ((fA.ext e).same (s2.trans s3)) (c.s s3 r2) r3 Q fun z H4 s4 r4 => q z H4 ((s2.trans s3).trans s4) r4
/-- total operands, a partial operation -/
theorem j_opT {r : R2} {g : α → β → M γ} (fA : Fr A H) (o : OM A r c d f g) (ja : JT A σ H c ta x) (jb : JT A σ H d tb y) : J w A σ H f (tOp r ta tb) (Eff.up (g x y) : F γ) := fun H1 n e t Q q => by
  obtain ⟨t', e', q⟩ := Eff.wp_up q
  exact ja H1 e _ fun u H2 s2 r2 => jb H2 (e.trans (sameExt s2)) _ fun v H3 s3 r3 => o H3 u v x y ((fA.ext e).same (s2.trans s3)) (c.s s3 r2) r3 t' e' Q fun z H4 s4 r4 => q z H4 (sameExz ((s2.trans s3).trans s4)) (w.st ((s2.trans s3).trans s4) t) r4
theorem j_op {r : R2} {g : α → β → γ} {m : F α} {k : F β} (nA : ∀ a, A a → ¬ w.Z a) (fA : Fr A H) (o : OT A r c d f g) (ja : J w A σ H c ta m) (jb : J w A σ H d tb k) : J w A σ H f (tOp r ta tb) (m >>= fun x => k >>= fun y => (pure (g x y) : F γ)) := fun H1 n e t Q q => by
  refine ja H1 n e t _ (Eff.wp_mono (fun x n2 q2 u H2 e2 t2 r2 => ?_) (Eff.wp_bnd q))
  refine jb H2 n2 (e.trans (e2.ext nA)) t2 _ (Eff.wp_mono (fun y n3 q3 v H3 e3 t3 r3 => ?_) (Eff.wp_bnd q2))
  have q4 := Eff.wp_ret q3
  exact o H3 u v x y ((fA.ext e).exz (e2.trans e3)) (c.e (e3.ext nA) r2) r3 Q fun z H4 s4 r4 => q4 z H4 ((e2.trans e3).trans (sameExz s4)) (w.st s4 t3) r4
theorem j_opM {r : R2} {g : α → β → M γ} {m : F α} {k : F β} (nA : ∀ a, A a → ¬ w.Z a) (fA : Fr A H) (o : OM A r c d f g) (ja : J w A σ H c ta m) (jb : J w A σ H d tb k) : J w A σ H f (tOp r ta tb) (m >>= fun x => k >>= fun y => (Eff.up (g x y) : F γ)) := fun H1 n e t Q q => by
  refine ja H1 n e t _ (Eff.wp_mono (fun x n2 q2 u H2 e2 t2 r2 => ?_) (Eff.wp_bnd q))
  refine jb H2 n2 (e.trans (e2.ext nA)) t2 _ (Eff.wp_mono (fun y n3 q3 v H3 e3 t3 r3 => ?_) (Eff.wp_bnd q2))
  obtain ⟨t', e', q4⟩ := Eff.wp_up q3
  exact o H3 u v x y ((fA.ext e).exz (e2.trans e3)) (c.e (e3.ext nA) r2) r3 t' e' Q fun z H4 s4 r4 => q4 z H4 ((e2.trans e3).trans (sameExz s4)) (w.st s4 t3) r4
end
end Z

set_option Elab.async false
set_option linter.all false
set_option maxRecDepth 100000
set_option maxHeartbeats 4000000
set_option autoImplicit false
/-! W1: values as trees, frozen ones and own ones; slots; where a body stands. -/
namespace Y
open PySem L2 Z

inductive Val where
  | non | bl (b : Bool) | int (i : Int) | str (s : Str) | ty (n : String) | wr (n : Nat) | cl (c : Nat)
  | tup (xs : List Val) | lst (xs : List Val)
  | dic (ks : List Key) (vs : List Val) | dit (ks : List (List Key)) (vs : List Val)
  | ins (c : Nat) (ns : List Str) (vs : List Val)
  | err (c : Nat) (ns : List Str) (vs : List Val)
  | rng (lo hi : Int)
  | scr (ns : List Int)
  | olst (xs : List Val) | odic (ks : List Key) (xs : List Val) | odit (ks : List (List Key)) (xs : List Val) | oins (c : Nat) (ns : List Str) (xs : List Val)
def Val.isO : Val → Bool | .olst _ => true | .odic _ _ => true | .odit _ _ => true | .oins _ _ _ => true | _ => false

/-- the written part's names -/
structure Cn where
  K : PySem.W.Frag
  ca : Nat → Addr
  wa : Nat → V
  T : List (Addr × Str)

def LstAt (K : PySem.W.Frag) (A : Rg) (H : Hp) (a : Addr) (vs : List V) : Prop := (A a ∧ Rd H a (.lst vs)) ∨ KL K a vs
mutual
def rep (C : Cn) (A : Rg) (H : Hp) (v : V) : Val → Prop
  | .non => v = .non
  | .bl b => v = .bl b
  | .int i => v = .int i
  | .str s => v = .str s
  | .ty n => v = .ty n
  | .wr n => v = C.wa n
  | .cl c => v = .ref (C.ca c)
  | .tup xs => ∃ a vs, v = .ref a ∧ TupAt C.K A H a vs ∧ reps C A H vs xs
  | .lst xs => ∃ a vs, v = .ref a ∧ A a ∧ H a = some (.lst vs) ∧ reps C A H vs xs
  | .dic ks xs => ∃ a vs, v = .ref a ∧ A a ∧ H a = some (.dK (ks.zip vs)) ∧ ks.length = xs.length ∧ reps C A H vs xs
  | .dit ks xs => ∃ a vs, v = .ref a ∧ A a ∧ H a = some (.dT (ks.zip vs)) ∧ ks.length = xs.length ∧ reps C A H vs xs
  | .ins c ns xs => ∃ a dx vs, v = .ref a ∧ A a ∧ A dx ∧ H a = some (.ins (C.ca c) dx (ns.zip vs)) ∧ H dx = some (.own a) ∧ ns.length = xs.length ∧ reps C A H vs xs
  | .err c ns xs => ∃ a d vs, v = .ref a ∧ A a ∧ A d ∧ H a = some (exo a (C.ca c) (some d)) ∧ H d = some (.xd (ns.zip vs)) ∧ ns.length = xs.length ∧ reps C A H vs xs
  | .rng lo hi => ∃ a, v = .ref a ∧ A a ∧ H a = some (.rng lo hi)
  | .scr ns => ∃ a, v = .ref a ∧ LstAt C.K A H a (ns.map V.int)
  | .olst _ => False
  | .odic _ _ => False
  | .odit _ _ => False
  | .oins _ _ _ => False
def reps (C : Cn) (A : Rg) (H : Hp) : List V → List Val → Prop
  | vs, [] => vs = []
  | vs, x :: xs => ∃ v r, vs = v :: r ∧ rep C A H v x ∧ reps C A H r xs
end
/-! a value that may be own, all the way in -/
mutual
def ro (C : Cn) (A : Rg) (H : Hp) (v : V) : Val → Prop
  | .olst xs => ∃ a vs, v = .ref a ∧ H a = some (.lst vs) ∧ ros C A H vs xs
  | .odic ks xs => ∃ a vs, v = .ref a ∧ H a = some (.dK (ks.zip vs)) ∧ ks.length = xs.length ∧ ros C A H vs xs
  | .odit ks xs => ∃ a vs, v = .ref a ∧ H a = some (.dT (ks.zip vs)) ∧ ks.length = xs.length ∧ ros C A H vs xs
  | .oins c ns xs => ∃ a dx vs, v = .ref a ∧ A dx ∧ H a = some (.ins (C.ca c) dx (ns.zip vs)) ∧ H dx = some (.own a) ∧ ns.length = xs.length ∧ ros C A H vs xs
  | x => rep C A H v x
def ros (C : Cn) (A : Rg) (H : Hp) : List V → List Val → Prop
  | vs, [] => vs = []
  | vs, x :: xs => ∃ v r, vs = v :: r ∧ ro C A H v x ∧ ros C A H r xs
end
/-- what an object holds -/
def kidsO : HO → List V
  | .lst vs => vs | .dK kvs => kvs.map (·.2) | .dT kvs => kvs.map (·.2) | .ins _ _ fs => fs.map (·.2) | _ => []
def nodeO (H : Hp) (v : V) : Option (Addr × List V) := match v with
  | .ref l => (H l).map fun o => (l, kidsO o)
  | _ => none
/-! the addresses of what is own -/
mutual
def fl (H : Hp) (v : V) : Val → List Addr
  | .olst xs => match nodeO H v with | some q => q.1 :: fls H q.2 xs | none => []
  | .odic _ xs => match nodeO H v with | some q => q.1 :: fls H q.2 xs | none => []
  | .odit _ xs => match nodeO H v with | some q => q.1 :: fls H q.2 xs | none => []
  | .oins _ _ xs => match nodeO H v with | some q => q.1 :: fls H q.2 xs | none => []
  | _ => []
def fls (H : Hp) : List V → List Val → List Addr
  | _, [] => []
  | vs, x :: xs => match vs with | v :: r => fl H v x ++ fls H r xs | [] => []
end

/-! ### frozen values -/
/-- what the region A bears at H the region A' bears at H' -/
def NT (o : HO) : Prop := ∀ ps, o ≠ .tbl ps
def Gr (A : Rg) (H : Hp) (A' : Rg) (H' : Hp) : Prop := ∀ a o, NT o → A a → H a = some o → A' a ∧ H' a = some o
theorem Gr.refl (A : Rg) (H : Hp) : Gr A H A H := fun _ _ _ a h => ⟨a, h⟩
theorem Gr.trans {A B D : Rg} {H H1 H2 : Hp} (g : Gr A H B H1) (k : Gr B H1 D H2) : Gr A H D H2 := fun a o n x h => k a o n (g a o n x h).1 (g a o n x h).2
theorem Gr.same {A : Rg} {H H' : Hp} (s : Same H H') : Gr A H A H' := fun a o _ x h => ⟨x, s a o h⟩
/-- nothing is there, or a table -/
def Fz (H : Hp) (a : Addr) : Prop := ∀ o, H a = some o → ¬ NT o
def Fq (A : Rg) (H : Hp) : Prop := ∀ p, Fz H p → A p
theorem Fz.of {H : Hp} {a : Addr} (h : H a = none) : Fz H a := fun o e => by rw [h] at e; cases e
theorem Fz.bk {H H' : Hp} (k : ∀ a o, NT o → H a = some o → H' a = some o) {a : Addr} (h : Fz H' a) : Fz H a := fun o e n => h o (k a o n e) n
theorem Fz.sm {H H' : Hp} (e : Same H H') {a : Addr} (h : Fz H' a) : Fz H a := Fz.bk (fun a o _ h => e a o h) h
theorem Fz.no {H : Hp} {a : Addr} {o : HO} (h : Fz H a) (e : H a = some o) (n : NT o) : False := h o e n
theorem Fq.same {A : Rg} {H H' : Hp} (f : Fq A H) (e : Same H H') : Fq A H' := fun p h => f p (h.sm e)
theorem nt {o : HO} (h : ∀ ps, o = .tbl ps → False := by exact fun _ z => nomatch z) : NT o := fun ps z => h ps z
theorem TupAt.gr {K : PySem.W.Frag} {A A' : Rg} {H H' : Hp} {a : Addr} {vs : List V} (g : Gr A H A' H') (h : TupAt K A H a vs) : TupAt K A' H' a vs := by
  rcases h with ⟨n, h⟩ | h
  · exact .inl (g a _ nt n h)
  · exact .inr h
theorem LstAt.gr {K : PySem.W.Frag} {A A' : Rg} {H H' : Hp} {a : Addr} {vs : List V} (g : Gr A H A' H') (h : LstAt K A H a vs) : LstAt K A' H' a vs := by
  rcases h with ⟨n, h | ⟨o, h⟩⟩ | h
  · exact .inl ⟨(g a _ nt n h).1, .inl (g a _ nt n h).2⟩
  · exact .inl ⟨(g a _ nt n h).1, .inr ⟨o, (g a _ nt n h).2⟩⟩
  · exact .inr h
theorem LstAt.sq {K : PySem.W.Frag} {A : Rg} {H : Hp} {a : Addr} {vs : List V} (h : LstAt K A H a vs) : SqL K H a vs := by
  rcases h with ⟨_, h⟩ | h
  · exact .inl h
  · exact .inr h
mutual
theorem rep.gr {C : Cn} {A A' : Rg} {H H' : Hp} (g : Gr A H A' H') : ∀ {x : Val} {v : V}, rep C A H v x → rep C A' H' v x
  | .non, _, h => h
  | .bl _, _, h => h
  | .int _, _, h => h
  | .str _, _, h => h
  | .ty _, _, h => h
  | .wr _, _, h => h
  | .cl _, _, h => h
  | .tup xs, v, h => by
    unfold rep at h ⊢
    obtain ⟨a, vs, e, t, r⟩ := h
    exact ⟨a, vs, e, TupAt.gr g t, reps.gr g r⟩
  | .lst xs, v, h => by
    unfold rep at h ⊢
    obtain ⟨a, vs, e, n, t, r⟩ := h
    exact ⟨a, vs, e, (g a _ nt n t).1, (g a _ nt n t).2, reps.gr g r⟩
  | .dic ks xs, v, h => by
    unfold rep at h ⊢
    obtain ⟨a, vs, e, n, t, l, r⟩ := h
    exact ⟨a, vs, e, (g a _ nt n t).1, (g a _ nt n t).2, l, reps.gr g r⟩
  | .dit ks xs, v, h => by
    unfold rep at h ⊢
    obtain ⟨a, vs, e, n, t, l, r⟩ := h
    exact ⟨a, vs, e, (g a _ nt n t).1, (g a _ nt n t).2, l, reps.gr g r⟩
  | .ins c ns xs, v, h => by
    unfold rep at h ⊢
    obtain ⟨a, dx, vs, e, n, n2, t, t2, l, r⟩ := h
    exact ⟨a, dx, vs, e, (g a _ nt n t).1, (g dx _ nt n2 t2).1, (g a _ nt n t).2, (g dx _ nt n2 t2).2, l, reps.gr g r⟩
  | .err c ns xs, v, h => by
    unfold rep at h ⊢
    obtain ⟨a, dx, vs, e, n, n2, t, t2, l, r⟩ := h
    exact ⟨a, dx, vs, e, (g a _ nt n t).1, (g dx _ nt n2 t2).1, (g a _ nt n t).2, (g dx _ nt n2 t2).2, l, reps.gr g r⟩
  | .rng lo hi, v, h => by
    unfold rep at h ⊢
    obtain ⟨a, e, n, t⟩ := h
    exact ⟨a, e, (g a _ nt n t).1, (g a _ nt n t).2⟩
  | .scr ns, v, h => by
    unfold rep at h ⊢
    obtain ⟨a, e, t⟩ := h
    exact ⟨a, e, LstAt.gr g t⟩
  | .olst _, _, h => by unfold rep at h; exact h.elim
  | .odic _ _, _, h => by unfold rep at h; exact h.elim
  | .odit _ _, _, h => by unfold rep at h; exact h.elim
  | .oins _ _ _, _, h => by unfold rep at h; exact h.elim
theorem reps.gr {C : Cn} {A A' : Rg} {H H' : Hp} (g : Gr A H A' H') : ∀ {xs : List Val} {vs : List V}, reps C A H vs xs → reps C A' H' vs xs
  | [], _, h => h
  | x :: xs, vs, h => by
    unfold reps at h ⊢
    obtain ⟨v, r, e, h1, h2⟩ := h
    exact ⟨v, r, e, rep.gr g h1, reps.gr g h2⟩
end
section
variable {C : Cn} {A : Rg} {H : Hp} {v : V}
@[simp] theorem rep_non : rep C A H v .non ↔ v = .non := by unfold rep; exact Iff.rfl
@[simp] theorem rep_bl {b : Bool} : rep C A H v (.bl b) ↔ v = .bl b := by unfold rep; exact Iff.rfl
@[simp] theorem rep_int {i : Int} : rep C A H v (.int i) ↔ v = .int i := by unfold rep; exact Iff.rfl
@[simp] theorem rep_str {s : Str} : rep C A H v (.str s) ↔ v = .str s := by unfold rep; exact Iff.rfl
@[simp] theorem rep_ty {s : String} : rep C A H v (.ty s) ↔ v = .ty s := by unfold rep; exact Iff.rfl
@[simp] theorem rep_wr {n : Nat} : rep C A H v (.wr n) ↔ v = C.wa n := by unfold rep; exact Iff.rfl
@[simp] theorem rep_cl {n : Nat} : rep C A H v (.cl n) ↔ v = .ref (C.ca n) := by unfold rep; exact Iff.rfl
theorem rep_tup {xs : List Val} : rep C A H v (.tup xs) ↔ ∃ a vs, v = .ref a ∧ TupAt C.K A H a vs ∧ reps C A H vs xs := by unfold rep; exact Iff.rfl
theorem rep_lst {xs : List Val} : rep C A H v (.lst xs) ↔ ∃ a vs, v = .ref a ∧ A a ∧ H a = some (.lst vs) ∧ reps C A H vs xs := by unfold rep; exact Iff.rfl
theorem rep_dic {ks : List Key} {xs : List Val} : rep C A H v (.dic ks xs) ↔ ∃ a vs, v = .ref a ∧ A a ∧ H a = some (.dK (ks.zip vs)) ∧ ks.length = xs.length ∧ reps C A H vs xs := by unfold rep; exact Iff.rfl
theorem rep_dit {ks : List (List Key)} {xs : List Val} : rep C A H v (.dit ks xs) ↔ ∃ a vs, v = .ref a ∧ A a ∧ H a = some (.dT (ks.zip vs)) ∧ ks.length = xs.length ∧ reps C A H vs xs := by unfold rep; exact Iff.rfl
theorem rep_ins {c : Nat} {ns : List Str} {xs : List Val} : rep C A H v (.ins c ns xs) ↔ ∃ a dx vs, v = .ref a ∧ A a ∧ A dx ∧ H a = some (.ins (C.ca c) dx (ns.zip vs)) ∧ H dx = some (.own a) ∧ ns.length = xs.length ∧ reps C A H vs xs := by unfold rep; exact Iff.rfl
theorem rep_err {c : Nat} {ns : List Str} {xs : List Val} : rep C A H v (.err c ns xs) ↔ ∃ a d vs, v = .ref a ∧ A a ∧ A d ∧ H a = some (exo a (C.ca c) (some d)) ∧ H d = some (.xd (ns.zip vs)) ∧ ns.length = xs.length ∧ reps C A H vs xs := by unfold rep; exact Iff.rfl
theorem rep_rng {lo hi : Int} : rep C A H v (.rng lo hi) ↔ ∃ a, v = .ref a ∧ A a ∧ H a = some (.rng lo hi) := by unfold rep; exact Iff.rfl
theorem rep_scr {ns : List Int} : rep C A H v (.scr ns) ↔ ∃ a, v = .ref a ∧ LstAt C.K A H a (ns.map V.int) := by unfold rep; exact Iff.rfl
theorem rep_olst {xs : List Val} : ¬ rep C A H v (.olst xs) := fun h => by unfold rep at h; exact h
theorem rep_odic {ks : List Key} {xs : List Val} : ¬ rep C A H v (.odic ks xs) := fun h => by unfold rep at h; exact h
theorem rep_odit {ks : List (List Key)} {xs : List Val} : ¬ rep C A H v (.odit ks xs) := fun h => by unfold rep at h; exact h
theorem rep_oins {c : Nat} {ns : List Str} {xs : List Val} : ¬ rep C A H v (.oins c ns xs) := fun h => by unfold rep at h; exact h
end
theorem reps_nil {C : Cn} {A : Rg} {H : Hp} : reps C A H [] [] := by unfold reps; rfl
theorem reps_cons {C : Cn} {A : Rg} {H : Hp} {v : V} {vs : List V} {x : Val} {xs : List Val} (h : rep C A H v x) (t : reps C A H vs xs) : reps C A H (v :: vs) (x :: xs) := by
  unfold reps; exact ⟨v, vs, rfl, h, t⟩
theorem reps.pair {C : Cn} {A : Rg} {H : Hp} : ∀ {xs : List Val} {vs : List V}, reps C A H vs xs → Paired (rep C A H) vs xs
  | [], _, h => by unfold reps at h; subst h; exact .nil
  | x :: xs, vs, h => by
    unfold reps at h
    obtain ⟨v, r, e, h1, h2⟩ := h
    subst e
    exact .cons h1 (reps.pair h2)
theorem reps_of {C : Cn} {A : Rg} {H : Hp} : ∀ {xs : List Val} {vs : List V}, Paired (rep C A H) vs xs → reps C A H vs xs
  | _, _, .nil => reps_nil
  | _, _, .cons h t => reps_cons h (reps_of t)
theorem reps.len {C : Cn} {A : Rg} {H : Hp} {xs : List Val} {vs : List V} (h : reps C A H vs xs) : vs.length = xs.length := Paired.length h.pair

/-! ### own values -/
section
variable {C : Cn} {A : Rg} {H : Hp} {v : V}
theorem ro_olst {xs : List Val} : ro C A H v (.olst xs) ↔ ∃ a vs, v = .ref a ∧ H a = some (.lst vs) ∧ ros C A H vs xs := by unfold ro; exact Iff.rfl
theorem ro_odic {ks : List Key} {xs : List Val} : ro C A H v (.odic ks xs) ↔ ∃ a vs, v = .ref a ∧ H a = some (.dK (ks.zip vs)) ∧ ks.length = xs.length ∧ ros C A H vs xs := by unfold ro; exact Iff.rfl
theorem ro_odit {ks : List (List Key)} {xs : List Val} : ro C A H v (.odit ks xs) ↔ ∃ a vs, v = .ref a ∧ H a = some (.dT (ks.zip vs)) ∧ ks.length = xs.length ∧ ros C A H vs xs := by unfold ro; exact Iff.rfl
theorem ro_oins {c : Nat} {ns : List Str} {xs : List Val} : ro C A H v (.oins c ns xs) ↔ ∃ a dx vs, v = .ref a ∧ A dx ∧ H a = some (.ins (C.ca c) dx (ns.zip vs)) ∧ H dx = some (.own a) ∧ ns.length = xs.length ∧ ros C A H vs xs := by unfold ro; exact Iff.rfl
theorem ro_fz {x : Val} (h : x.isO = false) : ro C A H v x ↔ rep C A H v x := by
  cases x <;> first | (unfold ro; exact Iff.rfl) | cases h
theorem fl_fz {x : Val} (h : x.isO = false) : fl H v x = [] := by
  cases x <;> first | (unfold fl; rfl) | cases h
theorem rep.fz {x : Val} (h : rep C A H v x) : x.isO = false := by
  cases x <;> first | rfl | exact (rep_olst h).elim | exact (rep_odic h).elim | exact (rep_odit h).elim | exact (rep_oins h).elim
theorem rep.ro {x : Val} (h : rep C A H v x) : ro C A H v x := (ro_fz h.fz).mpr h
theorem ros_nil : ros C A H [] [] := by unfold ros; rfl
theorem ros_cons {vs : List V} {x : Val} {xs : List Val} (h : ro C A H v x) (t : ros C A H vs xs) : ros C A H (v :: vs) (x :: xs) := by unfold ros; exact ⟨v, vs, rfl, h, t⟩
theorem ros.len : ∀ {xs : List Val} {vs : List V}, ros C A H vs xs → vs.length = xs.length
  | [], _, h => by unfold ros at h; subst h; rfl
  | x :: xs, vs, h => by
    unfold ros at h
    obtain ⟨v, r, rfl, h1, h2⟩ := h
    simp [ros.len h2]
theorem reps.ros : ∀ {xs : List Val} {vs : List V}, reps C A H vs xs → ros C A H vs xs
  | [], vs, h => by unfold reps at h; subst h; exact ros_nil
  | x :: xs, vs, h => by
    unfold reps at h
    obtain ⟨v, r, rfl, h1, h2⟩ := h
    exact ros_cons h1.ro (reps.ros h2)
theorem fls_fz : ∀ {xs : List Val} {vs : List V}, reps C A H vs xs → fls H vs xs = []
  | [], vs, h => by unfold fls; rfl
  | x :: xs, vs, h => by
    unfold reps at h
    obtain ⟨v, r, rfl, h1, h2⟩ := h
    unfold fls
    dsimp only
    rw [fl_fz h1.fz, fls_fz h2]
    rfl
theorem zip_snd {α : Type} : ∀ {ks : List α} {vs : List V}, ks.length = vs.length → (ks.zip vs).map (·.2) = vs
  | [], [], _ => rfl
  | k :: ks, v :: vs, h => by simp only [List.zip_cons_cons, List.map_cons]; rw [zip_snd (by simpa using h)]
  | [], _ :: _, h => by cases h
  | _ :: _, [], h => by cases h
theorem fl_olst {xs : List Val} {a : Addr} {vs : List V} (h : H a = some (.lst vs)) : fl H (.ref a) (.olst xs) = a :: fls H vs xs := by
  unfold fl nodeO; dsimp only; rw [h]; rfl
theorem fl_odic {ks : List Key} {xs : List Val} {a : Addr} {vs : List V} (h : H a = some (.dK (ks.zip vs))) (l : ks.length = vs.length) : fl H (.ref a) (.odic ks xs) = a :: fls H vs xs := by
  unfold fl nodeO; dsimp only; rw [h]; dsimp only [Option.map_some, kidsO]; rw [zip_snd l]
theorem fl_odit {ks : List (List Key)} {xs : List Val} {a : Addr} {vs : List V} (h : H a = some (.dT (ks.zip vs))) (l : ks.length = vs.length) : fl H (.ref a) (.odit ks xs) = a :: fls H vs xs := by
  unfold fl nodeO; dsimp only; rw [h]; dsimp only [Option.map_some, kidsO]; rw [zip_snd l]
theorem fl_oins {c : Addr} {dx : Addr} {k : Nat} {ns : List Str} {xs : List Val} {a : Addr} {vs : List V} (h : H a = some (.ins c dx (ns.zip vs))) (l : ns.length = vs.length) : fl H (.ref a) (.oins k ns xs) = a :: fls H vs xs := by
  unfold fl nodeO; dsimp only; rw [h]; dsimp only [Option.map_some, kidsO]; rw [zip_snd l]
theorem fls_cons {vs : List V} {x : Val} {xs : List Val} : fls H (v :: vs) (x :: xs) = fl H v x ++ fls H vs xs := by
  conv => lhs; unfold fls
/-- an own value's root -/
theorem ro.at {x : Val} (h : ro C A H v x) (o : x.isO = true) : ∃ l u, v = .ref l ∧ H l = some u ∧ NT u ∧ (∀ φ, u ≠ .ext φ) ∧ (∀ y, u ≠ .own y) ∧ l ∈ fl H v x := by
  cases x with
  | olst xs => obtain ⟨a, vs, rfl, k, r⟩ := ro_olst.mp h; exact ⟨a, _, rfl, k, nt, (fun _ z => nomatch z), (fun _ z => nomatch z), by rw [fl_olst k]; exact .head _⟩
  | odic ks xs => obtain ⟨a, vs, rfl, k, l, r⟩ := ro_odic.mp h; exact ⟨a, _, rfl, k, nt, (fun _ z => nomatch z), (fun _ z => nomatch z), by rw [fl_odic k (by rw [r.len]; exact l)]; exact .head _⟩
  | odit ks xs => obtain ⟨a, vs, rfl, k, l, r⟩ := ro_odit.mp h; exact ⟨a, _, rfl, k, nt, (fun _ z => nomatch z), (fun _ z => nomatch z), by rw [fl_odit k (by rw [r.len]; exact l)]; exact .head _⟩
  | oins c ns xs => obtain ⟨a, dx, vs, rfl, n, k, k2, l, r⟩ := ro_oins.mp h; exact ⟨a, _, rfl, k, nt, (fun _ z => nomatch z), (fun _ z => nomatch z), by rw [fl_oins k (by rw [r.len]; exact l)]; exact .head _⟩
  | _ => cases o
end
/-! what is own stands where own objects stand -/
def OwnO (u : HO) : Prop := NT u ∧ (∀ φ, u ≠ .ext φ) ∧ ∀ y, u ≠ .own y
mutual
theorem ro.in {C : Cn} {A : Rg} {H : Hp} {a : Addr} : ∀ {x : Val} {v : V}, ro C A H v x → a ∈ fl H v x → ∃ u, H a = some u ∧ OwnO u
  | .olst xs, v, h, m => by
    obtain ⟨l, vs, rfl, k, r⟩ := ro_olst.mp h
    rw [fl_olst k] at m
    rcases List.mem_cons.mp m with rfl | m
    · exact ⟨_, k, nt, (fun _ z => nomatch z), (fun _ z => nomatch z)⟩
    · exact ros.in r m
  | .odic ks xs, v, h, m => by
    obtain ⟨l, vs, rfl, k, hl, r⟩ := ro_odic.mp h
    rw [fl_odic k (by rw [r.len]; exact hl)] at m
    rcases List.mem_cons.mp m with rfl | m
    · exact ⟨_, k, nt, (fun _ z => nomatch z), (fun _ z => nomatch z)⟩
    · exact ros.in r m
  | .odit ks xs, v, h, m => by
    obtain ⟨l, vs, rfl, k, hl, r⟩ := ro_odit.mp h
    rw [fl_odit k (by rw [r.len]; exact hl)] at m
    rcases List.mem_cons.mp m with rfl | m
    · exact ⟨_, k, nt, (fun _ z => nomatch z), (fun _ z => nomatch z)⟩
    · exact ros.in r m
  | .oins c ns xs, v, h, m => by
    obtain ⟨l, dx, vs, rfl, n, k, k2, hl, r⟩ := ro_oins.mp h
    rw [fl_oins k (by rw [r.len]; exact hl)] at m
    rcases List.mem_cons.mp m with rfl | m
    · exact ⟨_, k, nt, (fun _ z => nomatch z), (fun _ z => nomatch z)⟩
    · exact ros.in r m
  | .non, _, _, m | .bl _, _, _, m | .int _, _, _, m | .str _, _, _, m | .ty _, _, _, m | .wr _, _, _, m | .cl _, _, _, m | .tup _, _, _, m | .lst _, _, _, m | .dic _ _, _, _, m | .dit _ _, _, _, m | .ins _ _ _, _, _, m | .err _ _ _, _, _, m | .rng _ _, _, _, m | .scr _, _, _, m => by rw [fl_fz rfl] at m; cases m
theorem ros.in {C : Cn} {A : Rg} {H : Hp} {a : Addr} : ∀ {xs : List Val} {vs : List V}, ros C A H vs xs → a ∈ fls H vs xs → ∃ u, H a = some u ∧ OwnO u
  | [], vs, h, m => by unfold fls at m; cases m
  | x :: xs, vs, h, m => by
    unfold ros at h
    obtain ⟨v, r, rfl, h1, h2⟩ := h
    rw [fls_cons] at m
    rcases List.mem_append.mp m with m | m
    · exact ro.in h1 m
    · exact ros.in h2 m
end
/-! what is own stays as it is where its objects stay -/
mutual
theorem ro.frame {C : Cn} {A A' : Rg} {H H' : Hp} (g : Gr A H A' H') : ∀ {x : Val} {v : V}, ro C A H v x → (∀ a ∈ fl H v x, H' a = H a) → ro C A' H' v x ∧ fl H' v x = fl H v x
  | .olst xs, v, h, m => by
    obtain ⟨l, vs, rfl, k, r⟩ := ro_olst.mp h
    rw [fl_olst k] at m
    have k' : H' l = some (.lst vs) := by rw [m l (.head _)]; exact k
    obtain ⟨q1, q2⟩ := ros.frame g r fun a ha => m a (.tail _ ha)
    exact ⟨ro_olst.mpr ⟨l, vs, rfl, k', q1⟩, by rw [fl_olst k, fl_olst k', q2]⟩
  | .odic ks xs, v, h, m => by
    obtain ⟨l, vs, rfl, k, hl, r⟩ := ro_odic.mp h
    have hl' : ks.length = vs.length := by rw [r.len]; exact hl
    rw [fl_odic k hl'] at m
    have k' := m l (.head _); rw [k] at k'
    obtain ⟨q1, q2⟩ := ros.frame g r fun a ha => m a (.tail _ ha)
    exact ⟨ro_odic.mpr ⟨l, vs, rfl, k', hl, q1⟩, by rw [fl_odic k hl', fl_odic k' hl', q2]⟩
  | .odit ks xs, v, h, m => by
    obtain ⟨l, vs, rfl, k, hl, r⟩ := ro_odit.mp h
    have hl' : ks.length = vs.length := by rw [r.len]; exact hl
    rw [fl_odit k hl'] at m
    have k' := m l (.head _); rw [k] at k'
    obtain ⟨q1, q2⟩ := ros.frame g r fun a ha => m a (.tail _ ha)
    exact ⟨ro_odit.mpr ⟨l, vs, rfl, k', hl, q1⟩, by rw [fl_odit k hl', fl_odit k' hl', q2]⟩
  | .oins c ns xs, v, h, m => by
    obtain ⟨l, dx, vs, rfl, n, k, k2, hl, r⟩ := ro_oins.mp h
    have hl' : ns.length = vs.length := by rw [r.len]; exact hl
    rw [fl_oins k hl'] at m
    have k' := m l (.head _); rw [k] at k'
    obtain ⟨q1, q2⟩ := ros.frame g r fun a ha => m a (.tail _ ha)
    exact ⟨ro_oins.mpr ⟨l, dx, vs, rfl, (g dx _ nt n k2).1, k', (g dx _ nt n k2).2, hl, q1⟩, by rw [fl_oins k hl', fl_oins k' hl', q2]⟩
  | .non, _, h, _ | .bl _, _, h, _ | .int _, _, h, _ | .str _, _, h, _ | .ty _, _, h, _ | .wr _, _, h, _ | .cl _, _, h, _ | .tup _, _, h, _ | .lst _, _, h, _ | .dic _ _, _, h, _ | .dit _ _, _, h, _ | .ins _ _ _, _, h, _ | .err _ _ _, _, h, _ | .rng _ _, _, h, _ | .scr _, _, h, _ => by
    rw [fl_fz rfl, fl_fz rfl]
    exact ⟨(ro_fz rfl).mpr (rep.gr g ((ro_fz rfl).mp h)), rfl⟩
theorem ros.frame {C : Cn} {A A' : Rg} {H H' : Hp} (g : Gr A H A' H') : ∀ {xs : List Val} {vs : List V}, ros C A H vs xs → (∀ a ∈ fls H vs xs, H' a = H a) → ros C A' H' vs xs ∧ fls H' vs xs = fls H vs xs
  | [], vs, h, m => by unfold ros at h; subst h; exact ⟨ros_nil, by unfold fls; rfl⟩
  | x :: xs, vs, h, m => by
    unfold ros at h
    obtain ⟨v, r, rfl, h1, h2⟩ := h
    rw [fls_cons] at m
    obtain ⟨q1, q2⟩ := ro.frame g h1 fun a ha => m a (List.mem_append_left _ ha)
    obtain ⟨q3, q4⟩ := ros.frame g h2 fun a ha => m a (List.mem_append_right _ ha)
    exact ⟨ros_cons q1 q3, by rw [fls_cons, fls_cons, q2, q4]⟩
end
end Y

set_option Elab.async false
set_option linter.all false
set_option maxRecDepth 100000
set_option maxHeartbeats 4000000
set_option autoImplicit false
/-! W2: slots; where a body stands; what is computed; readings. -/
namespace Y
open PySem L2 Z
/-! ### what is own is given away -/
mutual
def Val.melt : Val → Val
  | .olst xs => .lst (melts xs)
  | .odic ks xs => .dic ks (melts xs)
  | .odit ks xs => .dit ks (melts xs)
  | .oins c ns xs => .ins c ns (melts xs)
  | x => x
def melts : List Val → List Val
  | [] => []
  | x :: xs => x.melt :: melts xs
end
theorem melts_length : ∀ xs : List Val, (melts xs).length = xs.length
  | [] => by unfold melts; rfl
  | x :: xs => by unfold melts; simp [melts_length xs]
theorem melt_fz {x : Val} (h : x.isO = false) : x.melt = x := by
  cases x <;> first | (unfold Val.melt; rfl) | cases h
theorem melts_map (xs : List Val) : melts xs = xs.map Val.melt := by
  induction xs with
  | nil => unfold melts; rfl
  | cons x xs ih => unfold melts; rw [ih]; rfl
/-- L joins the region -/
def moreL (A : Rg) (L : List Addr) : Rg := fun a => A a ∨ a ∈ L
def lessL (A : Rg) (L : List Addr) : Rg := fun a => A a ∧ a ∉ L
theorem gr_moreL {A : Rg} {H : Hp} {L : List Addr} : Gr A H (moreL A L) H := fun a o _ n h => ⟨.inl n, h⟩
theorem gr_lessL {A : Rg} {H : Hp} {L : List Addr} : Gr (lessL A L) H A H := fun a o _ n h => ⟨n.1, h⟩
mutual
theorem ro.melt {C : Cn} {A A' : Rg} {H : Hp} (g : Gr A H A' H) : ∀ {x : Val} {v : V}, ro C A H v x → (∀ a ∈ fl H v x, A' a) → rep C A' H v x.melt
  | .olst xs, v, h, m => by
    obtain ⟨l, vs, rfl, k, r⟩ := ro_olst.mp h
    rw [fl_olst k] at m
    unfold Val.melt
    exact rep_lst.mpr ⟨l, vs, rfl, m l (.head _), k, ros.melt g r fun a ha => m a (.tail _ ha)⟩
  | .odic ks xs, v, h, m => by
    obtain ⟨l, vs, rfl, k, hl, r⟩ := ro_odic.mp h
    rw [fl_odic k (by rw [r.len]; exact hl)] at m
    unfold Val.melt
    exact rep_dic.mpr ⟨l, vs, rfl, m l (.head _), k, by rw [melts_length]; exact hl, ros.melt g r fun a ha => m a (.tail _ ha)⟩
  | .odit ks xs, v, h, m => by
    obtain ⟨l, vs, rfl, k, hl, r⟩ := ro_odit.mp h
    rw [fl_odit k (by rw [r.len]; exact hl)] at m
    unfold Val.melt
    exact rep_dit.mpr ⟨l, vs, rfl, m l (.head _), k, by rw [melts_length]; exact hl, ros.melt g r fun a ha => m a (.tail _ ha)⟩
  | .oins c ns xs, v, h, m => by
    obtain ⟨l, dx, vs, rfl, n, k, k2, hl, r⟩ := ro_oins.mp h
    rw [fl_oins k (by rw [r.len]; exact hl)] at m
    unfold Val.melt
    exact rep_ins.mpr ⟨l, dx, vs, rfl, m l (.head _), (g dx _ nt n k2).1, k, k2, by rw [melts_length]; exact hl, ros.melt g r fun a ha => m a (.tail _ ha)⟩
  | .non, _, h, _ | .bl _, _, h, _ | .int _, _, h, _ | .str _, _, h, _ | .ty _, _, h, _ | .wr _, _, h, _ | .cl _, _, h, _ | .tup _, _, h, _ | .lst _, _, h, _ | .dic _ _, _, h, _ | .dit _ _, _, h, _ | .ins _ _ _, _, h, _ | .err _ _ _, _, h, _ | .rng _ _, _, h, _ | .scr _, _, h, _ => by
    rw [melt_fz rfl]
    exact rep.gr g ((ro_fz rfl).mp h)
theorem ros.melt {C : Cn} {A A' : Rg} {H : Hp} (g : Gr A H A' H) : ∀ {xs : List Val} {vs : List V}, ros C A H vs xs → (∀ a ∈ fls H vs xs, A' a) → reps C A' H vs (melts xs)
  | [], vs, h, m => by unfold ros at h; subst h; unfold melts; exact reps_nil
  | x :: xs, vs, h, m => by
    unfold ros at h
    obtain ⟨v, r, rfl, h1, h2⟩ := h
    rw [fls_cons] at m
    unfold melts
    exact reps_cons (ro.melt g h1 fun a ha => m a (List.mem_append_left _ ha)) (ros.melt g h2 fun a ha => m a (List.mem_append_right _ ha))
end

/-! ### slots -/
inductive SV where
  | fz (x : Val)
  | ob (pin : Bool) (x : Val)
abbrev SV.ow (p : Bool) (xs : List Val) : SV := .ob p (.olst xs)
abbrev SV.od (p : Bool) (ks : List Key) (xs : List Val) : SV := .ob p (.odic ks xs)
abbrev SV.ot (p : Bool) (ks : List (List Key)) (xs : List Val) : SV := .ob p (.odit ks xs)
abbrev SV.oi (p : Bool) (c : Nat) (ns : List Str) (xs : List Val) : SV := .ob p (.oins c ns xs)
abbrev En := List (Option SV)
def SV.own : SV → Bool | .fz _ => false | .ob _ _ => true
def SV.pin : SV → Bool | .fz _ => false | .ob p _ => p
def flS (H : Hp) (v : V) : SV → List Addr | .fz _ => [] | .ob _ x => fl H v x
def slr (C : Cn) (A : Rg) (H : Hp) (v : V) : SV → Prop
  | .fz x => rep C A H v x
  | .ob _ x => x.isO = true ∧ ro C A H v x ∧ (fl H v x).Nodup ∧ ∀ a ∈ fl H v x, ¬ A a
theorem slr.frame {C : Cn} {A A' : Rg} {H H' : Hp} {v : V} {s : SV} (g : Gr A H A' H') (k : ∀ a ∈ flS H v s, H' a = H a ∧ ¬ A' a) (h : slr C A H v s) : slr C A' H' v s ∧ flS H' v s = flS H v s := by
  cases s with
  | fz x => exact ⟨rep.gr g h, rfl⟩
  | ob p x =>
    obtain ⟨o, r, n, d⟩ := h
    obtain ⟨r', e⟩ := ro.frame g r fun a ha => (k a ha).1
    exact ⟨⟨o, r', by rw [e]; exact n, by rw [e]; exact fun a ha => (k a ha).2⟩, e⟩
def OwnAt (H : Hp) (σ : L2.St) (ρ : En) (a : Addr) : Prop := ∃ (j : Nat) (s : SV) (v : V), ρ[j]? = some (some s) ∧ σ[j]? = some (some v) ∧ a ∈ flS H v s
structure EnvR (C : Cn) (A : Rg) (H : Hp) (σ : L2.St) (ρ : En) : Prop where
  len : σ.length = ρ.length
  sl : ∀ (i : Nat) (s : SV), ρ[i]? = some (some s) → ∃ v, σ[i]? = some (some v) ∧ slr C A H v s
  ne : ∀ (i j : Nat) (s t : SV) (u v : V), i ≠ j → ρ[i]? = some (some s) → ρ[j]? = some (some t) → σ[i]? = some (some u) → σ[j]? = some (some v) → ∀ a ∈ flS H u s, a ∉ flS H v t
section
variable {C : Cn} {A A' : Rg} {H H' : Hp} {σ : L2.St} {ρ : En}
theorem EnvR.own (e : EnvR C A H σ ρ) {a : Addr} (h : OwnAt H σ ρ a) : ¬ A a ∧ ∃ u, H a = some u ∧ OwnO u := by
  obtain ⟨j, s, v, h1, h2, h3⟩ := h
  obtain ⟨w, k1, k2⟩ := e.sl j s h1
  rw [h2] at k1; cases k1
  cases s with
  | fz x => cases h3
  | ob p x => exact ⟨k2.2.2.2 a h3, ro.in k2.2.1 h3⟩
theorem EnvR.frame (e : EnvR C A H σ ρ) (g : Gr A H A' H') (k : ∀ a, OwnAt H σ ρ a → H' a = H a ∧ ¬ A' a) : EnvR C A' H' σ ρ ∧ ∀ (i : Nat) (s : SV) (v : V), ρ[i]? = some (some s) → σ[i]? = some (some v) → flS H' v s = flS H v s := by
  have f : ∀ (i : Nat) (s : SV) (v : V), ρ[i]? = some (some s) → σ[i]? = some (some v) → slr C A' H' v s ∧ flS H' v s = flS H v s := fun i s v h1 h2 => by
    obtain ⟨w, k1, k2⟩ := e.sl i s h1
    rw [h2] at k1; cases k1
    exact slr.frame g (fun a ha => k a ⟨i, s, v, h1, h2, ha⟩) k2
  refine ⟨⟨e.len, fun i s h => ?_, fun i j s t u v ij hs ht hu hv => ?_⟩, fun i s v h1 h2 => (f i s v h1 h2).2⟩
  · obtain ⟨v, h1, h2⟩ := e.sl i s h
    exact ⟨v, h1, (f i s v h h1).1⟩
  · rw [(f i s u hs hu).2, (f j t v ht hv).2]
    exact e.ne i j s t u v ij hs ht hu hv
end
theorem ownAt_eq {H H' : Hp} {σ : L2.St} {ρ : En} (f : ∀ (i : Nat) (s : SV) (v : V), ρ[i]? = some (some s) → σ[i]? = some (some v) → flS H' v s = flS H v s) {a : Addr} : OwnAt H' σ ρ a ↔ OwnAt H σ ρ a :=
  ⟨fun ⟨j, s, v, h1, h2, h3⟩ => ⟨j, s, v, h1, h2, by rw [f j s v h1 h2] at h3; exact h3⟩, fun ⟨j, s, v, h1, h2, h3⟩ => ⟨j, s, v, h1, h2, by rw [f j s v h1 h2]; exact h3⟩⟩
theorem tabs_put {T : List (Addr × Str)} {H : Hp} {l : Addr} {o0 o : HO} (t : LamX.Tabs T H) (h : H l = some o0) (n1 : NT o0) (n2 : ∀ φ, o0 ≠ .ext φ) : LamX.Tabs T (upd H l o) := fun p hp => by
  obtain ⟨ps, h1, h2, h3⟩ := t p hp
  have ne : p.1 ≠ l := fun z => by rw [z, h] at h1; exact n1 _ (Option.some.inj h1)
  refine ⟨ps, by rw [upd_ne ne]; exact h1, h2, fun pos cv hc => ?_⟩
  obtain ⟨c, e1, e2⟩ := h3 pos cv hc
  exact ⟨c, e1, by rw [upd_ne (fun z => by rw [z, h] at e2; exact n2 _ (Option.some.inj e2))]; exact e2⟩
/-- where a body stands: what it began with -/
structure Bs where
  A0 : Rg
  H0 : Hp
  pins : List (Nat × Addr)
  Z : Rg
structure Now (C : Cn) (B : Bs) (A : Rg) (H : Hp) (σ : L2.St) (ρ : En) : Prop where
  env : EnvR C A H σ ρ
  fr : Fq A H
  f0 : Fq B.A0 B.H0
  nz : ∀ a, B.Z a → ¬ B.A0 a
  le : ∀ a, A a → B.A0 a
  kp : ∀ a o, NT o → ¬ B.Z a → B.H0 a = some o → H a = some o
  tb : LamX.Tabs C.T H
  fe : ∀ a, Fz H a → Fz B.H0 a
  ow : ∀ (i : Nat) (s : SV) (v : V) (a : Addr), ρ[i]? = some (some s) → σ[i]? = some (some v) → a ∈ flS H v s → Fz B.H0 a ∨ (B.Z a ∧ s.pin = true)
  pn : ∀ (i : Nat) (l : Addr), (i, l) ∈ B.pins → σ[i]? = some (some (.ref l)) ∧ ∃ s, ρ[i]? = some (some s) ∧ s.own = true ∧ s.pin = true
section
variable {C : Cn} {B : Bs} {A A' : Rg} {H H' : Hp} {σ : L2.St} {ρ : En}
theorem Now.own (N : Now C B A H σ ρ) {a : Addr} (h : OwnAt H σ ρ a) : ¬ A a ∧ ∃ u, H a = some u ∧ OwnO u := N.env.own h
/-- the slots are as they were, the heap and the region changed where nothing is own -/
theorem Now.frame (N : Now C B A H σ ρ) (g : Gr A H A' H') (k : ∀ a, OwnAt H σ ρ a → H' a = H a ∧ ¬ A' a) (fr : Fq A' H') (le : ∀ a, A' a → B.A0 a) (kp : ∀ a o, NT o → ¬ B.Z a → B.H0 a = some o → H' a = some o) (tb : LamX.Tabs C.T H') (fe : ∀ a, Fz H' a → Fz B.H0 a) : Now C B A' H' σ ρ := by
  obtain ⟨e, f⟩ := N.env.frame g k
  exact ⟨e, fr, N.f0, N.nz, le, kp, tb, fe, fun i s v a h1 h2 h3 => N.ow i s v a h1 h2 (by rw [f i s v h1 h2] at h3; exact h3), N.pn⟩
/-- nothing that was there changed but tables -/
theorem Now.kept (N : Now C B A H σ ρ) (k : ∀ a o, NT o → H a = some o → H' a = some o) (f : ∀ a, Fz H' a → Fz H a) (t : LamX.Tabs C.T H') : Now C B A H' σ ρ :=
  N.frame (fun a o n x h => ⟨x, k a o n h⟩) (fun a h => by
    obtain ⟨n, u, h1, h2⟩ := N.own h
    exact ⟨by rw [h1]; exact k a u h2.1 h1, n⟩) (fun q h => N.fr q (f q h)) N.le (fun a o n z h => k a o n (N.kp a o n z h)) t fun a h => N.fe a (f a h)
theorem Now.same (N : Now C B A H σ ρ) (e : Same H H') : Now C B A H' σ ρ := N.kept (fun a o _ h => e a o h) (fun a h => h.sm e) (N.tb.ext e)
theorem Now.new (N : Now C B A H σ ρ) {p : Addr} {o : HO} (hp : H p = none) : Now C B A (upd H p o) σ ρ := N.same (same_new hp)
theorem Now.slot (N : Now C B A H σ ρ) {i : Nat} {s : SV} (h : ρ[i]? = some (some s)) : ∃ v, σ[i]? = some (some v) ∧ slr C A H v s := N.env.sl i s h
end

/-! ### what is computed -/
inductive Rs (α : Type) where
  | ok (x : α)
  | exc (c : Nat) (ns : List Str) (vs : List Val) (ρ : En)
  | bad
def Rs.bind {α β : Type} (m : Rs α) (f : α → Rs β) : Rs β := match m with | .ok x => f x | .exc c ns vs ρ => .exc c ns vs ρ | .bad => .bad
instance : Monad Rs where
  pure := Rs.ok
  bind := Rs.bind
@[simp] theorem Rs.ok_bind {α β : Type} {x : α} {f : α → Rs β} : (Rs.ok x >>= f) = f x := rfl
@[simp] theorem Rs.pure_eq {α : Type} {x : α} : (pure x : Rs α) = Rs.ok x := rfl
@[simp] theorem Rs.bad_bind {α β : Type} {f : α → Rs β} : (Rs.bad >>= f) = Rs.bad := rfl
@[simp] theorem Rs.exc_bind {α β : Type} {f : α → Rs β} {c ns vs ρ} : (Rs.exc c ns vs ρ >>= f) = Rs.exc c ns vs ρ := rfl
def Rs.opt {α : Type} : Option α → Rs α | some x => .ok x | none => .bad
@[simp] theorem Rs.opt_some {α : Type} {x : α} : Rs.opt (some x) = .ok x := rfl
@[simp] theorem Rs.opt_none {α : Type} : (Rs.opt none : Rs α) = .bad := rfl
abbrev XW := Nat → List Str → List Val → En → Prop
def Rs.wp {α : Type} (r : Rs α) (Q : α → Prop) (E : XW) : Prop := match r with | .ok x => Q x | .exc c ns vs ρ => E c ns vs ρ | .bad => False
theorem Rs.wp_bind {α β : Type} {r : Rs α} {f : α → Rs β} {Q : β → Prop} {E : XW} (h : (r >>= f).wp Q E) : r.wp (fun x => (f x).wp Q E) E := by
  cases r with
  | ok x => exact h
  | exc c ns vs ρ => exact h
  | bad => exact h
theorem Rs.bind_wp {α β : Type} {r : Rs α} {f : α → Rs β} {Q : β → Prop} {E : XW} (h : r.wp (fun x => (f x).wp Q E) E) : (r >>= f).wp Q E := by
  cases r with
  | ok x => exact h
  | exc c ns vs ρ => exact h
  | bad => exact h
theorem Rs.wp_mono {α : Type} {r : Rs α} {Q Q' : α → Prop} {E E' : XW} (h : r.wp Q E) (k : ∀ x, Q x → Q' x) (e : ∀ c ns vs ρ, E c ns vs ρ → E' c ns vs ρ) : r.wp Q' E' := by
  cases r with
  | ok x => exact k x h
  | exc c ns vs ρ => exact e c ns vs ρ h
  | bad => exact h
theorem Rs.wp_opt {α : Type} {o : Option α} {Q : α → Prop} {E : XW} (h : (Rs.opt o).wp Q E) : ∃ x, o = some x ∧ Q x := by
  cases o with
  | none => exact h.elim
  | some x => exact ⟨x, rfl, h⟩
theorem ite_bad {α : Type} {c : Prop} [Decidable c] {m : Rs α} {Q : α → Prop} {E : XW} (h : (if c then m else .bad).wp Q E) : c ∧ m.wp Q E := by
  split at h
  · exact ⟨by assumption, h⟩
  · exact h.elim
/-- what is wanted of an exception -/
def EX (C : Cn) (E : XK) (B : Bs) : XW := fun c ns xs ρ' => ∀ d vs A' σ' H', Now C B A' H' σ' ρ' → A' d → H' d = some (.xd (ns.zip vs)) → ns.length = xs.length → reps C A' H' vs xs → E (.ref (C.ca c)) (some d) H'
structure Gd (σ : L2.St) (A : Rg) (H : Hp) (ρ : En) (H' : Hp) (ρ' : En) : Prop where
  g : Gr A H A H'
  o : ∀ a, OwnAt H' σ ρ' a → OwnAt H σ ρ a ∨ Fz H a
  k : ∀ a o, NT o → H a = some o → ¬ OwnAt H σ ρ a → H' a = some o
  f : ∀ a, Fz H' a → Fz H a
theorem Gd.refl (σ : L2.St) (A : Rg) (H : Hp) (ρ : En) : Gd σ A H ρ H ρ := ⟨.refl _ _, fun _ h => .inl h, fun _ _ _ h _ => h, fun _ h => h⟩
theorem Gd.trans {σ : L2.St} {A : Rg} {H H1 H2 : Hp} {ρ ρ1 ρ2 : En} (a : Gd σ A H ρ H1 ρ1) (b : Gd σ A H1 ρ1 H2 ρ2) : Gd σ A H ρ H2 ρ2 :=
  ⟨a.g.trans b.g, fun p h => (b.o p h).elim (a.o p) fun z => .inr (a.f p z), fun p o t h n => b.k p o t (a.k p o t h n) fun z => (a.o p z).elim n fun f => f.no h t, fun p h => a.f p (b.f p h)⟩
theorem Gd.kept {C : Cn} {B : Bs} {σ : L2.St} {A : Rg} {H H' : Hp} {ρ : En} (N : Now C B A H σ ρ) (k : ∀ a o, NT o → H a = some o → H' a = some o) (f : ∀ a, Fz H' a → Fz H a) : Gd σ A H ρ H' ρ := by
  have g : Gr A H A H' := fun a o n x h => ⟨x, k a o n h⟩
  obtain ⟨_, e⟩ := N.env.frame (A' := A) g fun a h => by
    obtain ⟨n, u, h1, h2⟩ := N.own h
    exact ⟨by rw [h1]; exact k a u h2.1 h1, n⟩
  exact ⟨g, fun a h => .inl ((ownAt_eq e).mp h), fun a o n h _ => k a o n h, f⟩
theorem Gd.same {C : Cn} {B : Bs} {σ : L2.St} {A : Rg} {H H' : Hp} {ρ : En} (N : Now C B A H σ ρ) (s : Same H H') : Gd σ A H ρ H' ρ := .kept N (fun a o _ h => s a o h) fun a h => h.sm s
/-- .. in an expression: the slots are as they were -/
def EXe (C : Cn) (E : XK) (B : Bs) (A : Rg) (H : Hp) (σ : L2.St) (ρ : En) : XW := fun c ns xs ρ' => ∀ d vs H', Now C B A H' σ ρ' → Gd σ A H ρ H' ρ' → A d → H' d = some (.xd (ns.zip vs)) → ns.length = xs.length → reps C A H' vs xs → E (.ref (C.ca c)) (some d) H'
theorem EXe.tr {C : Cn} {E : XK} {B : Bs} {A : Rg} {H H1 : Hp} {σ : L2.St} {ρ ρ1 : En} (g : Gd σ A H ρ H1 ρ1) : ∀ c ns vs ρ', EXe C E B A H σ ρ c ns vs ρ' → EXe C E B A H1 σ ρ1 c ns vs ρ' := fun _ _ _ _ h d vs H' N g' => h d vs H' N (g.trans g')
theorem EXe.of {C : Cn} {E : XK} {B : Bs} {A : Rg} {H : Hp} {σ : L2.St} {ρ : En} : ∀ c ns vs ρ', EX C E B c ns vs ρ' → EXe C E B A H σ ρ c ns vs ρ' := fun _ _ _ _ h d vs H' N _ => h d vs A σ H' N
/-- readings -/
def SE (C : Cn) (E : XK) (m : En → Rs (Val × En)) : TE := fun σ H Q => ∃ B A ρ, Now C B A H σ ρ ∧ (m ρ).wp (fun x => ∀ v H', Now C B A H' σ x.2 → Gd σ A H ρ H' x.2 → rep C A H' v x.1 → Q v H') (EXe C E B A H σ ρ)
def SA (C : Cn) (E : XK) (m : En → Rs (List Val × En)) : TA := fun σ H Q => ∃ B A ρ, Now C B A H σ ρ ∧ (m ρ).wp (fun x => ∀ vs H', Now C B A H' σ x.2 → Gd σ A H ρ H' x.2 → reps C A H' vs x.1 → Q vs H') (EXe C E B A H σ ρ)
def SB (C : Cn) (E : XK) (m : En → Rs (Bool × En)) : TT := fun σ H Q => ∃ B A ρ, Now C B A H σ ρ ∧ (m ρ).wp (fun x => ∀ H', Now C B A H' σ x.2 → Gd σ A H ρ H' x.2 → Q x.1 H') (EXe C E B A H σ ρ)
inductive Out where
  | nx (ρ : En) | rt (x : Val) (ρ : En) | bk (ρ : En) | ct (ρ : En)
def Out.at (C : Cn) (B : Bs) (A : Rg) (H : Hp) (D : Ends) : Out → Prop
  | .nx ρ' => ∀ A' σ' H', Now C B A' H' σ' ρ' → Gr A H A' H' → D.nx σ' H'
  | .rt x ρ' => ∀ v A' σ' H', Now C B A' H' σ' ρ' → Gr A H A' H' → rep C A' H' v x → D.rt v H'
  | .bk ρ' => ∀ A' σ' H', Now C B A' H' σ' ρ' → Gr A H A' H' → D.bk σ' H'
  | .ct ρ' => ∀ A' σ' H', Now C B A' H' σ' ρ' → Gr A H A' H' → D.ct σ' H'
def SS (C : Cn) (E : XK) (m : En → Rs Out) : TS := fun D σ H => ∃ B A ρ, Now C B A H σ ρ ∧ (m ρ).wp (Out.at C B A H D) (EX C E B)
theorem PE.imp {X : Cx} {e : Expr} {t t' : TE} (h : PE X e t) (k : ∀ σ H Q, t' σ H Q → t σ H Q) : PE X e t' := ⟨fun pins s σ H Q I q => h.run pins s σ H Q I (k σ H Q q)⟩
theorem PT.imp {X : Cx} {e : Expr} {t t' : TT} (h : PT X e t) (k : ∀ σ H Q, t' σ H Q → t σ H Q) : PT X e t' := ⟨fun pins s σ H Q I q => h.run pins s σ H Q I (k σ H Q q)⟩
theorem PW.imp {X : Cx} {e : Expr} {t t' : TT} (h : PW X e t) (k : ∀ σ H Q, t' σ H Q → t σ H Q) : PW X e t' := ⟨fun wh pins s σ H Q I q => h.run wh pins s σ H Q I (k σ H Q q)⟩
theorem PA.imp {X : Cx} {e : List Expr} {t t' : TA} (h : PA X e t) (k : ∀ σ H Q, t' σ H Q → t σ H Q) : PA X e t' := ⟨fun p pins s σ H Q I q => h.run p pins s σ H Q I (k σ H Q q)⟩
theorem PK.imp {X : Cx} {e : List Keyword} {t t' : TA} (h : PK X e t) (k : ∀ σ H Q, t' σ H Q → t σ H Q) : PK X e t' := ⟨fun p pins s σ H Q I q => h.run p pins s σ H Q I (k σ H Q q)⟩
theorem PS.imp {X : Cx} {e : Stmt} {t t' : TS} (h : PS X e t) (k : ∀ D σ H, t' D σ H → t D σ H) : PS X e t' := ⟨fun pins s σ H Q I q => h.run pins s σ H Q I (k Q σ H q)⟩
theorem PSs.imp {X : Cx} {e : List Stmt} {t t' : TS} (h : PSs X e t) (k : ∀ D σ H, t' D σ H → t D σ H) : PSs X e t' := ⟨fun pins s σ H Q I q => h.run pins s σ H Q I (k Q σ H q)⟩
theorem PI.imp {X : Cx} {g e : Expr} {t t' : TI} (h : PI X g e t) (k : ∀ σ H R, t' σ H R → t σ H R) : PI X g e t' := ⟨fun pins s σ H Q I q => h.run pins s σ H Q I (k σ H Q q)⟩
end Y

set_option Elab.async false
set_option linter.all false
set_option maxRecDepth 100000
set_option maxHeartbeats 4000000
set_option autoImplicit false
/-! W3: expressions. -/
namespace Y
open PySem L2 Z

abbrev ME := En → Rs (Val × En)
abbrev MA := En → Rs (List Val × En)
abbrev MB := En → Rs (Bool × En)
def cstM (x : Val) : ME := fun ρ => .ok (x, ρ)
def varM (i : Nat) : ME := fun ρ => match ρ[i]? with | some (some (.fz x)) => .ok (x, ρ) | _ => .bad
def binM (f : Val → Val → Option Val) (a b : ME) : ME := fun ρ => a ρ >>= fun x => b x.2 >>= fun y => Rs.opt (f x.1 y.1) >>= fun z => .ok (z, y.2)
def unM (f : Val → Option Val) (a : ME) : ME := fun ρ => a ρ >>= fun x => Rs.opt (f x.1) >>= fun z => .ok (z, x.2)
def tstM (f : Val → Option Bool) (a : ME) : MB := fun ρ => a ρ >>= fun x => Rs.opt (f x.1) >>= fun z => .ok (z, x.2)
def blV : Val → Option Bool | .bl b => some b | _ => none
def andB (a b : MB) : MB := fun ρ => a ρ >>= fun x => if x.1 = true then b x.2 else .ok (false, x.2)
def orB (a b : MB) : MB := fun ρ => a ρ >>= fun x => if x.1 = true then .ok (true, x.2) else b x.2
def notB (a : MB) : MB := fun ρ => a ρ >>= fun x => .ok (!x.1, x.2)
def andM (a b : ME) : ME := fun ρ => a ρ >>= fun x => Rs.opt (blV x.1) >>= fun k => if k = true then b x.2 else .ok (.bl false, x.2)
def orM (a b : ME) : ME := fun ρ => a ρ >>= fun x => Rs.opt (blV x.1) >>= fun k => if k = true then .ok (.bl true, x.2) else b x.2
def ifM (c : MB) (a b : ME) : ME := fun ρ => c ρ >>= fun k => if k.1 = true then a k.2 else b k.2
def nilA : MA := fun ρ => .ok ([], ρ)
def consA (a : ME) (b : MA) : MA := fun ρ => a ρ >>= fun x => b x.2 >>= fun y => .ok (x.1 :: y.1, y.2)
def tupM (a : MA) : ME := fun ρ => a ρ >>= fun x => if x.1.length ≤ sizeLine then .ok (.tup x.1, x.2) else .bad
def lstM (a : MA) : ME := fun ρ => a ρ >>= fun x => if x.1.length ≤ sizeLine then .ok (.lst x.1, x.2) else .bad
def cbM (f : List Val → Option Val) (a : MA) : ME := fun ρ => a ρ >>= fun x => Rs.opt (f x.1) >>= fun z => .ok (z, x.2)

section
variable {X : Cx} {C : Cn} {E : XK} {e a b : Expr} {ma mb : ME} {es : List Expr} {ml : MA} {pos : Pos}
theorem y_var {i : Nat} (h : PE X e (tVar i)) : PE X e (SE C E (varM i)) := PE.imp h fun σ H Q ⟨B, A, ρ, N, hm⟩ => by
  unfold varM at hm
  split at hm
  · rename_i x hx
    obtain ⟨v, h1, h2⟩ := N.slot hx
    exact ⟨v, h1, hm v H N (.refl _ _ _ _) h2⟩
  · exact hm.elim
theorem y_cst {v : V} {x : Val} (h : PE X e (tC v)) (r : ∀ A H, rep C A H v x) : PE X e (SE C E (cstM x)) := PE.imp h fun σ H Q ⟨B, A, ρ, N, hm⟩ => hm v H N (.refl _ _ _ _) (r A H)
theorem y_int {i : Int} {j : Nat} : PE X (.Constant (.int i) j pos) (SE C E (cstM (.int i))) := y_cst pe_int fun _ _ => rep_int.mpr rfl
theorem y_str {s : Str} {j : Nat} : PE X (.Constant (.str s) j pos) (SE C E (cstM (.str s))) := y_cst pe_str fun _ _ => rep_str.mpr rfl
theorem y_bl {s : Bool} {j : Nat} : PE X (.Constant (.bool s) j pos) (SE C E (cstM (.bl s))) := y_cst pe_bl fun _ _ => rep_bl.mpr rfl
theorem y_non {j : Nat} : PE X (.Constant .none j pos) (SE C E (cstM .non)) := y_cst pe_non fun _ _ => rep_non.mpr rfl
/-! ### two in a row -/
/-- what an operator makes of values -/
def OpV (C : Cn) (r : R2) (f : Val → Val → Option Val) : Prop := ∀ (A : Rg) (H : Hp) (u v : V) (x y z : Val), Fq A H → rep C A H u x → rep C A H v y → f x y = some z → ∀ Q : VK, (∀ w H', Same H H' → rep C A H' w z → Q w H') → r u v H Q
def UnV (C : Cn) (r : V → Hp → VK → Prop) (f : Val → Option Val) : Prop := ∀ (A : Rg) (H : Hp) (u : V) (x z : Val), Fq A H → rep C A H u x → f x = some z → ∀ Q : VK, (∀ w H', Same H H' → rep C A H' w z → Q w H') → r u H Q
theorem OpV.or {r r' : R2} {f g : Val → Val → Option Val} (h : OpV C r f) (h' : OpV C r' g) : OpV C (fun x y H Q => r x y H Q ∨ r' x y H Q) (fun x y => match f x y with | some z => some z | none => g x y) := fun A H u v x y z fA hu hv e Q q => by
  dsimp only at e
  split at e
  · cases e; exact .inl (h A H u v x y _ fA hu hv (by assumption) Q q)
  · exact .inr (h' A H u v x y _ fA hu hv e Q q)
theorem bin_rd {r : R2} {f : Val → Val → Option Val} (hv : OpV C r f) : ∀ σ H Q, SE C E (binM f ma mb) σ H Q → tOp r (SE C E ma) (SE C E mb) σ H Q := fun σ H Q ⟨B, A, ρ, N, hm⟩ =>
  ⟨B, A, ρ, N, Rs.wp_mono (Rs.wp_bind hm) (fun x hx u H1 N1 g1 r1 => ⟨B, A, x.2, N1, Rs.wp_mono (Rs.wp_bind hx) (fun y hy v H2 N2 g2 r2 => by
    obtain ⟨z, e, hz⟩ := Rs.wp_opt (Rs.wp_bind hy)
    exact hv A H2 u v x.1 y.1 z N2.fr (rep.gr g2.g r1) r2 e Q fun w H3 s r3 => hz w H3 (N2.same s) ((g1.trans g2).trans (.same N2 s)) r3) (EXe.tr g1)⟩) fun _ _ _ _ h => h⟩
theorem y_op {op : Operator} {r : R2} {f : Val → Val → Option Val} (ho : OpR X (binaryOp op) r) (hv : OpV C r f) (ha : PE X a (SE C E ma)) (hb : PE X b (SE C E mb)) : PE X (.BinOp a op b pos) (SE C E (binM f ma mb)) := PE.imp (pe_op ho ha hb) (bin_rd hv)
theorem y_cmp {op : CmpOp} {r : R2} {f : Val → Val → Option Val} (ho : OpR X (compareOp op) r) (hv : OpV C r f) (ha : PE X a (SE C E ma)) (hb : PE X b (SE C E mb)) (hm : behindInMarks op b = false) : PE X (.Compare a [op] [b] pos) (SE C E (binM f ma mb)) := PE.imp (pe_cmpR ho ha hb hm) (bin_rd hv)
theorem y_ix {r : R2} {f : Val → Val → Option Val} (ho : IxR X r) (hv : OpV C r f) (ha : PE X a (SE C E ma)) (hb : PE X b (SE C E mb)) (hs : PlainIx b) : PE X (.Subscript a b pos) (SE C E (binM f ma mb)) := PE.imp (pe_ix ho ha hb hs) (bin_rd hv)
theorem y_un {op : UnaryOp} {r : V → Hp → VK → Prop} {f : Val → Option Val} (ho : UnR X (unaryOp op) r) (hv : UnV C r f) (ha : PE X a (SE C E ma)) : PE X (.UnaryOp op a pos) (SE C E (unM f ma)) := PE.imp (pe_un ho ha) fun σ H Q ⟨B, A, ρ, N, hm⟩ =>
  ⟨B, A, ρ, N, Rs.wp_mono (Rs.wp_bind hm) (fun x hx u H1 N1 g1 r1 => by
    obtain ⟨z, e, hz⟩ := Rs.wp_opt (Rs.wp_bind hx)
    exact hv A H1 u x.1 z N1.fr r1 e Q fun w H3 s r3 => hz w H3 (N1.same s) (g1.trans (.same N1 s)) r3) fun _ _ _ _ h => h⟩
/-! ### tests -/
theorem blV_rep {A : Rg} {H : Hp} {v : V} {x : Val} {k : Bool} (e : blV x = some k) (r : rep C A H v x) : v = .bl k := by
  unfold blV at e
  split at e
  · cases e; exact rep_bl.mp r
  · cases e
/-- a comparison as a test -/
theorem yt_cmp {op : CmpOp} {r : R2} {f : Val → Val → Option Val} (ho : OpR X (compareOp op) r) (hv : OpV C r f) (ha : PE X a (SE C E ma)) (hb : PE X b (SE C E mb)) (hm : behindInMarks op b = false) : PT X (.Compare a [op] [b] pos) (SB C E (tstM blV (binM f ma mb))) := PT.imp (pt_cmpR ho ha hb hm) fun σ H Q ⟨B, A, ρ, N, hm⟩ =>
  bin_rd hv σ H _ ⟨B, A, ρ, N, Rs.wp_mono (Rs.wp_bind hm) (fun x hx v H' N' g' r' => by
    obtain ⟨k, e, hk⟩ := Rs.wp_opt (Rs.wp_bind hx)
    exact ⟨k, blV_rep e r', hk H' N' g'⟩) fun _ _ _ _ h => h⟩
theorem yt_not {ta : MB} (ha : PT X a (SB C E ta)) : PT X (.UnaryOp .Not a pos) (SB C E (notB ta)) := PT.imp (pt_not ha) fun σ H Q ⟨B, A, ρ, N, hm⟩ =>
  ⟨B, A, ρ, N, Rs.wp_mono (Rs.wp_bind hm) (fun x hx H' N' g' => hx H' N' g') fun _ _ _ _ h => h⟩
theorem yw_and1 {ta : MB} (ha : PT X a (SB C E ta)) : PW X (.BoolOp .And [a] pos) (SB C E ta) := pw_and1 ha
theorem yw_or1 {ta : MB} (ha : PT X a (SB C E ta)) : PW X (.BoolOp .Or [a] pos) (SB C E ta) := pw_or1 ha
theorem yw_and {ta tb : MB} {rest : List Expr} (ha : PT X a (SB C E ta)) (hb : PW X (.BoolOp .And (b :: rest) pos) (SB C E tb)) : PW X (.BoolOp .And (a :: b :: rest) pos) (SB C E (andB ta tb)) := PW.imp (pw_and ha hb) fun σ H Q ⟨B, A, ρ, N, hm⟩ =>
  ⟨B, A, ρ, N, Rs.wp_mono (Rs.wp_bind hm) (fun x hx H' N' g' => by
    by_cases h : x.1 = true
    · rw [if_pos h] at hx ⊢
      exact ⟨B, A, x.2, N', Rs.wp_mono hx (fun y hy H2 N2 g2 => hy H2 N2 (g'.trans g2)) (EXe.tr g')⟩
    · rw [if_neg h] at hx ⊢
      exact hx H' N' g') fun _ _ _ _ h => h⟩
theorem yw_or {ta tb : MB} {rest : List Expr} (ha : PT X a (SB C E ta)) (hb : PW X (.BoolOp .Or (b :: rest) pos) (SB C E tb)) : PW X (.BoolOp .Or (a :: b :: rest) pos) (SB C E (orB ta tb)) := PW.imp (pw_or ha hb) fun σ H Q ⟨B, A, ρ, N, hm⟩ =>
  ⟨B, A, ρ, N, Rs.wp_mono (Rs.wp_bind hm) (fun x hx H' N' g' => by
    by_cases h : x.1 = true
    · rw [if_pos h] at hx ⊢
      exact hx H' N' g'
    · rw [if_neg h] at hx ⊢
      exact ⟨B, A, x.2, N', Rs.wp_mono hx (fun y hy H2 N2 g2 => hy H2 N2 (g'.trans g2)) (EXe.tr g')⟩) fun _ _ _ _ h => h⟩
/-- and, or as values (of truths) -/
theorem y_one {op : BoolOp} (h : PE X a (SE C E ma)) : PE X (.BoolOp op [a] pos) (SE C E ma) := pe_one h
theorem y_and {rest : List Expr} (ha : PE X a (SE C E ma)) (hb : PE X (.BoolOp .And (b :: rest) pos) (SE C E mb)) : PE X (.BoolOp .And (a :: b :: rest) pos) (SE C E (andM ma mb)) := PE.imp (pe_and ha hb) fun σ H Q ⟨B, A, ρ, N, hm⟩ =>
  ⟨B, A, ρ, N, Rs.wp_mono (Rs.wp_bind hm) (fun x hx v H' N' g' r' => by
    obtain ⟨k, e, hk⟩ := Rs.wp_opt (Rs.wp_bind hx)
    refine ⟨k, blV_rep e r', ?_⟩
    by_cases h : k = true
    · rw [if_pos h] at hk ⊢
      exact ⟨B, A, x.2, N', Rs.wp_mono hk (fun y hy v2 H2 N2 g2 r2 => hy v2 H2 N2 (g'.trans g2) r2) (EXe.tr g')⟩
    · rw [if_neg h] at hk ⊢
      exact hk _ H' N' g' (rep_bl.mpr rfl)) fun _ _ _ _ h => h⟩
theorem y_or {rest : List Expr} (ha : PE X a (SE C E ma)) (hb : PE X (.BoolOp .Or (b :: rest) pos) (SE C E mb)) : PE X (.BoolOp .Or (a :: b :: rest) pos) (SE C E (orM ma mb)) := PE.imp (pe_or ha hb) fun σ H Q ⟨B, A, ρ, N, hm⟩ =>
  ⟨B, A, ρ, N, Rs.wp_mono (Rs.wp_bind hm) (fun x hx v H' N' g' r' => by
    obtain ⟨k, e, hk⟩ := Rs.wp_opt (Rs.wp_bind hx)
    refine ⟨k, blV_rep e r', ?_⟩
    by_cases h : k = true
    · rw [if_pos h] at hk ⊢
      exact hk _ H' N' g' (rep_bl.mpr rfl)
    · rw [if_neg h] at hk ⊢
      exact ⟨B, A, x.2, N', Rs.wp_mono hk (fun y hy v2 H2 N2 g2 r2 => hy v2 H2 N2 (g'.trans g2) r2) (EXe.tr g')⟩) fun _ _ _ _ h => h⟩
/-- not, as a value -/
def notV : Val → Option Val | .bl b => some (.bl (!b)) | _ => none
theorem y_not (ha : PE X a (SE C E ma)) : PE X (.UnaryOp .Not a pos) (SE C E (unM notV ma)) := PE.imp (pe_not ha) fun σ H Q ⟨B, A, ρ, N, hm⟩ =>
  ⟨B, A, ρ, N, Rs.wp_mono (Rs.wp_bind hm) (fun x hx v H' N' g' r' => by
    obtain ⟨z, e, hz⟩ := Rs.wp_opt (Rs.wp_bind hx)
    unfold notV at e
    split at e
    · rename_i b' hb'
      cases e
      rw [hb'] at r'
      exact ⟨b', rep_bl.mp r', hz _ H' N' g' (rep_bl.mpr rfl)⟩
    · cases e) fun _ _ _ _ h => h⟩
theorem y_if {c : Expr} {tc : MB} (hc : PT X c (SB C E tc)) (ha : PE X a (SE C E ma)) (hb : PE X b (SE C E mb)) : PE X (.IfExp c a b pos) (SE C E (ifM tc ma mb)) := PE.imp (pe_ifExp hc ha hb) fun σ H Q ⟨B, A, ρ, N, hm⟩ =>
  ⟨B, A, ρ, N, Rs.wp_mono (Rs.wp_bind hm) (fun x hx H' N' g' => by
    by_cases h : x.1 = true
    · rw [if_pos h] at hx ⊢
      exact ⟨B, A, x.2, N', Rs.wp_mono hx (fun y hy v2 H2 N2 g2 r2 => hy v2 H2 N2 (g'.trans g2) r2) (EXe.tr g')⟩
    · rw [if_neg h] at hx ⊢
      exact ⟨B, A, x.2, N', Rs.wp_mono hx (fun y hy v2 H2 N2 g2 r2 => hy v2 H2 N2 (g'.trans g2) r2) (EXe.tr g')⟩) fun _ _ _ _ h => h⟩
/-- any value's truth -/
def truV : Val → Option Bool
  | .non => some false | .bl b => some b | .int i => some (i != 0)
  | .str s => if s.length ≤ sizeLine then some ((s.length : Int) != 0) else none
  | .lst xs => some (!xs.isEmpty) | .tup xs => some (!xs.isEmpty) | .dic ks _ => some (!ks.isEmpty)
  | _ => none
theorem emp_len {α β : Type} {xs : List α} {ys : List β} (h : xs.length = ys.length) : xs.isEmpty = ys.isEmpty := by
  cases xs <;> cases ys <;> simp at h ⊢
theorem truV_ok {A : Rg} {H : Hp} {v : V} {x : Val} {k : Bool} (e : truV x = some k) (r : rep C A H v x) : TruV C.K v H k := by
  cases x with
  | non => cases e; rw [rep_non.mp r]; exact rfl
  | bl b => cases e; rw [rep_bl.mp r]; exact rfl
  | int i => cases e; rw [rep_int.mp r]; exact rfl
  | str s =>
    rw [rep_str.mp r]
    simp only [truV] at e
    split at e
    · cases e; exact ⟨by assumption, rfl⟩
    · cases e
  | lst xs =>
    cases e
    obtain ⟨a, vs, rfl, n, h, rs⟩ := rep_lst.mp r
    exact .inl ⟨vs, SqL.of h, by rw [emp_len rs.len]⟩
  | tup xs =>
    cases e
    obtain ⟨a, vs, rfl, h, rs⟩ := rep_tup.mp r
    exact .inr (.inl ⟨vs, h.sq, by rw [emp_len rs.len]⟩)
  | dic ks xs =>
    cases e
    obtain ⟨a, vs, rfl, n, h, l, rs⟩ := rep_dic.mp r
    refine .inr (.inr ⟨_, h, ?_⟩)
    rw [emp_len (show (ks.zip vs).length = ks.length by rw [List.length_zip, rs.len, l, Nat.min_self])]
  | _ => cases e
theorem yt_val (hK : X.K = C.K) (ha : PE X a (SE C E ma)) (he : ∀ whole, isTrue a X.env whole = (do let v ← whole; standAt a.pos; holding [v] (truthy v))) : PT X a (SB C E (tstM truV ma)) := PT.imp (pt_truth ha he) fun σ H Q ⟨B, A, ρ, N, hm⟩ =>
  ⟨B, A, ρ, N, Rs.wp_mono (Rs.wp_bind hm) (fun x hx v H' N' g' r' => by
    obtain ⟨k, e, hk⟩ := Rs.wp_opt (Rs.wp_bind hx)
    rw [hK]
    exact ⟨k, truV_ok e r', hk H' N' g'⟩) fun _ _ _ _ h => h⟩
/-! ### lists of expressions -/
theorem ya_nil : PA X [] (SA C E nilA) := PA.imp pa_nil fun σ H Q ⟨B, A, ρ, N, hm⟩ => hm [] H N (.refl _ _ _ _) reps_nil
theorem ya_cons (ha : PE X e (SE C E ma)) (hr : PA X es (SA C E ml)) (hs : starEach (e :: es) X.env = (false, eval e X.env) :: starEach es X.env := by rfl) : PA X (e :: es) (SA C E (consA ma ml)) := PA.imp (pa_cons ha hr hs) fun σ H Q ⟨B, A, ρ, N, hm⟩ =>
  ⟨B, A, ρ, N, Rs.wp_mono (Rs.wp_bind hm) (fun x hx v H1 N1 g1 r1 => ⟨B, A, x.2, N1, Rs.wp_mono (Rs.wp_bind hx) (fun y hy vs H2 N2 g2 r2 => hy (v :: vs) H2 N2 (g1.trans g2) (reps_cons (rep.gr g2.g r1) r2)) (EXe.tr g1)⟩) fun _ _ _ _ h => h⟩
theorem yk_nil : PK X [] (SA C E nilA) := PK.imp pk_nil fun σ H Q ⟨B, A, ρ, N, hm⟩ => hm [] H N (.refl _ _ _ _) reps_nil
theorem yk_cons {kws : List Keyword} {nm : Option Str} {kpos : Pos} (ha : PE X e (SE C E ma)) (hr : PK X kws (SA C E ml)) : PK X (⟨nm, e, kpos⟩ :: kws) (SA C E (consA ma ml)) := PK.imp (pk_cons ha hr) fun σ H Q ⟨B, A, ρ, N, hm⟩ =>
  ⟨B, A, ρ, N, Rs.wp_mono (Rs.wp_bind hm) (fun x hx v H1 N1 g1 r1 => ⟨B, A, x.2, N1, Rs.wp_mono (Rs.wp_bind hx) (fun y hy vs H2 N2 g2 r2 => hy (v :: vs) H2 N2 (g1.trans g2) (reps_cons (rep.gr g2.g r1) r2)) (EXe.tr g1)⟩) fun _ _ _ _ h => h⟩
theorem gr_new {A : Rg} {H : Hp} {p : Addr} {o : HO} (h : H p = none) : Gr A H A (upd H p o) := .same (same_new h)
theorem y_tup {x1} (h : PA X es (SA C E ml)) : PE X (.Tuple es x1 pos) (SE C E (tupM ml)) := PE.imp (pe_tup h) fun σ H Q ⟨B, A, ρ, N, hm⟩ =>
  ⟨B, A, ρ, N, Rs.wp_mono (Rs.wp_bind hm) (fun x hx vs H1 N1 g1 r1 => by
    obtain ⟨hz, hx⟩ := ite_bad hx
    exact ⟨by rw [r1.len]; exact hz, fun p hp => hx _ _ (N1.new hp) (g1.trans (.same N1 (same_new hp))) (rep_tup.mpr ⟨p, vs, rfl, .inl ⟨N1.fr p (.of hp), upd_same⟩, reps.gr (gr_new hp) r1⟩)⟩) fun _ _ _ _ h => h⟩
theorem y_lst (h : PA X es (SA C E ml)) : PE X (.List es pos) (SE C E (lstM ml)) := PE.imp (pe_lst h) fun σ H Q ⟨B, A, ρ, N, hm⟩ =>
  ⟨B, A, ρ, N, Rs.wp_mono (Rs.wp_bind hm) (fun x hx vs H1 N1 g1 r1 => by
    obtain ⟨hz, hx⟩ := ite_bad hx
    exact ⟨by rw [r1.len]; exact hz, fun p hp => hx _ _ (N1.new hp) (g1.trans (.same N1 (same_new hp))) (rep_lst.mpr ⟨p, vs, rfl, N1.fr p (.of hp), upd_same, reps.gr (gr_new hp) r1⟩)⟩) fun _ _ _ _ h => h⟩
/-! ### built-in calls -/
def CbV (C : Cn) (r : List V → Hp → VK → Prop) (f : List Val → Option Val) : Prop := ∀ (A : Rg) (H : Hp) (us : List V) (xs : List Val) (z : Val), Fq A H → reps C A H us xs → f xs = some z → ∀ Q : VK, (∀ w H', Same H H' → rep C A H' w z → Q w H') → r us H Q
theorem cb_rd {r : List V → Hp → VK → Prop} {f : List Val → Option Val} (hv : CbV C r f) : ∀ σ H Q, SE C E (cbM f ml) σ H Q → tCB r (SA C E ml) σ H Q := fun σ H Q ⟨B, A, ρ, N, hm⟩ =>
  ⟨B, A, ρ, N, Rs.wp_mono (Rs.wp_bind hm) (fun x hx us H1 N1 g1 r1 => by
    obtain ⟨z, e, hz⟩ := Rs.wp_opt (Rs.wp_bind hx)
    exact hv A H1 us x.1 z N1.fr r1 e Q fun w H3 s r3 => hz w H3 (N1.same s) (g1.trans (.same N1 s)) r3) fun _ _ _ _ h => h⟩
end
end Y

set_option Elab.async false
set_option linter.all false
set_option maxRecDepth 100000
set_option maxHeartbeats 4000000
set_option autoImplicit false
/-! W4: slots stored, own objects changed, statements. -/
namespace Y
open PySem L2 Z
section
variable {C : Cn} {B : Bs} {A A' : Rg} {H H' : Hp} {σ : L2.St} {ρ : En}
/-- the slot may be stored: it is no pinned own one -/
def freeS (ρ : En) (i : Nat) : Bool := match ρ[i]? with | some (some s) => !s.pin | some none => true | none => false
theorem getset {α : Type} {l : List α} {i j : Nat} {x y : α} (h : (l.set i x)[j]? = some y) : (j = i ∧ y = x ∧ i < l.length) ∨ (j ≠ i ∧ l[j]? = some y) := by
  by_cases e : j = i
  · subst e
    by_cases hl : j < l.length
    · rw [List.getElem?_set_self hl] at h; cases h; exact .inl ⟨rfl, rfl, hl⟩
    · rw [List.getElem?_eq_none (by simpa using hl)] at h; cases h
  · rw [List.getElem?_set_ne (Ne.symm e)] at h
    exact .inr ⟨e, h⟩
theorem freeS_lt {i : Nat} (hf : freeS ρ i = true) : i < ρ.length := by
  unfold freeS at hf
  by_cases h : i < ρ.length
  · exact h
  · rw [List.getElem?_eq_none (by omega)] at hf; cases hf
theorem Now.npin {i : Nat} (N : Now C B A H σ ρ) (hf : freeS ρ i = true) : ∀ l, (i, l) ∉ B.pins := fun l hp => by
  obtain ⟨_, s, h2, _, h4⟩ := N.pn i l hp
  unfold freeS at hf
  rw [h2] at hf
  simp [h4] at hf
/-- a slot is stored -/
theorem Now.store {i : Nat} {v : V} {s : SV} (N : Now C B A H σ ρ) (hf : freeS ρ i = true) (r : slr C A H v s) (dj : ∀ a ∈ flS H v s, ∀ (j : Nat) (t : SV) (w : V), j ≠ i → ρ[j]? = some (some t) → σ[j]? = some (some w) → a ∉ flS H w t) (h0 : ∀ a ∈ flS H v s, Fz B.H0 a) : Now C B A H (σ.set i (some v)) (ρ.set i (some s)) := by
  have hi : i < σ.length := by rw [N.env.len]; exact freeS_lt hf
  have npin := N.npin hf
  have bs : ∀ {j : Nat} {t : SV} {w : V}, (ρ.set i (some s))[j]? = some (some t) → (σ.set i (some v))[j]? = some (some w) → (j = i ∧ t = s ∧ w = v) ∨ (j ≠ i ∧ ρ[j]? = some (some t) ∧ σ[j]? = some (some w)) := fun {j t w} h1 h2 => by
    rcases getset h1 with ⟨e, e2, _⟩ | ⟨n, h1⟩
    · subst e; cases e2
      rw [List.getElem?_set_self hi] at h2; cases h2
      exact .inl ⟨rfl, rfl, rfl⟩
    · rw [List.getElem?_set_ne (Ne.symm n)] at h2
      exact .inr ⟨n, h1, h2⟩
  refine ⟨⟨by simp [N.env.len], fun j t h => ?_, fun j k t u a b jk ht hu ha hb => ?_⟩, N.fr, N.f0, N.nz, N.le, N.kp, N.tb, N.fe, fun j t w a h1 h2 h3 => ?_, fun j l h => ?_⟩
  · rcases getset h with ⟨e, e2, _⟩ | ⟨n, h⟩
    · subst e; cases e2
      exact ⟨v, List.getElem?_set_self hi, r⟩
    · obtain ⟨w, h1, h2⟩ := N.env.sl j t h
      exact ⟨w, by rw [List.getElem?_set_ne (Ne.symm n)]; exact h1, h2⟩
  · rcases bs ht ha with ⟨e1, e2, e3⟩ | ⟨n1, q1, q2⟩
    · subst e1 e2 e3
      rcases bs hu hb with ⟨e1, e2, e3⟩ | ⟨n1, q1, q2⟩
      · exact absurd e1.symm jk
      · exact fun p hp => dj p hp k u b n1 q1 q2
    · rcases bs hu hb with ⟨e1, e2, e3⟩ | ⟨n2, q3, q4⟩
      · subst e1 e2 e3
        exact fun p hp hp2 => dj p hp2 j t a n1 q1 q2 hp
      · exact N.env.ne j k t u a b jk q1 q3 q2 q4
  · rcases bs h1 h2 with ⟨e1, e2, e3⟩ | ⟨n1, q1, q2⟩
    · subst e1 e2 e3; exact .inl (h0 a h3)
    · exact N.ow j t w a q1 q2 h3
  · have ne : j ≠ i := fun e => npin l (by rw [← e]; exact h)
    rw [List.getElem?_set_ne (Ne.symm ne), List.getElem?_set_ne (Ne.symm ne)]
    exact N.pn j l h
/-- a slot gets a frozen value -/
theorem Now.set {i : Nat} {v : V} {x : Val} (N : Now C B A H σ ρ) (hf : freeS ρ i = true) (r : rep C A H v x) : Now C B A H (σ.set i (some v)) (ρ.set i (some (.fz x))) :=
  N.store hf r (fun _ h => nomatch h) fun _ h => nomatch h
/-- a slot gets a new own value -/
theorem Now.own' {i : Nat} {v : V} {x : Val} (N : Now C B A H σ ρ) (hf : freeS ρ i = true) (r : slr C A H v (.ob false x)) (h0 : ∀ a ∈ fl H v x, Fz B.H0 a) (ne : ∀ a ∈ fl H v x, ¬ OwnAt H σ ρ a) : Now C B A H (σ.set i (some v)) (ρ.set i (some (.ob false x))) :=
  N.store hf r (fun a ha j t w _ h1 h2 h3 => ne a ha ⟨j, t, w, h1, h2, h3⟩) h0
/-- a slot is forgotten -/
theorem Now.unset {i : Nat} (N : Now C B A H σ ρ) (hf : freeS ρ i = true) : Now C B A H (σ.set i none) (ρ.set i none) := by
  have back : ∀ {j : Nat} {s : SV}, (ρ.set i none)[j]? = some (some s) → j ≠ i ∧ ρ[j]? = some (some s) := fun {j s} h => by
    rcases getset h with ⟨_, e2, _⟩ | ⟨n1, h⟩
    · cases e2
    · exact ⟨n1, h⟩
  have npin := N.npin hf
  refine ⟨⟨by simp [N.env.len], fun j s h => ?_, fun j k s t u v jk hs ht hu hv => ?_⟩, N.fr, N.f0, N.nz, N.le, N.kp, N.tb, N.fe, fun j s v a h1 h2 h3 => ?_, fun j l h => ?_⟩
  · obtain ⟨n, h⟩ := back h
    obtain ⟨u, h1, h2⟩ := N.env.sl j s h
    exact ⟨u, by rw [List.getElem?_set_ne (Ne.symm n)]; exact h1, h2⟩
  · obtain ⟨n1, hs⟩ := back hs
    obtain ⟨n2, ht⟩ := back ht
    rw [List.getElem?_set_ne (Ne.symm n1)] at hu
    rw [List.getElem?_set_ne (Ne.symm n2)] at hv
    exact N.env.ne j k s t u v jk hs ht hu hv
  · obtain ⟨n1, h1⟩ := back h1
    rw [List.getElem?_set_ne (Ne.symm n1)] at h2
    exact N.ow j s v a h1 h2 h3
  · have ne : j ≠ i := fun e => npin l (by rw [← e]; exact h)
    rw [List.getElem?_set_ne (Ne.symm ne), List.getElem?_set_ne (Ne.symm ne)]
    exact N.pn j l h
/-- a slot's value is not looked at: what it holds is of no account -/
theorem Now.hide {i : Nat} (N : Now C B A H σ ρ) (hf : freeS ρ i = true) : Now C B A H σ (ρ.set i none) := by
  have back : ∀ {j : Nat} {s : SV}, (ρ.set i none)[j]? = some (some s) → j ≠ i ∧ ρ[j]? = some (some s) := fun {j s} h => by
    rcases getset h with ⟨_, e2, _⟩ | ⟨n1, h⟩
    · cases e2
    · exact ⟨n1, h⟩
  have npin := N.npin hf
  refine ⟨⟨by simp [N.env.len], fun j s h => N.env.sl j s (back h).2, fun j k s t u v jk hs ht hu hv => N.env.ne j k s t u v jk (back hs).2 (back ht).2 hu hv⟩, N.fr, N.f0, N.nz, N.le, N.kp, N.tb, N.fe, fun j s v a h1 h2 h3 => N.ow j s v a (back h1).2 h2 h3, fun j l h => ?_⟩
  have ne : j ≠ i := fun e => npin l (by rw [← e]; exact h)
  rw [List.getElem?_set_ne (Ne.symm ne)]
  exact N.pn j l h
/-- a new object, out of the region from now on -/
theorem Now.cut {p : Addr} {o : HO} (N : Now C B A H σ ρ) (hp : H p = none) (hno : NT o) : Now C B (A.less p) (upd H p o) σ ρ := by
  have N' := N.new (o := o) hp
  refine N.frame (fun a u _ n h => ⟨⟨n, ne_of_none h hp⟩, same_new hp a u h⟩) (fun a h => ?_) (fun q h => ?_) (fun a h => N.le a h.1) N'.kp N'.tb N'.fe
  · obtain ⟨n, u, h1, h2⟩ := N.own h
    exact ⟨by rw [h1]; exact same_new hp a u h1, fun z => n z.1⟩
  · have e : q ≠ p := fun z => by rw [z] at h; exact h.no upd_same hno
    exact ⟨N.fr q (fun u z => h u (by rw [upd_ne e]; exact z)), e⟩
/-- an own value changes -/
theorem Now.change {i : Nat} {v : V} {s s' : SV} (N : Now C B A H σ ρ) (hs : ρ[i]? = some (some s)) (hσ : σ[i]? = some (some v)) (keep : ∀ a o, NT o → H a = some o → a ∉ flS H v s → H' a = some o) (fe : ∀ a, Fz H' a → Fz H a) (tb : LamX.Tabs C.T H')
    (r : slr C A H' v s') (ow : s'.own = s.own) (pin : s'.pin = s.pin) (sub : ∀ a ∈ flS H' v s', a ∈ flS H v s ∨ Fz H a) : Now C B A H' σ (ρ.set i (some s')) ∧ Gd σ A H ρ H' (ρ.set i (some s')) := by
  have hi : i < ρ.length := (List.getElem?_eq_some_iff.mp hs).1
  have g : Gr A H A H' := fun a u t n h => ⟨n, keep a u t h fun z => (N.own ⟨i, s, v, hs, hσ, z⟩).1 n⟩
  have oth : ∀ (j : Nat) (t : SV) (w : V), j ≠ i → ρ[j]? = some (some t) → σ[j]? = some (some w) → slr C A H' w t ∧ flS H' w t = flS H w t := fun j t w n h1 h2 => by
    obtain ⟨w', k1, k2⟩ := N.env.sl j t h1
    rw [h2] at k1; cases k1
    refine slr.frame g (fun a ha => ?_) k2
    obtain ⟨na, u, e1, e2⟩ := N.own ⟨j, t, w, h1, h2, ha⟩
    exact ⟨by rw [e1]; exact keep a u e2.1 e1 fun z => N.env.ne j i t s w v n h1 hs h2 hσ a ha z, na⟩
  have bs : ∀ {j : Nat} {t : SV} {w : V}, (ρ.set i (some s'))[j]? = some (some t) → σ[j]? = some (some w) → (j = i ∧ t = s' ∧ w = v) ∨ (j ≠ i ∧ ρ[j]? = some (some t)) := fun {j t w} h1 h2 => by
    rcases getset h1 with ⟨e, e2, _⟩ | ⟨n, h1⟩
    · subst e; cases e2
      rw [hσ] at h2; cases h2
      exact .inl ⟨rfl, rfl, rfl⟩
    · exact .inr ⟨n, h1⟩
  have cross : ∀ (j : Nat) (t : SV) (w : V), j ≠ i → ρ[j]? = some (some t) → σ[j]? = some (some w) → ∀ a ∈ flS H' v s', a ∉ flS H' w t := fun j t w n h1 h2 a ha hb => by
    rw [(oth j t w n h1 h2).2] at hb
    rcases sub a ha with z | z
    · exact N.env.ne j i t s w v n h1 hs h2 hσ a hb z
    · obtain ⟨_, u, e1, e2⟩ := N.own ⟨j, t, w, h1, h2, hb⟩
      exact z.no e1 e2.1
  refine ⟨⟨⟨by simp [N.env.len], fun j t h => ?_, fun j k t u a b jk ht hu ha hb => ?_⟩, fun q h => N.fr q (fe q h), N.f0, N.nz, N.le, fun a o t z h => ?_, tb, fun a h => N.fe a (fe a h), fun j t w a h1 h2 h3 => ?_, fun j l h => ?_⟩, ⟨g, fun a ⟨j, t, w, h1, h2, h3⟩ => ?_, fun a o t h n => keep a o t h fun z => n ⟨i, s, v, hs, hσ, z⟩, fe⟩⟩
  · rcases getset h with ⟨e, e2, _⟩ | ⟨n, h⟩
    · subst e; cases e2
      exact ⟨v, hσ, r⟩
    · obtain ⟨w, h1, h2⟩ := N.env.sl j t h
      exact ⟨w, h1, (oth j t w n h h1).1⟩
  · rcases bs ht ha with ⟨e1, e2, e3⟩ | ⟨n1, q1⟩
    · subst e1 e2 e3
      rcases bs hu hb with ⟨e1, e2, e3⟩ | ⟨n2, q2⟩
      · exact absurd e1.symm jk
      · exact cross k u b n2 q2 hb
    · rcases bs hu hb with ⟨e1, e2, e3⟩ | ⟨n2, q2⟩
      · subst e1 e2 e3
        exact fun p hp hp2 => cross j t a n1 q1 ha p hp2 hp
      · rw [(oth j t a n1 q1 ha).2, (oth k u b n2 q2 hb).2]
        exact N.env.ne j k t u a b jk q1 q2 ha hb
  · refine keep a o t (N.kp a o t z h) fun q => ?_
    rcases N.ow i s v a hs hσ q with w | ⟨w, _⟩
    · exact w.no h t
    · exact z w
  · rcases bs h1 h2 with ⟨e1, e2, e3⟩ | ⟨n1, q1⟩
    · subst e1 e2 e3
      rcases sub a h3 with z | z
      · rw [pin]; exact N.ow j s w a hs hσ z
      · exact .inl (N.fe a z)
    · rw [(oth j t w n1 q1 h2).2] at h3
      exact N.ow j t w a q1 h2 h3
  · obtain ⟨h1, t, h2, h3, h4⟩ := N.pn j l h
    refine ⟨h1, ?_⟩
    by_cases e : j = i
    · subst e
      rw [hs] at h2; cases h2
      exact ⟨s', List.getElem?_set_self hi, by rw [ow]; exact h3, by rw [pin]; exact h4⟩
    · exact ⟨t, by rw [List.getElem?_set_ne (Ne.symm e)]; exact h2, h3, h4⟩
  · rcases bs h1 h2 with ⟨e1, e2, e3⟩ | ⟨n1, q1⟩
    · subst e1 e2 e3
      rcases sub a h3 with z | z
      · exact .inl ⟨j, s, w, hs, hσ, z⟩
      · exact .inr z
    · rw [(oth j t w n1 q1 h2).2] at h3
      exact .inl ⟨j, t, w, q1, h2, h3⟩
/-- an own object changes -/
theorem Now.put {i : Nat} {l : Addr} {v : V} {s s' : SV} {o : HO} (N : Now C B A H σ ρ) (hs : ρ[i]? = some (some s)) (hσ : σ[i]? = some (some v)) (hl : l ∈ flS H v s) (hno : NT o) (ow : s'.own = s.own) (pin : s'.pin = s.pin)
    (r : slr C A (upd H l o) v s') (sub : flS (upd H l o) v s' = flS H v s) : Now C B A (upd H l o) σ (ρ.set i (some s')) ∧ Gd σ A H ρ (upd H l o) (ρ.set i (some s')) := by
  obtain ⟨_, u, e1, e2⟩ := N.own ⟨i, s, v, hs, hσ, hl⟩
  refine N.change hs hσ (fun a o t h n => by rw [upd_ne (fun z => n (by rw [z]; exact hl))]; exact h) (fun a h => ?_) (tabs_put N.tb e1 e2.1 e2.2.1) r ow pin (fun a ha => .inl (by rw [sub] at ha; exact ha))
  have e : a ≠ l := fun z => by rw [z] at h; exact h.no upd_same hno
  exact fun u z => h u (by rw [upd_ne e]; exact z)
/-- an own value is given away: it joins the region -/
theorem Now.melt {i : Nat} {v : V} {x : Val} (N : Now C B A H σ ρ) (hs : ρ[i]? = some (some (.ob false x))) (hσ : σ[i]? = some (some v)) : Now C B (moreL A (fl H v x)) H σ (ρ.set i (some (.fz x.melt))) := by
  have h0 : ∀ a ∈ fl H v x, Fz B.H0 a := fun a ha => by
    rcases N.ow i _ v a hs hσ ha with h | ⟨_, h⟩
    · exact h
    · cases h
  have hi : i < ρ.length := (List.getElem?_eq_some_iff.mp hs).1
  obtain ⟨v', e1, o1, r1, n1, d1⟩ := N.env.sl i _ hs
  rw [hσ] at e1; cases e1
  have oth : ∀ (j : Nat) (t : SV) (w : V), j ≠ i → ρ[j]? = some (some t) → σ[j]? = some (some w) → slr C (moreL A (fl H v x)) H w t := fun j t w n h1 h2 => by
    obtain ⟨w', k1, k2⟩ := N.env.sl j t h1
    rw [h2] at k1; cases k1
    refine (slr.frame gr_moreL (fun a ha => ⟨rfl, fun z => ?_⟩) k2).1
    rcases z with z | z
    · exact (N.own ⟨j, t, w, h1, h2, ha⟩).1 z
    · exact N.env.ne j i t _ w v n h1 hs h2 hσ a ha z
  refine ⟨⟨by simp [N.env.len], fun j t h => ?_, fun j k t u a b jk ht hu ha hb => ?_⟩, fun q h => .inl (N.fr q h), N.f0, N.nz, fun a h => ?_, N.kp, N.tb, N.fe, fun j t w a h1 h2 h3 => ?_, fun j l h => ?_⟩
  · rcases getset h with ⟨e, e2, _⟩ | ⟨n, h⟩
    · subst e; cases e2
      exact ⟨v, hσ, ro.melt gr_moreL r1 fun a ha => .inr ha⟩
    · obtain ⟨w, h1, h2⟩ := N.env.sl j t h
      exact ⟨w, h1, oth j t w n h h1⟩
  · rcases getset ht with ⟨_, e2, _⟩ | ⟨n1, ht⟩
    · cases e2; exact fun _ z => nomatch z
    rcases getset hu with ⟨_, e2, _⟩ | ⟨n2, hu⟩
    · cases e2; exact fun _ _ z => nomatch z
    exact N.env.ne j k t u a b jk ht hu ha hb
  · rcases h with h | h
    · exact N.le a h
    · exact N.f0 a (h0 a h)
  · rcases getset h1 with ⟨_, e2, _⟩ | ⟨n1, h1⟩
    · cases e2; cases h3
    exact N.ow j t w a h1 h2 h3
  · obtain ⟨h1, t, h2, h3, h4⟩ := N.pn j l h
    have ne : j ≠ i := fun e => by
      subst e
      rw [hs] at h2; cases h2; cases h4
    exact ⟨h1, t, by rw [List.getElem?_set_ne (Ne.symm ne)]; exact h2, h3, h4⟩
end
/-! ### statements -/
abbrev MS := En → Rs Out
def nextS : MS := fun ρ => .ok (.nx ρ)
def seqS (a b : MS) : MS := fun ρ => a ρ >>= fun o => match o with | .nx ρ' => b ρ' | .rt x ρ' => .ok (.rt x ρ') | .bk ρ' => .ok (.bk ρ') | .ct ρ' => .ok (.ct ρ')
def asgS (i : Nat) (m : ME) : MS := fun ρ => m ρ >>= fun x => if freeS x.2 i = true then .ok (.nx (x.2.set i (some (.fz x.1)))) else .bad
def retS (m : ME) : MS := fun ρ => m ρ >>= fun x => .ok (.rt x.1 x.2)
def dropS (m : ME) : MS := fun ρ => m ρ >>= fun x => .ok (.nx x.2)
def ifS (c : MB) (a b : MS) : MS := fun ρ => c ρ >>= fun k => if k.1 = true then a k.2 else b k.2
def meltS (i : Nat) (k : MS) : MS := fun ρ => match ρ[i]? with | some (some (.ob false x)) => k (ρ.set i (some (.fz x.melt))) | _ => .bad
section
variable {X : Cx} {C : Cn} {E : XK} {e a b : Expr} {ma mb : ME} {ms mk : MS} {es : List Expr} {ml : MA} {pos : Pos} {st : Stmt} {rest : List Stmt}
theorem Out.at_gr {C : Cn} {B : Bs} {A A1 : Rg} {H H1 : Hp} {D : Ends} {o : Out} (g : Gr A H A1 H1) (h : Out.at C B A H D o) : Out.at C B A1 H1 D o := by
  cases o with
  | nx ρ => exact fun A' σ' H' N g' => h A' σ' H' N (g.trans g')
  | rt x ρ => exact fun v A' σ' H' N g' r => h v A' σ' H' N (g.trans g') r
  | bk ρ => exact fun A' σ' H' N g' => h A' σ' H' N (g.trans g')
  | ct ρ => exact fun A' σ' H' N g' => h A' σ' H' N (g.trans g')
theorem ys_nil : PSs X [] (SS C E nextS) := PSs.imp pss_nil fun D σ H ⟨B, A, ρ, N, hm⟩ => hm A σ H N (.refl _ _)
theorem ys_pass : PS X (.Pass pos) (SS C E nextS) := PS.imp ps_pass fun D σ H ⟨B, A, ρ, N, hm⟩ => hm A σ H N (.refl _ _)
theorem ys_cons (h1 : PS X st (SS C E ms)) (h2 : PSs X rest (SS C E mk)) : PSs X (st :: rest) (SS C E (seqS ms mk)) := PSs.imp (pss_cons h1 h2) fun D σ H ⟨B, A, ρ, N, hm⟩ =>
  ⟨B, A, ρ, N, Rs.wp_mono (Rs.wp_bind hm) (fun o ho => by
    cases o with
    | nx ρ' => exact fun A' σ' H' N' g' => ⟨B, A', ρ', N', Rs.wp_mono ho (fun o h => Out.at_gr g' h) fun _ _ _ _ h => h⟩
    | rt x ρ' => exact ho
    | bk ρ' => exact ho
    | ct ρ' => exact ho) fun _ _ _ _ h => h⟩
theorem ys_one (h1 : PS X st (SS C E ms)) : PSs X [st] (SS C E ms) := pss_one h1
theorem ys_asg {i : Nat} {st : Stmt} (h : PS X st (tAsg (SE C E ma) (gName i))) : PS X st (SS C E (asgS i ma)) := PS.imp h fun D σ H ⟨B, A, ρ, N, hm⟩ =>
  ⟨B, A, ρ, N, Rs.wp_mono (Rs.wp_bind hm) (fun x hx v H1 N1 g1 r1 => by
    obtain ⟨hf, hx⟩ := ite_bad hx
    exact hx A _ H1 (N1.set hf r1) g1.g) EXe.of⟩
theorem ys_ret (he : PE X e (SE C E ma)) : PS X (.Return (some e) pos) (SS C E (retS ma)) := PS.imp (ps_ret he) fun D σ H ⟨B, A, ρ, N, hm⟩ =>
  ⟨B, A, ρ, N, Rs.wp_mono (Rs.wp_bind hm) (fun x hx v H1 N1 g1 r1 => hx v A σ H1 N1 g1.g r1) EXe.of⟩
theorem ys_retN : PS X (.Return none pos) (SS C E (retS (cstM .non))) := PS.imp ps_retN fun D σ H ⟨B, A, ρ, N, hm⟩ => hm .non A σ H N (.refl _ _) (rep_non.mpr rfl)
theorem ys_drop {st : Stmt} (h : PS X st (tDrop (SE C E ma))) : PS X st (SS C E (dropS ma)) := PS.imp h fun D σ H ⟨B, A, ρ, N, hm⟩ =>
  ⟨B, A, ρ, N, Rs.wp_mono (Rs.wp_bind hm) (fun x hx v H1 N1 g1 r1 => hx A σ H1 N1 g1.g) EXe.of⟩
theorem ys_if {c : Expr} {xs ys : List Stmt} {mc : MB} (hc : PT X c (SB C E mc)) (ha : PSs X xs (SS C E ms)) (hb : PSs X ys (SS C E mk)) : PS X (.If c xs ys pos) (SS C E (ifS mc ms mk)) := PS.imp (ps_if hc ha hb) fun D σ H ⟨B, A, ρ, N, hm⟩ =>
  ⟨B, A, ρ, N, Rs.wp_mono (Rs.wp_bind hm) (fun x hx H1 N1 g1 => by
    by_cases h : x.1 = true
    · rw [if_pos h] at hx ⊢
      exact ⟨B, A, x.2, N1, Rs.wp_mono hx (fun o h => Out.at_gr g1.g h) fun _ _ _ _ h => h⟩
    · rw [if_neg h] at hx ⊢
      exact ⟨B, A, x.2, N1, Rs.wp_mono hx (fun o h => Out.at_gr g1.g h) fun _ _ _ _ h => h⟩) EXe.of⟩
/-- nothing is done: the own value of a slot is given away ahead of the statements -/
theorem ys_melt {i : Nat} {xs : List Stmt} (h : PSs X xs (SS C E ms)) : PSs X xs (SS C E (meltS i ms)) := PSs.imp h fun D σ H ⟨B, A, ρ, N, hm⟩ => by
  unfold meltS at hm
  split at hm
  · rename_i x hy
    obtain ⟨v, h1, _⟩ := N.slot hy
    exact ⟨B, _, _, N.melt hy h1, Rs.wp_mono hm (fun o h => Out.at_gr gr_moreL h) fun _ _ _ _ h => h⟩
  · exact hm.elim
end
end Y

set_option Elab.async false
set_option linter.all false
set_option maxRecDepth 100000
set_option maxHeartbeats 4000000
set_option autoImplicit false
/-! W5: what is walked, targets, for, while, comprehensions. -/
namespace Y
open PySem L2 Z
/-! ### what is walked -/
abbrev MI := En → Rs (List Val × En)
def Wk (C : Cn) (A : Rg) (J : It) (H : Hp) (xs : List Val) : Prop := ∀ A' H', Gr A H A' H' → Fq A' H' → (∀ (i : Nat) (x : Val), xs[i]? = some x → J.go i H' ∧ ∀ v H2, J.yld i H' v H2 → Same H' H2 ∧ rep C A' H2 v x) ∧ J.stop xs.length H'
def SI (C : Cn) (E : XK) (m : MI) : TI := fun σ H R => ∃ B A ρ, Now C B A H σ ρ ∧ (m ρ).wp (fun x => ∀ J H', Now C B A H' σ x.2 → Gd σ A H ρ H' x.2 → Wk C A J H' x.1 → R J H') (EXe C E B A H σ ρ)
/-- a value that is walked as it stands -/
def seqV : Val → Option (List Val) | .lst xs => some xs | .tup xs => some xs | _ => none
def walkM (f : Val → Option (List Val)) (m : ME) : MI := fun ρ => m ρ >>= fun x => Rs.opt (f x.1) >>= fun xs => .ok (xs, x.2)
def lstV : Val → Option (List Val) | .lst xs => some xs | _ => none
def tuppV : Val → Option (List Val) | .tup xs => some xs | _ => none
section
variable {X : Cx} {C : Cn} {E : XK} {e a b tg : Expr} {ma mb : ME} {ms mk : MS} {mi : MI} {es : List Expr} {ml : MA} {pos : Pos}
theorem wk_list {A : Rg} {H : Hp} {a : Addr} {vs : List V} {xs : List Val} (n : A a) (h : H a = some (.lst vs)) (r : reps C A H vs xs) : Wk C A (Itl C.K a) H xs := fun A' H' g _ => by
  have h' : SqL C.K H' a vs := SqL.of (g a _ nt n h).2
  have r' := (reps.gr g r).pair
  refine ⟨fun i x hx => ?_, ⟨vs, h', by rw [r.len]; exact Nat.le_refl _⟩⟩
  obtain ⟨v, hv, rv⟩ := paired_at' r' hx
  refine ⟨⟨vs, v, h', hv⟩, fun v2 H2 ⟨e2, k⟩ => ?_⟩
  subst e2
  have hv2 := k vs h'
  rw [hv] at hv2
  cases hv2
  exact ⟨Same.refl _, rv⟩
where paired_at' {A' : Rg} {H' : Hp} : ∀ {vs : List V} {xs : List Val} {j : Nat} {x : Val}, Paired (rep C A' H') vs xs → xs[j]? = some x → ∃ v, vs[j]? = some v ∧ rep C A' H' v x
  | _, _, _, _, .nil, e => by simp at e
  | _, _, 0, _, .cons r _, e => by simp at e; subst e; exact ⟨_, rfl, r⟩
  | _, _, j + 1, x, .cons _ t, e => by
    obtain ⟨v, h1, h2⟩ := paired_at' (j := j) (x := x) t (by simpa using e)
    exact ⟨v, by simpa using h1, h2⟩
theorem wk_tup {A : Rg} {H : Hp} {a : Addr} {vs : List V} {xs : List Val} (h : TupAt C.K A H a vs) (r : reps C A H vs xs) : Wk C A (Itt C.K a) H xs := fun A' H' g _ => by
  have h' : SqT C.K H' a vs := (TupAt.gr g h).sq
  have r' := (reps.gr g r).pair
  refine ⟨fun i x hx => ?_, ⟨vs, h', by rw [r.len]; exact Nat.le_refl _⟩⟩
  obtain ⟨v, hv, rv⟩ := wk_list.paired_at' r' hx
  refine ⟨⟨vs, v, h', hv⟩, fun v2 H2 ⟨e2, k⟩ => ?_⟩
  subst e2
  have hv2 := k vs h'
  rw [hv] at hv2
  cases hv2
  exact ⟨Same.refl _, rv⟩
theorem yi_list (hK : X.K = C.K) (h : PE X e (SE C E ma)) : PI X tg e (SI C E (walkM lstV ma)) := PI.imp (pi_list h) fun σ H R ⟨B, A, ρ, N, hm⟩ =>
  ⟨B, A, ρ, N, Rs.wp_mono (Rs.wp_bind hm) (fun x hx v H1 N1 g1 r1 => by
    obtain ⟨xs, e, hz⟩ := Rs.wp_opt (Rs.wp_bind hx)
    rw [hK]
    unfold lstV at e
    split at e
    · rename_i q
      cases e
      rw [q] at r1
      obtain ⟨a, vs, rfl, n, h, r⟩ := rep_lst.mp r1
      exact ⟨a, rfl, ⟨vs, SqL.of h⟩, hz _ H1 N1 g1 (wk_list n h r)⟩
    · cases e) fun _ _ _ _ h => h⟩
theorem yi_tup (hK : X.K = C.K) (h : PE X e (SE C E ma)) : PI X tg e (SI C E (walkM tuppV ma)) := PI.imp (pi_tup h) fun σ H R ⟨B, A, ρ, N, hm⟩ =>
  ⟨B, A, ρ, N, Rs.wp_mono (Rs.wp_bind hm) (fun x hx v H1 N1 g1 r1 => by
    obtain ⟨xs, e, hz⟩ := Rs.wp_opt (Rs.wp_bind hx)
    rw [hK]
    unfold tuppV at e
    split at e
    · rename_i q
      cases e
      rw [q] at r1
      obtain ⟨a, vs, rfl, h, r⟩ := rep_tup.mp r1
      exact ⟨a, rfl, ⟨vs, h.sq⟩, hz _ H1 N1 g1 (wk_tup h r)⟩
    · cases e) fun _ _ _ _ h => h⟩
/-- range -/
def iota (lo : Int) : Nat → List Val
  | 0 => []
  | n + 1 => .int lo :: iota (lo + 1) n
theorem iota_length (lo : Int) : ∀ n, (iota lo n).length = n
  | 0 => rfl
  | n + 1 => by show (iota (lo + 1) n).length + 1 = n + 1; rw [iota_length]
theorem iota_get : ∀ (n : Nat) (lo : Int) (i : Nat), i < n → (iota lo n)[i]? = some (.int (lo + (i : Int)))
  | 0, _, _, h => absurd h (Nat.not_lt_zero _)
  | n + 1, lo, 0, _ => by show some (Val.int lo) = _; simp
  | n + 1, lo, i + 1, h => by
    show (iota (lo + 1) n)[i]? = _
    rw [iota_get n (lo + 1) i (by omega)]
    congr 2
    omega
theorem wk_rng {A : Rg} {H : Hp} (lo : Int) (m : Nat) : Wk C A (Itr lo m) H (iota lo m) := fun A' H' g _ => by
  refine ⟨fun i x hx => ?_, by show m ≤ _; rw [iota_length]; exact Nat.le_refl _⟩
  have hi : i < m := by
    have := (List.getElem?_eq_some_iff.mp hx).1
    rw [iota_length] at this
    exact this
  rw [iota_get m lo i hi] at hx
  cases hx
  refine ⟨hi, fun v2 H2 ⟨e2, k⟩ => ?_⟩
  subst e2
  exact ⟨Same.refl _, rep_int.mpr k⟩
def rng1M (a : MA) : MI := fun ρ => a ρ >>= fun x => match x.1 with | [.int j] => if -(2 ^ 62) ≤ j ∧ j < 2 ^ 62 then .ok (iota 0 j.toNat, x.2) else .bad | _ => .bad
def rng2M (a : MA) : MI := fun ρ => a ρ >>= fun x => match x.1 with | [.int i, .int j] => if -(2 ^ 62) ≤ i ∧ i < 2 ^ 62 ∧ -(2 ^ 62) ≤ j ∧ j < 2 ^ 62 then .ok (iota i (j - i).toNat, x.2) else .bad | _ => .bad
theorem reps1 {A : Rg} {H : Hp} {vs : List V} {x : Val} (h : reps C A H vs [x]) : ∃ v, vs = [v] ∧ rep C A H v x := by
  unfold reps at h
  obtain ⟨v, r, e, h1, h2⟩ := h
  unfold reps at h2
  subst h2
  exact ⟨v, e, h1⟩
theorem reps2 {A : Rg} {H : Hp} {vs : List V} {x y : Val} (h : reps C A H vs [x, y]) : ∃ v u, vs = [v, u] ∧ rep C A H v x ∧ rep C A H u y := by
  unfold reps at h
  obtain ⟨v, r, e, h1, h2⟩ := h
  obtain ⟨u, rfl, h3⟩ := reps1 h2
  exact ⟨v, u, e, h1, h3⟩
theorem yi_rng1 (h : PI X tg e (iRng1 (SA C E ml))) : PI X tg e (SI C E (rng1M ml)) := PI.imp h fun σ H R ⟨B, A, ρ, N, hm⟩ =>
  ⟨B, A, ρ, N, Rs.wp_mono (Rs.wp_bind hm) (fun x hx vs H1 N1 g1 r1 => by
    split at hx
    · rename_i j q
      obtain ⟨hb, hx⟩ := ite_bad hx
      rw [q] at r1
      obtain ⟨v, rfl, rv⟩ := reps1 r1
      exact ⟨j, by rw [rep_int.mp rv], hb.1, hb.2, hx _ H1 N1 g1 (wk_rng 0 _)⟩
    · exact hx.elim) fun _ _ _ _ h => h⟩
theorem yi_rng2 (h : PI X tg e (iRng2 (SA C E ml))) : PI X tg e (SI C E (rng2M ml)) := PI.imp h fun σ H R ⟨B, A, ρ, N, hm⟩ =>
  ⟨B, A, ρ, N, Rs.wp_mono (Rs.wp_bind hm) (fun x hx vs H1 N1 g1 r1 => by
    split at hx
    · rename_i i j q
      obtain ⟨hb, hx⟩ := ite_bad hx
      rw [q] at r1
      obtain ⟨v, u, rfl, rv, ru⟩ := reps2 r1
      exact ⟨i, j, by rw [rep_int.mp rv, rep_int.mp ru], hb, hx _ H1 N1 g1 (wk_rng i _)⟩
    · exact hx.elim) fun _ _ _ _ h => h⟩
/-! ### targets -/
abbrev MT := Val → En → Option En
def nameT (i : Nat) : MT := fun x ρ => if freeS ρ i = true then some (ρ.set i (some (.fz x))) else none
abbrev MTs := List Val → En → Option En
def nilT : MTs := fun xs ρ => match xs with | [] => some ρ | _ => none
def consT (t : MT) (u : MTs) : MTs := fun xs ρ => match xs with | x :: r => (t x ρ).bind (u r) | [] => none
def tupT (n : Nat) (u : MTs) : MT := fun x ρ => match x with | .tup xs => if xs.length = n then u xs ρ else none | _ => none
/-- only these slots are stored -/
structure Off (is : List Nat) (σ σ' : L2.St) (ρ ρ' : En) : Prop where
  len : σ'.length = σ.length
  out : ∀ j, j ∉ is → σ'[j]? = σ[j]?
  ow : ∀ (j : Nat) (p : Bool) (x : Val), ρ'[j]? = some (some (.ob p x)) → j ∉ is ∧ ρ[j]? = some (some (.ob p x))
theorem Off.own {is : List Nat} {σ σ' : L2.St} {ρ ρ' : En} (o : Off is σ σ' ρ ρ') {H : Hp} {a : Addr} (h : OwnAt H σ' ρ' a) : OwnAt H σ ρ a := by
  obtain ⟨j, s, v, h1, h2, h3⟩ := h
  cases s with
  | fz x => cases h3
  | ob p x =>
    obtain ⟨n, k⟩ := o.ow j p x h1
    exact ⟨j, _, v, k, by rw [← o.out j n]; exact h2, h3⟩
def SG (C : Cn) (is : List Nat) (t : MT) : TG := fun v σ H Q => ∃ B A ρ x ρ', Now C B A H σ ρ ∧ rep C A H v x ∧ t x ρ = some ρ' ∧ ∀ σ', Now C B A H σ' ρ' → Off is σ σ' ρ ρ' → Q σ' H
def SGs (C : Cn) (is : List Nat) (t : MTs) : TGs := fun vs σ H Q => ∃ B A ρ xs ρ', Now C B A H σ ρ ∧ reps C A H vs xs ∧ t xs ρ = some ρ' ∧ ∀ σ', Now C B A H σ' ρ' → Off is σ σ' ρ ρ' → Q σ' H
theorem PG.imp {t t' : TG} (h : PG X tg t) (k : ∀ v σ H Q, t' v σ H Q → t v σ H Q) : PG X tg t' := ⟨fun pins s σ H x v Q I r q => h.run pins s σ H x v Q I r (k _ _ _ _ q)⟩
theorem PGs.imp {ts : List Expr} {t t' : TGs} (h : PGs X ts t) (k : ∀ v σ H Q, t' v σ H Q → t v σ H Q) : PGs X ts t' := ⟨fun pins s σ H x v Q I r q => h.run pins s σ H x v Q I r (k _ _ _ _ q)⟩
theorem yg_name {i : Nat} (h : PG X tg (gName i)) : PG X tg (SG C [i] (nameT i)) := PG.imp h fun v σ H Q ⟨B, A, ρ, x, ρ', N, r, e, k⟩ => by
  unfold nameT at e
  split at e
  · cases e
    refine k _ (N.set (by assumption) r) ⟨by simp, fun j hj => List.getElem?_set_ne (fun z => hj (by simp [z])), fun j p x h => ?_⟩
    rcases getset h with ⟨_, e2, _⟩ | ⟨n, h⟩
    · cases e2
    · exact ⟨fun z => n (by simpa using z), h⟩
  · cases e
theorem ygs_nil : PGs X [] (SGs C [] nilT) := PGs.imp pgs_nil fun vs σ H Q ⟨B, A, ρ, xs, ρ', N, r, e, k⟩ => by
  unfold nilT at e
  split at e
  · cases e
    unfold reps at r
    exact ⟨r, k _ N ⟨rfl, fun _ _ => rfl, fun _ _ _ h => ⟨(fun z => nomatch z), h⟩⟩⟩
  · cases e
theorem ygs_cons {t : MT} {u : MTs} {is js : List Nat} (h1 : PG X e (SG C is t)) (h2 : PGs X es (SGs C js u)) (pc : ∀ {t : TG} {u : TGs}, PG X e t → PGs X es u → PGs X (e :: es) (gCons t u)) : PGs X (e :: es) (SGs C (is ++ js) (consT t u)) := PGs.imp (pc h1 h2) fun vs σ H Q ⟨B, A, ρ, xs, ρ', N, r, e, k⟩ => by
  unfold consT at e
  split at e
  · rename_i x r'
    unfold reps at r
    obtain ⟨v, rs, ev, r1, r2⟩ := r
    cases e1 : t x ρ with
    | none => rw [e1] at e; cases e
    | some ρ1 =>
      rw [e1] at e
      exact ⟨v, rs, ev, B, A, ρ, x, ρ1, N, r1, e1, fun σ1 N1 o1 => ⟨B, A, ρ1, _, ρ', N1, r2, e, fun σ2 N2 o2 => k σ2 N2 ⟨o2.len.trans o1.len, fun j hj => by
        rw [List.mem_append, not_or] at hj
        rw [o2.out j hj.2, o1.out j hj.1], fun j p x h => by
        obtain ⟨n2, h2⟩ := o2.ow j p x h
        obtain ⟨n1, h1⟩ := o1.ow j p x h2
        exact ⟨fun z => (List.mem_append.mp z).elim n1 n2, h1⟩⟩⟩⟩
  · cases e
theorem yg_tup {n : Nat} {u : MTs} {is : List Nat} (hK : X.K = C.K) (h : PG X tg (gTup X.K n (SGs C is u))) : PG X tg (SG C is (tupT n u)) := PG.imp h fun v σ H Q ⟨B, A, ρ, x, ρ', N, r, e, k⟩ => by
  unfold tupT at e
  split at e
  · rename_i xs
    split at e
    · rename_i hl
      obtain ⟨a, vs, rfl, h, rs⟩ := rep_tup.mp r
      exact ⟨a, vs, rfl, by rw [hK]; exact h.sq, by rw [rs.len]; exact hl, B, A, ρ, xs, ρ', N, rs, e, k⟩
    · cases e
  · cases e
/-! ### for -/
def forL (t : MT) (body : MS) : List Val → MS
  | [], ρ => .ok (.nx ρ)
  | x :: xs, ρ => Rs.opt (t x ρ) >>= fun ρ1 => body ρ1 >>= fun o => match o with
    | .nx ρ2 => forL t body xs ρ2
    | .ct ρ2 => forL t body xs ρ2
    | .bk ρ2 => .ok (.nx ρ2)
    | .rt y ρ2 => .ok (.rt y ρ2)
def forS (mi : MI) (t : MT) (body : MS) : MS := fun ρ => mi ρ >>= fun x => forL t body x.1 x.2
theorem ys_for {t : MT} {is : List Nat} {st : Stmt} (h : PS X st (tFor (SI C E mi) (SG C is t) (SS C E ms))) : PS X st (SS C E (forS mi t ms)) := PS.imp h fun D σ H ⟨B, A, ρ, N, hm⟩ =>
  ⟨B, A, ρ, N, Rs.wp_mono (Rs.wp_bind hm) (fun x hx J H1 N1 g1 wk => by
    refine ⟨fun i m σ' H' => ∃ A' ρ', Now C B A' H' σ' ρ' ∧ Gr A H1 A' H' ∧ m = x.1.length - i ∧ i ≤ x.1.length ∧ (forL t ms (x.1.drop i) ρ').wp (Out.at C B A' H' D) (EX C E B), ⟨x.1.length, A, x.2, N1, .refl _ _, by simp, Nat.zero_le _, ?_⟩, ?_⟩
    · rw [List.drop_zero]
      exact Rs.wp_mono hx (fun o h => Out.at_gr g1.g h) fun _ _ _ _ h => h
    · rintro i m σ' H' ⟨A', ρ', N', g', rfl, hi, hw⟩
      obtain ⟨w1, w2⟩ := wk A' H' g' N'.fr
      by_cases hlt : i < x.1.length
      · obtain ⟨go, yl⟩ := w1 i x.1[i] (by simp [hlt])
        refine .inr ⟨go, fun σ2 H2 => ∃ A2 ρ2, Now C B A2 H2 σ2 ρ2 ∧ Gr A H1 A2 H2 ∧ (forL t ms (x.1.drop (i + 1)) ρ2).wp (Out.at C B A2 H2 D) (EX C E B), fun σ2 H2 ⟨A2, ρ2, n, g, w⟩ => ⟨x.1.length - (i + 1), by omega, A2, ρ2, n, g, rfl, hlt, w⟩, fun v H2 hy => ?_⟩
        obtain ⟨s2, rv⟩ := yl v H2 hy
        have N2 := N'.same s2
        rw [List.drop_eq_getElem_cons hlt] at hw
        unfold forL at hw
        obtain ⟨ρ1, e1, hb⟩ := Rs.wp_opt (Rs.wp_bind hw)
        refine ⟨B, A', ρ', x.1[i], ρ1, N2, rv, e1, fun σ3 N3 _ => ⟨B, A', ρ1, N3, Rs.wp_mono (Rs.wp_bind hb) (fun o ho => ?_) fun _ _ _ _ h => h⟩⟩
        have gs : Gr A' H' A' H2 := .same s2
        cases o with
        | nx ρ2 => exact fun A4 σ4 H4 N4 g4 => ⟨A4, ρ2, N4, (g'.trans gs).trans g4, Rs.wp_mono ho (fun o h => Out.at_gr (gs.trans g4) h) fun _ _ _ _ h => h⟩
        | ct ρ2 => exact fun A4 σ4 H4 N4 g4 => ⟨A4, ρ2, N4, (g'.trans gs).trans g4, Rs.wp_mono ho (fun o h => Out.at_gr (gs.trans g4) h) fun _ _ _ _ h => h⟩
        | bk ρ2 => exact fun A4 σ4 H4 N4 g4 => ho A4 σ4 H4 N4 (gs.trans g4)
        | rt y ρ2 => exact fun v4 A4 σ4 H4 N4 g4 r4 => ho v4 A4 σ4 H4 N4 (gs.trans g4) r4
      · have e : i = x.1.length := by omega
        subst e
        rw [List.drop_length] at hw
        exact .inl ⟨w2, hw A' σ' H' N' (.refl _ _)⟩) EXe.of⟩
/-! ### while -/
def whileL (c : MB) (body : MS) : Nat → MS
  | 0, _ => .bad
  | n + 1, ρ => c ρ >>= fun k => if k.1 = true then body k.2 >>= fun o => match o with
      | .nx ρ2 => whileL c body n ρ2
      | .ct ρ2 => whileL c body n ρ2
      | .bk ρ2 => .ok (.nx ρ2)
      | .rt y ρ2 => .ok (.rt y ρ2)
    else .ok (.nx k.2)
theorem ys_while {mc : MB} {n : Nat} {st : Stmt} (h : PS X st (tWhile (SB C E mc) (SS C E ms))) : PS X st (SS C E (whileL mc ms n)) := PS.imp h fun D σ H ⟨B, A, ρ, N, hm⟩ => by
  refine ⟨fun m σ' H' => ∃ A' ρ', Now C B A' H' σ' ρ' ∧ (whileL mc ms m ρ').wp (Out.at C B A' H' D) (EX C E B), ⟨n, A, ρ, N, hm⟩, ?_⟩
  rintro m σ' H' ⟨A', ρ', N', hw⟩
  cases m with
  | zero => exact hw.elim
  | succ m =>
    unfold whileL at hw
    refine ⟨B, A', ρ', N', Rs.wp_mono (Rs.wp_bind hw) (fun k hk H2 N2 g2 => ?_) EXe.of⟩
    by_cases h : k.1 = true
    · rw [if_pos h] at hk ⊢
      refine ⟨fun σ3 H3 => ∃ A3 ρ3, Now C B A3 H3 σ3 ρ3 ∧ (whileL mc ms m ρ3).wp (Out.at C B A3 H3 D) (EX C E B), fun σ3 H3 q => ⟨m, Nat.lt_succ_self _, q⟩, B, A', k.2, N2, Rs.wp_mono (Rs.wp_bind hk) (fun o ho => ?_) fun _ _ _ _ h => h⟩
      cases o with
      | nx ρ2 => exact fun A4 σ4 H4 N4 g4 => ⟨A4, ρ2, N4, Rs.wp_mono ho (fun o h => Out.at_gr (g2.g.trans g4) h) fun _ _ _ _ h => h⟩
      | ct ρ2 => exact fun A4 σ4 H4 N4 g4 => ⟨A4, ρ2, N4, Rs.wp_mono ho (fun o h => Out.at_gr (g2.g.trans g4) h) fun _ _ _ _ h => h⟩
      | bk ρ2 => exact fun A4 σ4 H4 N4 g4 => ho A4 σ4 H4 N4 (g2.g.trans g4)
      | rt y ρ2 => exact fun v4 A4 σ4 H4 N4 g4 r4 => ho v4 A4 σ4 H4 N4 (g2.g.trans g4) r4
    · rw [if_neg h] at hk ⊢
      exact hk A' σ' H2 N2 g2.g
end
end Y

set_option Elab.async false
set_option linter.all false
set_option maxRecDepth 100000
set_option maxHeartbeats 4000000
set_option autoImplicit false
/-! W6: new values; comprehensions. -/
namespace Y
open PySem L2 Z
section
variable {C : Cn} {B : Bs} {A A' : Rg} {H H' : Hp} {σ : L2.St} {ρ : En}
/-! ### slots forgotten -/
def wipeE (ρ : En) : List Nat → En
  | [] => ρ
  | v :: vs => (wipeE ρ vs).set v none
theorem freeS_unset {i j : Nat} (h : freeS ρ j = true) : freeS (ρ.set i none) j = true := by
  unfold freeS at h ⊢
  by_cases e : i = j
  · subst e
    by_cases hl : i < ρ.length
    · rw [List.getElem?_set_self hl]
    · rw [List.getElem?_eq_none (by omega)] at h; cases h
  · rw [List.getElem?_set_ne e]; exact h
theorem freeS_wipe {j : Nat} (h : freeS ρ j = true) : ∀ vs : List Nat, freeS (wipeE ρ vs) j = true
  | [] => h
  | v :: vs => freeS_unset (freeS_wipe h vs)
theorem Now.wipe (N : Now C B A H σ ρ) : ∀ vs : List Nat, vs.all (freeS ρ) = true → Now C B A H (L2.wipe σ vs) (wipeE ρ vs)
  | [], _ => N
  | v :: vs, h => by
    rw [List.all_cons, Bool.and_eq_true] at h
    exact (Now.wipe N vs h.2).unset (freeS_wipe h.1 vs)
theorem wipeE_in {i : Nat} : ∀ {vs : List Nat}, i ∈ vs → (wipeE ρ vs)[i]? = none ∨ (wipeE ρ vs)[i]? = some none
  | v :: vs, h => by
    unfold wipeE
    by_cases e : v = i
    · subst e
      by_cases hl : v < (wipeE ρ vs).length
      · exact .inr (List.getElem?_set_self hl)
      · exact .inl (List.getElem?_eq_none (by simpa using hl))
    · rw [List.getElem?_set_ne e]
      rcases List.mem_cons.mp h with h | h
      · exact absurd h.symm e
      · exact wipeE_in h
theorem wipeE_out {i : Nat} : ∀ {vs : List Nat}, i ∉ vs → (wipeE ρ vs)[i]? = ρ[i]?
  | [], _ => rfl
  | v :: vs, h => by
    rw [List.mem_cons, not_or] at h
    unfold wipeE
    rw [List.getElem?_set_ne (Ne.symm h.1)]
    exact wipeE_out h.2
theorem wipeE_no (vs : List Nat) : ∀ i ∈ vs, ∀ s, (wipeE ρ vs)[i]? ≠ some (some s) := fun i hi s z => by
  rcases wipeE_in (ρ := ρ) hi with e | e <;> rw [e] at z <;> cases z
/-- own in the wiped slots: own in the slots -/
theorem own_wipe {H : Hp} {σ : L2.St} {ρ : En} {vs : List Nat} {a : Addr} (h : OwnAt H (L2.wipe σ vs) (wipeE ρ vs) a) : OwnAt H σ ρ a := by
  obtain ⟨j, s, v, h1, h2, h3⟩ := h
  have hj : j ∉ vs := fun z => wipeE_no vs j z s h1
  exact ⟨j, s, v, by rw [← wipeE_out hj]; exact h1, by rw [← wipe_out hj]; exact h2, h3⟩
/-- the slots that were forgotten come back -/
theorem Now.back {vs : List Nat} (N : Now C B A H (L2.wipe σ vs) ρ) (hv : ∀ i ∈ vs, ∀ s, ρ[i]? ≠ some (some s)) : Now C B A H σ ρ := by
  have out : ∀ {i : Nat} {s : SV}, ρ[i]? = some (some s) → (L2.wipe σ vs)[i]? = σ[i]? := fun {i s} h => wipe_out fun z => hv i z s h
  refine ⟨⟨by rw [← N.env.len, L2.wipe_length], fun j s h => ?_, fun j k s t u v jk hs ht hu hv' => ?_⟩, N.fr, N.f0, N.nz, N.le, N.kp, N.tb, N.fe, fun j s v a h1 h2 h3 => ?_, fun j l h => ?_⟩
  · rw [← out h]; exact N.env.sl j s h
  · rw [← out hs] at hu
    rw [← out ht] at hv'
    exact N.env.ne j k s t u v jk hs ht hu hv'
  · rw [← out h1] at h2
    exact N.ow j s v a h1 h2 h3
  · obtain ⟨h1, s, h2, h3⟩ := N.pn j l h
    exact ⟨by rw [← out h2]; exact h1, s, h2, h3⟩
theorem own_back {H : Hp} {σ : L2.St} {ρ : En} {vs : List Nat} (hv : ∀ i ∈ vs, ∀ s, ρ[i]? ≠ some (some s)) {a : Addr} : OwnAt H (L2.wipe σ vs) ρ a ↔ OwnAt H σ ρ a :=
  ⟨fun ⟨j, s, v, h1, h2, h3⟩ => ⟨j, s, v, h1, by rw [← wipe_out fun z => hv j z s h1]; exact h2, h3⟩, fun ⟨j, s, v, h1, h2, h3⟩ => ⟨j, s, v, h1, by rw [wipe_out fun z => hv j z s h1]; exact h2, h3⟩⟩
end
/-! ### a new value -/
abbrev MN := En → Rs (Val × En)
theorem lessL_nil {A : Rg} : lessL A [] = A := by
  funext a
  exact propext ⟨fun h => h.1, fun h => ⟨h, fun z => nomatch z⟩⟩
theorem lessL_app {A : Rg} {L M : List Addr} : lessL (lessL A L) M = lessL A (L ++ M) := by
  funext a
  refine propext ⟨fun h => ⟨h.1.1, fun z => (List.mem_append.mp z).elim h.1.2 h.2⟩, fun h => ⟨⟨h.1, fun z => h.2 (List.mem_append_left _ z)⟩, fun z => h.2 (List.mem_append_right _ z)⟩⟩
theorem less_eq {A : Rg} {l : Addr} : A.less l = lessL A [l] := by
  funext a
  exact propext ⟨fun h => ⟨h.1, fun z => h.2 (List.mem_singleton.mp z)⟩, fun h => ⟨h.1, fun z => h.2 (List.mem_singleton.mpr z)⟩⟩
theorem moreL_lessL {A : Rg} {L : List Addr} (h : ∀ a ∈ L, A a) : moreL (lessL A L) L = A := by
  funext a
  refine propext ⟨fun z => z.elim (·.1) (h a), fun z => ?_⟩
  by_cases q : a ∈ L
  · exact .inr q
  · exact .inl ⟨z, q⟩
/-- nothing but what is new stands outside of the region -/
structure Gm (C : Cn) (σ : L2.St) (A : Rg) (H : Hp) (ρ : En) (v : V) (x : Val) (σ' : L2.St) (H' : Hp) (ρ' : En) : Prop where
  o : ∀ a, OwnAt H' σ' ρ' a → OwnAt H σ ρ a ∨ Fz H a
  k : ∀ a o, NT o → H a = some o → ¬ OwnAt H σ ρ a → H' a = some o
  f : ∀ a, Fz H' a → Fz H a
  r : ro C (lessL A (fl H' v x)) H' v x
  n : (fl H' v x).Nodup
  d : ∀ a ∈ fl H' v x, Fz H a ∧ ¬ OwnAt H' σ' ρ' a
abbrev Gn (C : Cn) (σ : L2.St) (A : Rg) (H : Hp) (ρ : En) (v : V) (x : Val) (H' : Hp) (ρ' : En) : Prop := Gm C σ A H ρ v x σ H' ρ'
def SN (C : Cn) (E : XK) (m : MN) : TE := fun σ H Q => ∃ B A ρ, Now C B A H σ ρ ∧ (m ρ).wp (fun x => ∀ v H', Now C B (lessL A (fl H' v x.1)) H' σ x.2 → Gn C σ A H ρ v x.1 H' x.2 → Q v H') (EXe C E B A H σ ρ)
section
variable {X : Cx} {C : Cn} {E E0 : XK} {B : Bs} {A A' : Rg} {H H' H1 : Hp} {σ : L2.St} {ρ ρ' ρ1 : En} {v : V} {x : Val}
theorem Gm.g {σ' : L2.St} (N : Now C B A H σ ρ) (n : Gm C σ A H ρ v x σ' H' ρ') : Gr A H (lessL A (fl H' v x)) H' := fun a o t h e => ⟨⟨h, fun z => (n.d a z).1.no e t⟩, n.k a o t e fun z => (N.own z).1 h⟩
theorem Gm.gd (N : Now C B A H σ ρ) (n : Gn C σ A H ρ v x H' ρ') : Gd σ A H ρ H' ρ' := ⟨(n.g N).trans gr_lessL, n.o, n.k, n.f⟩
theorem Gm.tr (g1 : Gd σ A H ρ H1 ρ1) (n : Gn C σ A H1 ρ1 v x H' ρ') : Gn C σ A H ρ v x H' ρ' :=
  ⟨fun a h => (n.o a h).elim (g1.o a) fun z => .inr (g1.f a z), fun a o t h z => n.k a o t (g1.k a o t h z) fun y => (g1.o a y).elim z fun w => w.no h t, fun a h => g1.f a (n.f a h), n.r, n.n, fun a h => ⟨g1.f a (n.d a h).1, (n.d a h).2⟩⟩
/-- given away at once -/
theorem Gm.join (N : Now C B A H σ ρ) (N' : Now C B (lessL A (fl H' v x)) H' σ ρ') (n : Gn C σ A H ρ v x H' ρ') : Now C B A H' σ ρ' ∧ rep C A H' v x.melt := by
  have hA : ∀ a ∈ fl H' v x, A a := fun a h => N.fr a (n.d a h).1
  refine ⟨N'.frame gr_lessL (fun a h => ⟨rfl, fun z => ?_⟩) (fun q h => (N'.fr q h).1) N.le N'.kp N'.tb N'.fe, ro.melt gr_lessL n.r hA⟩
  by_cases q : a ∈ fl H' v x
  · exact (n.d a q).2 h
  · exact (N'.own h).1 ⟨z, q⟩
theorem fl_nodup_fz (h : x.isO = false) : (fl H' v x).Nodup := by rw [fl_fz h]; exact List.nodup_nil
/-- a frozen value -/
theorem Gm.fz (g : Gd σ A H ρ H' ρ') (r : rep C A H' v x) : Gn C σ A H ρ v x H' ρ' :=
  ⟨g.o, g.k, g.f, by rw [fl_fz r.fz, lessL_nil]; exact r.ro, by rw [fl_fz r.fz]; exact List.nodup_nil, fun a h => by rw [fl_fz r.fz] at h; cases h⟩
theorem SN.toE {m : ME} : ∀ σ H Q, SN C E m σ H Q → SE C E m σ H Q := fun σ H Q ⟨B, A, ρ, N, hm⟩ =>
  ⟨B, A, ρ, N, Rs.wp_mono hm (fun x hx v H' N' g' r' => hx v H' (by rw [fl_fz r'.fz, lessL_nil]; exact N') (.fz g' r')) fun _ _ _ _ h => h⟩
/-- an expression with a frozen value -/
theorem yn_fz {e : Expr} {m : ME} (h : PE X e (SE C E m)) : PE X e (SN C E m) := PE.imp h SN.toE
def meltM (m : MN) : ME := fun ρ => m ρ >>= fun x => .ok (x.1.melt, x.2)
theorem SE.ofN {m : MN} : ∀ σ H Q, SE C E (meltM m) σ H Q → SN C E m σ H Q := fun σ H Q ⟨B, A, ρ, N, hm⟩ =>
  ⟨B, A, ρ, N, Rs.wp_mono (Rs.wp_bind hm) (fun x hx v H' N' n => by
    obtain ⟨N2, r⟩ := n.join N N'
    exact hx v H' N2 (n.gd N) r) fun _ _ _ _ h => h⟩
/-- a new value, given away -/
theorem y_newN {e : Expr} {m : MN} (h : PE X e (SN C E m)) : PE X e (SE C E (meltM m)) := PE.imp h SE.ofN
/-- name = a new value, which the def will change -/
def newT (i : Nat) (m : MN) : MS := fun ρ => m ρ >>= fun x => if freeS x.2 i = true ∧ x.1.isO = true then .ok (.nx (x.2.set i (some (.ob false x.1)))) else .bad
theorem ys_newT {i : Nat} {st : Stmt} {m : MN} (h : PS X st (tAsg (SN C E m) (gName i))) : PS X st (SS C E (newT i m)) := PS.imp h fun D σ H ⟨B, A, ρ, N, hm⟩ =>
  ⟨B, A, ρ, N, Rs.wp_mono (Rs.wp_bind hm) (fun x hx v H' N' n => by
    obtain ⟨⟨hf, ho⟩, hx⟩ := ite_bad hx
    exact hx _ _ H' (N'.own' hf ⟨ho, n.r, n.n, fun a ha z => z.2 ha⟩ (fun a ha => N.fe a (n.d a ha).1) fun a ha => (n.d a ha).2) (n.g N)) EXe.of⟩
/-! a new list -/
abbrev ML := En → Rs (List Val × En)
def ownL (m : ML) : MN := fun ρ => m ρ >>= fun x => .ok (.olst x.1, x.2)
def SF (C : Cn) (E : XK) (m : ML) : TE := SN C E (ownL m)
def listM (m : ML) : ME := fun ρ => m ρ >>= fun x => .ok (.lst (melts x.1), x.2)
theorem y_new {e : Expr} {m : ML} (h : PE X e (SF C E m)) : PE X e (SE C E (listM m)) := PE.imp h fun σ H Q ⟨B, A, ρ, N, hm⟩ => SE.ofN σ H Q ⟨B, A, ρ, N, by
  unfold meltM ownL
  unfold listM at hm
  have e : ∀ xs : List Val, (Val.olst xs).melt = .lst (melts xs) := fun xs => by unfold Val.melt; rfl
  exact Rs.bind_wp (Rs.bind_wp (Rs.wp_mono (Rs.wp_bind hm) (fun x hx v H' N' g' r' => hx v H' N' g' (by rw [← e]; exact r')) fun _ _ _ _ h => h))⟩
def newS (i : Nat) (m : ML) : MS := fun ρ => m ρ >>= fun x => if freeS x.2 i = true then .ok (.nx (x.2.set i (some (.ow false x.1)))) else .bad
theorem ys_new {i : Nat} {st : Stmt} {m : ML} (h : PS X st (tAsg (SF C E m) (gName i))) : PS X st (SS C E (newS i m)) := PS.imp (ys_newT h) fun D σ H ⟨B, A, ρ, N, hm⟩ =>
  ⟨B, A, ρ, N, by
    unfold newT ownL
    unfold newS at hm
    refine Rs.bind_wp (Rs.bind_wp (Rs.wp_mono (Rs.wp_bind hm) (fun x hx => ?_) fun _ _ _ _ h => h))
    obtain ⟨hf, hx⟩ := ite_bad hx
    show ((if freeS x.2 i = true ∧ (Val.olst x.1).isO = true then .ok (.nx (x.2.set i (some (.ob false (.olst x.1))))) else .bad : Rs Out)).wp _ _
    rw [if_pos ⟨hf, rfl⟩]
    exact hx⟩
theorem not_own_new (N : Now C B A H σ ρ) {p : Addr} {o : HO} (hp : H p = none) : ¬ OwnAt (upd H p o) σ ρ p := fun z => by
  obtain ⟨j, s, v, h1, h2, h3⟩ := z
  obtain ⟨_, e⟩ := N.env.frame (A' := A) (.same (same_new (o := o) hp)) fun a h => by
    obtain ⟨n, u, q1, q2⟩ := N.own h
    exact ⟨by rw [q1]; exact same_new hp a u q1, n⟩
  rw [e j s v h1 h2] at h3
  obtain ⟨_, u, e1, _⟩ := N.own ⟨j, s, v, h1, h2, h3⟩
  rw [hp] at e1; cases e1
theorem gn_new (N1 : Now C B A H1 σ ρ1) {z : List Val} {p : Addr} {vs : List V} (hp : H1 p = none) (r : reps C A H1 vs z) :
    fl (upd H1 p (.lst vs)) (.ref p) (.olst z) = [p] ∧ Now C B (lessL A (fl (upd H1 p (.lst vs)) (.ref p) (.olst z))) (upd H1 p (.lst vs)) σ ρ1 ∧ Gn C σ A H1 ρ1 (.ref p) (.olst z) (upd H1 p (.lst vs)) ρ1 := by
  have gp : Gr A H1 (A.less p) (upd H1 p (.lst vs)) := fun a u _ n h => ⟨⟨n, ne_of_none h hp⟩, same_new hp a u h⟩
  have r' := reps.gr gp r
  have ef : fl (upd H1 p (.lst vs)) (.ref p) (.olst z) = [p] := by rw [fl_olst upd_same, fls_fz r']
  have N2 := N1.cut (o := .lst vs) hp nt
  have g2 := Gd.same N1 (same_new (o := .lst vs) hp)
  refine ⟨ef, by rw [ef, ← less_eq]; exact N2, ⟨g2.o, g2.k, g2.f, by rw [ef, ← less_eq]; exact ro_olst.mpr ⟨p, vs, rfl, upd_same, r'.ros⟩, by rw [ef]; simp, fun a ha => ?_⟩⟩
  rw [ef] at ha
  rw [List.mem_singleton.mp ha]
  exact ⟨.of hp, not_own_new N1 hp⟩
/-- a new list of frozen values -/
theorem new_rd {z : List Val} {Q : VK} (N1 : Now C B A H1 σ ρ1) (g1 : Gd σ A H ρ H1 ρ1)
    (hz : ∀ v H', Now C B (lessL A (fl H' v (.olst z))) H' σ ρ1 → Gn C σ A H ρ v (.olst z) H' ρ1 → Q v H') : ∀ p vs, H1 p = none → reps C A H1 vs z → Q (.ref p) (upd H1 p (.lst vs)) := fun p vs hp r => by
  obtain ⟨_, N2, n⟩ := gn_new N1 hp r
  exact hz _ _ N2 (Gm.tr g1 n)
variable {e a b tg : Expr} {ma mb : ME} {ms mk : MS} {mi : MI} {es : List Expr} {ml : MA} {mf : ML} {pos : Pos}
theorem sf_of {m : ML} {σ : L2.St} {H : Hp} {Q : VK} (h : SF C E m σ H Q) : ∃ B A ρ, Now C B A H σ ρ ∧ (m ρ).wp (fun x => ∀ v H', Now C B (lessL A (fl H' v (.olst x.1))) H' σ x.2 → Gn C σ A H ρ v (.olst x.1) H' x.2 → Q v H') (EXe C E B A H σ ρ) := by
  obtain ⟨B, A, ρ, N, hm⟩ := h
  exact ⟨B, A, ρ, N, Rs.wp_bind hm⟩
def dispF (a : MA) : ML := fun ρ => a ρ >>= fun x => if x.1.length ≤ sizeLine then .ok (x.1, x.2) else .bad
theorem yf_lst (h : PA X es (SA C E ml)) : PE X (.List es pos) (SF C E (dispF ml)) := PE.imp (pe_lst h) fun σ H Q hs => by
  obtain ⟨B, A, ρ, N, hm⟩ := sf_of hs
  exact ⟨B, A, ρ, N, Rs.wp_mono (Rs.wp_bind hm) (fun x hx vs H1 N1 g1 r1 => by
    obtain ⟨hz, hx⟩ := ite_bad hx
    exact ⟨by rw [r1.len]; exact hz, fun p hp => new_rd N1 g1 hx p vs hp r1⟩) fun _ _ _ _ h => h⟩
/-- a built-in that gives a new list -/
def CfV (C : Cn) (r : List V → Hp → VK → Prop) (f : List Val → Option (List Val)) : Prop := ∀ (A : Rg) (H : Hp) (us : List V) (xs : List Val) (z : List Val), Fq A H → reps C A H us xs → f xs = some z → ∀ Q : VK, (∀ p vs, H p = none → reps C A H vs z → Q (.ref p) (upd H p (.lst vs))) → r us H Q
def cfM (f : List Val → Option (List Val)) (a : MA) : ML := fun ρ => a ρ >>= fun x => Rs.opt (f x.1) >>= fun z => .ok (z, x.2)
theorem cf_rd {r : List V → Hp → VK → Prop} {f : List Val → Option (List Val)} (hv : CfV C r f) : ∀ σ H Q, SF C E (cfM f ml) σ H Q → tCB r (SA C E ml) σ H Q := fun σ H Q hs => by
  obtain ⟨B, A, ρ, N, hm⟩ := sf_of hs
  exact ⟨B, A, ρ, N, Rs.wp_mono (Rs.wp_bind hm) (fun x hx us H1 N1 g1 r1 => by
    obtain ⟨z, e, hz⟩ := Rs.wp_opt (Rs.wp_bind hx)
    exact hv A H1 us x.1 z N1.fr r1 e Q (new_rd N1 g1 hz)) fun _ _ _ _ h => h⟩
/-- an operator that gives a new list -/
def OfV (C : Cn) (r : R2) (f : Val → Val → Option (List Val)) : Prop := ∀ (A : Rg) (H : Hp) (u v : V) (x y : Val) (z : List Val), Fq A H → rep C A H u x → rep C A H v y → f x y = some z → ∀ Q : VK, (∀ p vs, H p = none → reps C A H vs z → Q (.ref p) (upd H p (.lst vs))) → r u v H Q
def bfM (f : Val → Val → Option (List Val)) (a b : ME) : ML := fun ρ => a ρ >>= fun x => b x.2 >>= fun y => Rs.opt (f x.1 y.1) >>= fun z => .ok (z, y.2)
theorem bf_rd {r : R2} {f : Val → Val → Option (List Val)} (hv : OfV C r f) : ∀ σ H Q, SF C E (bfM f ma mb) σ H Q → tOp r (SE C E ma) (SE C E mb) σ H Q := fun σ H Q hs => by
  obtain ⟨B, A, ρ, N, hm⟩ := sf_of hs
  exact ⟨B, A, ρ, N, Rs.wp_mono (Rs.wp_bind hm) (fun x hx u H1 N1 g1 r1 => ⟨B, A, x.2, N1, Rs.wp_mono (Rs.wp_bind hx) (fun y hy v H2 N2 g2 r2 => by
    obtain ⟨z, e, hz⟩ := Rs.wp_opt (Rs.wp_bind hy)
    exact hv A H2 u v x.1 y.1 z N2.fr (rep.gr g2.g r1) r2 e Q (new_rd N2 (g1.trans g2) hz)) (EXe.tr g1)⟩) fun _ _ _ _ h => h⟩
/-! ### comprehensions -/
def noX {α : Type} (r : Rs α) : Rs α := match r with | .ok x => .ok x | _ => .bad
theorem noX_wp {α : Type} {r : Rs α} {Q : α → Prop} {E E' : XW} (h : (noX r).wp Q E) : r.wp Q E' := by
  cases r with
  | ok x => exact h
  | exc c ns vs ρ => exact h.elim
  | bad => exact h
def compL (vs : List Nat) (t : MT) (c : MB) (e : MN) : List Val → En → Rs (List Val × En)
  | [], ρ => .ok ([], ρ)
  | x :: xs, ρ => Rs.opt (t x (wipeE ρ vs)) >>= fun ρ1 => noX (c ρ1) >>= fun k =>
      if k.1 = true then noX (e k.2) >>= fun y => if vs.all (freeS y.2) = true then compL vs t c e xs (wipeE y.2 vs) >>= fun r => .ok (y.1 :: r.1, r.2) else .bad
      else if vs.all (freeS k.2) = true then compL vs t c e xs (wipeE k.2 vs) else .bad
def compF (vs : List Nat) (mi : MI) (t : MT) (c : MB) (e : MN) : ML := fun ρ => mi ρ >>= fun x => if x.1.length < sizeLine ∧ vs.all (freeS x.2) = true then compL vs t c e x.1 (wipeE x.2 vs) else .bad
def yesB : MB := fun ρ => .ok (true, ρ)
theorem sb_yes {E : XK} : ∀ σ H Q, SB C E yesB σ H Q → tYes σ H Q := fun σ H Q ⟨B, A, ρ, N, hm⟩ => hm H N (.refl _ _ _ _)
theorem compL_out {vs : List Nat} {t : MT} {c : MB} {e : MN} {E : XW} {Q : List Val × En → Prop} : ∀ {xs : List Val} {ρ : En}, (∀ i ∈ vs, ∀ s, ρ[i]? ≠ some (some s)) → (compL vs t c e xs ρ).wp Q E → (compL vs t c e xs ρ).wp (fun r => Q r ∧ ∀ i ∈ vs, ∀ s, r.2[i]? ≠ some (some s)) E
  | [], ρ, h, hw => ⟨hw, h⟩
  | x :: xs, ρ, h, hw => by
    unfold compL at hw ⊢
    refine Rs.bind_wp (Rs.wp_mono (Rs.wp_bind hw) (fun ρ1 h1 => Rs.bind_wp (Rs.wp_mono (Rs.wp_bind h1) (fun k hk => ?_) fun _ _ _ _ h => h)) fun _ _ _ _ h => h)
    by_cases hb : k.1 = true
    · rw [if_pos hb] at hk ⊢
      refine Rs.bind_wp (Rs.wp_mono (Rs.wp_bind hk) (fun y hy => ?_) fun _ _ _ _ h => h)
      obtain ⟨hf, hy⟩ := ite_bad hy
      rw [if_pos hf]
      exact Rs.bind_wp (Rs.wp_mono (compL_out (wipeE_no _) (Rs.wp_bind hy)) (fun r hr => hr) fun _ _ _ _ h => h)
    · rw [if_neg hb] at hk ⊢
      obtain ⟨hf, hk⟩ := ite_bad hk
      rw [if_pos hf]
      exact compL_out (wipeE_no _) hk
theorem wipe_off {σ σ2 : L2.St} {vs is : List Nat} {ρ ρ' : En} (o : Off is (L2.wipe σ vs) σ2 ρ ρ') (hs : ∀ i ∈ is, i ∈ vs) : L2.wipe σ2 vs = L2.wipe σ vs := by
  have w0 : ∀ {τ : L2.St} {i : Nat}, i ∈ vs → i < τ.length → (L2.wipe τ vs)[i]? = some none := fun {τ i} hi hl => by
    have hl' : i < (L2.wipe τ vs).length := by rw [L2.wipe_length]; exact hl
    cases e : (L2.wipe τ vs)[i]? with
    | none => rw [List.getElem?_eq_none_iff] at e; omega
    | some u =>
      cases u with
      | none => rfl
      | some v => exact absurd hi (wipe_some e).2
  apply List.ext_getElem?
  intro i
  have l2 : σ2.length = σ.length := by rw [o.len, L2.wipe_length]
  by_cases hi : i ∈ vs
  · by_cases hl : i < σ.length
    · rw [w0 hi (by omega), w0 hi hl]
    · rw [List.getElem?_eq_none (by rw [L2.wipe_length]; omega), List.getElem?_eq_none (by rw [L2.wipe_length]; omega)]
  · rw [wipe_out hi, o.out i (fun z => hi (hs i z))]
/-- what a turn leaves: nothing but own objects changed, own ones are old or new -/
structure Turn (σ : L2.St) (H : Hp) (ρ : En) (σ' : L2.St) (H' : Hp) (ρ' : En) : Prop where
  o : ∀ a, OwnAt H' σ' ρ' a → OwnAt H σ ρ a ∨ Fz H a
  k : ∀ a o, NT o → H a = some o → ¬ OwnAt H σ ρ a → H' a = some o
  f : ∀ a, Fz H' a → Fz H a
theorem Turn.trans {σ σ1 σ2 : L2.St} {H H1 H2 : Hp} {ρ ρ1 ρ2 : En} (a : Turn σ H ρ σ1 H1 ρ1) (b : Turn σ1 H1 ρ1 σ2 H2 ρ2) : Turn σ H ρ σ2 H2 ρ2 :=
  ⟨fun p h => (b.o p h).elim (a.o p) fun z => .inr (a.f p z), fun p o t h n => b.k p o t (a.k p o t h n) fun z => (a.o p z).elim n fun f => f.no h t, fun p h => a.f p (b.f p h)⟩
theorem Gd.turn {σ : L2.St} {A : Rg} {H H' : Hp} {ρ ρ' : En} (g : Gd σ A H ρ H' ρ') : Turn σ H ρ σ H' ρ' := ⟨g.o, g.k, g.f⟩
theorem Gm.turn {σ' : L2.St} (n : Gm C σ A H ρ v x σ' H' ρ') : Turn σ H ρ σ' H' ρ' := ⟨n.o, n.k, n.f⟩
theorem Turn.slots {σ σ' : L2.St} {H : Hp} {ρ ρ' : En} (h : ∀ a, OwnAt H σ' ρ' a → OwnAt H σ ρ a) : Turn σ H ρ σ' H ρ' := ⟨fun a z => .inl (h a z), fun _ _ _ h _ => h, fun _ h => h⟩
theorem fls_app {H : Hp} : ∀ {us : List V} {xs : List Val} {w : V} {y : Val}, us.length = xs.length → fls H (us ++ [w]) (xs ++ [y]) = fls H us xs ++ fl H w y
  | [], [], w, y, _ => by
    show fls H [w] [y] = fls H [] [] ++ fl H w y
    rw [fls_cons]
    have e : fls H ([] : List V) [] = [] := by unfold fls; rfl
    rw [e]; simp
  | u :: us, x :: xs, w, y, h => by
    show fls H (u :: (us ++ [w])) (x :: (xs ++ [y])) = _
    rw [fls_cons, fls_cons, fls_app (by simpa using h), List.append_assoc]
  | [], _ :: _, _, _, h => by cases h
  | _ :: _, [], _, _, h => by cases h
theorem ros_app {C : Cn} {A : Rg} {H : Hp} : ∀ {xs : List Val} {us : List V} {w : V} {y : Val}, ros C A H us xs → ro C A H w y → ros C A H (us ++ [w]) (xs ++ [y])
  | [], us, w, y, h, k => by unfold ros at h; subst h; exact ros_cons k ros_nil
  | x :: xs, us, w, y, h, k => by
    unfold ros at h
    obtain ⟨v, r, rfl, h1, h2⟩ := h
    exact ros_cons h1 (ros_app h2 k)
/-- a list that grows by a new value -/
theorem Gm.snoc {σ σ3 σw : L2.St} {H1 H' H4 H5 : Hp} {ρ0 ρ' ρ4 ρ5 : En} {D : Addr} {us : List V} {acc : List Val} {w : V} {y : Val} (fD : Fz B.H0 D) (N' : Now C B (lessL A (fl H' (.ref D) (.olst acc))) H' σw ρ') (n : Gm C σ A H1 ρ0 (.ref D) (.olst acc) σw H' ρ') (hD : H' D = some (.lst us)) (tn : Turn σw H' ρ' σ3 H4 ρ4)
    (N5 : Now C B (lessL (lessL A (fl H' (.ref D) (.olst acc))) (fl H5 w y)) H5 σ3 ρ5) (n5 : Gn C σ3 (lessL A (fl H' (.ref D) (.olst acc))) H4 ρ4 w y H5 ρ5) :
    H5 D = some (.lst us) ∧ Now C B (lessL A (fl (upd H5 D (.lst (us ++ [w]))) (.ref D) (.olst (acc ++ [y])))) (upd H5 D (.lst (us ++ [w]))) σ3 ρ5 ∧ Gm C σ A H1 ρ0 (.ref D) (.olst (acc ++ [y])) σ3 (upd H5 D (.lst (us ++ [w]))) ρ5 := by
  have eL : fl H' (.ref D) (.olst acc) = D :: fls H' us acc := fl_olst hD
  obtain ⟨a', vs', e1, e2, r0⟩ := ro_olst.mp n.r
  cases e1
  rw [hD] at e2; cases e2
  have t5 := tn.trans n5.turn
  have nown : ∀ a ∈ fl H' (.ref D) (.olst acc), ¬ OwnAt H5 σ3 ρ5 a := fun a ha z => by
    rcases t5.o a z with q | q
    · exact (n.d a ha).2 q
    · obtain ⟨u, q1, q2⟩ := ro.in n.r ha
      exact q.no q1 q2.1
  have keep5 : ∀ a ∈ fl H' (.ref D) (.olst acc), H5 a = H' a := fun a ha => by
    obtain ⟨u, q1, q2⟩ := ro.in n.r ha
    rw [q1]; exact t5.k a u q2.1 q1 (n.d a ha).2
  have mD : D ∈ fl H' (.ref D) (.olst acc) := by rw [eL]; exact .head _
  have hD5 : H5 D = some (.lst us) := by rw [keep5 D mD]; exact hD
  have oldnew : ∀ a ∈ fl H' (.ref D) (.olst acc), a ∉ fl H5 w y := fun a ha z => by
    obtain ⟨u, q1, q2⟩ := ro.in n.r ha
    exact (n5.d a z).1.no (tn.k a u q2.1 q1 (n.d a ha).2) q2.1
  have neA : ∀ a ∈ fls H' us acc, a ≠ D := fun a ha e => by
    have := n.n
    rw [eL, List.nodup_cons] at this
    exact this.1 (by rw [← e]; exact ha)
  have gU : Gr (lessL (lessL A (fl H' (.ref D) (.olst acc))) (fl H5 w y)) H5 (lessL (lessL A (fl H' (.ref D) (.olst acc))) (fl H5 w y)) (upd H5 D (.lst (us ++ [w]))) := fun a o _ h e => ⟨h, by rw [upd_ne fun z => h.1.2 (by rw [z]; exact mD)]; exact e⟩
  have g05 : Gr (lessL A (fl H' (.ref D) (.olst acc))) H' (lessL (lessL A (fl H' (.ref D) (.olst acc))) (fl H5 w y)) H5 := fun a o t h e => by
    have na : ¬ OwnAt H' σw ρ' a := fun z => (N'.own z).1 h
    exact ⟨⟨h, fun z => (n5.d a z).1.no (tn.k a o t e na) t⟩, t5.k a o t e na⟩
  obtain ⟨rs5, fs5⟩ := ros.frame g05 r0 fun a ha => keep5 a (by rw [eL]; exact .tail _ ha)
  obtain ⟨rs6, fs6⟩ := ros.frame gU rs5 fun a ha => by rw [upd_ne (neA a (by rw [← fs5]; exact ha))]
  have neM : ∀ a ∈ fl H5 w y, a ≠ D := fun a ha e => oldnew D mD (by rw [← e]; exact ha)
  obtain ⟨rw6, fw6⟩ := ro.frame gU n5.r fun a ha => by rw [upd_ne (neM a ha)]
  have eL6 : fl (upd H5 D (.lst (us ++ [w]))) (.ref D) (.olst (acc ++ [y])) = fl H' (.ref D) (.olst acc) ++ fl H5 w y := by
    rw [fl_olst upd_same, fls_app r0.len, fs6, fs5, fw6, eL]; rfl
  have eA : lessL A (fl (upd H5 D (.lst (us ++ [w]))) (.ref D) (.olst (acc ++ [y]))) = lessL (lessL A (fl H' (.ref D) (.olst acc))) (fl H5 w y) := by rw [eL6, lessL_app]
  have fz6 : ∀ a, Fz (upd H5 D (.lst (us ++ [w]))) a → Fz H5 a := fun a h => by
    have e : a ≠ D := fun z => by rw [z] at h; exact h.no upd_same nt
    exact fun u z => h u (by rw [upd_ne e]; exact z)
  have own6 : ∀ a, OwnAt H5 σ3 ρ5 a → (upd H5 D (.lst (us ++ [w]))) a = H5 a ∧ ¬ (lessL (lessL A (fl H' (.ref D) (.olst acc))) (fl H5 w y)) a := fun a z => ⟨by rw [upd_ne (fun e => nown D mD (by rw [← e]; exact z))], (N5.own z).1⟩
  obtain ⟨_, f6⟩ := N5.env.frame gU own6
  rw [eA]
  refine ⟨hD5, N5.frame gU own6 (fun q h => N5.fr q (fz6 q h)) N5.le (fun a o t z h => ?_) (tabs_put N5.tb hD5 nt (fun _ z => nomatch z)) (fun a h => N5.fe a (fz6 a h)), ⟨fun a h => ?_, fun a o t h z => ?_, fun a h => n.f a (t5.f a (fz6 a h)), ?_, ?_, fun a ha => ?_⟩⟩
  · rw [upd_ne (fun e => by rw [e] at h; exact fD.no h t)]
    exact N5.kp a o t z h
  · rcases t5.o a ((ownAt_eq f6).mp h) with q | q
    · exact n.o a q
    · exact .inr (n.f a q)
  · have na : ¬ OwnAt H' σw ρ' a := fun q => (n.o a q).elim z fun w => w.no h t
    rw [upd_ne (fun e => by rw [e] at h; exact (n.d D mD).1.no h t)]
    exact t5.k a o t (n.k a o t h z) na
  · rw [eA]
    exact ro_olst.mpr ⟨D, _, rfl, upd_same, ros_app rs6 rw6⟩
  · rw [eL6]
    exact List.nodup_append.mpr ⟨n.n, n5.n, fun a ha b hb e => oldnew a ha (by rw [e]; exact hb)⟩
  · rw [eL6] at ha
    rw [ownAt_eq f6]
    rcases List.mem_append.mp ha with ha | ha
    · exact ⟨(n.d a ha).1, nown a ha⟩
    · exact ⟨n.f a (tn.f a (n5.d a ha).1), (n5.d a ha).2⟩
theorem lc_rd {me : MN} {wi : TI} {vs is : List Nat} {t : MT} {c : MB} {tt : TT} (hs : ∀ i ∈ is, i ∈ vs) (hw : ∀ σ H R, SI C E mi σ H R → wi σ H R) (ht : ∀ σ H Q, SB C E0 c σ H Q → tt σ H Q) :
    ∀ σ H Q, SF C E (compF vs mi t c me) σ H Q → tLc wi (SG C is t) tt (SN C E0 me) vs σ H Q := fun σ H Q hsf => by
  obtain ⟨B, A, ρ, N, hm⟩ := sf_of hsf
  refine hw _ _ _ ⟨B, A, ρ, N, Rs.wp_mono (Rs.wp_bind hm) (fun x hx J H1 N1 g1 wk => ?_) fun _ _ _ _ h => h⟩
  obtain ⟨⟨hz, hf⟩, hx⟩ := ite_bad hx
  intro D hD
  have hx' := compL_out (wipeE_no _) hx
  have ww : ∀ τ : L2.St, L2.wipe (L2.wipe τ vs) vs = L2.wipe τ vs := fun τ => wipe_off (is := []) (ρ := []) (ρ' := []) ⟨rfl, fun _ _ => rfl, fun _ _ _ h => ⟨(fun z => nomatch z), h⟩⟩ fun _ h => nomatch h
  obtain ⟨ef0, N0, n0⟩ := gn_new N1 (z := []) hD reps_nil
  let Wd : Nat → Hp → Prop := fun i H' => ∃ ρ' us acc, Now C B (lessL A (fl H' (.ref D) (.olst acc))) H' (L2.wipe σ vs) ρ' ∧ Gm C σ A H1 x.2 (.ref D) (.olst acc) (L2.wipe σ vs) H' ρ' ∧ H' D = some (.lst us) ∧ us.length ≤ i ∧
    (compL vs t c me (x.1.drop i) ρ').wp (fun r => (∀ v H', Now C B (lessL A (fl H' v (.olst (acc ++ r.1)))) H' σ r.2 → Gn C σ A H ρ v (.olst (acc ++ r.1)) H' r.2 → Q v H') ∧ ∀ i ∈ vs, ∀ s, r.2[i]? ≠ some (some s)) (EXe C E B A H σ ρ)
  have start : Gm C σ A H1 x.2 (.ref D) (.olst []) (L2.wipe σ vs) (upd H1 D (.lst [])) (wipeE x.2 vs) := ⟨fun a h => n0.o a (own_wipe h), n0.k, n0.f, n0.r, n0.n, fun a h => ⟨(n0.d a h).1, fun z => (n0.d a h).2 (own_wipe z)⟩⟩
  refine ⟨fun i m H' => m = x.1.length - i ∧ i ≤ x.1.length ∧ Wd i H', ⟨x.1.length, by simp, Nat.zero_le _, wipeE x.2 vs, [], [], N0.wipe vs hf, start, upd_same, Nat.zero_le _, by rw [List.drop_zero]; simpa using hx'⟩, ?_⟩
  rintro i m H' ⟨rfl, hi, ρ', us, acc, N', n', hl, hu, hw'⟩
  obtain ⟨w1, w2⟩ := wk _ H' (n'.g N1) N'.fr
  by_cases hlt : i < x.1.length
  · obtain ⟨go, yl⟩ := w1 i x.1[i] (by simp [hlt])
    refine .inr ⟨go, Wd (i + 1), fun H2 w => ⟨x.1.length - (i + 1), by omega, rfl, hlt, w⟩, fun v H2 hy => ?_⟩
    obtain ⟨s2, rv⟩ := yl v H2 hy
    have N2 := N'.same s2
    have tn1 : Turn (L2.wipe σ vs) H' ρ' (L2.wipe σ vs) H2 ρ' := (Gd.same N' s2).turn
    rw [List.drop_eq_getElem_cons hlt] at hw'
    unfold compL at hw'
    obtain ⟨ρ1, e1, hb⟩ := Rs.wp_opt (Rs.wp_bind hw')
    have fr' : vs.all (freeS ρ') = true := by
      rw [List.all_eq_true]
      intro i hi
      have hne : ∀ s, ρ'[i]? ≠ some (some s) := fun s z => by
        obtain ⟨v, h1, _⟩ := N'.env.sl i s z
        exact (wipe_some h1).2 hi
      unfold freeS
      cases e : ρ'[i]? with
      | none =>
        rw [List.getElem?_eq_none_iff] at e
        have e2 := N'.env.len
        rw [L2.wipe_length] at e2
        have h3 := List.all_eq_true.mp hf i hi
        unfold freeS at h3
        have e3 := N1.env.len
        rw [List.getElem?_eq_none (show x.2.length ≤ i by omega)] at h3
        cases h3
      | some u =>
        cases u with
        | none => rfl
        | some s => exact absurd e (hne s)
    have N2w := N2.wipe vs fr'
    rw [ww] at N2w
    refine ⟨B, _, wipeE ρ' vs, x.1[i], ρ1, N2w, rv, e1, fun σ3 N3 o3 => ⟨wipe_off o3 hs, ht _ _ _ ⟨B, _, ρ1, N3, noX_wp (Rs.wp_mono (Rs.wp_bind hb) (fun k hk H4 N4 g4 => ?_) fun _ _ _ _ h => h)⟩⟩⟩
    have tn3 : Turn (L2.wipe σ vs) H' ρ' σ3 H4 k.2 := (tn1.trans (.slots fun a h => own_wipe (σ := L2.wipe σ vs) (by rw [ww]; exact o3.own h))).trans g4.turn
    have keepD : ∀ {H5 : Hp} {ρ5 : En}, Turn (L2.wipe σ vs) H' ρ' σ3 H5 ρ5 → H5 D = some (.lst us) := fun t => t.k D _ nt hl (n'.d D (by rw [fl_olst hl]; exact .head _)).2
    by_cases hk1 : k.1 = true
    · rw [if_pos hk1] at hk
      show if k.1 = true then _ else _
      rw [if_pos hk1]
      refine ⟨B, _, k.2, N4, noX_wp (Rs.wp_mono (Rs.wp_bind hk) (fun y hy w H5 N5 n5 => ?_) fun _ _ _ _ h => h)⟩
      obtain ⟨hf5, hy⟩ := ite_bad hy
      obtain ⟨hD5, N6, n6⟩ := Gm.snoc (N1.fe D (.of hD)) N' n' hl tn3 N5 n5
      refine ⟨us, hD5, by omega, wipeE y.2 vs, us ++ [w], acc ++ [y.1], ?_, ⟨fun a h => n6.o a (own_wipe (σ := σ3) (by rw [wipe_off o3 hs]; exact h)), n6.k, n6.f, n6.r, n6.n, fun a h => ⟨(n6.d a h).1, fun z => (n6.d a h).2 (own_wipe (σ := σ3) (by rw [wipe_off o3 hs]; exact z))⟩⟩, upd_same, by simp; omega, ?_⟩
      · have N7 := N6.wipe vs hf5
        rw [wipe_off o3 hs] at N7
        exact N7
      · exact Rs.wp_mono (Rs.wp_bind hy) (fun r hr => ⟨fun v H' a1 a2 => hr.1 v H' (by rw [List.append_assoc] at a1; exact a1) (by rw [List.append_assoc] at a2; exact a2), hr.2⟩) fun _ _ _ _ h => h
    · rw [if_neg hk1] at hk
      show if k.1 = true then _ else _
      rw [if_neg hk1]
      obtain ⟨hf5, hk⟩ := ite_bad hk
      have N6 := N4.wipe vs hf5
      rw [wipe_off o3 hs] at N6
      have t6 : Turn (L2.wipe σ vs) H' ρ' (L2.wipe σ vs) H4 (wipeE k.2 vs) := tn3.trans (.slots fun a h => own_wipe (σ := σ3) (by rw [wipe_off o3 hs]; exact h))
      have g6 : Gr (lessL A (fl H' (.ref D) (.olst acc))) H' (lessL A (fl H' (.ref D) (.olst acc))) H4 := fun a o t h e => ⟨h, t6.k a o t e fun z => (N'.own z).1 h⟩
      have k6 : ∀ a ∈ fl H' (.ref D) (.olst acc), H4 a = H' a := fun a ha => by
        obtain ⟨u, q1, q2⟩ := ro.in n'.r ha
        rw [q1]; exact t6.k a u q2.1 q1 (n'.d a ha).2
      obtain ⟨r6, e6⟩ := ro.frame g6 n'.r k6
      refine ⟨wipeE k.2 vs, us, acc, by rw [e6]; exact N6, ⟨fun a h => (t6.o a h).elim (n'.o a) fun z => .inr (n'.f a z), fun a o t h z => t6.k a o t (n'.k a o t h z) fun q => (n'.o a q).elim z fun w => w.no h t, fun a h => n'.f a (t6.f a h), by rw [e6]; exact r6, by rw [e6]; exact n'.n, fun a h => ?_⟩, keepD tn3, by omega, hk⟩
      rw [e6] at h
      refine ⟨(n'.d a h).1, fun z => ?_⟩
      rcases t6.o a z with q | q
      · exact (n'.d a h).2 q
      · obtain ⟨u, q1, q2⟩ := ro.in n'.r h
        exact q.no q1 q2.1
  · have e : i = x.1.length := by omega
    subst e
    rw [List.drop_length] at hw'
    obtain ⟨hq, hv⟩ : (∀ v H', Now C B (lessL A (fl H' v (.olst (acc ++ [])))) H' σ ρ' → Gn C σ A H ρ v (.olst (acc ++ [])) H' ρ' → Q v H') ∧ ∀ i ∈ vs, ∀ s, ρ'[i]? ≠ some (some s) := hw'
    rw [List.append_nil] at hq
    exact .inl ⟨w2, hq (.ref D) H' (N'.back hv) (Gm.tr g1 ⟨fun a h => n'.o a ((own_back hv).mpr h), n'.k, n'.f, n'.r, n'.n, fun a h => ⟨(n'.d a h).1, fun z => (n'.d a h).2 ((own_back hv).mpr z)⟩⟩)⟩
theorem y_lc {me : MN} {elt tg iter : Expr} {ifs : List Expr} {scope : Scope} {own : List (Str × Nat)} {pos : Pos} {is : List Nat} {t : MT} {c : MB} {tt : TT} (hc : X.calm = true) (hN : X.N.Nodup) (hi : PI X tg iter (SI C E mi)) (ok : BlkOk X.N X.env.scope scope own) (hs : ∀ i ∈ is, i ∈ own.map (·.2)) (htt : ∀ σ H Q, SB C E0 c σ H Q → tt σ H Q)
    (hg : ∀ (s : Shared) (H : Hp) (D : Addr) (cl : List (Str × Addr)) (fp : List Addr), PG (X.blk s H scope (compEnvC scope cl D X.env) fp) tg (SG C is t)) (ht : ∀ (s : Shared) (H : Hp) (D : Addr) (cl : List (Str × Addr)) (fp : List Addr), PTs (X.blk s H scope (compEnvC scope cl D X.env) fp) ifs tt)
    (he : ∀ (s : Shared) (H : Hp) (D : Addr) (cl : List (Str × Addr)) (fp : List Addr), PE (X.blk s H scope (compEnvC scope cl D X.env) fp) elt (SN C E0 me)) (hf : ∀ x, foldedSetIterable iter X.env x = pure x := by intro _; rfl) :
    PE X (.ListComp elt [⟨tg, iter, ifs, 0⟩] scope pos) (SF C E (compF (own.map (·.2)) mi t c me)) := PE.imp (pe_lc hc hN hi ok hg ht he hf) (lc_rd hs (fun _ _ _ h => h) htt)
end
end Y

set_option Elab.async false
set_option linter.all false
set_option maxRecDepth 100000
set_option maxHeartbeats 4000000
set_option autoImplicit false
/-! W7: own lists read and changed. -/
namespace Y
open PySem L2 Z
section
variable {X : Cx} {C : Cn} {E : XK} {e a b tg : Expr} {ma mb : ME} {ms mk : MS} {mi : MI} {es : List Expr} {ml : MA} {mf : ML} {pos : Pos}
theorem gr_put {A : Rg} {H : Hp} {l : Addr} {o : HO} (n : ¬ A l) : Gr A H A (upd H l o) := fun a u _ k h => ⟨k, by rw [upd_ne (fun z => n (by rw [← z]; exact k))]; exact h⟩
/-- an own list's slot -/
theorem Now.lst {B : Bs} {A : Rg} {H : Hp} {σ : L2.St} {ρ : En} {i : Nat} {p : Bool} {xs : List Val} (N : Now C B A H σ ρ) (h : ρ[i]? = some (some (.ow p xs))) : ∃ l vs, σ[i]? = some (some (.ref l)) ∧ H l = some (.lst vs) ∧ ros C A H vs xs ∧ slr C A H (.ref l) (.ow p xs) ∧ ¬ A l ∧ l ∉ fls H vs xs := by
  obtain ⟨v, h1, h2⟩ := N.slot h
  obtain ⟨o, r, n, d⟩ := h2
  obtain ⟨l, vs, rfl, k, rs⟩ := ro_olst.mp r
  have e := fl_olst (xs := xs) k
  refine ⟨l, vs, h1, k, rs, ⟨o, r, n, d⟩, d l (by rw [e]; exact .head _), ?_⟩
  rw [e] at n
  exact (List.nodup_cons.mp n).1
theorem fls_append {H : Hp} : ∀ {us ws : List V} {xs ys : List Val}, us.length = xs.length → fls H (us ++ ws) (xs ++ ys) = fls H us xs ++ fls H ws ys
  | [], ws, [], ys, _ => by
    have e : fls H ([] : List V) [] = [] := by unfold fls; rfl
    rw [e]; rfl
  | u :: us, ws, x :: xs, ys, h => by
    show fls H (u :: (us ++ ws)) (x :: (xs ++ ys)) = _
    rw [fls_cons, fls_cons, fls_append (by simpa using h), List.append_assoc]
  | [], _, _ :: _, _, h => by cases h
  | _ :: _, _, [], _, h => by cases h
theorem ros.append {A : Rg} {H : Hp} : ∀ {xs : List Val} {vs : List V} {ys : List Val} {ws : List V}, ros C A H vs xs → ros C A H ws ys → ros C A H (vs ++ ws) (xs ++ ys)
  | [], vs, _, _, h, k => by unfold ros at h; subst h; exact k
  | x :: xs, vs, _, _, h, k => by
    unfold ros at h
    obtain ⟨v, r, rfl, h1, h2⟩ := h
    exact ros_cons h1 (ros.append h2 k)
/-- the list of an own slot gets other elements, the own ones as they were -/
theorem Now.putL {B : Bs} {A : Rg} {H : Hp} {σ : L2.St} {ρ : En} {i : Nat} {p : Bool} {l : Addr} {xs ys : List Val} {vs ws : List V} (N : Now C B A H σ ρ) (h : ρ[i]? = some (some (.ow p xs))) (hσ : σ[i]? = some (some (.ref l))) (hl : H l = some (.lst vs)) (nl : l ∉ fls H vs xs) (s0 : slr C A H (.ref l) (.ow p xs))
    (r : ∀ H', (∀ a, a ≠ l → H' a = H a) → ros C A H' ws ys ∧ fls H' ws ys = fls H vs xs) : Now C B A (upd H l (.lst ws)) σ (ρ.set i (some (.ow p ys))) ∧ Gd σ A H ρ (upd H l (.lst ws)) (ρ.set i (some (.ow p ys))) := by
  obtain ⟨r1, r2⟩ := r (upd H l (.lst ws)) fun a n => upd_ne n
  have e0 : fl H (.ref l) (.olst xs) = l :: fls H vs xs := fl_olst hl
  have e1 : fl (upd H l (.lst ws)) (.ref l) (.olst ys) = fl H (.ref l) (.olst xs) := by rw [fl_olst upd_same, r2, e0]
  obtain ⟨_, _, n, d⟩ := s0
  refine N.put (s := .ow p xs) (s' := .ow p ys) (l := l) h hσ (by show l ∈ fl H (.ref l) (.olst xs); rw [e0]; exact .head _) nt rfl rfl ⟨rfl, ro_olst.mpr ⟨l, ws, rfl, upd_same, r1⟩, by rw [e1]; exact n, by rw [e1]; exact d⟩ e1
/-- what stays where the list itself changes -/
theorem ros.keep {A : Rg} {H H' : Hp} {l : Addr} {xs : List Val} {vs : List V} (nA : ¬ A l) (nl : l ∉ fls H vs xs) (k : ∀ a, a ≠ l → H' a = H a) (r : ros C A H vs xs) : ros C A H' vs xs ∧ fls H' vs xs = fls H vs xs :=
  ros.frame (fun a o _ h e => ⟨h, by rw [k a (fun z => nA (by rw [← z]; exact h))]; exact e⟩) r fun a ha => k a (fun z => nl (by rw [← z]; exact ha))
theorem rep.keep {A : Rg} {H H' : Hp} {l : Addr} {x : Val} {v : V} (nA : ¬ A l) (k : ∀ a, a ≠ l → H' a = H a) (r : rep C A H v x) : rep C A H' v x :=
  rep.gr (fun a o _ h e => ⟨h, by rw [k a (fun z => nA (by rw [← z]; exact h))]; exact e⟩) r
theorem reps.keep {A : Rg} {H H' : Hp} {l : Addr} {x : List Val} {v : List V} (nA : ¬ A l) (k : ∀ a, a ≠ l → H' a = H a) (r : reps C A H v x) : reps C A H' v x :=
  reps.gr (fun a o _ h e => ⟨h, by rw [k a (fun z => nA (by rw [← z]; exact h))]; exact e⟩) r
/-- x.append(e) -/
def appS (i : Nat) (m : ME) : MS := fun ρ => match ρ[i]? with
  | some (some (.ob _ (.olst _))) => m ρ >>= fun x => match x.2[i]? with
    | some (some (.ob p (.olst xs))) => if xs.length < sizeLine then .ok (.nx (x.2.set i (some (.ow p (xs ++ [x.1]))))) else .bad
    | _ => .bad
  | _ => .bad
theorem ys_app {i : Nat} {st : Stmt} (hK : X.K = C.K) (h : PS X st (tDrop (tBM X.K "list" rAppend (tVar i) (tCons (SE C E ma) tNil)))) : PS X st (SS C E (appS i ma)) := PS.imp h fun D σ H ⟨B, A, ρ, N, hm⟩ => by
  unfold appS at hm
  split at hm
  · rename_i p0 xs0 h0
    obtain ⟨l, vs, hσ, hl, _⟩ := N.lst h0
    refine ⟨_, hσ, .inl ⟨rfl, vs, SqL.of hl⟩, B, A, ρ, N, Rs.wp_mono (Rs.wp_bind hm) (fun x hx v H1 N1 g1 r1 => ?_) EXe.of⟩
    split at hx
    · rename_i p xs h1
      obtain ⟨hz, hx⟩ := ite_bad hx
      obtain ⟨l', ws, hσ', hl', rs, s0, nA, nl⟩ := N1.lst h1
      rw [hσ] at hσ'; cases hσ'
      refine ⟨l, ws, v, rfl, rfl, hl', by rw [rs.len]; exact hz, ?_⟩
      obtain ⟨N2, g2⟩ := N1.putL (ys := xs ++ [x.1]) (ws := ws ++ [v]) h1 hσ hl' nl s0 fun H' k => by
        obtain ⟨q1, q2⟩ := rs.keep nA nl k
        refine ⟨q1.append (ros_cons (rep.keep nA k r1).ro ros_nil), ?_⟩
        rw [fls_append rs.len, q2, fls_fz (reps_cons (rep.keep nA k r1) reps_nil), List.append_nil]
      exact hx A σ _ N2 (g1.g.trans g2.g)
    · exact hx.elim
  · exact hm.elim
/-- x.extend(e), e a list -/
def extS (i : Nat) (m : ME) : MS := fun ρ => match ρ[i]? with
  | some (some (.ob _ (.olst _))) => m ρ >>= fun x => match x.2[i]?, x.1 with
    | some (some (.ob p (.olst xs))), .lst ys => if xs.length + ys.length ≤ sizeLine then .ok (.nx (x.2.set i (some (.ow p (xs ++ ys))))) else .bad
    | _, _ => .bad
  | _ => .bad
theorem ys_ext {i : Nat} {st : Stmt} (hK : X.K = C.K) (h : PS X st (tDrop (tBM X.K "list" rExtend (tVar i) (tCons (SE C E ma) tNil)))) : PS X st (SS C E (extS i ma)) := PS.imp h fun D σ H ⟨B, A, ρ, N, hm⟩ => by
  unfold extS at hm
  split at hm
  · rename_i p0 xs0 h0
    obtain ⟨l, vs, hσ, hl, _⟩ := N.lst h0
    refine ⟨_, hσ, .inl ⟨rfl, vs, SqL.of hl⟩, B, A, ρ, N, Rs.wp_mono (Rs.wp_bind hm) (fun x hx v H1 N1 g1 r1 => ?_) EXe.of⟩
    split at hx
    · rename_i p xs ys h1 h2
      obtain ⟨hz, hx⟩ := ite_bad hx
      obtain ⟨l', ws, hσ', hl', rs, s0, nA, nl⟩ := N1.lst h1
      rw [hσ] at hσ'; cases hσ'
      rw [h2] at r1
      obtain ⟨b, us, rfl, nb, hb, rb⟩ := rep_lst.mp r1
      refine ⟨l, b, ws, us, rfl, rfl, hl', hb, by rw [rs.len, rb.len]; exact hz, ?_⟩
      obtain ⟨N2, g2⟩ := N1.putL (ys := xs ++ ys) (ws := ws ++ us) h1 hσ hl' nl s0 fun H' k => by
        obtain ⟨q1, q2⟩ := rs.keep nA nl k
        refine ⟨q1.append (reps.keep nA k rb).ros, ?_⟩
        rw [fls_append rs.len, q2, fls_fz (reps.keep nA k rb), List.append_nil]
      exact hx A σ _ N2 (g1.g.trans g2.g)
    · exact hx.elim
  · exact hm.elim
/-! x[k] = e, what stood there frozen -/
theorem ros.at {A : Rg} {H : Hp} : ∀ {xs : List Val} {vs : List V} {n : Nat} {x : Val}, ros C A H vs xs → xs[n]? = some x → ∃ v, vs[n]? = some v ∧ ro C A H v x
  | [], _, _, _, _, e => by simp at e
  | y :: ys, vs, n, x, k, e => by
    unfold ros at k
    obtain ⟨u, r, rfl, h1, h2⟩ := k
    cases n with
    | zero => simp at e; subst e; exact ⟨u, rfl, h1⟩
    | succ n => simpa using ros.at h2 (by simpa using e)
theorem ros.set {A : Rg} {H : Hp} {v : V} {x z : Val} (h : rep C A H v x) (hz : z.isO = false) : ∀ {xs : List Val} {vs : List V} {n : Nat}, ros C A H vs xs → xs[n]? = some z → ros C A H (vs.set n v) (xs.set n x) ∧ fls H (vs.set n v) (xs.set n x) = fls H vs xs
  | [], _, _, _, e => by simp at e
  | y :: ys, vs, n, k, e => by
    unfold ros at k
    obtain ⟨u, r, rfl, h1, h2⟩ := k
    cases n with
    | zero =>
      simp at e; subst e
      refine ⟨ros_cons h.ro h2, ?_⟩
      show fls H (v :: r) (x :: ys) = _
      rw [fls_cons, fls_cons, fl_fz h.fz, fl_fz hz]
    | succ n =>
      obtain ⟨q1, q2⟩ := ros.set h hz h2 (by simpa using e)
      refine ⟨ros_cons h1 q1, ?_⟩
      show fls H (u :: r.set n v) (y :: ys.set n x) = _
      rw [fls_cons, fls_cons, q2]
/-- x[k] = e -/
def setS (i : Nat) (mk : ME) (m : ME) : MS := fun ρ => m ρ >>= fun x => match x.2[i]? with
  | some (some (.ob _ (.olst _))) => mk x.2 >>= fun k => match k.2[i]?, k.1 with
    | some (some (.ob p (.olst xs))), .int j => match ixN xs.length j with
      | some n => match xs[n]? with
        | some z => if z.isO = false then .ok (.nx (k.2.set i (some (.ow p (xs.set n x.1))))) else .bad
        | none => .bad
      | none => .bad
    | _, _ => .bad
  | _ => .bad
theorem ys_set {i : Nat} {mk' : ME} {st : Stmt} (h : PS X st (tAsg (SE C E ma) (gSub (tVar i) (SE C E mk') rSetL))) : PS X st (SS C E (setS i mk' ma)) := PS.imp h fun D σ H ⟨B, A, ρ, N, hm⟩ =>
  ⟨B, A, ρ, N, Rs.wp_mono (Rs.wp_bind hm) (fun x hx v H1 N1 g1 r1 => by
    split at hx
    · rename_i p0 xs0 h0
      obtain ⟨l, vs, hσ, hl, _⟩ := N1.lst h0
      refine ⟨_, hσ, B, A, x.2, N1, Rs.wp_mono (Rs.wp_bind hx) (fun k hk u H2 N2 g2 r2 => ?_) (EXe.of)⟩
      split at hk
      · rename_i p xs j h1 h2
        split at hk
        · rename_i n hn
          split at hk
          · rename_i z hz
            obtain ⟨ho, hk⟩ := ite_bad hk
            obtain ⟨l', ws, hσ', hl', rs, s0, nA, nl⟩ := N2.lst h1
            rw [hσ] at hσ'; cases hσ'
            rw [h2] at r2
            refine ⟨l, ws, j, n, rfl, rep_int.mp r2, hl', by rw [rs.len]; exact hn, ?_⟩
            obtain ⟨N3, g3⟩ := N2.putL (ys := xs.set n x.1) (ws := ws.set n v) h1 hσ hl' nl s0 fun H' k => by
              obtain ⟨q1, q2⟩ := rs.keep nA nl k
              obtain ⟨q3, q4⟩ := ros.set (rep.keep nA k (rep.gr g2.g r1)) ho q1 hz
              exact ⟨q3, q4.trans q2⟩
            exact hk A σ _ N3 ((g1.trans g2).g.trans g3.g)
          · exact hk.elim
        · exact hk.elim
      · exact hk.elim
    · exact hx.elim) EXe.of⟩
theorem reps.at {A : Rg} {H : Hp} {xs : List Val} {vs : List V} {j : Int} {x : Val} (r : reps C A H vs xs) (h : atI xs j = some x) : ∃ v, atI vs j = some v ∧ rep C A H v x := by
  unfold atI at h ⊢
  rw [r.len]
  cases e : ixN xs.length j with
  | none => rw [e] at h; cases h
  | some n =>
    rw [e] at h
    exact wk_list.paired_at' r.pair h
theorem ros.atI {A : Rg} {H : Hp} {xs : List Val} {vs : List V} {j : Int} {x : Val} (r : ros C A H vs xs) (h : L2.atI xs j = some x) : ∃ v, L2.atI vs j = some v ∧ ro C A H v x := by
  unfold L2.atI at h ⊢
  rw [r.len]
  cases e : ixN xs.length j with
  | none => rw [e] at h; cases h
  | some n =>
    rw [e] at h
    exact ros.at r h
/-- x[k] of an own list: what stands there is frozen -/
def ixO (i : Nat) (mk : ME) : ME := fun ρ => match ρ[i]? with
  | some (some (.ob _ (.olst _))) => mk ρ >>= fun k => match k.2[i]?, k.1 with
    | some (some (.ob p (.olst xs))), .int j => Rs.opt (atI xs j) >>= fun z => if z.isO = false then .ok (z, k.2) else .bad
    | _, _ => .bad
  | _ => .bad
theorem y_ixO {i : Nat} (h : PE X e (tOp (rIx C.K) (tVar i) (SE C E mb))) : PE X e (SE C E (ixO i mb)) := PE.imp h fun σ H Q ⟨B, A, ρ, N, hm⟩ => by
  unfold ixO at hm
  split at hm
  · rename_i p0 xs0 h0
    obtain ⟨l, vs, hσ, hl, _⟩ := N.lst h0
    refine ⟨_, hσ, B, A, ρ, N, Rs.wp_mono (Rs.wp_bind hm) (fun k hk u H1 N1 g1 r1 => ?_) fun _ _ _ _ h => h⟩
    split at hk
    · rename_i p xs j h1 h2
      obtain ⟨z, e, hz⟩ := Rs.wp_opt (Rs.wp_bind hk)
      obtain ⟨ho, hz⟩ := ite_bad hz
      obtain ⟨l', ws, hσ', hl', rs, _⟩ := N1.lst h1
      rw [hσ] at hσ'; cases hσ'
      rw [h2] at r1
      obtain ⟨v, hv, rv⟩ := rs.atI e
      exact .inl ⟨l, ws, j, v, rfl, rep_int.mp r1, SqL.of hl', hv, hz v H1 N1 g1 ((ro_fz ho).mp rv)⟩
    · exact hk.elim
  · exact hm.elim
/-- len(x) of an own list -/
def lenO (i : Nat) : ME := fun ρ => match ρ[i]? with
  | some (some (.ob _ (.olst xs))) => .ok (.int xs.length, ρ)
  | _ => .bad
theorem y_lenO {i : Nat} (h : PE X e (tCB (fun xs H Q => ∃ p ys, xs = [.ref p] ∧ (SqL C.K H p ys ∨ SqT C.K H p ys) ∧ Q (.int ys.length) H) (tCons (tVar i) tNil))) : PE X e (SE C E (lenO i)) := PE.imp h fun σ H Q ⟨B, A, ρ, N, hm⟩ => by
  unfold lenO at hm
  split at hm
  · rename_i p0 xs0 h0
    obtain ⟨l, vs, hσ, hl, rs, _⟩ := N.lst h0
    exact ⟨_, hσ, l, vs, rfl, .inl (SqL.of hl), hm _ H N (.refl _ _ _ _) (rep_int.mpr (by rw [rs.len]))⟩
  · exact hm.elim
end
end Y

set_option Elab.async false
set_option linter.all false
set_option maxRecDepth 100000
set_option maxHeartbeats 4000000
set_option autoImplicit false
/-! W8: defs and their calls. -/
namespace Y
open PySem L2 Z
section
variable {X : Cx} {C : Cn} {E : XK} {e a b tg : Expr} {ma mb : ME} {ms mk : MS} {mi : MI} {es : List Expr} {ml : MA} {mf : ML} {pos : Pos}
/-! ### own values of frozen parts -/
def flatV : Val → Bool
  | .olst xs => xs.all fun x => !x.isO
  | .odic _ xs => xs.all fun x => !x.isO
  | .odit _ xs => xs.all fun x => !x.isO
  | .oins _ _ xs => xs.all fun x => !x.isO
  | _ => false
def SV.flat : SV → Bool | .fz _ => false | .ob _ x => flatV x
theorem ros.reps {A : Rg} {H : Hp} : ∀ {xs : List Val} {vs : List V}, (xs.all fun x => !x.isO) = true → ros C A H vs xs → Y.reps C A H vs xs
  | [], vs, _, h => by unfold ros at h; subst h; exact reps_nil
  | x :: xs, vs, k, h => by
    unfold ros at h
    obtain ⟨v, r, rfl, h1, h2⟩ := h
    rw [List.all_cons, Bool.and_eq_true] at k
    exact reps_cons ((ro_fz (by simpa using k.1)).mp h1) (ros.reps k.2 h2)
theorem fl_flat {A : Rg} {H : Hp} {x : Val} {v : V} (k : flatV x = true) (r : ro C A H v x) : ∃ l, v = .ref l ∧ fl H v x = [l] := by
  cases x with
  | olst xs => obtain ⟨l, vs, rfl, h, rs⟩ := ro_olst.mp r; exact ⟨l, rfl, by rw [fl_olst h, fls_fz (rs.reps k)]⟩
  | odic ks xs => obtain ⟨l, vs, rfl, h, hl, rs⟩ := ro_odic.mp r; exact ⟨l, rfl, by rw [fl_odic h (by rw [rs.len]; exact hl), fls_fz (rs.reps k)]⟩
  | odit ks xs => obtain ⟨l, vs, rfl, h, hl, rs⟩ := ro_odit.mp r; exact ⟨l, rfl, by rw [fl_odit h (by rw [rs.len]; exact hl), fls_fz (rs.reps k)]⟩
  | oins c ns xs => obtain ⟨l, dx, vs, rfl, n, h, h2, hl, rs⟩ := ro_oins.mp r; exact ⟨l, rfl, by rw [fl_oins h (by rw [rs.len]; exact hl), fls_fz (rs.reps k)]⟩
  | _ => cases k
/-! ### defs -/
def finM (o : Rs Out) : Rs (Val × En) := o >>= fun o => match o with | .nx ρ => .ok (.non, ρ) | .rt x ρ => .ok (x, ρ) | _ => .bad
def padE (ρ : En) (n : Nat) : En := ρ ++ List.replicate (n - ρ.length) none
/-- the slots that came in as own: as they are now -/
def ownAft (C : Cn) (A : Rg) (H H' : Hp) (vs : List V) (ρ ρ' : En) : Prop := ∀ (i : Nat) (s : SV), ρ[i]? = some (some s) → s.own = true → ∃ v s', vs[i]? = some v ∧ ρ'[i]? = some (some s') ∧ s'.own = true ∧ s'.pin = true ∧ (s'.flat = true → slr C A H' v s' ∧ ∀ a ∈ flS H' v s', a ∈ flS H v s)
structure Aft (C : Cn) (A : Rg) (vs : List V) (ρ : En) (H : Hp) (H' : Hp) (ρ' : En) : Prop where
  kp : ∀ a o, NT o → ¬ OwnAt H (vs.map some) ρ a → H a = some o → H' a = some o
  fe : ∀ a, Fz H' a → Fz H a
  tb : LamX.Tabs C.T H'
  ow : ownAft C A H H' vs ρ ρ'
def spF (C : Cn) (np n : Nat) (body : MS) : Sp := fun vs H Q E => ∃ A ρ, Fq A H ∧ LamX.Tabs C.T H ∧ vs.length = np ∧ np ≤ n ∧ EnvR C A H (vs.map some) ρ ∧ (∀ (i : Nat) (s : SV), ρ[i]? = some (some s) → s.own = true → s.pin = true) ∧
  (finM (body (padE ρ n))).wp (fun r => ∀ v H', Aft C A vs ρ H H' r.2 → rep C A H' v r.1 → Q v H')
    (fun c ns xs ρ' => ∀ d ws H', Aft C A vs ρ H H' ρ' → A d → H' d = some (.xd (ns.zip ws)) → ns.length = xs.length → reps C A H' ws xs → E (.ref (C.ca c)) (some d) H')
def pinsOf (vs : List V) (ρ : En) : List (Nat × Addr) := (List.range ρ.length).filterMap fun i => match (ρ[i]? : Option (Option SV)), (vs[i]? : Option V) with
  | some (some s), some (V.ref l) => if s.own = true then some (i, l) else none
  | _, _ => none
theorem mem_pins {vs : List V} {ρ : En} {i : Nat} {l : Addr} : (i, l) ∈ pinsOf vs ρ ↔ ∃ s, ρ[i]? = some (some s) ∧ s.own = true ∧ vs[i]? = some (.ref l) := by
  unfold pinsOf
  rw [List.mem_filterMap]
  constructor
  · rintro ⟨j, hj, h⟩
    split at h
    · rename_i s l' h1 h2
      split at h
      · rename_i o
        cases h
        exact ⟨s, h1, o, h2⟩
      · cases h
    · cases h
  · rintro ⟨s, h1, o, h2⟩
    refine ⟨i, List.mem_range.mpr (List.getElem?_eq_some_iff.mp h1).1, ?_⟩
    rw [h1, h2]
    simp [o]
theorem pad_get {ρ : En} {n i : Nat} {s : SV} : (padE ρ n)[i]? = some (some s) ↔ ρ[i]? = some (some s) := by
  unfold padE
  rw [List.getElem?_append]
  split
  · exact Iff.rfl
  · rename_i h
    rw [List.getElem?_eq_none (show ρ.length ≤ i by omega)]
    constructor
    · intro z
      rw [List.getElem?_replicate] at z
      split at z <;> cases z
    · intro z; cases z
theorem start_get {N : List Str} {vs : List V} {i : Nat} (h : i < vs.length) : (L2.start N vs)[i]? = (vs.map some)[i]? := by
  unfold L2.start
  rw [List.getElem?_append_left (by simpa using h)]
theorem flS_own {H : Hp} {v : V} {s : SV} {a : Addr} (h : a ∈ flS H v s) : s.own = true := by
  cases s with
  | fz x => cases h
  | ob p x => rfl
theorem slr.at {A : Rg} {H : Hp} {v : V} {s : SV} (h : slr C A H v s) (o : s.own = true) : ∃ l, v = .ref l ∧ ¬ A l ∧ l ∈ flS H v s := by
  cases s with
  | fz x => cases o
  | ob p x =>
    obtain ⟨k, r, n, d⟩ := h
    obtain ⟨l, u, e, _, _, _, _, m⟩ := ro.at r k
    exact ⟨l, e, d l m, m⟩
/-- where a def begins -/
abbrev bsOf (A : Rg) (H : Hp) (vs : List V) (ρ : En) : Bs := ⟨A, H, pinsOf vs ρ, fun a => OwnAt H (vs.map some) ρ a⟩
theorem now_start {A : Rg} {H : Hp} {vs : List V} {ρ : En} {N : List Str} (fr : Fq A H) (tb : LamX.Tabs C.T H) (env : EnvR C A H (vs.map some) ρ) (hp : ∀ (i : Nat) (s : SV), ρ[i]? = some (some s) → s.own = true → s.pin = true) :
    Now C (bsOf A H vs ρ) A H (L2.start N vs) (padE ρ N.length) := by
  have lρ : ρ.length = vs.length := by rw [← env.len, List.length_map]
  have at_ : ∀ {i : Nat} {s : SV}, ρ[i]? = some (some s) → i < vs.length := fun {i s} h => by rw [← lρ]; exact (List.getElem?_eq_some_iff.mp h).1
  refine ⟨⟨?_, fun i s h => ?_, fun i j s t u v ij hs ht hu hv => ?_⟩, fr, fr, fun a z => (env.own z).1, fun _ h => h, fun a o _ _ h => h, tb, fun _ h => h, fun i s v a h1 h2 h3 => ?_, fun i l h => ?_⟩
  · unfold L2.start padE
    rw [List.length_append, List.length_append, List.length_map, List.length_replicate, List.length_replicate, lρ]
  · have h' := pad_get.mp h
    obtain ⟨v, h1, h2⟩ := env.sl i s h'
    exact ⟨v, by rw [start_get (at_ h')]; exact h1, h2⟩
  · have hs' := pad_get.mp hs
    have ht' := pad_get.mp ht
    rw [start_get (at_ hs')] at hu
    rw [start_get (at_ ht')] at hv
    exact env.ne i j s t u v ij hs' ht' hu hv
  · have h' := pad_get.mp h1
    rw [start_get (at_ h')] at h2
    exact .inr ⟨⟨i, s, v, h', h2, h3⟩, hp i s h' (flS_own h3)⟩
  · obtain ⟨s, h1, h2, h3⟩ := mem_pins.mp h
    exact ⟨by rw [start_get (at_ h1), List.getElem?_map, h3]; rfl, s, pad_get.mpr h1, h2, hp i s h1 h2⟩
/-- where it ends -/
theorem now_aft {A A' : Rg} {H H' : Hp} {vs : List V} {ρ ρ' : En} {σ' : L2.St} (env : EnvR C A H (vs.map some) ρ) (N' : Now C (bsOf A H vs ρ) A' H' σ' ρ') : Aft C A vs ρ H H' ρ' := by
  refine ⟨fun a o t z h => N'.kp a o t z h, N'.fe, N'.tb, fun i s h o => ?_⟩
  obtain ⟨v, k1, k2⟩ := env.sl i s h
  obtain ⟨l, rfl, n, m⟩ := k2.at o
  have hv : vs[i]? = some (.ref l) := by
    rw [List.getElem?_map] at k1
    cases e2 : vs[i]? with
    | none => rw [e2] at k1; cases k1
    | some v => rw [e2] at k1; cases k1; rfl
  obtain ⟨q1, s', q2, q3, q4⟩ := N'.pn i l (mem_pins.mpr ⟨s, h, o, hv⟩)
  obtain ⟨u, q5, q6⟩ := N'.env.sl i s' q2
  rw [q1] at q5; cases q5
  refine ⟨_, s', hv, q2, q3, q4, fun hf => ?_⟩
  cases s' with
  | fz x => cases q3
  | ob p x =>
    obtain ⟨io, r, nd, d⟩ := q6
    obtain ⟨l', e, f⟩ := fl_flat (C := C) hf r
    cases e
    have g : Gr A' H' A H' := fun a o _ k e => ⟨N'.le a k, e⟩
    obtain ⟨r2, e2⟩ := ro.frame g r fun _ _ => rfl
    exact ⟨⟨io, r2, nd, fun a ha => by rw [f, List.mem_singleton] at ha; subst ha; exact n⟩, fun a ha => by
      have ha : a ∈ fl H' (V.ref l) x := ha
      rw [f, List.mem_singleton] at ha; subst ha; exact m⟩
theorem spF.rd {np : Nat} {N : List Str} {body : MS} {vs : List V} {H : Hp} {Q : VK} (h : spF C np N.length body vs H Q E) : SS C E body { nx := fun _ H' => Q .non H', rt := Q } (L2.start N vs) H := by
  obtain ⟨A, ρ, fr, tb, hl, hnp, env, hp, hw⟩ := h
  have N0 := now_start (N := N) fr tb env hp
  refine ⟨_, A, _, N0, ?_⟩
  unfold finM at hw
  have toA : ∀ {A' : Rg} {H' : Hp} {σ' : L2.St} {ρ' : En}, Now C (bsOf A H vs ρ) A' H' σ' ρ' → Gr A' H' A H' := fun N' a o _ k e => ⟨N'.le a k, e⟩
  refine Rs.wp_mono (Rs.wp_bind hw) (fun o ho => ?_) fun c ns xs ρ' ho => ?_
  · cases o with
    | nx ρ' => exact fun A' σ' H' N' _ => ho .non H' (now_aft env N') (rep_non.mpr rfl)
    | rt y ρ' => exact fun v A' σ' H' N' _ r => ho v H' (now_aft env N') (rep.gr (toA N') r)
    | bk ρ' => exact ho.elim
    | ct ρ' => exact ho.elim
  · exact fun d ws A' σ' H' N' hd h1 h2 h3 => ho d ws H' (now_aft env N') (N'.le d hd) h1 h2 (reps.gr (toA N') h3)
section
variable {P : Program} {w : World} {mg : Str → Option Value} {base : Heap} {x qual : Str} {st : Stmt} {f : Addr} {fd : FuncData} {N ps : List Str} {k : Nat} {body : MS}
/-- a def keeps its promise -/
theorem y_fn (F : Fun C.K x qual st f fd) (S : FnScope N ps (defScope st)) (hn : ps.length ≤ N.length)
    (hbody : ∀ (cdv : Value) (A : Around) (outer : List PySem.Env) (s : Shared) (H : Hp) (E : XK), Room k (A.deeper (PyProof.Rows.envOfC qual (defScope st) s.heap.objs.size f cdv)) → PSs (cxOf (L2.CX P w) P w C.K mg base N qual (defScope st) f cdv A outer s H E) (defBody st) (SS C E body)) :
    FnOk P w C.K mg base (L2.CX P w) (k + 1) f fd ps (spF C ps.length N.length body) :=
  F.okX S (fun vs H Q E h => h.choose_spec.choose_spec.2.2.1) fun cdv A0 outer s H vs Q E hr h => ⟨SS C E body, hbody cdv A0 outer s H E hr, h.rd⟩
/-- .. a def whose code object is told -/
theorem y_fnL {oc kV doc pm ct : Value} {od an : Option Addr} {osl : Array (Option Value)} {c : Addr} (lk : C.K.lookup f = some ⟨oc, od, .func (PySem.W.fnOf x qual (defArgs st) (defBody st) (defScope st) .none kV doc pm an (.ref c) ct), osl⟩) (hcd : PySem.W.codeIn C.K (.ref c) qual = true) (S : FnScope N ps (defScope st)) (hn : ps.length ≤ N.length)
    (hbody : ∀ (A : Around) (outer : List PySem.Env) (s : Shared) (H : Hp) (E : XK), Room k (A.deeper (PyProof.Rows.envOfC qual (defScope st) s.heap.objs.size f (.ref c))) → PSs (cxOf (L2.CX P w) P w C.K mg base N qual (defScope st) f (.ref c) A outer s H E) (defBody st) (SS C E body)) :
    FnOk P w C.K mg base (L2.CX P w) (k + 1) f (PySem.W.fnOf x qual (defArgs st) (defBody st) (defScope st) .none kV doc pm an (.ref c) ct) ps (spF C ps.length N.length body) :=
  fn_of lk hcd S (fun vs H Q E h => h.choose_spec.choose_spec.2.2.1) fun A0 outer s H vs Q E hr h => ⟨SS C E body, hbody A0 outer s H E hr, h.rd⟩
/-- a def that returns a new value -/
def spN (C : Cn) (np n : Nat) (m : MN) : Sp := fun vs H Q _ => ∃ A ρ, Fq A H ∧ LamX.Tabs C.T H ∧ vs.length = np ∧ np ≤ n ∧ EnvR C A H (vs.map some) ρ ∧ (∀ (i : Nat) (s : SV), ρ[i]? = some (some s) → s.own = true → s.pin = true) ∧
  (m (padE ρ n)).wp (fun r => ∀ v H', Aft C A vs ρ H H' r.2 → ro C (lessL A (fl H' v r.1)) H' v r.1 → (fl H' v r.1).Nodup → (∀ a ∈ fl H' v r.1, Fz H a) → Q v H') fun _ _ _ _ => False
theorem y_fnN {m : MN} {e : Expr} {pos : Pos} (F : Fun C.K x qual st f fd) (S : FnScope N ps (defScope st)) (hst : defBody st = [.Return (some e) pos])
    (hbody : ∀ (cdv : Value) (A : Around) (outer : List PySem.Env) (s : Shared) (H : Hp) (E : XK), Room k (A.deeper (PyProof.Rows.envOfC qual (defScope st) s.heap.objs.size f cdv)) → PE (cxOf (L2.CX P w) P w C.K mg base N qual (defScope st) f cdv A outer s H E) e (SN C E m)) :
    FnOk P w C.K mg base (L2.CX P w) (k + 1) f fd ps (spN C ps.length N.length m) := by
  refine F.okX S (fun vs H Q E h => h.choose_spec.choose_spec.2.2.1) fun cdv A0 outer s H vs Q E hr h => ⟨tRet (SN C E m), by rw [hst]; exact pss_one (ps_ret (hbody cdv A0 outer s H E hr)), ?_⟩
  obtain ⟨A, ρ, fr, tb, hl, hnp, env, hp, hw⟩ := h
  have N0 := now_start (N := N) fr tb env hp
  exact ⟨_, A, _, N0, Rs.wp_mono hw (fun r hr v H' N' g => hr v H' (now_aft env N') g.r g.n fun a ha => (g.d a ha).1) fun _ _ _ _ h => h.elim⟩
end
/-! ### calls -/
/-- a def as a function of frozen values -/
def runF (n : Nat) (body : MS) (xs : List Val) : Rs (Val × En) := finM (body (padE (xs.map fun x => some (.fz x)) n))
def reE {α : Type} (r : Rs α) (ρ : En) : Rs α := match r with | .exc c ns vs _ => .exc c ns vs ρ | .ok x => .ok x | .bad => .bad
/-- f(e, ..): no own argument -/
def callM (np n : Nat) (body : MS) (a : MA) : ME := fun ρ => a ρ >>= fun x => if x.1.length = np ∧ np ≤ n then reE (runF n body x.1) x.2 >>= fun r => .ok (r.1, x.2) else .bad
theorem env_fz {A : Rg} {H : Hp} {vs : List V} {xs : List Val} (r : reps C A H vs xs) : EnvR C A H (vs.map some) (xs.map fun x => some (.fz x)) := by
  refine ⟨by simp [r.len], fun i s h => ?_, fun i j s t u v _ hs _ _ _ a ha => ?_⟩
  · rw [List.getElem?_map] at h
    cases e : xs[i]? with
    | none => rw [e] at h; cases h
    | some x =>
      rw [e] at h; cases h
      obtain ⟨v, hv, rv⟩ := wk_list.paired_at' r.pair e
      exact ⟨v, by rw [List.getElem?_map, hv]; rfl, rv⟩
  · rw [List.getElem?_map] at hs
    cases e : xs[i]? with
    | none => rw [e] at hs; cases hs
    | some x => rw [e] at hs; cases hs; cases ha
theorem no_own {H : Hp} {vs : List V} {xs : List Val} {a : Addr} : ¬ OwnAt H (vs.map some) (xs.map fun x => some (.fz x)) a := fun ⟨i, s, v, h, _, ha⟩ => by
  rw [List.getElem?_map] at h
  cases e : xs[i]? with
  | none => rw [e] at h; cases h
  | some x => rw [e] at h; cases h; cases ha
theorem fz_pin {xs : List Val} : ∀ (i : Nat) (s : SV), (xs.map fun x => some (SV.fz x))[i]? = some (some s) → s.own = true → s.pin = true := fun i s h o => by
  rw [List.getElem?_map] at h
  cases e : xs[i]? with
  | none => rw [e] at h; cases h
  | some y => rw [e] at h; cases h; cases o
theorem call_core {np n : Nat} {body : MS} {B : Bs} {A : Rg} {H1 : Hp} {σ : L2.St} {ρ1 : En} {vs : List V} {xs : List Val} {Q : VK} (N1 : Now C B A H1 σ ρ1) (r1 : reps C A H1 vs xs)
    (hx : (if xs.length = np ∧ np ≤ n then reE (runF n body xs) ρ1 >>= fun r => .ok (r.1, ρ1) else .bad : Rs (Val × En)).wp (fun x => ∀ v H', Now C B A H' σ x.2 → Gd σ A H1 ρ1 H' x.2 → rep C A H' v x.1 → Q v H') (EXe C E B A H1 σ ρ1)) : spF C np n body vs H1 Q E := by
  obtain ⟨⟨hl, hn⟩, hx⟩ := ite_bad hx
  refine ⟨A, xs.map fun x => some (.fz x), N1.fr, N1.tb, by rw [r1.len]; exact hl, hn, env_fz r1, fz_pin, ?_⟩
  have hw := Rs.wp_bind hx
  unfold runF at hw
  have kp : ∀ {H' : Hp} {ρ' : En}, Aft C A vs (xs.map fun x => some (.fz x)) H1 H' ρ' → ∀ a o, NT o → H1 a = some o → H' a = some o := fun k a o t h => k.kp a o t no_own h
  cases e : finM (body (padE (xs.map fun x => some (.fz x)) n)) with
  | bad => rw [e] at hw; exact hw.elim
  | ok r =>
    rw [e] at hw
    exact fun v H' k rv => hw v H' (N1.kept (kp k) k.fe k.tb) (.kept N1 (kp k) k.fe) rv
  | exc c ns ys ρ' =>
    rw [e] at hw
    exact fun d ws H' k hd h1 h2 h3 => hw d ws H' (N1.kept (kp k) k.fe k.tb) (.kept N1 (kp k) k.fe) hd h1 h2 h3
theorem call_rd {np n : Nat} {body : MS} : ∀ σ H Q, SE C E (callM np n body ml) σ H Q → tCall (spF C np n body) [] E (SA C E ml) σ H Q := fun σ H Q ⟨B, A, ρ, N, hm⟩ =>
  ⟨B, A, ρ, N, Rs.wp_mono (Rs.wp_bind hm) (fun x hx vs H1 N1 g1 r1 => by
    show spF C np n body (vs ++ []) H1 Q E
    rw [List.append_nil]
    exact call_core N1 r1 (Rs.wp_mono hx (fun y hy v H2 N2 g2 r2 => hy v H2 N2 (g1.trans g2) r2) (EXe.tr g1))) fun _ _ _ _ h => h⟩
/-- f(..), f's answer a new value -/
def callN (np n : Nat) (m : MN) (a : MA) : MN := fun ρ => a ρ >>= fun x => if x.1.length = np ∧ np ≤ n then (match m (padE (x.1.map fun x => some (.fz x)) n) with | .ok r => .ok (r.1, x.2) | _ => .bad) else .bad
theorem callN_rd {np n : Nat} {m : MN} : ∀ σ H Q, SN C E (callN np n m ml) σ H Q → tCall (spN C np n m) [] E (SA C E ml) σ H Q := fun σ H Q ⟨B, A, ρ, N, hm⟩ =>
  ⟨B, A, ρ, N, Rs.wp_mono (Rs.wp_bind hm) (fun x hx vs H1 N1 g1 r1 => by
    show spN C np n m (vs ++ []) H1 Q E
    rw [List.append_nil]
    obtain ⟨⟨hl, hn⟩, hx⟩ := ite_bad hx
    refine ⟨A, x.1.map fun x => some (.fz x), N1.fr, N1.tb, by rw [r1.len]; exact hl, hn, env_fz r1, fz_pin, ?_⟩
    cases e : m (padE (x.1.map fun x => some (.fz x)) n) with
    | bad => rw [e] at hx; exact hx.elim
    | exc c ns ys ρ' => rw [e] at hx; exact hx.elim
    | ok r =>
      rw [e] at hx
      intro v H' af r' nd fz
      have kp : ∀ a o, NT o → H1 a = some o → H' a = some o := fun a o t h => af.kp a o t no_own h
      have N2 := N1.kept kp af.fe af.tb
      have g2 : Gd σ A H1 x.2 H' x.2 := .kept N1 kp af.fe
      have nown : ∀ a ∈ fl H' v r.1, ¬ OwnAt H' σ x.2 a := fun a ha z => by
        rcases g2.o a z with q | q
        · obtain ⟨_, u, h1, h2⟩ := N1.own q
          exact (fz a ha).no h1 h2.1
        · obtain ⟨_, u, h1, h2⟩ := N2.own z
          have := g2.o a z
          rcases this with y | y
          · obtain ⟨_, u', h3, h4⟩ := N1.own y
            exact q.no h3 h4.1
          · obtain ⟨j, s, w, k1, k2, k3⟩ := z
            obtain ⟨_, ee⟩ := N1.env.frame (A' := A) (g2.g) fun b hb => by
              obtain ⟨n, u, h1, h2⟩ := N1.own hb
              exact ⟨by rw [h1]; exact kp b u h2.1 h1, n⟩
            rw [ee j s w k1 k2] at k3
            obtain ⟨_, u', h3, h4⟩ := N1.own ⟨j, s, w, k1, k2, k3⟩
            exact q.no h3 h4.1
      have gl : Gr A H' (lessL A (fl H' v r.1)) H' → True := fun _ => trivial
      refine hx v H' ?_ (Gm.tr g1 ⟨g2.o, g2.k, g2.f, r', nd, fun a ha => ⟨fz a ha, nown a ha⟩⟩)
      have g : Gr A H1 (lessL A (fl H' v r.1)) H' := fun a o t n h => ⟨⟨n, fun z => (fz a z).no h t⟩, kp a o t h⟩
      refine N1.frame g (fun a h => ?_) (fun q h => ?_) (fun a h => N1.le a h.1) (fun a o t z h => kp a o t (N1.kp a o t z h)) af.tb fun a h => N1.fe a (af.fe a h)
      · obtain ⟨n, u, h1, h2⟩ := N1.own h
        exact ⟨by rw [h1]; exact kp a u h2.1 h1, fun z => n z.1⟩
      · refine ⟨N1.fr q (af.fe q h), fun z => ?_⟩
        obtain ⟨u, h1, h2⟩ := ro.in r' z
        exact h.no h1 h2.1) fun _ _ _ _ h => h⟩
/-! ### a call whose first argument is an own value -/
def SV.setPin (p : Bool) : SV → SV | .fz x => .fz x | .ob _ x => .ob p x
theorem setPin_own {s : SV} {p : Bool} : (s.setPin p).own = s.own := by cases s <;> rfl
theorem setPin_pin {s : SV} {p : Bool} (h : s.own = true) : (s.setPin p).pin = p := by cases s <;> first | rfl | cases h
theorem setPin_fl {H : Hp} {v : V} {s : SV} {p : Bool} : flS H v (s.setPin p) = flS H v s := by cases s <;> rfl
theorem slr_pin {A : Rg} {H : Hp} {v : V} {s : SV} {p : Bool} (h : slr C A H v s) : slr C A H v (s.setPin p) := by cases s <;> exact h
/-- a def as a function of an own value and frozen ones: the answer, the own value behind it -/
def runO (n : Nat) (body : MS) (s : SV) (xs : List Val) : Rs (Val × SV) := match finM (body (padE (some (s.setPin true) :: xs.map fun x => some (.fz x)) n)) with
  | .ok r => match r.2[0]? with | some (some s') => if s'.flat = true then .ok (r.1, s'.setPin s.pin) else .bad | _ => .bad
  | .exc c ns vs ρ => match ρ[0]? with | some (some s') => if s'.flat = true then .exc c ns vs [some (s'.setPin s.pin)] else .bad | _ => .bad
  | .bad => .bad
def callO (i np n : Nat) (body : MS) (a : MA) : ME := fun ρ => match ρ[i]? with
  | some (some s0) => if s0.own = true then a ρ >>= fun x => match x.2[i]? with
      | some (some s) => if s.own = true ∧ x.1.length + 1 = np ∧ np ≤ n then (match runO n body s x.1 with
          | .ok r => .ok (r.1, x.2.set i (some r.2))
          | .exc c ns vs ρ' => match ρ'[0]? with | some (some s') => .exc c ns vs (x.2.set i (some s')) | _ => .bad
          | .bad => .bad) else .bad
      | _ => .bad
    else .bad
  | _ => .bad
theorem callO_rd {i np n : Nat} {body : MS} : ∀ σ H Q, SE C E (callO i np n body ml) σ H Q → tCall (spF C np n body) [] E (tCons (tVar i) (SA C E ml)) σ H Q := fun σ H Q ⟨B, A, ρ, N, hm⟩ => by
  unfold callO at hm
  split at hm
  · rename_i s0 h0
    obtain ⟨o0, hm⟩ := ite_bad hm
    obtain ⟨v, hσ, hr0⟩ := N.slot h0
    obtain ⟨l, rfl, nA, _⟩ := hr0.at o0
    refine ⟨_, hσ, B, A, ρ, N, Rs.wp_mono (Rs.wp_bind hm) (fun x hx vs H1 N1 g1 r1 => ?_) fun _ _ _ _ h => h⟩
    show spF C np n body ((V.ref l :: vs) ++ []) H1 Q E
    rw [List.append_nil]
    split at hx
    · rename_i s hs
      obtain ⟨⟨os, hl, hn⟩, hx⟩ := ite_bad hx
      obtain ⟨v, hσ', hr⟩ := N1.slot hs
      rw [hσ] at hσ'; cases hσ'
      have ef := env_fz r1
      have env : EnvR C A H1 ((V.ref l :: vs).map some) (some (s.setPin true) :: x.1.map fun x => some (.fz x)) := by
        refine ⟨by simp [r1.len], fun j t h => ?_, fun j k t u v w jk hj hk ev ew a ha hb => ?_⟩
        · cases j with
          | zero => simp at h; subst h; exact ⟨_, rfl, slr_pin hr⟩
          | succ j => exact ef.sl j t (by simpa using h)
        · cases j with
          | zero =>
            cases k with
            | zero => exact absurd rfl jk
            | succ k => exact no_own (H := H1) (vs := vs) (xs := x.1) ⟨k, u, w, by simpa using hk, by simpa using ew, hb⟩
          | succ j => exact no_own (H := H1) (vs := vs) (xs := x.1) ⟨j, t, v, by simpa using hj, by simpa using ev, ha⟩
      have own1 : ∀ {a : Addr}, OwnAt H1 ((V.ref l :: vs).map some) (some (s.setPin true) :: x.1.map fun x => some (.fz x)) a → a ∈ flS H1 (.ref l) s := fun {a} => by
        rintro ⟨j, t, v, h1, h2, h3⟩
        cases j with
        | zero => simp at h1 h2; subst h1 h2; rw [setPin_fl] at h3; exact h3
        | succ j => exact (no_own (H := H1) (vs := vs) (xs := x.1) ⟨j, t, v, by simpa using h1, by simpa using h2, h3⟩).elim
      refine ⟨A, _, N1.fr, N1.tb, by rw [List.length_cons, r1.len]; exact hl, hn, env, fun j t h o => ?_, ?_⟩
      · cases j with
        | zero => simp at h; subst h; exact setPin_pin os
        | succ j => exact fz_pin j t (by simpa using h) o
      · have step : ∀ {H' : Hp} {ρ' : En} {s' : SV}, Aft C A (V.ref l :: vs) (some (s.setPin true) :: x.1.map fun x => some (.fz x)) H1 H' ρ' → ρ'[0]? = some (some s') → s'.flat = true →
            Now C B A H' σ (x.2.set i (some (s'.setPin s.pin))) ∧ Gd σ A H1 x.2 H' (x.2.set i (some (s'.setPin s.pin))) := fun {H' ρ' s'} af e2 hf => by
          obtain ⟨v, s2, e1, e3, o', p', r'⟩ := af.ow 0 _ rfl (by rw [setPin_own]; exact os)
          rw [e2] at e3; cases e3
          cases e1
          obtain ⟨r2, sub⟩ := r' hf
          exact N1.change hs hσ (fun a o t h nm => af.kp a o t (fun z => nm (own1 z)) h) af.fe af.tb (slr_pin r2) (by rw [setPin_own, o', os]) (setPin_pin o') fun a ha => .inl (by
            rw [setPin_fl] at ha
            have := sub a ha
            rw [setPin_fl] at this
            exact this)
        unfold runO at hx
        cases e : finM (body (padE (some (s.setPin true) :: x.1.map fun x => some (.fz x)) n)) with
        | bad => rw [e] at hx; exact hx.elim
        | ok r =>
          rw [e] at hx
          dsimp only at hx
          intro v H' af rv
          cases e2 : r.2[0]? with
          | none => rw [e2] at hx; exact hx.elim
          | some q =>
            cases q with
            | none => rw [e2] at hx; exact hx.elim
            | some s' =>
              rw [e2] at hx
              dsimp only at hx
              by_cases hf : s'.flat = true
              · rw [if_pos hf] at hx
                obtain ⟨N', g'⟩ := step af e2 hf
                exact hx v H' N' (g1.trans g') rv
              · rw [if_neg hf] at hx; exact hx.elim
        | exc c ns xs ρ' =>
          rw [e] at hx
          dsimp only at hx
          intro d ws H' af hd h1 h2 h3
          cases e2 : ρ'[0]? with
          | none => rw [e2] at hx; exact hx.elim
          | some q =>
            cases q with
            | none => rw [e2] at hx; exact hx.elim
            | some s' =>
              rw [e2] at hx
              dsimp only at hx
              by_cases hf : s'.flat = true
              · rw [if_pos hf] at hx
                obtain ⟨N', g'⟩ := step af e2 hf
                exact hx d ws H' N' (g1.trans g') hd h1 h2 h3
              · rw [if_neg hf] at hx; exact hx.elim
    · exact hx.elim
  · exact hm.elim
end
end Y

set_option Elab.async false
set_option linter.all false
set_option maxRecDepth 100000
set_option maxHeartbeats 4000000
set_option autoImplicit false
/-! W9: what operators and built-ins make of values. -/
namespace Y
open PySem L2 Z
/-! ### numbers -/
def addV : Val → Val → Option Val | .int i, .int j => some (.int (i + j)) | .str s, .str t => if s.length + t.length ≤ sizeLine then some (.str (s ++ t)) else none | _, _ => none
def subV : Val → Val → Option Val | .int i, .int j => some (.int (i - j)) | _, _ => none
def mulV : Val → Val → Option Val | .int i, .int j => if i.natAbs.log2 + j.natAbs.log2 < 134000000 then some (.int (i * j)) else none | _, _ => none
def divV : Val → Val → Option Val | .int i, .int j => if 0 < j ∧ j.natAbs.log2 < 9000 then some (.int (i / j)) else if j < 0 ∧ j.natAbs.log2 < 9000 then some (.int (i.fdiv j)) else none | _, _ => none
def modV : Val → Val → Option Val | .int i, .int j => if 0 < j then some (.int (i % j)) else if j ≠ 0 then some (.int (i.fmod j)) else none | _, _ => none
def powV : Val → Val → Option Val | .int i, .int j => if 0 ≤ j ∧ j ≤ 1000000 ∧ i.natAbs < 2 ^ 64 then some (.int (i ^ j.toNat)) else none | _, _ => none
def ltV : Val → Val → Option Val | .int i, .int j => some (.bl (decide (i < j))) | _, _ => none
def leV : Val → Val → Option Val | .int i, .int j => some (.bl (decide (i ≤ j))) | _, _ => none
def gtV : Val → Val → Option Val | .int i, .int j => some (.bl (decide (j < i))) | _, _ => none
def geV : Val → Val → Option Val | .int i, .int j => some (.bl (decide (j ≤ i))) | _, _ => none
def negV : Val → Option Val | .int i => some (.int (-i)) | _ => none
section
variable {X : Cx} {C : Cn}
theorem ov_ii {C0 : Int → Int → Prop} {g : Int → Int → V} {f : Val → Val → Option Val} (h : ∀ x y z, f x y = some z → ∃ i j, x = .int i ∧ y = .int j ∧ C0 i j ∧ ∀ A H, rep C A H (g i j) z) : OpV C (rI C0 g) f := fun A H u v x y z _ hu hv e Q q => by
  obtain ⟨i, j, rfl, rfl, c, r⟩ := h x y z e
  exact ⟨i, j, rep_int.mp hu, rep_int.mp hv, c, q _ H (Same.refl H) (r A H)⟩
theorem ov_i0 {g : Int → Int → V} {f : Val → Val → Option Val} (h : ∀ x y z, f x y = some z → ∃ i j, x = .int i ∧ y = .int j ∧ ∀ A H, rep C A H (g i j) z) : OpV C (rI0 g) f := fun A H u v x y z _ hu hv e Q q => by
  obtain ⟨i, j, rfl, rfl, r⟩ := h x y z e
  exact ⟨i, j, rep_int.mp hu, rep_int.mp hv, q _ H (Same.refl H) (r A H)⟩
abbrev rAddS : R2 := fun x y H Q => ∃ i j, x = .str i ∧ y = .str j ∧ i.length + j.length ≤ sizeLine ∧ Q (.str (i ++ j)) H
abbrev rAddA : R2 := fun x y H Q => rI0 (fun i j => .int (i + j)) x y H Q ∨ rAddS x y H Q
theorem oy_add : OpR X (binaryOp .Add) rAddA := op_add.or op_add_str
theorem ov_add : OpV C rAddA addV := fun A H u v x y z _ hu hv e Q q => by
  unfold addV at e
  split at e
  · cases e
    exact .inl ⟨_, _, rep_int.mp hu, rep_int.mp hv, q _ H (Same.refl H) (rep_int.mpr rfl)⟩
  · split at e
    · rename_i h
      cases e
      exact .inr ⟨_, _, rep_str.mp hu, rep_str.mp hv, h, q _ H (Same.refl H) (rep_str.mpr rfl)⟩
    · cases e
  · cases e
theorem ov_sub : OpV C (rI0 fun i j => .int (i - j)) subV := ov_i0 fun x y z e => by
  unfold subV at e
  split at e
  · cases e; exact ⟨_, _, rfl, rfl, fun _ _ => rep_int.mpr rfl⟩
  · cases e
/-- * of two factors of together less than the line's bits -/
def CMulA (i j : Int) : Prop := i.natAbs.log2 + j.natAbs.log2 < 134000000
theorem CMulA.ok {i j : Int} (h : CMulA i j) : IntMulOk i j := by
  have b : ∀ x : Int, Builtin.Int.intBits x ≤ x.natAbs.log2 + 1 := fun x => by
    unfold Builtin.Int.intBits
    split <;> omega
  have h1 := b i
  have h2 := b j
  have h3 : i.natAbs.log2 + j.natAbs.log2 < 134000000 := h
  have e : bitsLine = 134217728 := by decide
  intro z
  have z2 := of_decide_eq_true (Bool.and_eq_true_iff.mp z).2
  rw [e] at z2
  omega
theorem op_mulA : OpR X (binaryOp .Mult) (rI CMulA fun i j => .int (i * j)) := opI fun _ _ _ _ _ _ _ hc q => PyProof.Rows.mul_int q hc.ok
theorem ov_mul : OpV C (rI CMulA fun i j => .int (i * j)) mulV := ov_ii fun x y z e => by
  unfold mulV at e
  split at e
  · split at e
    · rename_i h; cases e; exact ⟨_, _, rfl, rfl, h, fun _ _ => rep_int.mpr rfl⟩
    · cases e
  · cases e
/-- // by what is not 0, below 2 ^ 9000 -/
def CDivA (_ j : Int) : Prop := j ≠ 0 ∧ j.natAbs.log2 < 9000
theorem op_fdivA : OpR X (binaryOp .FloorDiv) (rI CDivA fun i j => .int (i.fdiv j)) := opI fun _ _ _ _ _ _ _ hc q => PyProof.Rows.floordiv_int hc.1 q (.inl (PyProof.noPylong_of_log2 hc.2))
abbrev rDivA : R2 := fun x y H Q => rI CDivW (fun i j => .int (i / j)) x y H Q ∨ rI CDivA (fun i j => .int (i.fdiv j)) x y H Q
theorem oy_div : OpR X (binaryOp .FloorDiv) rDivA := op_fdivW.or op_fdivA
theorem ov_div : OpV C rDivA divV := fun A H u v x y z _ hu hv e Q q => by
  unfold divV at e
  split at e
  · split at e
    · rename_i h
      cases e
      exact .inl ⟨_, _, rep_int.mp hu, rep_int.mp hv, h, q _ H (Same.refl H) (rep_int.mpr rfl)⟩
    · split at e
      · rename_i h
        cases e
        exact .inr ⟨_, _, rep_int.mp hu, rep_int.mp hv, ⟨by omega, h.2⟩, q _ H (Same.refl H) (rep_int.mpr rfl)⟩
      · cases e
  · cases e
theorem ov_mod : OpV C (rI (fun _ j => j ≠ 0) fun i j => .int (i.fmod j)) modV := ov_ii fun x y z e => by
  unfold modV at e
  split at e
  · split at e
    · rename_i h; cases e; exact ⟨_, _, rfl, rfl, by omega, fun _ _ => rep_int.mpr (by rw [Int.fmod_eq_emod_of_nonneg _ (by omega)])⟩
    · split at e
      · rename_i h; cases e; exact ⟨_, _, rfl, rfl, h, fun _ _ => rep_int.mpr rfl⟩
      · cases e
  · cases e
theorem ov_pow : OpV C (rI CPow fun i j => .int (i ^ j.toNat)) powV := ov_ii fun x y z e => by
  unfold powV at e
  split at e
  · split at e
    · rename_i h; cases e; exact ⟨_, _, rfl, rfl, h, fun _ _ => rep_int.mpr rfl⟩
    · cases e
  · cases e
theorem ov_lt : OpV C (rI0 fun i j => .bl (decide (i < j))) ltV := ov_i0 fun x y z e => by
  unfold ltV at e
  split at e
  · cases e; exact ⟨_, _, rfl, rfl, fun _ _ => rep_bl.mpr rfl⟩
  · cases e
theorem ov_le : OpV C (rI0 fun i j => .bl (decide (i ≤ j))) leV := ov_i0 fun x y z e => by
  unfold leV at e
  split at e
  · cases e; exact ⟨_, _, rfl, rfl, fun _ _ => rep_bl.mpr rfl⟩
  · cases e
theorem ov_gt : OpV C (rI0 fun i j => .bl (decide (j < i))) gtV := ov_i0 fun x y z e => by
  unfold gtV at e
  split at e
  · cases e; exact ⟨_, _, rfl, rfl, fun _ _ => rep_bl.mpr rfl⟩
  · cases e
theorem ov_ge : OpV C (rI0 fun i j => .bl (decide (j ≤ i))) geV := ov_i0 fun x y z e => by
  unfold geV at e
  split at e
  · cases e; exact ⟨_, _, rfl, rfl, fun _ _ => rep_bl.mpr rfl⟩
  · cases e
theorem uv_neg : UnV C (rU fun i => .int (-i)) negV := fun A H u x z _ hu e Q q => by
  unfold negV at e
  split at e
  · cases e; exact ⟨_, rep_int.mp hu, q _ H (Same.refl H) (rep_int.mpr rfl)⟩
  · cases e
end
/-! ### == of data -/
mutual
def dat : Val → Option PyData
  | .non => some .none
  | .bl b => some (.bool b)
  | .int i => some (.int i)
  | .str s => some (.str s)
  | .tup xs => (dats xs).map .tuple
  | .lst xs => (dats xs).map .list
  | _ => none
def dats : List Val → Option (List PyData)
  | [] => some []
  | x :: xs => match dat x, dats xs with | some d, some ds => some (d :: ds) | _, _ => none
end
section
variable {X : Cx} {C : Cn} {A : Rg} {H : Hp}
mutual
theorem dat_dp : ∀ {x : Val} {v : V} {d : PyData}, rep C A H v x → dat x = some d → Dp C.K H v d
  | .non, _, _, r, e => by rw [rep_non.mp r]; unfold dat at e; cases e; exact .non
  | .bl _, _, _, r, e => by rw [rep_bl.mp r]; unfold dat at e; cases e; exact .bl _
  | .int _, _, _, r, e => by rw [rep_int.mp r]; unfold dat at e; cases e; exact .int _
  | .str _, _, _, r, e => by rw [rep_str.mp r]; unfold dat at e; cases e; exact .str _
  | .tup xs, v, d, r, e => by
    unfold dat at e
    obtain ⟨a, vs, rfl, h, rs⟩ := rep_tup.mp r
    cases e1 : dats xs with
    | none => rw [e1] at e; cases e
    | some ds => rw [e1] at e; cases e; exact .tup h.sq (dats_dp rs e1)
  | .lst xs, v, d, r, e => by
    unfold dat at e
    obtain ⟨a, vs, rfl, n, h, rs⟩ := rep_lst.mp r
    cases e1 : dats xs with
    | none => rw [e1] at e; cases e
    | some ds => rw [e1] at e; cases e; exact .lst (SqL.of h) (dats_dp rs e1)
  | .ty _, _, _, _, e => by unfold dat at e; cases e
  | .wr _, _, _, _, e => by unfold dat at e; cases e
  | .dic _ _, _, _, _, e => by unfold dat at e; cases e
  | .dit _ _, _, _, _, e => by unfold dat at e; cases e
  | .ins _ _ _, _, _, _, e => by unfold dat at e; cases e
  | .rng _ _, _, _, _, e | .scr _, _, _, _, e | .cl _, _, _, _, e | .err _ _ _, _, _, _, e | .olst _, _, _, _, e | .odic _ _, _, _, _, e | .odit _ _, _, _, _, e | .oins _ _ _, _, _, _, e => by unfold dat at e; cases e
theorem dats_dp : ∀ {xs : List Val} {vs : List V} {ds : List PyData}, reps C A H vs xs → dats xs = some ds → DpAll C.K H vs ds
  | [], vs, ds, r, e => by
    unfold reps at r; unfold dats at e; cases e; subst r; exact .nil
  | x :: xs, vs, ds, r, e => by
    unfold reps at r
    obtain ⟨v, r', rfl, h1, h2⟩ := r
    unfold dats at e
    split at e
    · rename_i d ds' e1 e2
      cases e
      exact .cons (dat_dp h1 e1) (dats_dp h2 e2)
    · cases e
end
end
def eqV : Val → Val → Option Val := fun x y => match dat x, dat y with
  | some d, some e => if SeqAt.shaped d = true ∧ SeqAt.shaped e = true then some (.bl (PyData.eqv d e)) else none
  | _, _ => none
def neV : Val → Val → Option Val := fun x y => match dat x, dat y with
  | some d, some e => if SeqAt.shaped d = true ∧ SeqAt.shaped e = true then some (.bl (!PyData.eqv d e)) else none
  | _, _ => none
section
variable {X : Cx} {C : Cn}
theorem ov_eq : OpV C (rEqD C.K) eqV := fun A H u v x y z _ hu hv e Q q => by
  unfold eqV at e
  split at e
  · rename_i d e' e1 e2
    split at e
    · rename_i h
      cases e
      exact ⟨d, e', dat_dp hu e1, dat_dp hv e2, h.1, h.2, q _ H (Same.refl H) (rep_bl.mpr rfl)⟩
    · cases e
  · cases e
theorem ov_ne : OpV C (rNeD C.K) neV := fun A H u v x y z _ hu hv e Q q => by
  unfold neV at e
  split at e
  · rename_i d e' e1 e2
    split at e
    · rename_i h
      cases e
      exact ⟨d, e', dat_dp hu e1, dat_dp hv e2, h.1, h.2, q _ H (Same.refl H) (rep_bl.mpr rfl)⟩
    · cases e
  · cases e
/-- is None, is True, is False -/
def isBV : Val → Val → Option Val | .bl a, .bl b => some (.bl (decide (a = b))) | _, _ => none
def isnotBV : Val → Val → Option Val | .bl a, .bl b => some (.bl (!decide (a = b))) | _, _ => none
theorem ov_isB : OpV C rIsB isBV := fun A H u v x y z _ hu hv e Q q => by
  unfold isBV at e
  split at e
  · cases e; exact ⟨_, _, rep_bl.mp hu, rep_bl.mp hv, q _ H (Same.refl H) (rep_bl.mpr rfl)⟩
  · cases e
theorem ov_isnotB : OpV C rNotB isnotBV := fun A H u v x y z _ hu hv e Q q => by
  unfold isnotBV at e
  split at e
  · cases e; exact ⟨_, _, rep_bl.mp hu, rep_bl.mp hv, q _ H (Same.refl H) (rep_bl.mpr rfl)⟩
  · cases e
/-! ### subscripts -/
def ixV : Val → Val → Option Val
  | .lst xs, .int i => atI xs i
  | .tup xs, .int i => atI xs i
  | .str s, .int i => if s.length ≤ sizeLine then (atI s.cps.toList i).map fun c => .str ⟨#[c]⟩ else none
  | _, _ => none
theorem ov_ix : OpV C (rIx C.K) ixV := fun A H u v x y z _ hu hv e Q q => by
  unfold ixV at e
  split at e
  · obtain ⟨a, vs, rfl, n, h, rs⟩ := rep_lst.mp hu
    obtain ⟨w, hw, rw'⟩ := rs.at e
    exact .inl ⟨a, vs, _, w, rfl, rep_int.mp hv, SqL.of h, hw, q w H (Same.refl H) rw'⟩
  · obtain ⟨a, vs, rfl, h, rs⟩ := rep_tup.mp hu
    obtain ⟨w, hw, rw'⟩ := rs.at e
    exact .inr (.inl ⟨a, vs, _, w, rfl, rep_int.mp hv, h.sq, hw, q w H (Same.refl H) rw'⟩)
  · split at e
    · rename_i s i hz
      cases e1 : atI s.cps.toList i with
      | none => rw [e1] at e; cases e
      | some c => rw [e1] at e; cases e; exact .inr (.inr ⟨s, i, c, rep_str.mp hu, rep_int.mp hv, hz, e1, q _ H (Same.refl H) (rep_str.mpr rfl)⟩)
    · cases e
  · cases e
/-! ### built-in calls -/
def f1 (f : Val → Option Val) : List Val → Option Val := fun xs => match xs with | [x] => f x | _ => none
theorem one_of {A : Rg} {H : Hp} {us : List V} {f : Val → Option Val} {xs : List Val} {z : Val} (r : reps C A H us xs) (e : f1 f xs = some z) : ∃ u x, us = [u] ∧ xs = [x] ∧ rep C A H u x ∧ f x = some z := by
  unfold f1 at e
  split at e
  · obtain ⟨v, rfl, rv⟩ := reps1 r
    exact ⟨v, _, rfl, rfl, rv, e⟩
  · cases e
def f2 (f : Val → Val → Option Val) : List Val → Option Val := fun xs => match xs with | [x, y] => f x y | _ => none
theorem two_of {A : Rg} {H : Hp} {us : List V} {f : Val → Val → Option Val} {xs : List Val} {z : Val} (r : reps C A H us xs) (e : f2 f xs = some z) : ∃ u w x y, us = [u, w] ∧ xs = [x, y] ∧ rep C A H u x ∧ rep C A H w y ∧ f x y = some z := by
  unfold f2 at e
  split at e
  · obtain ⟨v, w, rfl, rv, rw'⟩ := reps2 r
    exact ⟨v, w, _, _, rfl, rfl, rv, rw', e⟩
  · cases e
def intV : Val → Option Val | .int i => some (.int i) | .bl b => some (.int (if b = true then 1 else 0)) | _ => none
theorem cv_int : CbV C (fun xs H Q => (∃ i, xs = [.int i] ∧ Q (.int i) H) ∨ ∃ k, xs = [.bl k] ∧ Q (.int (if k then 1 else 0)) H) (f1 intV) := fun A H us xs z _ r e Q q => by
  obtain ⟨u, x, rfl, rfl, ru, e0⟩ := one_of r e
  clear e
  have e := e0
  clear e0
  unfold intV at e
  split at e
  · cases e; exact .inl ⟨_, by rw [rep_int.mp ru], q _ H (Same.refl H) (rep_int.mpr rfl)⟩
  · cases e; exact .inr ⟨_, by rw [rep_bl.mp ru], q _ H (Same.refl H) (rep_int.mpr rfl)⟩
  · cases e
def absVl : Val → Option Val | .int i => some (.int (if i < 0 then -i else i)) | _ => none
theorem cv_abs : CbV C (fun xs H Q => ∃ i, xs = [.int i] ∧ Q (.int (if i < 0 then -i else i)) H) (f1 absVl) := fun A H us xs z _ r e Q q => by
  obtain ⟨u, x, rfl, rfl, ru, e0⟩ := one_of r e
  clear e
  have e := e0
  clear e0
  unfold absVl at e
  split at e
  · cases e; exact ⟨_, by rw [rep_int.mp ru], q _ H (Same.refl H) (rep_int.mpr rfl)⟩
  · cases e
def lenV : Val → Option Val | .lst xs => some (.int xs.length) | .tup xs => some (.int xs.length) | .str s => if s.length ≤ sizeLine then some (.int s.length) else none | _ => none
abbrev rLenS : List V → Hp → VK → Prop := fun xs H Q => ∃ z, xs = [.str z] ∧ z.length ≤ sizeLine ∧ Q (.int z.length) H
abbrev rLenA (K : PySem.W.Frag) : List V → Hp → VK → Prop := fun xs H Q => (∃ p ys, xs = [.ref p] ∧ (SqL K H p ys ∨ SqT K H p ys) ∧ Q (.int ys.length) H) ∨ rLenS xs H Q
theorem cy_len : CallR X (.builtin "len") (rLenA X.K) := call_len_seq.or call_len_str
theorem cv_len : CbV C (rLenA C.K) (f1 lenV) := fun A H us xs z _ r e Q q => by
  obtain ⟨u, x, rfl, rfl, ru, e0⟩ := one_of r e
  clear e
  have e := e0
  clear e0
  unfold lenV at e
  split at e
  · cases e
    obtain ⟨a, vs, rfl, n, h, rs⟩ := rep_lst.mp ru
    exact .inl ⟨a, vs, rfl, .inl (SqL.of h), q _ H (Same.refl H) (rep_int.mpr (by rw [rs.len]))⟩
  · cases e
    obtain ⟨a, vs, rfl, h, rs⟩ := rep_tup.mp ru
    exact .inl ⟨a, vs, rfl, .inr h.sq, q _ H (Same.refl H) (rep_int.mpr (by rw [rs.len]))⟩
  · split at e
    · rename_i hz
      cases e
      exact .inr ⟨_, by rw [rep_str.mp ru], hz, q _ H (Same.refl H) (rep_int.mpr rfl)⟩
    · cases e
  · cases e
/-- list(x) -/
def listV : List Val → Option (List Val) | [.lst xs] => some xs | [.tup xs] => some xs | _ => none
theorem cv_list : CfV C (fun xs H Q => ∃ p ys, xs = [.ref p] ∧ (SqL C.K H p ys ∨ SqT C.K H p ys) ∧ ∀ l, H l = none → Q (.ref l) (upd H l (.lst ys))) listV := fun A H us xs z _ r e Q q => by
  unfold listV at e
  split at e
  · cases e
    obtain ⟨v, rfl, rv⟩ := reps1 r
    obtain ⟨a, vs, rfl, n, h, rs⟩ := rep_lst.mp rv
    exact ⟨a, vs, rfl, .inl (SqL.of h), fun l hl => q l vs hl rs⟩
  · cases e
    obtain ⟨v, rfl, rv⟩ := reps1 r
    obtain ⟨a, vs, rfl, h, rs⟩ := rep_tup.mp rv
    exact ⟨a, vs, rfl, .inr h.sq, fun l hl => q l vs hl rs⟩
  · cases e
/-- lists of ints, of truths -/
def intsOf : List Val → Option (List Int)
  | [] => some []
  | .int i :: xs => (intsOf xs).map (i :: ·)
  | _ :: _ => none
def blsOf : List Val → Option (List Bool)
  | [] => some []
  | .bl i :: xs => (blsOf xs).map (i :: ·)
  | _ :: _ => none
theorem ints_rep {A : Rg} {H : Hp} : ∀ {xs : List Val} {vs : List V} {ns : List Int}, reps C A H vs xs → intsOf xs = some ns → vs = ns.map V.int
  | [], vs, ns, r, e => by unfold reps at r; unfold intsOf at e; cases e; subst r; rfl
  | x :: xs, vs, ns, r, e => by
    unfold reps at r
    obtain ⟨v, r', rfl, h1, h2⟩ := r
    cases x with
    | int i =>
      unfold intsOf at e
      cases e1 : intsOf xs with
      | none => rw [e1] at e; cases e
      | some ms => rw [e1] at e; cases e; rw [ints_rep h2 e1, rep_int.mp h1]; rfl
    | _ => unfold intsOf at e; cases e
theorem bls_rep {A : Rg} {H : Hp} : ∀ {xs : List Val} {vs : List V} {ns : List Bool}, reps C A H vs xs → blsOf xs = some ns → vs = ns.map V.bl
  | [], vs, ns, r, e => by unfold reps at r; unfold blsOf at e; cases e; subst r; rfl
  | x :: xs, vs, ns, r, e => by
    unfold reps at r
    obtain ⟨v, r', rfl, h1, h2⟩ := r
    cases x with
    | bl i =>
      unfold blsOf at e
      cases e1 : blsOf xs with
      | none => rw [e1] at e; cases e
      | some ms => rw [e1] at e; cases e; rw [bls_rep h2 e1, rep_bl.mp h1]; rfl
    | _ => unfold blsOf at e; cases e
def allV : Val → Option Val | .lst xs => (blsOf xs).map fun bs => .bl (bs.all id) | _ => none
theorem cv_all : CbV C (rAll C.K) (f1 allV) := fun A H us xs z _ r e Q q => by
  obtain ⟨u, x, rfl, rfl, ru, e0⟩ := one_of r e
  clear e
  have e := e0
  clear e0
  unfold allV at e
  split at e
  · rename_i ys
    obtain ⟨a, vs, rfl, n, h, rs⟩ := rep_lst.mp ru
    cases e1 : blsOf ys with
    | none => rw [e1] at e; cases e
    | some bs =>
      rw [e1] at e; cases e
      exact ⟨a, bs, rfl, by rw [← bls_rep rs e1]; exact SqL.of h, q _ H (Same.refl H) (rep_bl.mpr rfl)⟩
  · cases e
def maxL : List Int → Option Int
  | [] => none
  | [x] => some x
  | x :: xs => (maxL xs).map fun m => max x m
theorem maxL_ok : ∀ {ns : List Int} {m : Int}, maxL ns = some m → m ∈ ns ∧ ∀ y ∈ ns, y ≤ m
  | [x], m, e => by cases e; simp
  | x :: y :: xs, m, e => by
    unfold maxL at e
    cases e1 : maxL (y :: xs) with
    | none => rw [e1] at e; cases e
    | some k =>
      rw [e1] at e; cases e
      obtain ⟨h1, h2⟩ := maxL_ok e1
      show max x k ∈ x :: y :: xs ∧ ∀ z ∈ x :: y :: xs, z ≤ max x k
      constructor
      · by_cases h : x ≤ k
        · rw [Int.max_eq_right h]; exact List.mem_cons_of_mem _ h1
        · rw [Int.max_eq_left (by omega)]; exact List.mem_cons_self
      · intro z hz
        rcases List.mem_cons.mp hz with rfl | hz
        · exact Int.le_max_left _ _
        · exact Int.le_trans (h2 z hz) (Int.le_max_right _ _)
def maxV : Val → Option Val | .lst xs => (intsOf xs).bind fun ns => (maxL ns).map .int | _ => none
theorem cv_max : CbV C (rMax C.K) (f1 maxV) := fun A H us xs z _ r e Q q => by
  obtain ⟨u, x, rfl, rfl, ru, e0⟩ := one_of r e
  clear e
  have e := e0
  clear e0
  unfold maxV at e
  split at e
  · rename_i ys
    obtain ⟨a, vs, rfl, n, h, rs⟩ := rep_lst.mp ru
    cases e1 : intsOf ys with
    | none => rw [e1] at e; cases e
    | some ns =>
      rw [e1] at e
      cases e2 : maxL ns with
      | none => simp only [Option.bind_some] at e; rw [e2] at e; cases e
      | some m =>
        simp only [Option.bind_some] at e
        rw [e2] at e; cases e
        obtain ⟨h1, h2⟩ := maxL_ok e2
        refine ⟨a, ns, rfl, by rw [← ints_rep rs e1]; exact SqL.of h, List.length_pos_iff.mpr (fun z => by subst z; cases h1), fun m' k1 k2 => ?_⟩
        have : m' = m := Int.le_antisymm (h2 m' k1) (k2 m h1)
        subst this
        exact q _ H (Same.refl H) (rep_int.mpr rfl)
  · cases e
def sumV : Val → Option Val | .lst xs => (intsOf xs).map fun ns => .int ns.sum | _ => none
theorem cv_sum : CbV C (rSum C.K) (f1 sumV) := fun A H us xs z _ r e Q q => by
  obtain ⟨u, x, rfl, rfl, ru, e0⟩ := one_of r e
  clear e
  have e := e0
  clear e0
  unfold sumV at e
  split at e
  · rename_i ys
    obtain ⟨a, vs, rfl, n, h, rs⟩ := rep_lst.mp ru
    cases e1 : intsOf ys with
    | none => rw [e1] at e; cases e
    | some bs =>
      rw [e1] at e; cases e
      exact ⟨a, bs, rfl, by rw [← ints_rep rs e1]; exact SqL.of h, q _ H (Same.refl H) (rep_int.mpr rfl)⟩
  · cases e
def gcdV : Val → Val → Option Val | .int a, .int b => some (.int ((Nat.gcd a.natAbs b.natAbs : Nat) : Int)) | _, _ => none
theorem cv_gcd : CbV C rGcd (f2 gcdV) := fun A H us xs z _ r e Q q => by
  obtain ⟨u, w, x, y, rfl, rfl, ru, rw', e⟩ := two_of r e
  unfold gcdV at e
  split at e
  · cases e
    exact ⟨_, _, by rw [rep_int.mp ru, rep_int.mp rw'], q _ H (Same.refl H) (rep_int.mpr rfl)⟩
  · cases e
/-! ### isinstance of built-in classes -/
def kindOf : Val → Option String
  | .non => some "NoneType" | .bl _ => some "bool" | .int _ => some "int" | .str _ => some "str" | .lst _ => some "list" | .tup _ => some "tuple" | .dic _ _ => some "dict" | .dit _ _ => some "dict" | _ => none
def subTy (a b : String) : Option Bool :=
  if a ∈ ["NoneType", "bool", "int", "str", "list", "tuple", "dict"] ∧ b ∈ ["bool", "int", "str", "list", "tuple", "dict"] then some (a == b || (a == "bool" && b == "int")) else none
theorem subTy_ok {a b : String} {r : Bool} (h : subTy a b = some r) : kitB a b = some r := by
  unfold subTy at h
  split at h
  · rename_i m
    cases h
    obtain ⟨m1, m2⟩ := m
    simp only [List.mem_cons, List.not_mem_nil, or_false] at m1 m2
    rcases m1 with rfl | rfl | rfl | rfl | rfl | rfl | rfl <;> rcases m2 with rfl | rfl | rfl | rfl | rfl | rfl <;> decide +kernel
  · cases h
theorem kind_ok {A : Rg} {H : Hp} {v : V} {x : Val} {s : String} (r : rep C A H v x) (e : kindOf x = some s) : TyX C.K H v (.type s) := by
  cases x with
  | non => cases e; rw [rep_non.mp r]; exact .base .non
  | bl b => cases e; rw [rep_bl.mp r]; exact .base (.bl b)
  | int b => cases e; rw [rep_int.mp r]; exact .base (.int b)
  | str b => cases e; rw [rep_str.mp r]; exact .base (.str b)
  | lst xs => cases e; obtain ⟨a, vs, rfl, n, h, rs⟩ := rep_lst.mp r; exact .base (.lst h)
  | tup xs =>
    cases e
    obtain ⟨a, vs, rfl, h, rs⟩ := rep_tup.mp r
    rcases h with ⟨_, h⟩ | ⟨o, its, n, h, c, _⟩
    · exact .base (.tup h)
    · exact .kTuple h c
  | dic ks xs => cases e; obtain ⟨a, vs, rfl, n, h, rs⟩ := rep_dic.mp r; exact .base (.dK h)
  | dit ks xs =>
    cases e
    unfold rep at r
    obtain ⟨a, vs, rfl, n, h, rs⟩ := r
    exact .base (.dT h)
  | _ => cases e
/-- of one class or of a tuple of classes -/
def isAny (s : String) : List Val → Option Bool
  | [] => some false
  | .ty t :: r => match subTy s t, isAny s r with | some b, some c => some (b || c) | _, _ => none
  | _ :: _ => none
def isiV : Val → Val → Option Val := fun x c => match kindOf x, c with
  | some s, .ty t => (subTy s t).map .bl
  | some s, .tup cs => (isAny s cs).map .bl
  | _, _ => none
abbrev rIsiA (K : PySem.W.Frag) : List V → Hp → VK → Prop := fun xs H Q => rIsi K xs H Q ∨ (rIsiT K xs H Q ∨ rIsiK K xs H Q)
theorem cy_isi : CallR X (.builtin "isinstance") (rIsiA X.K) := call_isi.or (call_isiT.or call_isiK)
theorem isAny_ok {A : Rg} {H : Hp} {s : String} : ∀ {cs : List Val} {vs : List V} {b : Bool}, reps C A H vs cs → isAny s cs = some b → ∃ us, Paired ClsV vs us ∧ PySem.W.kitAny C.K (.type s) us = some b
  | [], vs, b, r, e => by unfold reps at r; unfold isAny at e; cases e; subst r; exact ⟨[], .nil, kitAny_nil⟩
  | c :: cs, vs, b, r, e => by
    unfold reps at r
    obtain ⟨v, r', rfl, h1, h2⟩ := r
    cases c with
    | ty t =>
      unfold isAny at e
      split at e
      · rename_i b1 b2 e1 e2
        cases e
        obtain ⟨us, k1, k2⟩ := isAny_ok h2 e2
        rw [rep_ty.mp h1]
        exact ⟨.type t :: us, .cons (.ty t) k1, kitAny_cons (kit_ty (subTy_ok e1)) (fun h => by rw [h]; exact k2) (fun h => by rw [h]; rfl)⟩
      · cases e
    | _ => unfold isAny at e; cases e
theorem cv_isi : CbV C (rIsiA C.K) (f2 isiV) := fun A H us xs z _ r e0 Q q => by
  obtain ⟨u, w, x, y, rfl, rfl, ru, rw', e⟩ := two_of r e0
  clear e0
  unfold isiV at e
  cases e1 : kindOf x with
  | none => rw [e1] at e; cases e
  | some s =>
    rw [e1] at e
    cases y with
    | ty t =>
      dsimp only at e
      cases e2 : subTy s t with
      | none => rw [e2] at e; cases e
      | some b =>
        rw [e2] at e; cases e
        rw [rep_ty.mp rw']
        exact .inl ⟨u, _, _, _, b, rfl, .ty t, kind_ok ru e1, kit_ty (subTy_ok e2), q _ H (Same.refl H) (rep_bl.mpr rfl)⟩
    | tup cs =>
      dsimp only at e
      obtain ⟨a, vs, rfl, h, rs⟩ := rep_tup.mp rw'
      cases e2 : isAny s cs with
      | none => rw [e2] at e; cases e
      | some b =>
        rw [e2] at e; cases e
        obtain ⟨ws, k1, k2⟩ := isAny_ok rs e2
        rcases h with ⟨_, h⟩ | h
        · exact .inr (.inl ⟨u, a, vs, _, ws, b, rfl, h, k1, kind_ok ru e1, k2, q _ H (Same.refl H) (rep_bl.mpr rfl)⟩)
        · obtain ⟨⟨c, dd, da, sl⟩, its, n, hk, hc, hd, _, hv⟩ := h
          dsimp only at hc hd
          subst hc; subst hd
          exact .inr (.inr ⟨u, a, dd, its.toList, n, sl, _, b, rfl, by simpa using hk, kind_ok ru e1, by rw [ClsV.all k1 hv]; exact k2, q _ H (Same.refl H) (rep_bl.mpr rfl)⟩)
    | _ => cases e
end
end Y

set_option Elab.async false
set_option linter.all false
set_option maxRecDepth 100000
set_option maxHeartbeats 4000000
set_option autoImplicit false
/-! WA: raise, keywords; more that is walked, assigned, made; what is known of a def. -/
namespace Y
open PySem PySem.Spec PyProof.Rows L2 Z
section
variable {X : Cx} {C : Cn} {E : XK} {e a b tg : Expr} {ma mb : ME} {ms mk : MS} {mi : MI} {es : List Expr} {ml : MA} {mf : ML} {pos : Pos}
/-! ### an error with one field -/
def sp1 (K : PySem.W.Frag) (f : Str) : Sp := fun vs H Q _ => ∃ a C v, vs = [.ref a, v] ∧ OexC K C ∧ PySem.W.findIn K (.ref C) f = some none ∧ H a = some (exo a C none) ∧ ∀ dx, H dx = none → dx ≠ a → Q .non (upd (upd H dx (exd dx [(f, v)])) a (exo a C (some dx)))
theorem ok_init1 {P : Program} {w : World} {K : PySem.W.Frag} {mg : Str → Option Value} {base : Heap} {x qual p f : Str} {st : Stmt} {fa : Addr} {fd : FuncData} (F : Fun K x qual st fa fd) (S : FnScope [("self" : Str), p] [("self" : Str), p] (defScope st))
    (hb : ∀ X : Cx, X.N = [("self" : Str), p] → X.env.scope = defScope st → X.K = K → PSs X (defBody st) (tOst K f (tVar 0) (tVar 1))) : FnOk P w K mg base (L2.CX P w) 1 fa fd [("self" : Str), p] (sp1 K f) := by
  refine F.okX (k := 0) S (fun vs H Q E h => ?_) (fun cdv A0 outer s H vs Q E hr h => ⟨_, hb _ rfl rfl rfl, ?_⟩)
  · obtain ⟨a, C, v, rfl, _⟩ := h; rfl
  · obtain ⟨a, C, v, rfl, o, n, h1, h2⟩ := h
    exact ⟨v, rfl, _, rfl, a, C, rfl, o, n, .inl ⟨h1, fun dx hd ne => h2 dx hd ne⟩⟩
/-- raise C(e, ..) -/
def raiseS (c : Nat) (ns : List Str) (ml : MA) : MS := fun ρ => ml ρ >>= fun x => if x.1.length = ns.length then .exc c ns x.1 x.2 else .bad
theorem ys_raise1 {st : Stmt} {c : Nat} {f : Str} (h : PS X st (fun _ σ H => tMkO (C.ca c) (sp1 C.K f) [] (SA C E ml) σ H fun cls d H' => E cls d H')) (o : OexC C.K (C.ca c)) (n : PySem.W.findIn C.K (.ref (C.ca c)) f = some none) : PS X st (SS C E (raiseS c [f] ml)) := PS.imp h fun D σ H ⟨B, A, ρ, N, hm⟩ =>
  ⟨B, A, ρ, N, Rs.wp_mono (Rs.wp_bind hm) (fun x hx vs H1 N1 g1 r1 => by
    obtain ⟨hl, hx⟩ := ite_bad hx
    have hl1 : vs.length = 1 := by rw [r1.len]; exact hl
    refine ⟨by omega, fun a ha => ?_⟩
    obtain ⟨v, rfl⟩ : ∃ v, vs = [v] := List.length_eq_one_iff.mp hl1
    refine ⟨a, C.ca c, v, rfl, o, n, upd_same, fun dx hd ne => ⟨rfl, dx, [(f, v)], upd_same, by rw [upd_ne ne]; exact upd_same, by rw [upd_ne ne] at hd; exact hd, ?_⟩⟩
    have hd1 : H1 dx = none := by rw [upd_ne ne] at hd; exact hd
    have s1 : Same H1 (upd (del (upd (upd (upd H1 a (exo a (C.ca c) none)) dx (exd dx [(f, v)])) a (exo a (C.ca c) (some dx))) a) dx (.xd [(f, v)])) := fun b u hb => by
      have hba : b ≠ a := ne_of_none hb ha
      have hbd : b ≠ dx := ne_of_none hb hd1
      rw [upd_ne hbd, del_ne hba, upd_ne hba, upd_ne hbd, upd_ne hba]
      exact hb
    exact hx dx [v] A σ _ (N1.same s1) (N1.fr dx (.of hd1)) upd_same hl.symm (reps.gr (.same s1) r1)) EXe.of⟩
/-! ### f(k = v, ..) -/
/-- as callM, the values in another order -/
def permM (g : List Val → List Val) (a : MA) : MA := fun ρ => a ρ >>= fun x => .ok (g x.1, x.2)
def tCallK0 (sp : Sp) (n : Nat) (gV : List V → List V) (E : XK) (tk : TA) : TE := fun σ H Q => tk σ H fun zs H2 => zs.length = n ∧ sp (gV zs) H2 Q E
theorem pe_callK0 {CXT : CXT} {k : Nat} {f : Addr} {fd : FuncData} {ps ks : List Str} {sp : Sp} {x : Str} {p pos : Pos} {kws : List Keyword} {tk : TA} {g : List Value → List Value} {gV : List V → List V} (F : FnOk X.prog X.w X.K X.mg X.base CXT k f fd ps sp) (hr : Room k X.A) (hg : Gl X x) (hm : X.mg x = some (.ref f)) (hk : PySem.W.keepIn X.K (.ref f) = true)
    (hb : ∀ (s : Shared) (ws : List Value), X.K.In s.heap → ws.length = ks.length → BindsTo s fd ⟨[], ks.zip ws⟩ (ps.zip (g ws))) (hv : ∀ {zs : List V} {ws : List Value}, zs.length = ks.length → Vals zs ws → Vals (gV zs) (g ws)) (hx : Passes CXT X E) (hkw : PK X kws tk)
    (hall : (backToKw pos (keywordEach kws X.env)).all (·.1.isSome) = true := by rfl) (hks : (backToKw pos (keywordEach kws X.env)).filterMap (·.1) = ks := by rfl) (hdb : (x == ("__debug__" : Str)) = false := by decide)
    (hpl : ((backTo pos (starEach [] X.env)).any (·.1) || (backToKw pos (keywordEach kws X.env)).any (·.1.isNone)) = false := by rfl) : PE X (.Call (.Name x p) [] kws pos) (tCallK0 sp ks.length gV E tk) := by
  refine ⟨fun pins s σ H Q I h => ?_⟩
  refine wpAny_Call_Name_kw (ld_glob I hg hm ?_ hdb)
  refine PySem.W.callWith_KW0 (h₀ := X.base) I.ok.mod.kin hk hall ?_ hpl
  refine thn (hkw.run pos pins s σ H _ I h) fun ws s2 ⟨zs, H2, I2, rz, l2, q2⟩ => ⟨I2.kIn, ?_⟩
  rw [hks]
  have r2 := hv l2 rz
  have lw : ws.length = ks.length := by rw [← Paired.length rz]; exact l2
  refine wpAny_call (codeAny_mono (F.run X.A X.stack s2 H2 ⟨[], ks.zip ws⟩ (g ws) (gV zs) Q E hr I2.env0 (hb s2 ws I2.kIn lw) r2 q2) fun r s' hq => ?_)
  cases r with
  | error e => exact hx pins σ H2 s2 e s' I2 hq
  | ok fl =>
    cases fl with
    | ret u => exact I2.after hq
    | next => exact False.elim hq
    | brk => exact False.elim hq
    | cont => exact False.elim hq
/-- the values in the order of the parameters -/
def pick {α : Type} (is : List Nat) (l : List α) : List α := is.filterMap fun i => l[i]?
theorem pick_pair {α β : Type} {R : α → β → Prop} {l : List α} {m : List β} (p : Paired R l m) : ∀ is : List Nat, Paired R (pick is l) (pick is m)
  | [] => .nil
  | i :: is => by
    unfold pick
    rw [List.filterMap_cons, List.filterMap_cons]
    cases e : m[i]? with
    | none =>
      have h1 := Paired.length p
      rw [List.getElem?_eq_none_iff] at e
      rw [List.getElem?_eq_none (show l.length ≤ i by omega)]
      exact pick_pair p is
    | some y =>
      obtain ⟨x, hx, r⟩ := at_ p e
      rw [hx]
      exact .cons r (pick_pair p is)
where at_ {α β : Type} {R : α → β → Prop} : ∀ {l : List α} {m : List β} {j : Nat} {y : β}, Paired R l m → m[j]? = some y → ∃ x, l[j]? = some x ∧ R x y
  | _, _, _, _, .nil, e => by simp at e
  | _, _, 0, _, .cons r _, e => by simp at e; subst e; exact ⟨_, rfl, r⟩
  | _, _, j + 1, y, .cons _ t, e => by
    obtain ⟨v, h1, h2⟩ := at_ (j := j) (y := y) t (by simpa using e)
    exact ⟨v, by simpa using h1, h2⟩
def pickM (m : Nat) (is : List Nat) (a : MA) : MA := fun ρ => a ρ >>= fun x => if x.1.length = m then .ok (pick is x.1, x.2) else .bad
theorem callK_rd {np n m : Nat} {is : List Nat} {body : MS} : ∀ σ H Q, SE C E (callM np n body (pickM m is ml)) σ H Q → tCallK0 (spF C np n body) m (pick is) E (SA C E ml) σ H Q := fun σ H Q ⟨B, A, ρ, N, hm⟩ =>
  ⟨B, A, ρ, N, Rs.wp_mono (Rs.wp_bind (Rs.wp_bind hm)) (fun x hx vs H1 N1 g1 r1 => by
    obtain ⟨hl, hx⟩ := ite_bad hx
    refine ⟨by rw [r1.len]; exact hl, ?_⟩
    have r2 : reps C A H1 (pick is vs) (pick is x.1) := reps_of (pick_pair r1.pair is)
    exact call_core N1 r2 (Rs.wp_mono hx (fun y hy v H2 N2 g2 r3 => hy v H2 N2 (g1.trans g2) r3) (EXe.tr g1))) fun _ _ _ _ h => h⟩
/-- a list or a tuple -/
def iSeq (K : PySem.W.Frag) (tl : TE) : TI := fun σ H R => tl σ H fun x H1 => ∃ a, x = .ref a ∧ (((∃ xs, SqL K H1 a xs) ∧ R (Itl K a) H1) ∨ ((∃ xs, SqT K H1 a xs) ∧ R (Itt K a) H1))
theorem pi_seq {l : Expr} {tl : TE} (hl : PE X l tl) : PI X tg l (iSeq X.K tl) := by
  refine ⟨fun pins s σ H R I h => thn (hl.run pins s σ H _ I h) fun v s1 hq => ?_⟩
  obtain ⟨x, H1, I1, r1, a, rfl, q1⟩ := hq
  cases r1
  have fp : ∀ b ∈ [s1.heap.objs.size], FpOk X pins H1 b := fun b hb => by rw [List.mem_singleton.mp hb]; exact I1.fpOk (Nat.le_refl _) (I1.hok.fresh (Nat.le_refl _))
  rcases q1 with ⟨⟨xs, hs⟩, q⟩ | ⟨⟨xs, hs⟩, q⟩
  · obtain ⟨its, _, pl, _⟩ := I1.list hs
    exact wpAny_pyIter_list pl.isList ⟨_, [_], _, _, H1, rfl, I1.kept (t' := s1.toks) (fun b o e => Heap.get?_push_of_some _ e), turn_list a _, ⟨_, Heap.get?_push_size _ rfl, rfl, rfl⟩, fp, q⟩
  · obtain ⟨its, _, pl, _⟩ := I1.tuple hs
    exact wpAny_pyIter_tuple (show s1.heap.IsTuple a its.toArray from pl) ⟨_, [_], _, _, H1, rfl, I1.kept (t' := s1.toks) (fun b o e => Heap.get?_push_of_some _ e), turn_tuple a _, ⟨_, Heap.get?_push_size _ rfl, rfl, rfl⟩, fp, q⟩
theorem yi_seq (hK : X.K = C.K) (h : PE X e (SE C E ma)) : PI X tg e (SI C E (walkM seqV ma)) := PI.imp (pi_seq h) fun σ H R ⟨B, A, ρ, N, hm⟩ =>
  ⟨B, A, ρ, N, Rs.wp_mono (Rs.wp_bind hm) (fun x hx v H1 N1 g1 r1 => by
    obtain ⟨xs, e, hz⟩ := Rs.wp_opt (Rs.wp_bind hx)
    rw [hK]
    unfold seqV at e
    split at e
    · rename_i q
      cases e
      rw [q] at r1
      obtain ⟨a, vs, rfl, n, h, r⟩ := rep_lst.mp r1
      exact ⟨a, rfl, .inl ⟨⟨vs, SqL.of h⟩, hz _ H1 N1 g1 (wk_list n h r)⟩⟩
    · rename_i q
      cases e
      rw [q] at r1
      obtain ⟨a, vs, rfl, h, r⟩ := rep_tup.mp r1
      exact ⟨a, rfl, .inr ⟨⟨vs, h.sq⟩, hz _ H1 N1 g1 (wk_tup h r)⟩⟩
    · cases e) fun _ _ _ _ h => h⟩
/-- enumerate(list) -/
def enumL (n : Nat) : List Val → List Val
  | [] => []
  | x :: xs => .tup [.int n, x] :: enumL (n + 1) xs
theorem enumL_length : ∀ (xs : List Val) (n : Nat), (enumL n xs).length = xs.length
  | [], _ => rfl
  | _ :: xs, n => by show (enumL (n + 1) xs).length + 1 = xs.length + 1; rw [enumL_length]
theorem enumL_get : ∀ (xs : List Val) (n i : Nat), (enumL n xs)[i]? = (xs[i]?).map fun x => .tup [.int ((n + i : Nat) : Int), x]
  | [], _, _ => rfl
  | x :: xs, n, 0 => rfl
  | x :: xs, n, i + 1 => by
    show (enumL (n + 1) xs)[i]? = _
    rw [enumL_get xs (n + 1) i]
    rw [List.getElem?_cons_succ, show n + 1 + i = n + (i + 1) by omega]
def enumM (m : MA) : MI := fun ρ => m ρ >>= fun x => match x.1 with | [.lst xs] => .ok (enumL 0 xs, x.2) | _ => .bad
theorem wk_enum {A : Rg} {H : Hp} {a : Addr} {vs : List V} {xs : List Val} (n : A a) (h : H a = some (.lst vs)) (r : reps C A H vs xs) : Wk C A (Ite C.K a) H (enumL 0 xs) := fun A' H' g fr => by
  have h' : SqL C.K H' a vs := SqL.of (g a _ nt n h).2
  have r' := (reps.gr g r).pair
  refine ⟨fun i x hx => ?_, ⟨vs, h', by rw [enumL_length, r.len]; exact Nat.le_refl _⟩⟩
  rw [enumL_get] at hx
  cases e : xs[i]? with
  | none => rw [e] at hx; cases hx
  | some y =>
    rw [e] at hx
    cases hx
    obtain ⟨v, hv, rv⟩ := wk_list.paired_at' r' e
    refine ⟨⟨vs, v, h', hv⟩, fun v2 H2 ⟨T, z, e2, hT, e3, k⟩ => ?_⟩
    subst e2
    subst e3
    have hz := k vs h'
    rw [hv] at hz
    cases hz
    exact ⟨same_new hT, rep_tup.mpr ⟨T, _, rfl, .inl ⟨fr T (.of hT), upd_same⟩, reps_cons (rep_int.mpr (by simp)) (reps_cons (rep.gr (gr_new hT) rv) reps_nil)⟩⟩
theorem yi_enum (hK : X.K = C.K) (h : PI X tg e (iEnum X.K (SA C E ml))) : PI X tg e (SI C E (enumM ml)) := PI.imp h fun σ H R ⟨B, A, ρ, N, hm⟩ =>
  ⟨B, A, ρ, N, Rs.wp_mono (Rs.wp_bind hm) (fun x hx us H1 N1 g1 r1 => by
    split at hx
    · rename_i xs q
      rw [q] at r1
      obtain ⟨v, rfl, rv⟩ := reps1 r1
      obtain ⟨a, vs, rfl, n, h, r⟩ := rep_lst.mp rv
      rw [hK]
      exact ⟨a, vs, rfl, SqL.of h, hx _ H1 N1 g1 (wk_enum n h r)⟩
    · exact hx.elim) fun _ _ _ _ h => h⟩
/-- script[:k] -/
def scrF (k : Nat) (m : ME) : ML := fun ρ => m ρ >>= fun x => match x.1 with | .scr ns => .ok ((ns.take k).map .int, x.2) | _ => .bad
theorem reps_ints {A : Rg} {H : Hp} : ∀ ns : List Int, reps C A H (ns.map V.int) (ns.map .int)
  | [] => reps_nil
  | n :: ns => reps_cons (rep_int.mpr rfl) (reps_ints ns)
theorem cutV_take (xs : List Int) (k : Nat) : cutV (xs.map V.int) none (some (k : Int)) = (xs.take k).map V.int := by
  unfold cutV
  rw [HT.sIx_none, HT.sIx_nat, List.drop_zero, List.map_take, List.length_map, Nat.sub_zero, Nat.min_comm]
  by_cases h : xs.length ≤ k
  · rw [Nat.min_eq_left h, List.take_of_length_le (by rw [List.length_map]; omega), List.take_of_length_le (by rw [List.length_map]; exact h)]
  · rw [Nat.min_eq_right (by omega)]
theorem yf_scr {k : Nat} (hK : X.K = C.K) (h : PE X e (tSl (rSlL X.K) (SE C E ma) tNoPart (tPart (tC (.int (k : Int)))))) : PE X e (SF C E (scrF k ma)) := PE.imp h fun σ H Q hs => by
  obtain ⟨B, A, ρ, N, hm⟩ := sf_of hs
  exact ⟨B, A, ρ, N, Rs.wp_mono (Rs.wp_bind hm) (fun x hx v H1 N1 g1 r1 => by
    split at hx
    · rename_i ns q
      rw [q] at r1
      obtain ⟨a, rfl, h⟩ := rep_scr.mp r1
      refine ⟨(k : Int), rfl, a, _, rfl, by rw [hK]; exact h.sq, fun p hp => ?_⟩
      rw [cutV_take]
      exact new_rd N1 g1 hx p _ hp (reps_ints _)
    · exact hx.elim) fun _ _ _ _ h => h⟩
/-- {} -/
theorem y_dic0 : PE X (.Dict [] [] pos) (SE C E (cstM (.dic [] []))) := PE.imp pe_dnewK fun σ H Q ⟨B, A, ρ, N, hm⟩ => fun p hp => hm _ _ (N.new hp) (.same N (same_new hp)) (rep_dic.mpr ⟨p, [], rfl, N.fr p (.of hp), upd_same, rfl, reps_nil⟩)
/-- x, y = a, b -/
def parS (i j : Nat) (m : MA) : MS := fun ρ => m ρ >>= fun x => match x.1 with
  | [u, v] => if freeS x.2 i = true ∧ freeS (x.2.set i (some (.fz u))) j = true then .ok (.nx ((x.2.set i (some (.fz u))).set j (some (.fz v)))) else .bad
  | _ => .bad
theorem ys_par {i j : Nat} {st : Stmt} (h : PS X st (tPar i j (SA C E ml))) : PS X st (SS C E (parS i j ml)) := PS.imp h fun D σ H ⟨B, A, ρ, N, hm⟩ =>
  ⟨B, A, ρ, N, Rs.wp_mono (Rs.wp_bind hm) (fun x hx us H1 N1 g1 r1 => by
    split at hx
    · rename_i u v q
      obtain ⟨⟨f1, f2⟩, hx⟩ := ite_bad hx
      rw [q] at r1
      obtain ⟨p, w, rfl, rp, rw'⟩ := reps2 r1
      exact ⟨p, w, rfl, hx A _ H1 ((N1.set f1 rp).set f2 rw') g1.g⟩
    · exact hx.elim) EXe.of⟩
/-- targets = e -/
def asgT (t : MT) (m : ME) : MS := fun ρ => m ρ >>= fun x => Rs.opt (t x.1 x.2) >>= fun ρ' => .ok (.nx ρ')
theorem ys_asgT {t : MT} {is : List Nat} {st : Stmt} (h : PS X st (tAsg (SE C E ma) (SG C is t))) : PS X st (SS C E (asgT t ma)) := PS.imp h fun D σ H ⟨B, A, ρ, N, hm⟩ =>
  ⟨B, A, ρ, N, Rs.wp_mono (Rs.wp_bind hm) (fun x hx v H1 N1 g1 r1 => by
    obtain ⟨ρ', e1, hx⟩ := Rs.wp_opt (Rs.wp_bind hx)
    exact ⟨B, A, x.2, x.1, ρ', N1, r1, e1, fun σ' N' _ => hx A σ' H1 N' g1.g⟩) EXe.of⟩
end
/-- what is known of a def -/
structure Df (P : Program) (w : World) (C : Cn) (mg : Str → Option Value) (base : Heap) (nm : Str) (k : Nat) (ps : List Str) (kws : List (List Str × List Nat)) (sp : Sp) where
  f : Addr
  fd : FuncData
  ok : FnOk P w C.K mg base (L2.CX P w) k f fd ps sp
  mgf : mg nm = some (.ref f)
  kp : PySem.W.keepIn C.K (.ref f) = true
  b : Binds C.K fd ps []
  kw : ∀ q ∈ kws, ∀ (s : Shared) (ws : List Value), C.K.In s.heap → ws.length = q.1.length → BindsTo s fd ⟨[], q.1.zip ws⟩ (ps.zip (pick q.2 ws))
/-- an error's class with one field -/
structure Ex1 (P : Program) (w : World) (C : Cn) (mg : Str → Option Value) (base : Heap) (nm : Str) (c : Nat) (p f : Str) where
  fi : Addr
  fd : FuncData
  o : OexC C.K (C.ca c)
  n : PySem.W.findIn C.K (.ref (C.ca c)) f = some none
  i : PySem.W.findIn C.K (.ref (C.ca c)) "__init__" = some (some (.ref fi))
  t : PySem.W.typeIn C.K (.ref fi) = some (.type "function")
  ok : FnOk P w C.K mg base (L2.CX P w) 1 fi fd [("self" : Str), p] (sp1 C.K f)
  b : Binds C.K fd [("self" : Str), p] []
  mgf : mg nm = some (.ref (C.ca c))
end Y

set_option Elab.async false
set_option linter.all false
set_option maxRecDepth 100000
set_option maxHeartbeats 4000000
set_option autoImplicit false
/-! WB: what is heard of a call: try: ask() except .. as error: the field of the error. -/
namespace Y
open PySem PySem.Spec PyProof.Rows L2 Z
theorem takes_len {X : Cx} {W : WX} (t : Takes X W) : Takes X (fun cls d σ H => σ.length = X.N.length → W cls d σ H) := fun u s' ⟨a, B, sI, pins, σ, H, cls, d, e, I, nb, up, sky, na, os, ag, w⟩ =>
  t u s' ⟨a, B, sI, pins, σ, H, cls, d, e, I, nb, up, sky, na, os, ag, w I.len⟩
/-- isinstance(e, c) of the error that the suite holds, its own dict known -/
def rIsD (K : PySem.W.Frag) (a D : Addr) (cls : Value) (d : Option Addr) : List V → Hp → VK → Prop := fun xs H Q => cls = .ref D ∧ (∃ dd fs, d = some dd ∧ H dd = some (.xd fs)) ∧ ∃ (c : V) (cv : Value) (b : Bool), xs = [.ref a, c] ∧ (∀ u, RelV c u → u = cv) ∧ PySem.W.kitOne K (.ref D) cv = some b ∧ Q (.bl b) H
theorem call_isD {X : Cx} {a D : Addr} {oe : Obj} {cls : Value} {d : Option Addr} {pn : List (Addr × Obj)} (C : ExcC X.K D) (hz : Zc cls d oe) (hf : ∃ vs, oe.data = .fields vs) : CallR (X.suite a ((a, oe) :: pn)) (.builtin "isinstance") (rIsD X.K a D cls d) := by
  intro pins s σ H xs us Q I r h
  obtain ⟨rfl, ⟨dd, fs, rfl, hdd⟩, c, cv, b, rfl, hcv, e, q⟩ := h
  obtain ⟨u, w, rfl, ru, rw'⟩ := vals2 r
  cases ru
  have ec := hcv _ rw'
  subst ec
  obtain ⟨hget, _⟩ := I.pin (a, oe) (List.mem_append.mpr (.inl List.mem_cons_self))
  obtain ⟨vs, hv⟩ := hf
  obtain ⟨mA, hns, _⟩ : ObjOk X.prog X.w H s.heap dd (.xd fs) := I.hok dd _ hdd
  obtain ⟨od, ho, _⟩ := lookIn_ns hns
  have J : PySem.W.InstAt s.heap a oe D (some od) := ⟨hget, hz.1, by unfold PySem.W.notCls; rw [hv] <;> rfl, by rw [hz.2]; exact ho⟩
  obtain ⟨cdD, hcD, _⟩ := PySem.W.any_some C.hd
  exact PySem.W.kia_one (PySem.W.kitx_exc (by rw [hcD]; rfl) C.hg C.hk C.hs C.ha C.hn C.ht C.hm) I.kIn J e (fun z => nomatch z) fun tk => ⟨.bl b, H, I.kept (t' := tk) fun _ _ z => z, rfl, q⟩
/-- what is known of the error's class D, one of those that S names -/
structure Hd (K : PySem.W.Frag) (S D : Addr) (f : Str) : Prop where
  e : ExcC K D
  x : XfC K D
  n : PySem.W.findIn K (.ref D) f = some none
  te : PySem.W.exmOne K (.ref D) (.ref S) = some true
/-- heard: the field of an error of the class D; None where there is none -/
def TH (D : Addr) (f : Str) : (XK → Hp → VK → Prop) → Hp → VK → Prop := fun tl H Q =>
  tl (fun cls d H' => cls = .ref D ∧ ∃ (dd : Addr) (fs : List (Str × V)) (v : V), d = some dd ∧ H' dd = some (.xd fs) ∧ fs.lookup f = some v ∧ Q v H') H (fun _ H' => Q .non H')
def hearM (c : Nat) (f : Str) (m : ME) : ME := fun ρ => match m ρ with
  | .ok x => .ok (.non, x.2)
  | .exc c' ns vs ρ' => if c' = c ∧ ns = [f] then (match vs with | [v] => .ok (v, ρ') | _ => .bad) else .bad
  | .bad => .bad
/-- heard: the field of an error of the class D; the answer where there is none -/
def TH2 (D : Addr) (f : Str) : (XK → Hp → VK → Prop) → Hp → VK → Prop := fun tl H Q =>
  tl (fun cls d H' => cls = .ref D ∧ ∃ (dd : Addr) (fs : List (Str × V)) (v : V), d = some dd ∧ H' dd = some (.xd fs) ∧ fs.lookup f = some v ∧ Q v H') H (fun v H' => Q v H')
def hearM2 (c : Nat) (f : Str) (m : ME) : ME := fun ρ => match m ρ with
  | .ok x => .ok x
  | .exc c' ns vs ρ' => if c' = c ∧ ns = [f] then (match vs with | [v] => .ok (v, ρ') | _ => .bad) else .bad
  | .bad => .bad
section
variable {X : Cx} {C : Cn} {E : XK} {e : Expr} {ma : ME}
theorem y_hear {c : Nat} {f : Str} (h : PE X e (LamX.tLam C.T (TH (C.ca c) f) (fun E' => SE C E' ma))) : PE X e (SE C E (hearM c f ma)) := PE.imp h fun σ H Q ⟨B, A, ρ, N, hm⟩ => by
  refine ⟨N.tb, fun H1 ex t1 => ?_⟩
  have k : ∀ a o, NT o → H a = some o → H1 a = some o := fun a o n h => ex a o h n
  have N1 := N.kept k (fun a h => h.bk k) t1
  have g1 : Gd σ A H ρ H1 ρ := .kept N k (fun a h => h.bk k)
  refine ⟨B, A, ρ, N1, ?_⟩
  unfold hearM at hm
  cases e : ma ρ with
  | bad => rw [e] at hm; exact hm.elim
  | ok x =>
    rw [e] at hm
    exact fun v H' N' g' r' => hm .non H' N' (g1.trans g') (rep_non.mpr rfl)
  | exc c' ns vs ρ' =>
    rw [e] at hm
    dsimp only at hm
    obtain ⟨⟨rfl, rfl⟩, hm2⟩ := ite_bad hm
    clear hm
    cases vs with
    | nil => exact hm2.elim
    | cons v r =>
      cases r with
      | cons _ _ => exact hm2.elim
      | nil =>
        intro d ws H' N' g' hd h1 hl r
        obtain ⟨u, rfl, ru⟩ := reps1 r
        exact ⟨rfl, d, _, u, rfl, h1, by simp [List.lookup], hm2 u H' N' (g1.trans g') ru⟩
theorem y_hear2 {c : Nat} {f : Str} (h : PE X e (LamX.tLam C.T (TH2 (C.ca c) f) (fun E' => SE C E' ma))) : PE X e (SE C E (hearM2 c f ma)) := PE.imp h fun σ H Q ⟨B, A, ρ, N, hm⟩ => by
  refine ⟨N.tb, fun H1 ex t1 => ?_⟩
  have k : ∀ a o, NT o → H a = some o → H1 a = some o := fun a o n h => ex a o h n
  have N1 := N.kept k (fun a h => h.bk k) t1
  have g1 : Gd σ A H ρ H1 ρ := .kept N k (fun a h => h.bk k)
  refine ⟨B, A, ρ, N1, ?_⟩
  unfold hearM2 at hm
  cases e : ma ρ with
  | bad => rw [e] at hm; exact hm.elim
  | ok x =>
    rw [e] at hm
    exact fun v H' N' g' r' => hm v H' N' (g1.trans g') r'
  | exc c' ns vs ρ' =>
    rw [e] at hm
    dsimp only at hm
    obtain ⟨⟨rfl, rfl⟩, hm2⟩ := ite_bad hm
    clear hm
    cases vs with
    | nil => exact hm2.elim
    | cons v r =>
      cases r with
      | cons _ _ => exact hm2.elim
      | nil =>
        intro d ws H' N' g' hd h1 hl r
        obtain ⟨u, rfl, ru⟩ := reps1 r
        exact ⟨rfl, d, _, u, rfl, h1, by simp [List.lookup], hm2 u H' N' (g1.trans g') ru⟩
end
end Y

set_option Elab.async false
set_option linter.all false
set_option maxRecDepth 100000
set_option maxHeartbeats 4000000
set_option autoImplicit false
/-! WC: the def that hears. -/
namespace Y
open PySem PySem.Spec PyProof.Rows L2 Z
theorem heard_gives {X : Cx} {Ng : List Str} {x a h e q f W B s : Str} {sg : Scope} {g CS D : Addr} {cdg : Value} {j1 j2 : Nat} {p1 p2 p3 q1 q2 q3 q4 q5 q6 q7 q8 q9 q10 q11 q12 q13 q14 q15 q16 q17 q18 : Pos}
    (hNg : Ng = [a, h, e]) (hnd : Ng.Nodup) (hh : sg.names.lookup h = some .local) (he : sg.names.lookup e = some .local)
    (hW : sg.names.lookup W = some .globalImplicit) (hB : sg.names.lookup B = some .globalImplicit) (hI : sg.names.lookup ("isinstance" : Str) = some .globalImplicit)
    (mW : X.mg W = some (.ref CS)) (mB : X.mg B = some (.ref D)) (mI : X.mg ("isinstance" : Str) = none)
    (dW : (W == ("__debug__" : Str)) = false) (dB : (B == ("__debug__" : Str)) = false) (dh : (h == ("__debug__" : Str)) = false) (de : (e == ("__debug__" : Str)) = false) (ch : (h == ("__classdict__" : Str)) = false) (ce : (e == ("__classdict__" : Str)) = false)
    (C : Hd X.K CS D f) (hk : PySem.W.kitOne X.K (.ref D) (.ref D) = some true)
    (hat : ∀ env : PySem.Env, attributeBase (.Name e q10) f env (eval (.Name e q10) env) = eval (.Name e q10) env) :
    LamX.GivesTo X Ng x sg g cdg [.Assign [.Name h q1] (.Constant .none j1 q2) q3, .Try [.Expr (.Call (.Name a p1) [] [] p2) p3] [.ExceptHandler (some (.Name W q4)) (some e) [.Assign [.Name h q5] (.IfExp (.Call (.Name "isinstance" q6) [.Name e q7, .Name B q8] [] q9) (.Attribute (.Name e q10) f q11) (.Constant (.str s) j2 q12) q13) q14] q15] [] [] q16, .Return (some (.Name h q17)) q18] a q (TH D f) := by
  subst hNg
  intro fa c' st H Q tl act hc hq
  have lh : ([a, h, e] : List Str)[1]? = some h := rfl
  have le : ([a, h, e] : List Str)[2]? = some e := rfl
  refine ⟨_, pss_cons (ps_set (i := 1) hnd rfl (.inl hh) pe_non (hs := ?_) (hf := .inr hh)) (pss_cons (ps_try_as (c := .ref CS) (i := 2)
      (tb := fun W D' σ H => ∃ Ech : XK, (∀ cls d σ' H', σ'.length = 3 → Ech cls d H' → W cls d σ' H') ∧ σ[0]? = some (some (.ref fa)) ∧ H c' = some (LamX.CodeO c' q) ∧ tl Ech H (fun _ H1 => D'.nx σ H1))
      rfl rfl hnd rfl he ⟨hW, dW, .inl mW⟩ LamX.takes0 (fun W' pn xe tk _ => ?_)
      (fun a' oe cls d pn hz hf => pss_one (ps_set (i := 1) hnd rfl (.inl hh)
        (pe_ifExp (pt_val (pe_callB (call_isD C.e hz hf) hI mI rfl (pa_cons (pe_var (i := 2) le (.inl he) de ce) (pa_cons (pe_glob (v := .ref D) hB mB rfl dB) pa_nil))))
          (pe_xf C.x C.n hz hf (pe_var (i := 2) le (.inl he) de ce) (hat _)) pe_str) (hs := ?_) (hf := .inr hh))))
      (pss_one (ps_ret (pe_var (i := 1) lh (.inl hh) dh ch)))), ?_⟩
  · rfl
  · refine ⟨fun pins s' σ H' D' I h' => ?_⟩
    obtain ⟨Ech, hW', h1, h2, h3⟩ := h'
    have hp := act _ pn xe Ech p1 p2 (takes_len tk) (fun cls d σ' H' z l => hW' cls d σ' H' l z)
    exact (pss_one (ps_expr (pos := p3) hp)).run pins s' σ H' D' I ⟨h1, h2, h3⟩
  · rfl
  · show ∃ Ech : XK, _ ∧ _ ∧ _ ∧ _
    refine ⟨fun cls d H' => cls = .ref D ∧ ∃ (dd : Addr) (fs : List (Str × V)) (v : V), d = some dd ∧ H' dd = some (.xd fs) ∧ fs.lookup f = some v ∧ Q v H', ?_, rfl, hc, ?_⟩
    · rintro cls d σ' H' hl ⟨rfl, dd, fs, v, rfl, hd, hf, hv⟩
      match σ', hl with
      | [s0, s1, s2], _ =>
        exact ⟨true, C.te, fun _ a' na => ⟨_, rfl, rfl, ⟨dd, fs, rfl, hd⟩, .ref D, .ref D, true, rfl, fun _ r => r, hk, true, rfl, ⟨_, rfl, rfl, rfl, dd, fs, v, rfl, hd, hf, _, rfl, hv⟩⟩, fun z => nomatch z⟩
    · have e : (fun (_ : V) (H' : Hp) => Q .non H') = fun (_ : V) (H1 : Hp) => tRet (tVar 1) { nx := fun _ H' => Q .non H', rt := Q } ((L2.start [a, h, e] [V.ref fa]).set 1 (some .non)) H1 := by
        funext _ H1
        exact propext ⟨fun z => ⟨_, rfl, z⟩, fun ⟨v, e, z⟩ => by cases e; exact z⟩
      have hq' := hq
      unfold TH at hq'
      rw [e] at hq'
      exact hq'
theorem heard_gives2 {X : Cx} {Ng : List Str} {x a h e q f W B s : Str} {sg : Scope} {g CS D : Addr} {cdg : Value} {j1 j2 : Nat} {p1 p2 p3 q1 q2 q3 q4 q5 q6 q7 q8 q9 q10 q11 q12 q13 q14 q15 q16 q17 q18 q19 : Pos}
    (hNg : Ng = [a, h, e]) (hnd : Ng.Nodup) (hh : sg.names.lookup h = some .local) (he : sg.names.lookup e = some .local)
    (hW : sg.names.lookup W = some .globalImplicit) (hB : sg.names.lookup B = some .globalImplicit) (hI : sg.names.lookup ("isinstance" : Str) = some .globalImplicit)
    (mW : X.mg W = some (.ref CS)) (mB : X.mg B = some (.ref D)) (mI : X.mg ("isinstance" : Str) = none)
    (dW : (W == ("__debug__" : Str)) = false) (dB : (B == ("__debug__" : Str)) = false) (dh : (h == ("__debug__" : Str)) = false) (de : (e == ("__debug__" : Str)) = false) (ch : (h == ("__classdict__" : Str)) = false) (ce : (e == ("__classdict__" : Str)) = false)
    (C : Hd X.K CS D f) (hk : PySem.W.kitOne X.K (.ref D) (.ref D) = some true)
    (hat : ∀ env : PySem.Env, attributeBase (.Name e q10) f env (eval (.Name e q10) env) = eval (.Name e q10) env) :
    LamX.GivesTo X Ng x sg g cdg [.Assign [.Name h q1] (.Constant .none j1 q2) q3, .Try [.Assign [.Name h q19] (.Call (.Name a p1) [] [] p2) p3] [.ExceptHandler (some (.Name W q4)) (some e) [.Assign [.Name h q5] (.IfExp (.Call (.Name "isinstance" q6) [.Name e q7, .Name B q8] [] q9) (.Attribute (.Name e q10) f q11) (.Constant (.str s) j2 q12) q13) q14] q15] [] [] q16, .Return (some (.Name h q17)) q18] a q (TH2 D f) := by
  subst hNg
  intro fa c' st H Q tl act hc hq
  have lh : ([a, h, e] : List Str)[1]? = some h := rfl
  have le : ([a, h, e] : List Str)[2]? = some e := rfl
  refine ⟨_, pss_cons (ps_set (i := 1) hnd rfl (.inl hh) pe_non (hs := ?_) (hf := .inr hh)) (pss_cons (ps_try_as (c := .ref CS) (i := 2)
      (tb := fun W D' σ H => ∃ Ech : XK, (∀ cls d σ' H', σ'.length = 3 → Ech cls d H' → W cls d σ' H') ∧ σ[0]? = some (some (.ref fa)) ∧ H c' = some (LamX.CodeO c' q) ∧ tl Ech H (fun v H1 => D'.nx (σ.set 1 (some v)) H1))
      rfl rfl hnd rfl he ⟨hW, dW, .inl mW⟩ LamX.takes0 (fun W' pn xe tk _ => ?_)
      (fun a' oe cls d pn hz hf => pss_one (ps_set (i := 1) hnd rfl (.inl hh)
        (pe_ifExp (pt_val (pe_callB (call_isD C.e hz hf) hI mI rfl (pa_cons (pe_var (i := 2) le (.inl he) de ce) (pa_cons (pe_glob (v := .ref D) hB mB rfl dB) pa_nil))))
          (pe_xf C.x C.n hz hf (pe_var (i := 2) le (.inl he) de ce) (hat _)) pe_str) (hs := ?_) (hf := .inr hh))))
      (pss_one (ps_ret (pe_var (i := 1) lh (.inl hh) dh ch)))), ?_⟩
  · rfl
  · refine ⟨fun pins s' σ H' D' I h' => ?_⟩
    obtain ⟨Ech, hW', h1, h2, h3⟩ := h'
    have hp := act _ pn xe Ech p1 p2 (takes_len tk) (fun cls d σ' H' z l => hW' cls d σ' H' l z)
    exact (pss_one (ps_set (pos := p3) (i := 1) hnd rfl (.inl hh) hp (hs := rfl) (hf := .inr hh))).run pins s' σ H' D' I ⟨h1, h2, h3⟩
  · rfl
  · show ∃ Ech : XK, _ ∧ _ ∧ _ ∧ _
    refine ⟨fun cls d H' => cls = .ref D ∧ ∃ (dd : Addr) (fs : List (Str × V)) (v : V), d = some dd ∧ H' dd = some (.xd fs) ∧ fs.lookup f = some v ∧ Q v H', ?_, rfl, hc, ?_⟩
    · rintro cls d σ' H' hl ⟨rfl, dd, fs, v, rfl, hd, hf, hv⟩
      match σ', hl with
      | [s0, s1, s2], _ =>
        exact ⟨true, C.te, fun _ a' na => ⟨_, rfl, rfl, ⟨dd, fs, rfl, hd⟩, .ref D, .ref D, true, rfl, fun _ r => r, hk, true, rfl, ⟨_, rfl, rfl, rfl, dd, fs, v, rfl, hd, hf, _, rfl, hv⟩⟩, fun z => nomatch z⟩
    · have ee : (fun (v : V) (H1 : Hp) => tRet (tVar 1) { nx := fun _ H' => Q .non H', rt := Q } (((L2.start [a, h, e] [V.ref fa]).set 1 (some .non)).set 1 (some v)) H1) = Q := by
        funext v H1
        exact propext ⟨fun ⟨u, e, z⟩ => by cases e; exact z, fun z => ⟨_, rfl, z⟩⟩
      show tl _ H (fun (v : V) (H1 : Hp) => tRet (tVar 1) { nx := fun _ H' => Q .non H', rt := Q } (((L2.start [a, h, e] [V.ref fa]).set 1 (some .non)).set 1 (some v)) H1)
      rw [ee]
      exact hq
/-- a def that hears -/
structure Hear (C : Cn) (mg : Str → Option Value) (x a : Str) (c : Nat) (f : Str) (st : Stmt) (N : List Str) where
  g : Addr
  oc : Value
  cdv : Value
  kV : Value
  doc : Value
  pm : Value
  ct : Value
  od : Option Addr
  an : Option Addr
  osl : Array (Option Value)
  lk : C.K.lookup g = some ⟨oc, od, .func (PySem.W.fnOf x x (defArgs st) (defBody st) (defScope st) .none kV doc pm an cdv ct), osl⟩
  hcg : PySem.W.codeIn C.K cdv x = true
  mgf : mg x = some (.ref g)
  kp : PySem.W.keepIn C.K (.ref g) = true
  gives : ∀ X : Cx, X.K = C.K → X.mg = mg → ∀ q, LamX.GivesTo X N x (defScope st) g cdv (defBody st) a q (TH (C.ca c) f)
/-- a def in which lambdas are made: its code object and its table -/
structure LamD (C : Cn) (base : Heap) (mg : Str → Option Value) (c P : Addr) (q : Str) : Prop where
  tb : LamX.TabB base mg c P
  mem : (P, q) ∈ C.T
  un : ∀ p ∈ C.T, p.1 = P → p.2 = q
theorem y_lam {X : Cx} {C : Cn} {E : XK} {ma : ME} {x a : Str} {c : Nat} {f q : Str} {st : Stmt} {N : List Str} {cc P : Addr} {mg : Str → Option Value} {k : Nat} {params : Arguments} {body : Expr} {scope : Scope} {p lpos pos : Pos}
    (Hh : Hear C mg x a c f st N) (hK : X.K = C.K) (hmg : X.mg = mg) (hgl : Gl X x) (Sg : FnScope N [a] (defScope st)) (hN : N[0]? = some a) (hva : Vis (defScope st) a)
    (hb : ∀ us : List Value, us.length = 1 → bindArgs (PySem.W.fnOf x x (defArgs st) (defBody st) (defScope st) .none Hh.kV Hh.doc Hh.pm Hh.an Hh.cdv Hh.ct) ⟨us, []⟩ = pure (([a] : List Str).zip us))
    (D : LamD C X.base mg cc P q) (hcode : X.env.code = .ref cc) (hq : X.env.qual ++ "<lambda>" = q) (hr : Room (k + 2) X.A) (sc : Scope) (hsc : X.env.scope = sc) (L : LamX.LamS sc scope) (hdef : defaultsOf params X.env = ([], []))
    (hbind : ∀ (q : Str) (cl : List (Str × Addr)) (pm cv ctv : Value), bindArgs (PySem.W.kla_fn "<lambda>" q params body scope cl pm cv ctv) ⟨[], []⟩ = pure [])
    (hbody : ∀ (A : Around) (outer : List PySem.Env) (s : Shared) (H : Hp) (E : XK) (f c' : Addr), Room k (A.deeper (LamX.lamEnv X scope s.heap.objs.size f c')) → PE (LamX.lamCx X A outer s H E scope f c') body (SE C E ma))
    (hdb : (x == ("__debug__" : Str)) = false := by decide) (hd : (a == ("__debug__" : Str)) = false := by decide) (hcd : (a == ("__classdict__" : Str)) = false := by decide) :
    PE X (.Call (.Name x p) [.Lambda params body scope lpos] [] pos) (SE C E (hearM c f ma)) := by
  subst hmg hq hsc
  refine y_hear (LamX.pe_lamcall (T := C.T) (t := fun E' => SE C E' ma) hgl Hh.mgf (by rw [hK]; exact Hh.kp) (by rw [hK]; exact Hh.lk) (by rw [hK]; exact Hh.hcg) ?_ Sg hN hva (Hh.gives X hK rfl _) D.tb hcode D.mem D.un hr L hdef hbind hbody hdb hd hcd)
  exact Binds.all hb
/-- a def that hears -/
structure Hear2 (C : Cn) (mg : Str → Option Value) (x a : Str) (c : Nat) (f : Str) (st : Stmt) (N : List Str) where
  g : Addr
  oc : Value
  cdv : Value
  kV : Value
  doc : Value
  pm : Value
  ct : Value
  od : Option Addr
  an : Option Addr
  osl : Array (Option Value)
  lk : C.K.lookup g = some ⟨oc, od, .func (PySem.W.fnOf x x (defArgs st) (defBody st) (defScope st) .none kV doc pm an cdv ct), osl⟩
  hcg : PySem.W.codeIn C.K cdv x = true
  mgf : mg x = some (.ref g)
  kp : PySem.W.keepIn C.K (.ref g) = true
  gives : ∀ X : Cx, X.K = C.K → X.mg = mg → ∀ q, LamX.GivesTo X N x (defScope st) g cdv (defBody st) a q (TH2 (C.ca c) f)
theorem y_lam2 {X : Cx} {C : Cn} {E : XK} {ma : ME} {x a : Str} {c : Nat} {f q : Str} {st : Stmt} {N : List Str} {cc P : Addr} {mg : Str → Option Value} {k : Nat} {params : Arguments} {body : Expr} {scope : Scope} {p lpos pos : Pos}
    (Hh : Hear2 C mg x a c f st N) (hK : X.K = C.K) (hmg : X.mg = mg) (hgl : Gl X x) (Sg : FnScope N [a] (defScope st)) (hN : N[0]? = some a) (hva : Vis (defScope st) a)
    (hb : ∀ us : List Value, us.length = 1 → bindArgs (PySem.W.fnOf x x (defArgs st) (defBody st) (defScope st) .none Hh.kV Hh.doc Hh.pm Hh.an Hh.cdv Hh.ct) ⟨us, []⟩ = pure (([a] : List Str).zip us))
    (D : LamD C X.base mg cc P q) (hcode : X.env.code = .ref cc) (hq : X.env.qual ++ "<lambda>" = q) (hr : Room (k + 2) X.A) (sc : Scope) (hsc : X.env.scope = sc) (L : LamX.LamS sc scope) (hdef : defaultsOf params X.env = ([], []))
    (hbind : ∀ (q : Str) (cl : List (Str × Addr)) (pm cv ctv : Value), bindArgs (PySem.W.kla_fn "<lambda>" q params body scope cl pm cv ctv) ⟨[], []⟩ = pure [])
    (hbody : ∀ (A : Around) (outer : List PySem.Env) (s : Shared) (H : Hp) (E : XK) (f c' : Addr), Room k (A.deeper (LamX.lamEnv X scope s.heap.objs.size f c')) → PE (LamX.lamCx X A outer s H E scope f c') body (SE C E ma))
    (hdb : (x == ("__debug__" : Str)) = false := by decide) (hd : (a == ("__debug__" : Str)) = false := by decide) (hcd : (a == ("__classdict__" : Str)) = false := by decide) :
    PE X (.Call (.Name x p) [.Lambda params body scope lpos] [] pos) (SE C E (hearM2 c f ma)) := by
  subst hmg hq hsc
  refine y_hear2 (LamX.pe_lamcall (T := C.T) (t := fun E' => SE C E' ma) hgl Hh.mgf (by rw [hK]; exact Hh.kp) (by rw [hK]; exact Hh.lk) (by rw [hK]; exact Hh.hcg) ?_ Sg hN hva (Hh.gives X hK rfl _) D.tb hcode D.mem D.un hr L hdef hbind hbody hdb hd hcd)
  exact Binds.all hb
end Y

set_option Elab.async false
set_option linter.all false
set_option maxRecDepth 100000
set_option maxHeartbeats 4000000
set_option autoImplicit false
/-! WD: repr of data; defs that are called where no repr runs. -/
namespace Y
open PySem PySem.Spec PyProof.Rows L2 Z
/-! ### repr -/
def rRepr (K : PySem.W.Frag) : List V → Hp → VK → Prop := fun xs H Q => ∃ x d, xs = [x] ∧ Dp K H x d ∧ d.showable = true ∧ d.hasDict = false ∧ d.depth ≤ 40 ∧ d.shown.length ≤ sizeLine ∧ Q (.str d.shown) H
theorem call_repr_data {X : Cx} (hg : X.A.guards = some []) (hu : X.A.units + 64 < cLine) : CallR X (.builtin "repr") (rRepr X.K) := by
  intro pins s σ H xs us Q I r h
  obtain ⟨x, d, rfl, hd, hs, hn, hp, hz, q⟩ := h
  obtain ⟨u, rfl, ru⟩ := vals1 r
  obtain ⟨as, rd⟩ := Dp.reads I d x u hd ru
  have ref : ∀ a, u = .ref a → wpAny (model X.prog X.w) X.A (call (.builtin "repr") [u]) (EP X pins σ Q) X.xe s := fun a e => by
    subst e
    exact PySem.repr_of_reads' rd hs (fun e => by rw [hn] at e; cases e) hg (by omega) (fun _ _ e => e) (fun h' u tk hk => ⟨.str d.shown, H, I.kept (t' := tk) hk, ⟨u, rfl⟩, q⟩) hz
  cases rd with
  | none => exact PySem.P.repr_of_none ⟨.str _, H, I.tok _, ⟨_, rfl⟩, q⟩
  | bool b => exact PySem.P.repr_of_bool ⟨.str _, H, I.tok _, ⟨_, by cases b <;> rfl⟩, q⟩
  | int i t =>
    have hs' : i.natAbs.log2 < 1920 := by simpa [PyData.showable] using hs
    exact PySem.P.repr_of_int hs' ⟨.str _, H, I.tok _, ⟨_, rfl⟩, q⟩
  | str y t => exact PySem.P.repr_of_str ⟨.str _, H, I.tok _, ⟨_, rfl⟩, q⟩ hz
  | list _ _ _ _ => exact ref _ rfl
  | tuple _ _ _ _ => exact ref _ rfl
  | dict _ _ _ _ _ => cases hd
def reprV : Val → Option Val := fun x => match dat x with
  | some d => if d.showable = true ∧ d.hasDict = false ∧ d.depth ≤ 40 ∧ d.shown.length ≤ sizeLine then some (.str d.shown) else none
  | none => none
theorem cv_repr {C : Cn} : CbV C (rRepr C.K) (f1 reprV) := fun A H us xs z _ r e0 Q q => by
  obtain ⟨u, x, rfl, rfl, ru, e⟩ := one_of r e0
  unfold reprV at e
  split at e
  · rename_i d hd
    split at e
    · rename_i h
      cases e
      exact ⟨u, d, rfl, dat_dp ru hd, h.1, h.2.1, h.2.2.1, h.2.2.2, q _ H (Same.refl H) (rep_str.mpr rfl)⟩
    · cases e
  · cases e
/-! ### defs called where no repr runs -/
structure FnG (P : Program) (w : World) (K : PySem.W.Frag) (mg : Str → Option Value) (base : Heap) (k : Nat) (f : Addr) (fd : FuncData) (ps : List Str) (sp : Sp) : Prop where
  len : ∀ vs H Q E, sp vs H Q E → vs.length = ps.length
  run : ∀ (A : Around) (outer : List PySem.Env) (s : Shared) (H : Hp) (args : Args) (us : List Value) (vs : List V) (Q : VK) (E : XK), A.guards = some [] → Room k A → Env0 P w K mg base A outer s H → BindsTo s fd args (ps.zip us) → Vals vs us → sp vs H Q E →
    codeAny (model P w) A (.call (.ref f) args) (CR (L2.CX P w) outer P w H s Q E) s
theorem FnG.of {P : Program} {w : World} {K : PySem.W.Frag} {mg : Str → Option Value} {base : Heap} {k : Nat} {f : Addr} {fd : FuncData} {ps : List Str} {sp : Sp} (F : FnOk P w K mg base (L2.CX P w) k f fd ps sp) : FnG P w K mg base k f fd ps sp :=
  ⟨F.len, fun A outer s H args us vs Q E _ => F.run A outer s H args us vs Q E⟩
section
variable {X : Cx} {k : Nat} {f : Addr} {fd : FuncData} {ps : List Str} {sp : Sp} {E : XK} {x : Str} {p pos : Pos} {e : Expr} {es : List Expr} {t : TA}
theorem pe_callG (F : FnG X.prog X.w X.K X.mg X.base k f fd ps sp) (hgd : X.A.guards = some []) (hr : Room k X.A) (hg : Gl X x) (hm : X.mg x = some (.ref f)) (hk : PySem.W.keepIn X.K (.ref f) = true) (hb : Binds X.K fd ps []) (hx : Passes (L2.CX X.prog X.w) X E) (ha : PA X (e :: es) t)
    (hs : starEach (e :: es) X.env = (false, eval e X.env) :: starEach es X.env := by rfl) (hpl : (backTo pos (starEach es X.env)).any (·.1) = false := by rfl) (hdb : (x == ("__debug__" : Str)) = false := by decide) :
    PE X (.Call (.Name x p) (e :: es) [] pos) (tCall sp [] E t) := by
  refine ⟨fun pins s σ H Q I h => ?_⟩
  refine wpAny_Call_Name_kw (ld_glob I hg hm ?_ hdb)
  refine PySem.W.callWith_K (h₀ := X.base) I.ok.mod.kin hk ?_ hs hpl
  refine thn (ha.run pos pins s σ H _ I h) fun us s1 ⟨vs, H1, I1, r1, q1⟩ => ⟨I1.kIn, ?_⟩
  have q1' : sp vs H1 Q E := by
    have q2 : sp (vs ++ []) H1 Q E := q1
    rw [List.append_nil] at q2
    exact q2
  have hl : us.length = ps.length := by rw [← r1.length]; exact F.len _ _ _ _ q1'
  refine wpAny_call (codeAny_mono (F.run X.A X.stack s1 H1 ⟨us, []⟩ us vs Q E hgd hr I1.env0 (by have := hb s1 us I1.kIn (by rw [List.append_nil]; exact hl); rw [List.append_nil] at this; exact this) r1 q1') fun r s' hq => ?_)
  cases r with
  | error z => exact hx pins σ H1 s1 z s' I1 hq
  | ok fl =>
    cases fl with
    | ret u => exact I1.after hq
    | next => exact False.elim hq
    | brk => exact False.elim hq
    | cont => exact False.elim hq
end
section
variable {C : Cn} {P : Program} {w : World} {mg : Str → Option Value} {base : Heap} {x qual : Str} {st : Stmt} {f : Addr} {N ps : List Str} {k : Nat} {body : MS}
theorem y_fnG {oc kV doc pm ct cdv : Value} {od an : Option Addr} {osl : Array (Option Value)} (lk : C.K.lookup f = some ⟨oc, od, .func (PySem.W.fnOf x qual (defArgs st) (defBody st) (defScope st) .none kV doc pm an cdv ct), osl⟩) (hcd : PySem.W.codeIn C.K cdv qual = true) (S : FnScope N ps (defScope st)) (hn : ps.length ≤ N.length)
    (hbody : ∀ (A : Around) (outer : List PySem.Env) (s : Shared) (H : Hp) (E : XK), A.guards = some [] → Room k (A.deeper (PyProof.Rows.envOfC qual (defScope st) s.heap.objs.size f cdv)) → PSs (cxOf (L2.CX P w) P w C.K mg base N qual (defScope st) f cdv A outer s H E) (defBody st) (SS C E body)) :
    FnG P w C.K mg base (k + 1) f (PySem.W.fnOf x qual (defArgs st) (defBody st) (defScope st) .none kV doc pm an cdv ct) ps (spF C ps.length N.length body) :=
  ⟨fun vs H Q E h => h.choose_spec.choose_spec.2.2.1, fun A outer s H args us vs Q E hg hr e0 hb r h =>
    LamX.run_ofS lk hcd S hr e0 hb r h.choose_spec.choose_spec.2.2.1 fun hr' => ⟨SS C E body, hbody A outer s H E hg hr', h.rd⟩⟩
end
/-- what is known of a def that is called where no repr runs -/
structure DfG (P : Program) (w : World) (C : Cn) (mg : Str → Option Value) (base : Heap) (nm : Str) (k : Nat) (ps : List Str) (sp : Sp) where
  f : Addr
  fd : FuncData
  ok : FnG P w C.K mg base k f fd ps sp
  mgf : mg nm = some (.ref f)
  kp : PySem.W.keepIn C.K (.ref f) = true
  b : Binds C.K fd ps []
end Y

set_option Elab.async false
set_option linter.all false
set_option maxRecDepth 100000
set_option maxHeartbeats 4000000
set_option autoImplicit false
/-! WE: the end of a law whose call is known to run where no repr runs. -/
namespace Y
open PySem PySem.Spec PyProof.Rows L2 Z
/-- the tables, and the script where it is not of the written part -/
def endH (T : List Addr) (a : Addr) (k : Bool) (o : Obj) (xs : List V) : Hp := fun b => if b ∈ T then some (.tbl #[]) else if b = a ∧ k = true then some (.frz o (.lst xs)) else none
section
variable {T : List Addr} {a b : Addr} {k : Bool} {o : Obj} {xs : List V}
theorem endH_tab (h : b ∈ T) : endH T a k o xs b = some (.tbl #[]) := if_pos h
theorem endH_scr (h : a ∉ T) (hk : k = true) : endH T a k o xs a = some (.frz o (.lst xs)) := (if_neg h).trans (if_pos ⟨rfl, hk⟩)
theorem endH_none (h : b ∉ T) (h2 : b = a → k = false) : endH T a k o xs b = none := (if_neg h).trans (if_neg fun ⟨e, z⟩ => by rw [h2 e] at z; cases z)
theorem endH_cases {u : HO} (h : endH T a k o xs b = some u) : (b ∈ T ∧ u = .tbl #[]) ∨ (b ∉ T ∧ b = a ∧ k = true ∧ u = .frz o (.lst xs)) := by
  unfold endH at h
  by_cases m : b ∈ T
  · rw [if_pos m] at h; cases h; exact .inl ⟨m, rfl⟩
  · rw [if_neg m] at h
    by_cases m2 : b = a ∧ k = true
    · rw [if_pos m2] at h; cases h; exact .inr ⟨m, m2.1, m2.2, rfl⟩
    · rw [if_neg m2] at h; cases h
end
/-- what the head leaves, as the end wants it -/
structure Lft (w : World) (K : PySem.W.Frag) (mg : Str → Option Value) (s : Shared) (a : Addr) (vs : List Value) (ns : List Int) (cs : List (Addr × Addr)) : Prop where
  kx : K.In s.heap
  gns : s.heap.Ns mainGlobals mg
  bt : ∃ mb, s.heap.Ns builtinsNs mb ∧ ∀ x : Str, x ≠ "__name__" → mb x = bootBuiltins x
  nl : s.heap.NoLimit
  gn : s.gens = #[]
  tb : ∀ p ∈ cs, s.heap.get? p.2 = some { cls := .none, data := .fields #[] }
  nt : ∀ p ∈ cs, K.lookup p.2 = none
  cd : ∀ p ∈ cs, PySem.W.CodeHd s.heap p.1 p.2
  bm : ∃ (bm : Addr) (ob : Obj), mg "__builtins__" = some (.ref bm) ∧ bm ≠ builtinsNs ∧ s.heap.get? bm = some ob ∧ ob.cls = .type "module" ∧ ob.dict = some builtinsNs ∧ ob.data = .plain
  scr : s.heap.get? a = some { cls := .type "list", data := .seq vs.toArray }
  iar : IntsAre vs ns
  len : ns.length ≤ sizeLine
theorem endG {P : Program} {w : World} {K : PySem.W.Frag} {mg : Str → Option Value} {k : Nat} {fa a : Addr} {cs : List (Addr × Addr)} {fd : FuncData} {x : Str} {sp : Sp} {s : Shared} {vs : List Value} {ns : List Int} (L : Lft w K mg s a vs ns cs) (hr : Room k callerA)
    (F : ∀ base : Heap, K.In base → base.Ns mainGlobals mg → (∀ p ∈ cs, LamX.TabB base mg p.1 p.2) → FnG P w K mg base k fa fd [x] sp) (hbind : ∀ (s : Shared) (u : Value), BindsTo s fd ⟨[u], []⟩ [(x, u)])
    (hsp : ∀ H : Hp, (∀ p ∈ cs, H p.2 = some (.tbl #[])) → SqL K H a (ns.map V.int) → sp [.ref a] H (fun v _ => v = .bl true) fun _ _ _ => False)
    (hCX : ∀ (H : Hp) (e : Value) (s' : Shared), L2.CX P w [] H s (fun _ _ _ => False) e s' → False) :
    codeAny (model P w) callerA (.call (.ref fa) ⟨[.ref a], []⟩) (fun r s' => r = .ok (.ret (.bool true)) ∧ OldK s.heap s'.heap ∧ s'.os = s.os ∧ AllBare s'.gens) s := by
  -- the abstract heap
  obtain ⟨kb, hk1, hk2⟩ : ∃ kb : Bool, (kb = true → K.lookup a = none) ∧ (kb = false → ∃ o, K.lookup a = some o) := by
    cases e : K.lookup a with
    | none => exact ⟨true, fun _ => rfl, fun z => nomatch z⟩
    | some o => exact ⟨false, (fun z => nomatch z), fun _ => ⟨o, rfl⟩⟩
  have tabAt : ∀ b ∈ cs.map (·.2), s.heap.get? b = some { cls := .none, data := .fields #[] } ∧ K.lookup b = none := fun b hb => by
    obtain ⟨p, hp, rfl⟩ := List.mem_map.mp hb
    exact ⟨L.tb p hp, L.nt p hp⟩
  have scrT : a ∉ cs.map (·.2) := fun z => by
    have q := congrArg Obj.data (Option.some.inj (L.scr.symm.trans (tabAt a z).1))
    exact nomatch q
  generalize hO : ({ cls := .type "list", data := .seq vs.toArray } : Obj) = so
  have hscr : s.heap.get? a = some so := by rw [← hO]; exact L.scr
  obtain ⟨H, hH⟩ : ∃ H, H = endH (cs.map (·.2)) a kb so (ns.map V.int) := ⟨_, rfl⟩
  have Hn : ∀ {b : Addr} {o : Obj}, s.heap.get? b = some o → (∀ v n, o.data ≠ .seq v n) → o.data ≠ .fields #[] → H b = none := fun {b o} e h1 h2 => by
    rw [hH]
    refine endH_none (fun z => ?_) fun z => ?_
    · rw [(tabAt b z).1] at e; cases e; exact h2 rfl
    · subst z; rw [L.scr] at e; cases e; exact (h1 _ _ rfl).elim
  have keepNs : ∀ {b : Addr} {m : Str → Option Value}, s.heap.Ns b m → (hidT s.heap H).Ns b m := fun {b m} ⟨o, es, ep, e, d, r⟩ =>
    ⟨o, es, ep, hidT_get e (Hn e (fun v n z => by rw [d] at z; cases z) fun z => by rw [d] at z; cases z), d, r⟩
  have kin : K.In (hidT s.heap H) := fun b o e => by
    refine hidT_get (L.kx b o e) ?_
    rw [hH]
    refine endH_none (fun z => ?_) fun z => ?_
    · rw [(tabAt b z).2] at e; cases e
    · cases kb with
      | false => rfl
      | true => subst z; rw [hk1 rfl] at e; cases e
  have md : L2.Mod K mg (hidT s.heap H) := by
    obtain ⟨mb, h1, h2⟩ := L.bt
    obtain ⟨mc, h3, h4⟩ := L.nl
    exact ⟨kin, keepNs L.gns, ⟨mb, keepNs h1, h2⟩, mc, keepNs h3, h4⟩
  have tabs : ∀ p ∈ cs, LamX.TabB (hidT s.heap H) mg p.1 p.2 := fun p hp => by
    obtain ⟨o, us, file, tf, flags, tg, inF, text, tt, e1, r1, r2, r3, rest⟩ := L.cd p hp
    obtain ⟨bm, ob, b1, b2, b3, b4, b5, b6⟩ := L.bm
    obtain ⟨og, es, ep, g1, g2, _⟩ := L.gns
    refine ⟨⟨o, us, file, tf, flags, tg, inF, text, tt, hidT_get e1 (Hn e1 (fun v n z => ?_) fun z => ?_), r1, r2, r3, rest⟩, ⟨bm, ob, b1, b2, fun z => ?_, fun z => ?_, hidT_get b3 (Hn b3 (fun v n z => ?_) fun z => ?_), b4, b5, b6⟩, fun z => ?_⟩
    · rw [r2] at z; cases z
    · rw [r2] at z; cases z; simp at r3
    · rw [z, g1] at b3; cases b3; rw [g2] at b6; cases b6
    · rw [z, L.tb p hp] at b3; cases b3; cases b6
    · rw [b6] at z; cases z
    · rw [b6] at z; cases z
    · rw [z, L.tb p hp] at g1; cases g1; cases g2
  have rv := vals_ints L.iar
  have hok : HOk P w H s.heap := fun b u z => by
    rw [hH] at z
    rcases endH_cases z with ⟨m, rfl⟩ | ⟨_, rfl, _, rfl⟩
    · exact (tabAt b m).1
    · exact ⟨hscr, by rw [List.length_map]; exact L.len, vs, _, rv, hO ▸ hscr⟩
  have sq : SqL K H a (ns.map V.int) := by
    cases kb with
    | true => exact .inl (.inr ⟨so, by rw [hH]; exact endH_scr scrT rfl⟩)
    | false =>
      obtain ⟨o, e⟩ := hk2 rfl
      have q := L.kx a o e
      rw [L.scr] at q; cases q
      exact .inr ⟨_, vs.toArray, _, e, rfl, rfl, rfl, by rw [List.size_toArray, L.iar.length]; exact L.len, by simpa using rv⟩
  have tH : ∀ p ∈ cs, H p.2 = some (.tbl #[]) := fun p hp => by rw [hH]; exact endH_tab (List.mem_map.mpr ⟨p, hp, rfl⟩)
  have e0 : Env0 P w K mg (hidT s.heap H) callerA [] s H :=
    ⟨rfl, md, fun b o e => of_hidT e, Nat.le_of_eq (hidT_size _ _), trivial, (fun b hb => nomatch hb), hok, .of_eq L.gn⟩
  refine codeAny_mono ((F _ kin (keepNs L.gns) tabs).run callerA [] s H ⟨[.ref a], []⟩ [.ref a] [.ref a] _ _ rfl hr e0 (hbind s (.ref a)) (.cons rfl .nil) (hsp H tH sq)) fun r s' h => ?_
  cases r with
  | error e => exact (hCX H e s' h).elim
  | ok fl =>
    cases fl with
    | next => exact False.elim h
    | brk => exact False.elim h
    | cont => exact False.elim h
    | ret u =>
      obtain ⟨v, H', os, bare, un, hok', r', q⟩ := h
      have q' : v = .bl true := q
      subst q'
      obtain rfl : u = Value.bool true := r'
      -- what was there is there as it was, but for the tables
      have same : ∀ b o, b ∉ cs.map (·.2) → s.heap.get? b = some o → s'.heap.get? b = some o := fun b o nb e => by
        cases z : H b with
        | none => exact un.keep b o e z (fun z => nomatch z) (fun z => nomatch z)
        | some u =>
          rw [hH] at z
          rcases endH_cases z with ⟨m, _⟩ | ⟨_, _, _, rfl⟩
          · exact (nb m).elim
          · rw [← hH] at z
            have o1 := (hok b _ z).1
            have o2 := (hok' b _ (un.frzs b _ _ z)).1
            rw [e] at o1; cases o1
            exact o2
      have grow : ∀ b ∈ cs.map (·.2), ∃ p ∈ cs, p.2 = b ∧ ∃ more : Array Value, s'.heap.get? b = some { cls := .none, data := .fields more } := fun b hb => by
        obtain ⟨p, hp, rfl⟩ := List.mem_map.mp hb
        obtain ⟨more, z⟩ := un.tbls p.2 #[] (tH p hp)
        exact ⟨p, hp, rfl, _, hok' p.2 _ z⟩
      refine ⟨rfl, ⟨fun b o e => ?_, fun b o e => ?_⟩, os, bare⟩
      · by_cases hb : b ∈ cs.map (·.2)
        · obtain ⟨p, hp, rfl, more, hm⟩ := grow b hb
          rw [L.tb p hp] at e; cases e
          exact .inr (.inl ⟨((L.cd p hp).tab (L.tb p hp)).isCodeTable, rfl, #[], more, rfl, by rw [Array.empty_append]; exact hm⟩)
        · exact .inl (same b o hb e)
      · by_cases hb : b ∈ cs.map (·.2)
        · obtain ⟨_, _, _, _, hm⟩ := grow b hb
          exact ⟨_, hm⟩
        · exact ⟨o, same b o hb e⟩
/-- what is known of the law's promise at the head's heap -/
def LawAtG (l : PySem.W.OpenLaw) (w : World) (K : PySem.W.Frag) (k n : Nat) (x : Str) (mg : Str → Option Value) (fa : Addr) (h : Heap) : Prop :=
  ∃ (fd : FuncData) (cs : List (Addr × Addr)) (sp : Sp), (∀ p ∈ cs, h.get? p.2 = some { cls := .none, data := .fields #[] }) ∧ (∀ p ∈ cs, K.lookup p.2 = none) ∧ (∀ p ∈ cs, PySem.W.CodeHd h p.1 p.2) ∧ (∀ (s : Shared) (u : Value), BindsTo s fd ⟨[u], []⟩ [(x, u)]) ∧
    (∀ (H : Hp) (a : Addr) (ns : List Int), ns.length ≤ n → (∀ z ∈ ns, Builtin.Int.intBits z ≤ 1048576) → (∀ p ∈ cs, H p.2 = some (.tbl #[])) → SqL K H a (ns.map V.int) → sp [.ref a] H (fun v _ => v = .bl true) fun _ _ _ => False) ∧
    ∀ base : Heap, K.In base → base.Ns mainGlobals mg → (∀ p ∈ cs, LamX.TabB base mg p.1 p.2) → FnG l.prog w K mg base k fa fd [x] sp
theorem walkG {l : PySem.W.OpenLaw} {n k : Nat} {q : Program} {loose : List Str} {XP : (Str → Option Value) → Heap → Prop} {YP : World → Heap → Prop} {d : DefRec} {K : Params → PySem.W.Frag} {x : Str}
    (hn : l.most = some n) (hn2 : n ≤ sizeLine) (hdf : d.params.defaults = []) (hr : Room k callerA) (hY : ∀ (w : World) (h : Heap), YP w h → (K w.params).In h)
    (F : ∀ (w : World) (mg : Str → Option Value) (fa : Addr) (h : Heap), YP w h → (K w.params).In h → h.Ns mainGlobals mg → mg d.name = some (.ref fa) → LawAtG l w (K w.params) k n x mg fa h)
    (hCX : ∀ (w : World) (H : Hp) (s : Shared) (e : Value) (s' : Shared), L2.CX l.prog w [] H s (fun _ _ _ => False) e s' → False) :
    PySem.W.WalkO q loose XP YP l.row.toRowW d [] (fun f vs => PySem.call f vs) := by
  refine Att.attach_callB hn hdf fun w s₀ s₁ mg mb fa o pm cd doc a vs ns G Y ho hd hcd hmg hobj hints hlen hbits hg => ?_
  have KX := hY w _ Y
  obtain ⟨fd, cs, sp, hT, nT, hC, hb, hsp, hF⟩ := F w mg fa _ Y KX G.T.g hmg
  exact endG (w := w) ⟨KX, G.T.g, ⟨mb, G.T.b, G.T.builtins⟩, G.T.nolimit, hg, hT, nT, hC, G.T.bmain, hobj, hints, Nat.le_trans hlen hn2⟩ hr hF hb (fun H hH hS => hsp H a ns hlen hbits hH hS) fun H e s' => hCX w H s₁ e s'
end Y

set_option Elab.async false
set_option linter.all false
set_option maxRecDepth 100000
set_option maxHeartbeats 4000000
set_option autoImplicit false
/-! WZ: zip(reversed(list or tuple), list). -/
namespace Y
open PySem PySem.Spec PyProof.Rows L2 Z
section
variable {prog : Program} {w : World} {A : Around} {E : Value → Shared → Prop} {s : Shared} {Q : Value → Shared → Prop} {it l : Addr}
theorem nextOf_by {T id : String} {B : Builtin} (hT : s.TypeIs (.ref it) T) (sl : Slot T "__next__" id) (en : entryFor table id = some B) (ar : argsOk id ⟨[.ref it], []⟩)
    (hc : wpAny (model prog w) A.in1 (B ⟨[.ref it], []⟩) (fun fin s' => ∃ v, fin = .done (.ret v) ∧ Q v s') E s) : wpAny (model prog w) A (Builtin.SmallTypes.nextOf (.ref it)) Q E s := by
  unfold Builtin.SmallTypes.nextOf
  exact wpAny_bind (wpAny_callSpecial?_slot (name := Str.ofString "__next__") hT sl (wpAny_call_entry sl hT en (wpAny_mono hc (fun f s' ⟨v, e, q⟩ => ⟨v, e, wpAny_pure q⟩) fun _ _ e => e) ar))
/-- a StopIteration is raised -/
theorem stop_by {α : Type} {F : α → Shared → Prop} (hh : A.handled = none) (h : ∀ h' e, (∀ b o, s.heap.get? b = some o → h'.get? b = some o) → (∃ o, h'.get? e = some o ∧ o.cls = .type "StopIteration") → E (.ref e) { s with heap := h' }) : wpAny (model prog w) A (Builtin.SmallTypes.stopIteration (α := α)) F E s := by
  unfold Builtin.SmallTypes.stopIteration
  refine wpAny_bind ?_
  simp only [newExc, newTuple]
  refine wpAny_bind (wpAny_newObj_type (wpAny_bind (m := firstArgMember _ _) (wpAny_of_eq (a := Value.none) (by simp only [firstArgMember]; rfl) (wpAny_newObj_type ?_ (by size_fits)))) (by size_fits))
  simp only [raiseNew]
  refine wpAny_bind (wpAny_handled ?_)
  rw [hh]
  exact wpAny_bind (wpAny_pure (wpAny_throw (h _ _ (fun b o e => Heap.get?_push_of_some _ (Heap.get?_push_of_some _ e)) ⟨_, Heap.get?_push_size _ rfl, rfl⟩)))
theorem rev_item {i : Nat} {items : Array Value} {x : Value} (hit : s.heap.IsRevIter it l (i : Int)) (hl : s.heap.IsList l items) (hx : items[i]? = some x) (hQ : ∀ h', h'.IsRevIter it l ((i : Int) - 1) → Heap.SameBut it s.heap h' → Q x { s with heap := h' }) : wpAny (model prog w) A (Builtin.SmallTypes.nextOf (.ref it)) Q E s := by
  obtain ⟨o, ho, hc, hd⟩ := id hit
  obtain ⟨ol, hol, _, nl, hdl⟩ := hl
  refine nextOf_by hit.typeIs F.slot_lri_next F.entry_lri_next (F.args_lri_next_1 _) ?_
  unfold Builtin.«list_reverseiterator.__next__»
  refine wpAny_bind (wpAny_of_eq (a := (Value.ref it, [])) rfl (wpAny_bind (wpAny_field ho hd (x := rawInt (i : Int)) rfl ?_)))
  show wpAny _ _ (if (i : Int) < 0 then _ else _) _ _ s
  rw [if_neg (by omega)]
  refine wpAny_bind (wpAny_field ho hd (x := .ref l) rfl (wpAny_bind (wpAny_seqItems hol hdl ?_)))
  simp only [Int.toNat_natCast, hx]
  refine wpAny_bind (wpAny_setField ho hd (by simp) (wpAny_bind (wpAny_pure (wpAny_pure ⟨x, rfl, hQ _ ⟨_, Heap.get?_update_self _ ho (Obj.isFreed_of_fields (Obj.data_mapFields hd _)), (Obj.cls_mapFields ..).trans hc, ?_⟩ (Heap.SameBut.update ..)⟩))))
  rw [Obj.data_mapFields hd]; simp
theorem rev_end (hh : A.handled = none) (hit : s.heap.IsRevIter it l (-1)) (hE : ∀ h' e, Heap.ExtBut it s.heap h' → (∃ o, h'.get? e = some o ∧ o.cls = .type "StopIteration") → E (.ref e) { s with heap := h' }) : wpAny (model prog w) A (Builtin.SmallTypes.nextOf (.ref it)) Q E s := by
  obtain ⟨o, ho, hc, hd⟩ := id hit
  refine nextOf_by hit.typeIs F.slot_lri_next F.entry_lri_next (F.args_lri_next_1 _) ?_
  unfold Builtin.«list_reverseiterator.__next__»
  refine wpAny_bind (wpAny_of_eq (a := (Value.ref it, [])) rfl (wpAny_bind (wpAny_field ho hd (x := rawInt (-1)) rfl ?_)))
  show wpAny _ _ (if (-1 : Int) < 0 then _ else _) _ _ s
  rw [if_pos (by decide)]
  exact wpAny_bind (wpAny_rule (wpAny_bind (stop_by (A := A.in1) hh fun h' e k q => hE h' e (fun b o _ z => k b o z) q)))

theorem rt_item {i : Nat} {items : Array Value} {x : Value} (hit : RT.IsRt s.heap it l (i : Int)) (hl : IsTup s.heap l items) (hx : items[i]? = some x) (hsz : items.size ≤ sizeLine) (hQ : ∀ h', RT.IsRt h' it l ((i : Int) - 1) → Heap.SameBut it s.heap h' → Q x { s with heap := h', toks := s.toks + 1 }) : wpAny (model prog w) A (Builtin.SmallTypes.nextOf (.ref it)) Q E s := by
  obtain ⟨o, ho, hc, hd⟩ := id hit
  have hi : i < items.size := (Array.getElem?_eq_some_iff.mp hx).1
  have hT : s.TypeIs (.ref l) "tuple" := RT.IsTup.typeOf' hl
  rw [sizeLine_eq] at hsz
  refine nextOf_by hit.typeIs RT.slot_rt_next RT.entry_rt_next (RT.args_rt_next _) ?_
  unfold Builtin.«reversed.__next__»
  refine wpAny_bind (wpAny_of_eq (a := (Value.ref it, [])) rfl (wpAny_bind (wpAny_field ho hd (x := .ref l) rfl (wpAny_bind (wpAny_field ho hd (x := rawInt (i : Int)) rfl ?_)))))
  show wpAny _ _ (if (i : Int) < 0 then _ else _) _ _ s
  rw [if_neg (by omega)]
  refine wpAny_bind (wpAny_specialOf hT RT.get_tuple ?_)
  try dsimp only
  try rw [if_neg (by decide)]
  try dsimp only
  refine wpAny_bind (wpAny_mkInt (wpAny_bind (wpAny_attempt (PyProof.Rows.getItem_tuple (s := { s with toks := s.toks + 1 }) hl (by omega) (by omega) (seqIndex_of (by omega) (by omega)) hx ?_))))
  try dsimp only
  refine wpAny_bind (wpAny_field (s := { s with toks := s.toks + 1 }) ho hd (x := rawInt (i : Int)) rfl ?_)
  try dsimp only
  refine wpAny_bind (wpAny_setField (s := { s with toks := s.toks + 1 }) ho hd (by simp) (wpAny_pure ⟨x, rfl, hQ _ ⟨_, Heap.get?_update_self _ ho (Obj.isFreed_of_fields (Obj.data_mapFields hd _)), (Obj.cls_mapFields ..).trans hc, ?_⟩ (Heap.SameBut.update ..)⟩))
  rw [Obj.data_mapFields hd]; simp
theorem rt_end (hh : A.handled = none) (hit : RT.IsRt s.heap it l (-1)) (hE : ∀ h' e, Heap.ExtBut it s.heap h' → (∃ o, h'.get? e = some o ∧ o.cls = .type "StopIteration") → E (.ref e) { s with heap := h' }) : wpAny (model prog w) A (Builtin.SmallTypes.nextOf (.ref it)) Q E s := by
  obtain ⟨o, ho, hc, hd⟩ := id hit
  refine nextOf_by hit.typeIs RT.slot_rt_next RT.entry_rt_next (RT.args_rt_next _) ?_
  unfold Builtin.«reversed.__next__»
  refine wpAny_bind (wpAny_of_eq (a := (Value.ref it, [])) rfl (wpAny_bind (wpAny_field ho hd (x := .ref l) rfl (wpAny_bind (wpAny_field ho hd (x := rawInt (-1)) rfl ?_)))))
  show wpAny _ _ (if (-1 : Int) < 0 then _ else _) _ _ s
  rw [if_pos (by decide)]
  try dsimp only
  refine wpAny_bind (wpAny_rule (wpAny_bind ?_))
  wp_delta
  have ho2 := Heap.get?_update_self (Obj.mapFields (·.setIfInBounds 1 (rawInt (-1)))) ho (Obj.isFreed_of_fields (Obj.data_mapFields hd _))
  refine wpAny_bind (wpAny_setField ho hd (by simp) (wpAny_setField (s := { s with heap := s.heap.update it (Obj.mapFields (·.setIfInBounds 1 (rawInt (-1)))) }) ho2 (Obj.data_mapFields hd _) (by simp) ?_))
  refine wpAny_bind (stop_by (A := A.in1) hh fun h' e k q => hE h' e (fun b o hb z => k b o ?_) q)
  exact (Heap.get?_update_other _ _ (Ne.symm hb)).trans ((Heap.get?_update_other _ _ (Ne.symm hb)).trans z)
end
/-! ### as what is drawn -/
theorem draws_rev {prog : Program} {w : World} {A : Around} (hh : A.handled = none) (it l : Addr) (hne : l ≠ it) (items : Array Value) :
    Draws prog w A it [it, l] items.size (fun i v => items[items.size - 1 - i]? = some v) (fun i h => i ≤ items.size ∧ h.IsRevIter it l ((items.size : Int) - 1 - (i : Int)) ∧ h.IsList l items) where
  live := fun _ _ ⟨_, ⟨o, ho, _⟩, _⟩ => ⟨o, ho⟩
  frame := fun _ _ _ ⟨a, b, c⟩ hk => ⟨a, b.at fun o e => hk it (by simp) o e, c.at fun o e => hk l (by simp) o e⟩
  item := fun i s Q E hi ⟨_, hit, hl⟩ hQ => by
    have hx : items[items.size - 1 - i]? = some (items[items.size - 1 - i]'(by omega)) := Array.getElem?_eq_getElem (by omega)
    rw [show (items.size : Int) - 1 - (i : Int) = ((items.size - 1 - i : Nat) : Int) by omega] at hit
    refine rev_item hit hl hx fun h' hit' sb => hQ _ h' s.toks hx ⟨hi, ?_, hl.extBut sb.extBut hne⟩ sb
    rw [show (items.size : Int) - 1 - ((i + 1 : Nat) : Int) = ((items.size - 1 - i : Nat) : Int) - 1 by omega]
    exact hit'
  done := fun s Q E ⟨_, hit, _⟩ hE => by
    rw [show (items.size : Int) - 1 - (items.size : Int) = -1 by omega] at hit
    exact rev_end hh hit hE
theorem draws_rt {prog : Program} {w : World} {A : Around} (hh : A.handled = none) (it l : Addr) (hne : l ≠ it) (items : Array Value) (hsz : items.size ≤ sizeLine) :
    Draws prog w A it [it, l] items.size (fun i v => items[items.size - 1 - i]? = some v) (fun i h => i ≤ items.size ∧ RT.IsRt h it l ((items.size : Int) - 1 - (i : Int)) ∧ IsTup h l items) where
  live := fun _ _ ⟨_, ⟨o, ho, _⟩, _⟩ => ⟨o, ho⟩
  frame := fun _ _ _ ⟨a, b, ⟨o, ho, r⟩⟩ hk => ⟨a, b.at fun o e => hk it (by simp) o e, o, hk l (by simp) o ho, r⟩
  item := fun i s Q E hi ⟨_, hit, hl⟩ hQ => by
    have hx : items[items.size - 1 - i]? = some (items[items.size - 1 - i]'(by omega)) := Array.getElem?_eq_getElem (by omega)
    rw [show (items.size : Int) - 1 - (i : Int) = ((items.size - 1 - i : Nat) : Int) by omega] at hit
    refine rt_item hit hl hx hsz fun h' hit' sb => hQ _ h' (s.toks + 1) hx ⟨hi, ?_, ?_⟩ sb
    · rw [show (items.size : Int) - 1 - ((i + 1 : Nat) : Int) = ((items.size - 1 - i : Nat) : Int) - 1 by omega]
      exact hit'
    · obtain ⟨o, ho, r⟩ := hl
      exact ⟨o, (sb.2 l hne).trans ho, r⟩
  done := fun s Q E ⟨_, hit, _⟩ hE => by
    rw [show (items.size : Int) - 1 - (items.size : Int) = -1 by omega] at hit
    exact rt_end hh hit hE
end Y

set_option Elab.async false
set_option linter.all false
set_option maxRecDepth 100000
set_option maxHeartbeats 4000000
set_option autoImplicit false
/-! WY: zip(reversed(list or tuple), list), as what is walked. -/
namespace Y
open PySem PySem.Spec PyProof.Rows L2 Z
abbrev zr1 (h : Heap) (b : Addr) : Heap := h.push { cls := .type "list_iterator", data := .fields #[.ref b, .int 0 0] }
abbrev zr2 (h : Heap) (r b : Addr) : Heap := (zr1 h b).push { cls := .type "tuple", data := .seq #[.ref r, .ref h.objs.size] }
abbrev zr3 (h : Heap) (r b : Addr) : Heap := (zr2 h r b).push { cls := .type "tuple", data := .seq #[.none, .none] }
abbrev zr4 (h : Heap) (r b : Addr) : Heap := (zr3 h r b).push { cls := .type "zip", data := .fields #[.none, .bool false, .bool false, .ref (zr1 h b).objs.size, .ref (zr2 h r b).objs.size] }
theorem meets_zr_rev (r a b : Addr) (n : Int) (ys : Array Value) : Meets (Builtin.«zip.__new__» ⟨[.type "zip", .ref r, .ref b], []⟩) (fun _ R s => s.heap.IsRevIter r a n ∧ s.heap.IsList b ys ∧ R (.ok (.ret (.ref (zr3 s.heap r b).objs.size))) { s with heap := zr4 s.heap r b }) :=
  .of_wp fun prog w A R s h => by
    obtain ⟨hp, g, d, tk, os⟩ := s; obtain ⟨hr, hb, h⟩ := h
    have hsub := sub_zip
    have h1 : Heap.IsRevIter (Shared.heap ⟨hp, g, d, tk, os⟩) r a n := hr
    have h2 : Heap.IsList (Shared.heap ⟨hp, g, d, tk, os⟩) b ys := hb
    wp_walk using wpAny_pyIter_revIter h1, wpAny_pyIter_list h2
    exact ⟨_, rfl, h⟩
theorem meets_zr_rt (r a b : Addr) (n : Int) (ys : Array Value) : Meets (Builtin.«zip.__new__» ⟨[.type "zip", .ref r, .ref b], []⟩) (fun _ R s => RT.IsRt s.heap r a n ∧ s.heap.IsList b ys ∧ R (.ok (.ret (.ref (zr3 s.heap r b).objs.size))) { s with heap := zr4 s.heap r b }) :=
  .of_wp fun prog w A R s h => by
    obtain ⟨hp, g, d, tk, os⟩ := s; obtain ⟨hr, hb, h⟩ := h
    have hsub := sub_zip
    have h1 : RT.IsRt (Shared.heap ⟨hp, g, d, tk, os⟩) r a n := hr
    have h2 : Heap.IsList (Shared.heap ⟨hp, g, d, tk, os⟩) b ys := hb
    wp_walk using RT.iter_rt h1, wpAny_pyIter_list h2
    exact ⟨_, rfl, h⟩
section
variable {prog : Program} {w : World} {A : Around} {E : Value → Shared → Prop} {s : Shared} {Q : Value → Shared → Prop} {r a b : Addr}
/-- the heap behind zip(r, b) -/
structure Zr (h h' : Heap) (r b : Addr) : Prop where
  z : IsZip h' (h.objs.size + 3) (h.objs.size + 1) (h.objs.size + 2) .none
  ti : IsTupOf2 h' (h.objs.size + 1) (.ref r) (.ref h.objs.size)
  to : IsTupOf2 h' (h.objs.size + 2) .none .none
  li : h'.IsListIter h.objs.size b 0
  k : ∀ c o, h.get? c = some o → h'.get? c = some o
theorem zr_of (h : Heap) (r b : Addr) : (zr3 h r b).objs.size = h.objs.size + 3 ∧ Zr h (zr4 h r b) r b := by
  have z1 : (zr1 h b).objs.size = h.objs.size + 1 := Heap.size_push ..
  have z2 : (zr2 h r b).objs.size = h.objs.size + 2 := by rw [Heap.size_push, z1]
  have z3 : (zr3 h r b).objs.size = h.objs.size + 3 := by rw [Heap.size_push, z2]
  have p4 : (zr4 h r b).get? (zr3 h r b).objs.size = some _ := Heap.get?_push_size _ rfl
  have p3 : (zr4 h r b).get? (zr2 h r b).objs.size = some _ := Heap.get?_push_of_some _ (Heap.get?_push_size _ rfl)
  have p2 : (zr4 h r b).get? (zr1 h b).objs.size = some _ := Heap.get?_push_of_some _ (Heap.get?_push_of_some _ (Heap.get?_push_size _ rfl))
  have p1 : (zr4 h r b).get? h.objs.size = some _ := Heap.get?_push_of_some _ (Heap.get?_push_of_some _ (Heap.get?_push_of_some _ (Heap.get?_push_size _ rfl)))
  rw [z1, z2, z3] at p4
  rw [z2] at p3
  rw [z1] at p2
  exact ⟨z3, p4, p2, p3, ⟨_, p1, rfl, rfl⟩, fun c o e => Heap.get?_push_of_some _ (Heap.get?_push_of_some _ (Heap.get?_push_of_some _ (Heap.get?_push_of_some _ e)))⟩
theorem call_zr (h0 : (∃ n, s.heap.IsRevIter r a n) ∨ ∃ n, RT.IsRt s.heap r a n) {ys : Array Value} (hb : s.heap.IsList b ys) (h : ∀ h', Zr s.heap h' r b → Q (.ref (s.heap.objs.size + 3)) { s with heap := h' }) : wpAny (model prog w) A (call (.type "zip") [.ref r, .ref b]) Q E s := by
  obtain ⟨e, z⟩ := zr_of s.heap r b
  rcases h0 with ⟨n, h0⟩ | ⟨n, h0⟩
  · exact callType_new F.called_zip (by decide) (F.typeCall_zip_2 _ _) (F.newCall_zip_2 _ _) (fun obj => F.args_object_init_3 obj _ _) F.entry_zip_new (meets_zr_rev r a b n ys) ⟨h0, hb, by rw [e]; exact ⟨⟨_, z.z, rfl⟩, h _ z⟩⟩
  · exact callType_new F.called_zip (by decide) (F.typeCall_zip_2 _ _) (F.newCall_zip_2 _ _) (fun obj => F.args_object_init_3 obj _ _) F.entry_zip_new (meets_zr_rt r a b n ys) ⟨h0, hb, by rw [e]; exact ⟨⟨_, z.z, rfl⟩, h _ z⟩⟩
end
end Y

set_option Elab.async false
set_option linter.all false
set_option maxRecDepth 100000
set_option maxHeartbeats 4000000
set_option autoImplicit false
/-! WX: the turns of zip(reversed(list or tuple), list). -/
namespace Y
open PySem PySem.Spec PyProof.Rows L2 Z
/-- what reversed() goes back through -/
structure Src (P : Program) (w : World) (K : PySem.W.Frag) (Sq : Hp → Addr → List V → Prop) (Ho : Heap → Addr → Array Value → Prop) (Is : Heap → Addr → Addr → Int → Prop) : Prop where
  get : ∀ {X : Cx} {pins : List (Addr × Obj)} {σ : L2.St} {H : Hp} {s : Shared} {a : Addr} {xs : List V}, X.K = K → L2.Inv X pins σ H s → Sq H a xs → ∃ its : List Value, Vals xs its ∧ Ho s.heap a its.toArray ∧ xs.length ≤ sizeLine
  inj : ∀ {X : Cx} {pins : List (Addr × Obj)} {σ : L2.St} {H : Hp} {s : Shared} {a : Addr} {xs ys : List V}, X.K = K → L2.Inv X pins σ H s → Sq H a xs → Sq H a ys → xs = ys
  obj : ∀ {h : Heap} {it l : Addr} {i : Int}, Is h it l i → ∃ o, h.get? it = some o ∧ ∀ v, o.data ≠ .cell v
  at_ : ∀ {h h' : Heap} {it l : Addr} {i : Int}, Is h it l i → (∀ o, h.get? it = some o → h'.get? it = some o) → Is h' it l i
  dr : ∀ {A : Around}, A.handled = none → ∀ (it l : Addr), l ≠ it → ∀ items : Array Value, items.size ≤ sizeLine → Draws P w A it [it, l] items.size (fun i v => items[items.size - 1 - i]? = some v) (fun i h => i ≤ items.size ∧ Is h it l ((items.size : Int) - 1 - (i : Int)) ∧ Ho h l items)
theorem src_list {P : Program} {w : World} {K : PySem.W.Frag} : Src P w K (SqL K) (fun h a its => h.IsList a its) (fun h it l i => h.IsRevIter it l i) where
  get := fun hK I h => by
    subst hK
    obtain ⟨its, rv, p, hz⟩ := I.list h
    exact ⟨its, rv, p.isList, hz⟩
  inj := fun hK I h h' => by subst hK; exact I.list_inj h h'
  obj := fun ⟨o, e, _, d⟩ => ⟨o, e, fun v z => by rw [d] at z; cases z⟩
  at_ := fun h k => h.at k
  dr := fun hh it l hne items _ => draws_rev hh it l hne items
theorem src_tup {P : Program} {w : World} {K : PySem.W.Frag} : Src P w K (SqT K) IsTup RT.IsRt where
  get := fun hK I h => by
    subst hK
    obtain ⟨its, rv, p, hz⟩ := I.tuple h
    exact ⟨its, rv, p, hz⟩
  inj := fun hK I h h' => by subst hK; exact I.tuple_inj h h'
  obj := fun ⟨o, e, _, d⟩ => ⟨o, e, fun v z => by rw [d] at z; cases z⟩
  at_ := fun h k => h.at k
  dr := fun hh it l hne items hz => draws_rt hh it l hne items hz
def ItzR (Sq : Hp → Addr → List V → Prop) (K : PySem.W.Frag) (a b : Addr) (n : Nat) : It :=
  ⟨fun i H => ∃ (xs ys : List V) (x y : V), Sq H a xs ∧ xs.length = n ∧ SqL K H b ys ∧ i < n ∧ xs[n - 1 - i]? = some x ∧ ys[i]? = some y,
    fun i H v H' => ∃ T x y, v = .ref T ∧ H T = none ∧ H' = upd H T (.tup [x, y]) ∧ (∀ xs, Sq H a xs → xs[n - 1 - i]? = some x) ∧ ∀ ys, SqL K H b ys → ys[i]? = some y,
    fun i H => ∃ xs ys : List V, Sq H a xs ∧ xs.length = n ∧ SqL K H b ys ∧ i ≤ n ∧ i ≤ ys.length ∧ (n = i ∨ ys.length = i)⟩
theorem turn_zr {P : Program} {w : World} {K : PySem.W.Frag} {Sq : Hp → Addr → List V → Prop} {Ho : Heap → Addr → Array Value → Prop} {Is : Heap → Addr → Addr → Int → Prop} (S : Src P w K Sq Ho Is) {elts : List Expr} {kk n : Nat} {tpos : Pos} {a b z TI TO i1 i2 : Addr} (D : ZipSep2 z TI TO i1 i2 [i1, a] [i2, b]) (ha : a ≠ i1) (hb : b ≠ i2) :
    L2.Turn P w K (.Tuple elts kk tpos) (ItzR Sq K a b n) [z, TI, TO, i1, i2] z (fun i h => i ≤ n ∧ IsZip h z TI TO .none ∧ IsTupOf2 h TI (.ref i1) (.ref i2) ∧ (∃ x y, IsTupOf2 h TO x y) ∧ Is h i1 a ((n : Int) - 1 - (i : Nat)) ∧ h.IsListIter i2 b i) where
  mem := by simp
  obj := fun i h ⟨_, hz, hTI, ⟨x, y, hTO⟩, h1, ⟨o2, e2, _, d2⟩⟩ c hc => by
    simp only [List.mem_cons, List.not_mem_nil, or_false] at hc
    rcases hc with rfl | rfl | rfl | rfl | rfl
    · exact ⟨_, hz, fun v q => nomatch q⟩
    · exact ⟨_, hTI, fun v q => nomatch q⟩
    · exact ⟨_, hTO, fun v q => nomatch q⟩
    · exact S.obj h1
    · exact ⟨o2, e2, fun v q => by rw [d2] at q; cases q⟩
  keep := fun i h h' ⟨hi, hz, hTI, ⟨x, y, hTO⟩, h1, h2⟩ k => ⟨hi, k z (by simp) _ hz, k TI (by simp) _ hTI, ⟨x, y, k TO (by simp) _ hTO⟩, S.at_ h1 fun o q => k i1 (by simp) o q, h2.at fun o q => k i2 (by simp) o q⟩
  item := by
    intro X hP hw hK hc i pins s σ H E I hf ⟨hi, hz, hTI, ⟨x0, y0, hTO⟩, h1, h2⟩ ⟨xs, ys, x, y, hqx, hn, hqy, hin, hx, hy⟩
    obtain ⟨its, rv, p, hlx⟩ := S.get hK I hqx
    subst hP hw
    obtain ⟨its2, rv2, p2, _⟩ := I.list (by rw [hK]; exact hqy)
    obtain ⟨u2, hu2, ru2⟩ := rv2.get hy
    obtain ⟨u1, hu1, ru1⟩ := rv.get hx
    have e1 : its.toArray.size = n := by rw [List.size_toArray, ← rv.length]; exact hn
    have hh : X.A.in1.handled = none := I.ok.hd hc
    have l2 : i < its2.toArray.size := by rw [List.size_toArray, ← rv2.length]; exact (List.getElem?_eq_some_iff.mp hy).1
    have D1 := S.dr hh i1 a ha its.toArray (by rw [e1, ← hn]; exact hlx)
    have D2 := Draws.list (prog := X.prog) (w := X.w) hh i2 b hb its2.toArray
    have lt : ∀ {c o}, s.heap.get? c = some o → c < s.heap.objs.size := fun e => Heap.lt_size e
    have hzl := lt hz
    refine wpAny_pyNext_zipD2_item D D1 D2 (i := i) hz hTI hTO ⟨by rw [e1]; exact hi, by rw [e1]; exact h1, p⟩ ⟨h2, p2.isList⟩ (by rw [e1]; exact hin) l2 fun x1 x2 h' tk y1 y2 b1 b2 d1 d2 b5 b6 hk => ?_
    refine ⟨_, rfl, wpAny_letOwnedTupleGo_zip (s := { s with heap := h', toks := tk }) b1 fun h'' z'' sb => ?_⟩
    have hT2 : h''.get? s.heap.objs.size = some { cls := .type "tuple", data := .seq #[x1, x2] } := (sb.2 _ (Nat.ne_of_gt hzl)).trans b5
    have ex1 : x1 = u1 := by
      have q : its.toArray[n - 1 - i]? = some u1 := by simpa using hu1
      rw [e1, q] at y1; cases y1; rfl
    have ex2 : x2 = u2 := by
      have q : its2.toArray[i]? = some u2 := by simpa using hu2
      have y2' : its2.toArray[i]? = some x2 := y2
      rw [q] at y2'; cases y2'; rfl
    subst ex1 ex2
    have new : ObjOk X.prog X.w (upd H s.heap.objs.size (.tup [x, y])) h'' s.heap.objs.size (.tup [x, y]) := ⟨by show 2 ≤ sizeLine; decide, [x1, x2], .cons ru1 (.cons ru2 .nil), ⟨_, hT2, rfl, _, rfl⟩⟩
    have I1 : L2.Inv X pins σ (upd H s.heap.objs.size (.tup [x, y])) { s with heap := h'', toks := tk } :=
      I.turnedNew (t' := tk) (ch := [z, TI, TO, i1, i2]) (fun c o hb q => (sb.2 c (fun q' => hb (by simp [q']))).trans (hk c o (fun q' => hb (by simp [q'])) (fun q' => hb (by simp [q'])) (fun q' => hb (by simp [q'])) (fun q' => hb (by simp [q'])) q)) hf (Nat.le_refl _) new
    have i1' := D1.over d1 sb D.zf1
    have i2' := D2.over d2 sb D.zf2
    rw [e1] at i1'
    refine ⟨.ref s.heap.objs.size, _, I1, rfl, ⟨_, x, y, rfl, I.hok.fresh (Nat.le_refl _), rfl, fun l hl => by rw [S.inj hK I hl hqx]; exact hx, fun l hl => by rw [I.list_inj (show SqL X.K H b l by rw [hK]; exact hl) (show SqL X.K H b ys by rw [hK]; exact hqy)]; exact hy⟩, ⟨hin, z'', (sb.2 _ D.TIz).trans (hk _ _ D.TIz D.TITO D.TIi1 D.TIi2 hTI), ⟨x1, x2, (sb.2 _ D.TOz).trans b2⟩, i1'.2.1, i2'.1⟩, fun c hcm => ?_⟩
    have hlt : c < s.heap.objs.size := by
      obtain ⟨o1, e2, _⟩ := S.obj h1
      obtain ⟨o2, e3, _⟩ := h2
      simp only [List.mem_cons, List.not_mem_nil, or_false] at hcm
      rcases hcm with rfl | rfl | rfl | rfl | rfl
      · exact hzl
      · exact lt hTI
      · exact lt hTO
      · exact lt e2
      · exact lt e3
    rw [upd_ne (Nat.ne_of_lt hlt)]
    exact (hf c hcm).1
  done := by
    intro X hP hw hK hc i pins s σ H E I hf ⟨hi, hz, hTI, ⟨x0, y0, hTO⟩, h1, h2⟩ ⟨xs, ys, hqx, hn, hqy, hle1, hle2, hend⟩
    obtain ⟨its, rv, p, hlx⟩ := S.get hK I hqx
    subst hP hw
    obtain ⟨its2, rv2, p2, _⟩ := I.list (by rw [hK]; exact hqy)
    have e1 : its.toArray.size = n := by rw [List.size_toArray, ← rv.length]; exact hn
    have e2 : its2.toArray.size = ys.length := by rw [List.size_toArray, ← rv2.length]
    have hh : X.A.in1.handled = none := I.ok.hd hc
    exact wpAny_pyNext_zipD2_end D (S.dr hh i1 a ha its.toArray (by rw [e1, ← hn]; exact hlx)) (Draws.list (prog := X.prog) (w := X.w) hh i2 b hb its2.toArray) (i := i) hz hTI hTO ⟨by rw [e1]; exact hi, by rw [e1]; exact h1, p⟩ ⟨h2, p2.isList⟩ (by rw [e1]; exact hle1) (by rw [e2]; exact hle2)
      (hend.elim (fun q => .inl (by rw [e1]; exact q.symm)) fun q => .inr (by rw [e2]; exact q.symm)) fun h' tk hk => ⟨rfl, I.turnedL (t' := tk) (ch := [z, TI, TO, i1, i2]) (fun c o hb q =>
        hk c o (fun q' => hb (by simp [q'])) (fun q' => hb (by simp [q'])) (fun q' => hb (by simp [q'])) (fun q' => hb (by simp [q'])) q) hf⟩
  self := fun A i s Q E ⟨_, hz, _⟩ h => wpAny_pyIter_zip hz h
/-- zip(reversed(x), y) -/
def iZr (K : PySem.W.Frag) (tx ty : TE) : TI := fun σ H R => tx σ H fun x H1 => ∃ a xs, x = .ref a ∧ ((SqL K H1 a xs ∧ ty σ H1 fun y H2 => ∃ b ys, y = .ref b ∧ SqL K H2 a xs ∧ SqL K H2 b ys ∧ R (ItzR (SqL K) K a b xs.length) H2) ∨ (SqT K H1 a xs ∧ ty σ H1 fun y H2 => ∃ b ys, y = .ref b ∧ SqT K H2 a xs ∧ SqL K H2 b ys ∧ R (ItzR (SqT K) K a b xs.length) H2))
section
variable {X : Cx}
theorem apart_zr {a b r n : Nat} (ha : a < r) (hr : r < n) (hb : b < n) (br : r ≠ b) : ZipSep2 (n + 3 : Nat) (n + 1 : Nat) (n + 2 : Nat) r n [r, a] [n, b] := by
  have g1 : ∀ {x y : Nat}, x < y → x ≠ y := fun h => Nat.ne_of_lt h
  have g2 : ∀ {x y : Nat}, x < y → y ≠ x := fun h => Nat.ne_of_gt h
  have two : ∀ {x u v : Nat}, x ≠ u → x ≠ v → x ∉ [u, v] := fun h1 h2 z => by
    rcases List.mem_cons.mp z with e | z
    · exact h1 e
    · rcases List.mem_cons.mp z with e | z
      · exact h2 e
      · cases z
  exact ⟨g1 (by omega), g1 (by omega), g1 (by omega), g2 (by omega), .head _, two (g2 (by omega)) (g2 (by omega)), two (g2 (by omega)) (g2 (by omega)), g2 (by omega), .head _, two (g2 (by omega)) (g2 (by omega)), two (g2 (by omega)) (g2 (by omega)), two (g1 hr) br, two (g2 hr) (g2 (by omega))⟩
theorem pi_zr {ex ey : Expr} {tx ty : TE} {p p2 pos pos2 tpos : Pos} {elts : List Expr} {kk : Nat} (hg : Gl X "zip") (hm : X.mg "zip" = none) (hg2 : Gl X "reversed") (hm2 : X.mg "reversed" = none) (hx : PE X ex tx) (hy : PE X ey ty)
    (h1 : starEach [ex] X.env = (false, eval ex X.env) :: starEach [] X.env := by rfl)
    (h2 : starEach [.Call (.Name "reversed" p2) [ex] [] pos2, ey] X.env = (false, eval (.Call (.Name "reversed" p2) [ex] [] pos2) X.env) :: starEach [ey] X.env := by rfl)
    (h3 : starEach [ey] X.env = (false, eval ey X.env) :: starEach [] X.env := by rfl) (hpl : (backTo pos (starEach [ey] X.env)).any (·.1) = false := by rfl) :
    PI X (.Tuple elts kk tpos) (.Call (.Name "zip" p) [.Call (.Name "reversed" p2) [ex] [] pos2, ey] [] pos) (iZr X.K tx ty) := by
  refine ⟨fun pins s σ H R I h => ?_⟩
  refine Call_ (ld_blt I hg hm PyProof.Rows.boot_zip (PyProof.Rows.callWith_type1 (args_cons (Call_ (ld_blt I hg2 hm2 PyProof.Rows.boot_reversed (PyProof.Rows.callWith_type1 (args_cons (thn (hx.run pins s σ H _ I h) fun u s1 ⟨v, H1, I1, r1, q1⟩ => args_nil ?_) h1) h1 rfl))) h2) h2 hpl))
  obtain ⟨a, xs, rfl, q1⟩ := q1
  obtain rfl : u = Value.ref a := r1
  -- the second argument, behind reversed(..)
  have rest : ∀ {Sq : Hp → Addr → List V → Prop} {Ho : Heap → Addr → Array Value → Prop} {Is : Heap → Addr → Addr → Int → Prop}, Src X.prog X.w X.K Sq Ho Is → (∀ h it l i, Is h it l i → h.IsRevIter it l i ∨ RT.IsRt h it l i) → ∀ (o : Obj) (tk : Nat), o.isFreed = false → (∃ vs, o.data = .fields vs) → a < s1.heap.objs.size →
      (∀ h' : Heap, h'.get? s1.heap.objs.size = some o → Is h' s1.heap.objs.size a ((xs.length : Int) - 1)) → ty σ H1 (fun y H2 => ∃ b ys, y = .ref b ∧ Sq H2 a xs ∧ SqL X.K H2 b ys ∧ R (ItzR Sq X.K a b xs.length) H2) →
      wpAny (model X.prog X.w) X.A (spliced (backTo pos (starEach [ey] X.env))) (fun vs s₂ => wpAny (model X.prog X.w) X.A (call (.type "zip") (.ref s1.heap.objs.size :: vs)) (fun u s₁ => wpAny (model X.prog X.w) X.A (pyIter u) (PIE X pins σ (.Tuple elts kk tpos) R) X.xe s₁) X.xe s₂) X.xe { s1 with heap := s1.heap.push o, toks := tk } := fun {Sq Ho Is} S cases_ o tk hfr ⟨dv, hdv⟩ hlt hit hq => by
    have I2 := ClX.pin_new (t' := tk) I1 (fun b u e => Heap.get?_push_of_some o e) (Nat.le_refl _) (Heap.get?_push_size _ hfr) (fun v z => by rw [hdv] at z; cases z)
    refine args_cons (thn (hy.run _ _ σ H1 _ I2 hq) fun u2 s2 ⟨y, H2, I3, r2, q2⟩ => args_nil ?_) h3
    obtain ⟨b, ys, rfl, hqx, hqy, q⟩ := q2
    obtain rfl : u2 = Value.ref b := r2
    have er : s2.heap.get? s1.heap.objs.size = some o := ClX.pin_at I3
    have nr : H2 s1.heap.objs.size = none := ClX.pin_un I3
    have I4 := ClX.unpin I3
    obtain ⟨its, rv, p1, _⟩ := I4.list hqy
    have hr : s1.heap.objs.size < s2.heap.objs.size := Heap.lt_size er
    have hb : b < s2.heap.objs.size := p1.lt
    have br : s1.heap.objs.size ≠ b := fun z => by
      obtain ⟨o', n', e', _, _, d'⟩ := p1
      rw [← z, er] at e'; cases e'
      rw [hdv] at d'; cases d'
    have D := apart_zr hlt hr hb br
    refine call_zr (a := a) ((cases_ _ _ _ _ (hit s2.heap er)).elim (fun z => .inl ⟨_, z⟩) fun z => .inr ⟨_, z⟩) p1.isList fun h' z => wpAny_pyIter_zip z.z ?_
    have I5 : L2.Inv X pins σ H2 { s2 with heap := h' } := I4.kept (t' := s2.toks) z.k
    refine ⟨s2.heap.objs.size + 3, [s2.heap.objs.size + 3, s2.heap.objs.size + 1, s2.heap.objs.size + 2, s1.heap.objs.size, s2.heap.objs.size], _, _, H2, rfl, I5, turn_zr (n := xs.length) S D (Nat.ne_of_lt hlt) (Nat.ne_of_lt hb), ⟨Nat.zero_le _, z.z, z.ti, ⟨_, _, z.to⟩, ?_, z.li⟩, fun c hc => ?_, q⟩
    · have := hit h' (z.k _ _ er)
      simpa using this
    · by_cases e : c = s1.heap.objs.size
      · rw [e]; exact I1.fpOk (Nat.le_refl _) nr
      · have hle : s2.heap.objs.size ≤ c := by
          simp only [List.mem_cons, List.not_mem_nil, or_false] at hc
          rcases hc with rfl | rfl | rfl | rfl | rfl
          · exact Nat.le_add_right _ _
          · exact Nat.le_add_right _ _
          · exact Nat.le_add_right _ _
          · exact absurd rfl e
          · exact Nat.le_refl _
        exact I4.fpOk hle (I4.hok.fresh hle)
  rcases q1 with ⟨hq, q⟩ | ⟨hq, q⟩
  · obtain ⟨its, rv, p', hz⟩ := I1.list hq
    have e1 : ((its.toArray.size : Nat) : Int) - 1 = (xs.length : Int) - 1 := by rw [List.size_toArray, rv.length]
    refine call_reversed_list p'.isList (rest src_list (fun _ _ _ _ z => .inl z) (revObj a ((its.toArray.size : Int) - 1)) s1.toks rfl ⟨_, rfl⟩ p'.lt (fun h' e => ?_) q)
    rw [← e1]
    exact ⟨_, e, rfl, rfl⟩
  · obtain ⟨its, rv, p', hz⟩ := I1.tuple hq
    have hn := line63
    have hl := rv.length
    have e1 : ((its.toArray.size : Nat) : Int) - 1 = (xs.length : Int) - 1 := by rw [List.size_toArray, rv.length]
    have hlt : a < s1.heap.objs.size := by obtain ⟨_, e, _⟩ := id p'; exact Heap.lt_size e
    refine RT.call_reversed_tup p' (fun A E Q k => len_tuple p' (by simp only [List.size_toArray] <;> omega) k) (rest src_tup (fun _ _ _ _ z => .inr z) (RT.rtObj a ((its.toArray.size : Int) - 1)) (s1.toks + 1 + 1) rfl ⟨_, rfl⟩ hlt (fun h' e => ?_) q)
    rw [← e1]
    exact ⟨_, e, rfl, rfl⟩
end
end Y

set_option Elab.async false
set_option linter.all false
set_option maxRecDepth 100000
set_option maxHeartbeats 4000000
set_option autoImplicit false
/-! WV: list(reversed(list or tuple)). -/
namespace Y
open PySem PySem.Spec PyProof.Rows L2 Z
theorem nolen_rt : typeLookup (.type "reversed") "__len__" = pure none := by rw [typeLookup_type, builtinLookup_eq_fast]; kernel_rfl
theorem hint_rt : typeLookup (.type "reversed") "__length_hint__" = pure (some (.builtin "reversed.__length_hint__")) := by rw [typeLookup_type, builtinLookup_eq_fast]; kernel_rfl
theorem walks_rt {prog : Program} {w : World} {A : Around} (hh : A.handled = none) (it l : Addr) (hne : l ≠ it) (items : Array Value) (hsz : items.size ≤ sizeLine) :
    Walks prog w A it [it, l] [it] items.size (fun i v => items[items.size - 1 - i]? = some v) (fun i h => i ≤ items.size ∧ RT.IsRt h it l ((items.size : Int) - 1 - (i : Int)) ∧ IsTup h l items) where
  sub := fun b hb => by rw [List.mem_singleton.mp hb]; exact .head _
  frame := fun _ _ _ ⟨a, b, ⟨o, ho, r⟩⟩ hk => ⟨a, b.at fun o e => hk it (.head _) o e, o, hk l (.tail _ (.head _)) o ho, r⟩
  item := fun i s Q E hi ⟨_, hit, hl⟩ hQ => by
    have hx : items[items.size - 1 - i]? = some (items[items.size - 1 - i]'(by omega)) := Array.getElem?_eq_getElem (by omega)
    rw [show (items.size : Int) - 1 - (i : Int) = ((items.size - 1 - i : Nat) : Int) by omega] at hit
    refine RT.next_rt_item hit hl hx hsz fun h' hit' sb => hQ _ h' (s.toks + 1) hx ⟨hi, ?_, ?_⟩ fun b o hb e => sb.extBut b o (fun z => hb (by rw [z]; exact .head _)) e
    · rw [show (items.size : Int) - 1 - ((i + 1 : Nat) : Int) = ((items.size - 1 - i : Nat) : Int) - 1 by omega]
      exact hit'
    · obtain ⟨o, ho, r⟩ := hl
      exact ⟨o, (sb.2 l hne).trans ho, r⟩
  done := fun s Q E ⟨_, hit, _⟩ hQ => by
    rw [show (items.size : Int) - 1 - (items.size : Int) = -1 by omega] at hit
    exact RT.next_rt_end hh hit fun h' ex => hQ h' s.toks fun b o hb e => ex b o (fun z => hb (by rw [z]; exact .head _)) e
  self := fun _ _ _ _ ⟨_, hit, _⟩ hQ => RT.iter_rt hit hQ
section
variable {prog : Program} {w : World} {A : Around} {E : Value → Shared → Prop} {s : Shared} {it l : Addr}
theorem hint_rev {i : Int} {Q : Bool → Shared → Prop} (hit : s.heap.IsRevIter it l i) (h : Q false s) : wpAny (model prog w) A (Builtin.List.listLengthHint (.ref it)) Q E s := by
  have hT := hit.typeIs
  unfold Builtin.List.listLengthHint
  refine wpAny_bind (wpAny_specialOf hT RT.nolen_lri ?_)
  show wpAny _ _ (specialOf (Value.ref it) (Str.ofString "__length_hint__") >>= _) _ _ _
  refine wpAny_bind (wpAny_specialOf hT RT.hint_lri ?_)
  generalize hid : ("list_reverseiterator.__length_hint__" : String) = id0
  wp_delta
  rw [show splitId id0 = some ("list_reverseiterator", "__length_hint__") from by subst hid; decide +kernel]
  subst hid
  exact wpAny_bind (wpAny_isInstance (b := true) hT (by rw [isSubtype_type]; kernel_rfl) (wpAny_pure h))
theorem slot_rt_hint : Slot "reversed" "__length_hint__" "reversed.__length_hint__" :=
  .of (owner := "reversed") (n := "__length_hint__") hint_rt (by decide +kernel) (by decide +kernel) (by decide +kernel) (by first | exact .inl (by decide +kernel) | exact .inr (by decide +kernel)) (by rw [isSubtype_type]; kernel_rfl)
theorem entry_rt_hint : entryFor table "reversed.__length_hint__" = some Builtin.«reversed.__length_hint__» := entryFor_of_tree (by kernel_rfl)
theorem args_rt_hint (a : Value) : argsOk "reversed.__length_hint__" ⟨[a], []⟩ := by
  unfold argsOk; rw [signature?_of (id := "reversed.__length_hint__") (n := "__length_hint__".toList.reverse) (o := "reversed".toList.reverse) (by kernel_rfl) RT.owner_rt]; kernel_rfl
theorem hint_rt' {items : Array Value} {i : Nat} {Q : Bool → Shared → Prop} (hit : RT.IsRt s.heap it l ((items.size : Int) - 1)) (hl : IsTup s.heap l items) (hsz : items.size ≤ sizeLine) (h : ∀ b : Bool, Q b { s with toks := s.toks + 1 + 1 + 1 }) : wpAny (model prog w) A (Builtin.List.listLengthHint (.ref it)) Q E s := by
  have hT := hit.typeIs
  unfold Builtin.List.listLengthHint
  refine wpAny_bind (wpAny_specialOf hT nolen_rt ?_)
  show wpAny _ _ (specialOf (Value.ref it) (Str.ofString "__length_hint__") >>= _) _ _ _
  refine wpAny_bind (wpAny_specialOf hT hint_rt ?_)
  generalize hid : ("reversed.__length_hint__" : String) = id0
  wp_delta
  rw [show splitId id0 = some ("reversed", "__length_hint__") from by subst hid; decide +kernel]
  subst hid
  refine wpAny_bind (wpAny_isInstance (b := true) hT (by rw [isSubtype_type]; kernel_rfl) ?_)
  wp_walk
  refine wpAny_of_eq (slot_rt_hint.bind _) ?_
  dsimp only
  refine wpAny_bind (wpAny_attempt (wpAny_call_entry slot_rt_hint hT entry_rt_hint ?_ (args_rt_hint _)))
  obtain ⟨o, ho, hc, hd⟩ := id hit
  unfold Builtin.«reversed.__length_hint__»
  refine wpAny_bind (wpAny_of_eq (a := Value.ref it) rfl (wpAny_bind (wpAny_field ho hd (x := .ref l) rfl ?_)))
  dsimp only
  rw [if_neg (show ¬ ((Value.ref l == Value.none) = true) from Bool.false_ne_true)]
  have hn := line63
  rw [show (items.size : Int) - 1 = (items.size : Int) - 1 from rfl] at hd
  refine wpAny_bind (PyProof.Rows.len_tuple hl (by omega) ?_)
  refine wpAny_bind (wpAny_of_eq (a := some ((items.size : Nat) : Int)) rfl ?_)
  dsimp only
  refine wpAny_bind (wpAny_field (s := { s with toks := s.toks + 1 + 1 }) ho hd (x := rawInt ((items.size : Int) - 1)) rfl ?_)
  show wpAny _ _ (if ((items.size : Nat) : Int) < (items.size : Int) - 1 + 1 then _ else _) _ _ _
  rw [if_neg (by omega)]
  have e : ((items.size : Int) - 1 + 1) = (items.size : Int) := by omega
  rw [e]
  refine wpAny_bind (wpAny_mkInt (wpAny_pure ⟨_, rfl, ?_⟩))
  dsimp only
  have f1 : Builtin.List.listFitsIndex ((items.size : Nat) : Int) = true := by
    unfold Builtin.List.listFitsIndex
    rw [Bool.and_eq_true]
    have hz := hsz
    rw [sizeLine_eq] at hz
    exact ⟨decide_eq_true (by omega), decide_eq_true (by omega)⟩
  have f2 : Builtin.List.listTooLong ((items.size : Nat) : Int).toNat = false := by
    unfold Builtin.List.listTooLong
    rw [Int.toNat_natCast]
    exact decide_eq_false (by omega)
  have f3 : ¬ ((items.size : Nat) : Int) < 0 := by omega
  simp only [asInt?, pure_bind, f1, f2, Bool.not_true, Bool.false_eq_true, if_false, if_neg f3]
  exact wpAny_pure (h _)

/-- a list that is filled from an iterator -/
theorem fill_it {T : String} {n c₀ : Nat} {P : Nat → Value → Prop} {St : Nat → Heap → Prop} {S : Addr} {R : Result → Shared → Prop} (W : Walks prog w A.in1 it [it, l] [it] n P St) (hT : s.TypeIs (.ref it) T) (n1 : (Value.type T == Value.type "list") = false) (n2 : (Value.type T == Value.type "tuple") = false)
    (hint : ∀ Q : Bool → Shared → Prop, (∀ (b : Bool) (t : Nat), s.toks ≤ t → Q b { s with toks := t }) → wpAny (model prog w) A.in1 (Builtin.List.listLengthHint (.ref it)) Q (fun e s' => R (.error e) s') s)
    (hn : n ≤ sizeLine) (st : St 0 s.heap) (hSi : S ≠ it) (hSl : S ≠ l) (hS : s.heap.get? S = some { cls := .type "list", data := .seq #[] c₀ })
    (hR : ∀ (h' : Heap) (tk : Nat) (acc : Array Value) (c' : Nat), (∀ b o, b ≠ S → b ≠ it → s.heap.get? b = some o → h'.get? b = some o) → h'.get? S = some { cls := .type "list", dict := none, data := .seq acc c', slots := #[] } → ItemsOf P acc n → R (.ok (.ret .none)) { s with heap := h', toks := tk }) :
    wpAny (model prog w) A.in1 (Builtin.List.listExtendWith (.ref S) (.ref it) .none)
      (fun fin s' => match fin with | .done f => R (.ok f) s' | .again c' => c'.quiet = true ∧ codeAny (model prog w) A c' R s') (fun e s' => R (.error e) s') s := by
  have hSf : S ∉ [it, l] := by
    intro z
    rcases List.mem_cons.mp z with e | z
    · exact hSi e
    · exact hSl (List.mem_singleton.mp z)
  have fin : ∀ (h1 : Heap) (c1 t1 : Nat), s.toks ≤ t1 → (∀ b o, b ≠ S → s.heap.get? b = some o → h1.get? b = some o) → h1.get? S = some { cls := .type "list", dict := none, data := .seq #[] c1, slots := #[] } → codeAny (model prog w) A (.builtin "list.extend.loop" ⟨[.ref S, .ref it, .none], []⟩) R { s with heap := h1, toks := t1 } := fun h1 c1 t1 ht k hS1 => by
    refine codeAny_extend_loopS W.toS hn _ hSf _ n 0 _ _ _ rfl (Nat.zero_le _) (W.frame 0 _ _ st fun b hb o e => k b o (fun z => hSf (by rw [← z]; exact hb)) e) hS1 (ItemsOf.nil _) fun s' acc' c' hm hS' hacc => ?_
    rw [Moved.eq_with hm]
    refine hR s'.heap s'.toks acc' c' (fun b o n1 n2 e => hm.heap b o (fun z => ?_) (k b o n1 e)) hS' hacc
    rcases List.mem_cons.mp z with e | z
    · exact n1 e
    · exact n2 (List.mem_singleton.mp z)
  unfold Builtin.List.listExtendWith
  refine wpAny_bind (wpAny_typeOf hT ?_)
  have h1 : Builtin.List.listSameRef (.ref S) (.ref it) = false := by unfold Builtin.List.listSameRef; exact beq_eq_false_iff_ne.mpr hSi
  simp only [h1, n1, n2, Bool.or_false, Bool.false_eq_true, if_false]
  refine wpAny_bind (W.self 0 _ _ _ st (wpAny_bind (wpAny_holding (hint _ fun b t ht => ?_))))
  have touch : ∀ {Q : Unit → Shared → Prop} {E : Value → Shared → Prop}, (∀ h1 c1, (∀ b o, b ≠ S → s.heap.get? b = some o → h1.get? b = some o) → h1.get? S = some { cls := .type "list", dict := none, data := .seq #[] c1, slots := #[] } → Q () { s with heap := h1, toks := t }) → wpAny (model prog w) A.in1 (Builtin.List.listTouch (.ref S)) Q E { s with toks := t } := fun {Q E} k => by
    show wpAny _ A.in1 (updateSeq S (·.push .none) >>= fun _ => updateSeq S (·.pop)) _ _ _
    refine wpAny_bind (wpAny_updateSeq hS rfl ?_)
    have u2 := Heap.get?_update_self (Obj.mapSeq (·.push Value.none)) hS rfl
    refine wpAny_updateSeq (hz := by seq_fits) u2 rfl (k _ _ (fun b o hb e => (Heap.get?_update_other _ _ (Ne.symm hb)).trans ((Heap.get?_update_other _ _ (Ne.symm hb)).trans e)) (Heap.get?_update_self (Obj.mapSeq (·.pop)) u2 rfl))
  split
  · exact wpAny_bind (wpAny_rule (wpAny_bind (touch fun h1 c1 k hS1 => wpAny_pure ⟨plainId_quiet F.plain_extend_loop _, fin h1 c1 t ht k hS1⟩)))
  · exact wpAny_pure ⟨plainId_quiet F.plain_extend_loop _, fin s.heap _ t ht (fun _ _ _ e => e) hS⟩
/-- list(it) -/
theorem call_list_it {T : String} {n : Nat} {P : Nat → Value → Prop} {St : Nat → Heap → Prop} {Q : Value → Shared → Prop} (W : Walks prog w A.in1.in1 it [it, l] [it] n P St) (hT : ∀ s : Shared, St 0 s.heap → s.TypeIs (.ref it) T) (n1 : (Value.type T == Value.type "list") = false) (n2 : (Value.type T == Value.type "tuple") = false)
    (hint : ∀ (s : Shared) (E : Value → Shared → Prop) (Q : Bool → Shared → Prop), St 0 s.heap → (∀ (b : Bool) (t : Nat), s.toks ≤ t → Q b { s with toks := t }) → wpAny (model prog w) A.in1.in1 (Builtin.List.listLengthHint (.ref it)) Q E s)
    (hn : n ≤ sizeLine) (st : St 0 s.heap) (l1 : it < s.heap.objs.size) (l2 : l < s.heap.objs.size)
    (hQ : ∀ (h' : Heap) (tk : Nat) (acc : Array Value) (c' : Nat), (∀ b o, b ≠ it → s.heap.get? b = some o → h'.get? b = some o) → h'.get? s.heap.objs.size = some { cls := .type "list", dict := none, data := .seq acc c', slots := #[] } → ItemsOf P acc n → Q (.ref s.heap.objs.size) { s with heap := h', toks := tk }) :
    wpAny (model prog w) A (call (.type "list") [.ref it]) Q E s := by
  refine callType_codes (Q₁ := fun obj s₁ => obj = .ref s.heap.objs.size ∧ s₁ = { s with heap := s.heap.push { cls := .type "list", data := .seq #[] } }) F.called_list (F.typeCall_list_1 _) F.entry_list_init (code_list_new _ ⟨rfl, rfl⟩) fun obj s₁ h₁ => ?_
  obtain ⟨rfl, rfl⟩ := h₁
  have g0 : (s.heap.push { cls := .type "list", data := .seq #[] }).get? s.heap.objs.size = some { cls := .type "list", data := .seq #[] } := Heap.get?_push_size _ rfl
  refine ⟨⟨_, g0, rfl⟩, F.args_list_init_2 _ _, ?_⟩
  show wpAny _ A.in1.in1 (do let old ← Builtin.List.listItems (.ref s.heap.objs.size); Builtin.List.listUpdate (.ref s.heap.objs.size) (fun _ => #[]); letGo old.toList.reverse; Builtin.List.listExtendWith (.ref s.heap.objs.size) (.ref it) .none) _ _ _
  refine wpAny_bind ?_
  unfold Builtin.List.listItems
  refine wpAny_bind (wpAny_seqItems g0 rfl (wpAny_pure ?_))
  show wpAny _ A.in1.in1 (updateSeq s.heap.objs.size (fun _ => #[]) >>= fun _ => letGo (#[] : Array Value).toList.reverse >>= fun _ => Builtin.List.listExtendWith (.ref s.heap.objs.size) (.ref it) .none) _ _ _
  refine wpAny_bind (wpAny_updateSeq g0 rfl (wpAny_bind (wpAny_letGo ?_)))
  have g1 := Heap.get?_update_self (Obj.mapSeq (fun _ => (#[] : Array Value))) g0 rfl
  have k1 : ∀ b o, b ≠ s.heap.objs.size → (s.heap.push { cls := .type "list", data := .seq #[] }).get? b = some o → ((s.heap.push { cls := .type "list", data := .seq #[] }).update s.heap.objs.size (Obj.mapSeq (fun _ => (#[] : Array Value)))).get? b = some o := fun b o hb e => (Heap.get?_update_other _ _ (Ne.symm hb)).trans e
  have k0 : ∀ b o, s.heap.get? b = some o → ((s.heap.push { cls := .type "list", data := .seq #[] }).update s.heap.objs.size (Obj.mapSeq (fun _ => (#[] : Array Value)))).get? b = some o := fun b o e => k1 b o (Nat.ne_of_lt (Heap.lt_size e)) (Heap.get?_push_of_some _ e)
  have st1 := W.frame 0 _ _ st fun b _ o e => k0 b o e
  refine fill_it W (hT _ st1) n1 n2 (fun Q q => hint _ _ Q st1 q) hn st1 (Nat.ne_of_gt l1) (Nat.ne_of_gt l2) g1 fun h' tk acc c' k e hacc => ⟨rfl, hQ h' tk acc c' (fun b o hb eb => k b o (Nat.ne_of_lt (Heap.lt_size eb)) hb (k0 b o eb)) e hacc⟩
end
/-! ### over the layer -/
/-- list(reversed(x)), x a list or a tuple -/
def tListRev (K : PySem.W.Frag) (te : TE) : TE := fun σ H Q => te σ H fun v H1 => ∃ (a : Addr) (xs : List V), v = .ref a ∧ (SqL K H1 a xs ∨ SqT K H1 a xs) ∧ ∀ q, H1 q = none → Q (.ref q) (upd H1 q (.lst xs.reverse))
theorem pe_listRev {X : Cx} {e : Expr} {te : TE} {p p2 pos pos2 : Pos} (hc : X.calm = true) (hg : Gl X "list") (hm : X.mg "list" = none) (hg2 : Gl X "reversed") (hm2 : X.mg "reversed" = none) (he : PE X e te)
    (hs : starEach [e] X.env = (false, eval e X.env) :: starEach [] X.env := by rfl)
    (hs2 : starEach [.Call (.Name "reversed" p2) [e] [] pos2] X.env = (false, eval (.Call (.Name "reversed" p2) [e] [] pos2) X.env) :: starEach [] X.env := by rfl) :
    PE X (.Call (.Name "list" p) [.Call (.Name "reversed" p2) [e] [] pos2] [] pos) (tListRev X.K te) := by
  refine ⟨fun pins s σ H Q I h => ?_⟩
  refine Call_ (ld_blt I hg hm boot_list (PyProof.Rows.callWith_type1 (args_cons (Call_ (ld_blt I hg2 hm2 PyProof.Rows.boot_reversed (PyProof.Rows.callWith_type1 (args_cons (thn (he.run pins s σ H _ I h) fun u s1 ⟨v, H1, I1, r1, q1⟩ => args_nil ?_) hs) hs rfl))) hs2) hs2 rfl))
  obtain ⟨a, xs, rfl, hq, q⟩ := q1
  obtain rfl : u = Value.ref a := r1
  have hh := I1.ok.hd hc
  have fin : ∀ (its : List Value) (o : Obj) (h' : Heap) (tk' : Nat) (acc : Array Value) (c' : Nat), Vals xs its → xs.length ≤ sizeLine →
      (∀ b o', b ≠ s1.heap.objs.size → (s1.heap.push o).get? b = some o' → h'.get? b = some o') → h'.get? (s1.heap.push o).objs.size = some { cls := .type "list", dict := none, data := .seq acc c', slots := #[] } → ItemsOf (fun i v => its.toArray[its.toArray.size - 1 - i]? = some v) acc its.toArray.size →
      EP X pins σ Q (.ref (s1.heap.push o).objs.size) { s1 with heap := h', toks := tk' } := fun its o h' tk' acc c' rv hz k e hacc => by
    have hle : s1.heap.objs.size ≤ (s1.heap.push o).objs.size := by rw [Heap.size_push]; exact Nat.le_succ _
    refine ⟨.ref (s1.heap.push o).objs.size, upd H1 (s1.heap.push o).objs.size (.lst xs.reverse), I1.laid (t' := tk') (fun b o' eb => k b o' (Nat.ne_of_lt (Heap.lt_size eb)) (Heap.get?_push_of_some _ eb)) hle (show ObjOk X.prog X.w _ _ _ (.lst xs.reverse) from ⟨by rw [List.length_reverse]; exact hz, acc.toList, c', RT.vals_rev rv hacc, ?_⟩), rfl, q _ (I1.hok.fresh hle)⟩
    rw [Array.toArray_toList]
    exact e
  rcases hq with hq | hq
  · obtain ⟨its, rv, p', hz⟩ := I1.list hq
    have hn : its.toArray.size ≤ sizeLine := by rw [List.size_toArray, ← rv.length]; exact hz
    have hlt : a < s1.heap.objs.size := p'.lt
    refine call_reversed_list p'.isList (args_nil ?_)
    have er : (s1.heap.push (revObj a ((its.toArray.size : Int) - 1))).get? s1.heap.objs.size = some (revObj a ((its.toArray.size : Int) - 1)) := Heap.get?_push_size _ rfl
    refine call_list_it (s := { s1 with heap := s1.heap.push (revObj a ((its.toArray.size : Int) - 1)) }) (Walks.listRev (A := X.A.in1.in1) hh s1.heap.objs.size a (Nat.ne_of_lt hlt) its.toArray) (fun s st => st.2.1.typeIs) (by decide) (by decide) (fun s E Q st k => hint_rev st.2.1 (k false s.toks (Nat.le_refl _))) hn ⟨Nat.zero_le _, ?_, p'.isList.push _⟩ (by show _ < (s1.heap.push _).objs.size; rw [Heap.size_push]; exact Nat.lt_succ_self _) (by show _ < (s1.heap.push _).objs.size; rw [Heap.size_push]; exact Nat.lt_succ_of_lt hlt) fun h' tk acc c' k e hacc => fin its _ h' tk acc c' rv hz k e hacc
    rw [show (its.toArray.size : Int) - 1 - ((0 : Nat) : Int) = (its.toArray.size : Int) - 1 by omega]
    exact ⟨_, er, rfl, rfl⟩
  · obtain ⟨its, rv, p', hz⟩ := I1.tuple hq
    have hn : its.toArray.size ≤ sizeLine := by rw [List.size_toArray, ← rv.length]; exact hz
    have hlt : a < s1.heap.objs.size := by obtain ⟨_, e, _⟩ := id p'; exact Heap.lt_size e
    have l63 := line63
    have hl := rv.length
    refine RT.call_reversed_tup p' (fun A E Q k => len_tuple p' (by simp only [List.size_toArray] <;> omega) k) (args_nil ?_)
    have er : (s1.heap.push (RT.rtObj a ((its.toArray.size : Int) - 1))).get? s1.heap.objs.size = some (RT.rtObj a ((its.toArray.size : Int) - 1)) := Heap.get?_push_size _ rfl
    refine call_list_it (s := { s1 with heap := s1.heap.push (RT.rtObj a ((its.toArray.size : Int) - 1)), toks := s1.toks + 1 + 1 }) (walks_rt (A := X.A.in1.in1) hh s1.heap.objs.size a (Nat.ne_of_lt hlt) its.toArray hn) (fun s st => st.2.1.typeIs) (by decide) (by decide) (fun s E Q st k => hint_rt' (items := its.toArray) (i := 0) (by have := st.2.1; rw [show (its.toArray.size : Int) - 1 - ((0 : Nat) : Int) = (its.toArray.size : Int) - 1 by omega] at this; exact this) st.2.2 hn (fun b => k b _ (Nat.le_add_right _ 3))) hn ⟨Nat.zero_le _, ?_, ?_⟩ (by show _ < (s1.heap.push _).objs.size; rw [Heap.size_push]; exact Nat.lt_succ_self _) (by show _ < (s1.heap.push _).objs.size; rw [Heap.size_push]; exact Nat.lt_succ_of_lt hlt) fun h' tk acc c' k e hacc => fin its _ h' tk acc c' rv hz k e hacc
    · rw [show (its.toArray.size : Int) - 1 - ((0 : Nat) : Int) = (its.toArray.size : Int) - 1 by omega]
      exact ⟨_, er, rfl, rfl⟩
    · obtain ⟨o, ho, r⟩ := p'
      exact ⟨o, Heap.get?_push_of_some _ ho, r⟩
end Y

set_option Elab.async false
set_option linter.all false
set_option maxRecDepth 100000
set_option maxHeartbeats 4000000
set_option autoImplicit false
/-! WF: zip, reversed, slices, lists added and repeated, chains, None, own lists read by slices and views. -/
namespace Y
open PySem PySem.Spec PyProof.Rows L2 Z
section
variable {X : Cx} {C : Cn} {E : XK} {e a b tg : Expr} {ma mb mc : ME} {ms mk : MS} {mi : MI} {es : List Expr} {ml : MA} {mf : ML} {pos : Pos}
/-! ### zip -/
def pairV (x y : Val) : Val := .tup [x, y]
def zipV (xs ys : List Val) : List Val := List.zipWith pairV xs ys
theorem zipV_get {xs ys : List Val} {i : Nat} {z : Val} (h : (zipV xs ys)[i]? = some z) : ∃ x y, xs[i]? = some x ∧ ys[i]? = some y ∧ z = pairV x y := by
  unfold zipV at h
  rw [List.getElem?_zipWith] at h
  cases hx : xs[i]? with
  | none => rw [hx] at h; cases h
  | some x =>
    cases hy : ys[i]? with
    | none => rw [hx, hy] at h; cases h
    | some y => rw [hx, hy] at h; cases h; exact ⟨x, y, rfl, rfl, rfl⟩
theorem rep_pair {A : Rg} {H : Hp} {T : Addr} {v w : V} {x y : Val} (fr : Fq A H) (hT : H T = none) (r1 : rep C A H v x) (r2 : rep C A H w y) : rep C A (upd H T (.tup [v, w])) (.ref T) (pairV x y) :=
  rep_tup.mpr ⟨T, _, rfl, .inl ⟨fr T (.of hT), upd_same⟩, reps_cons (rep.gr (gr_new hT) r1) (reps_cons (rep.gr (gr_new hT) r2) reps_nil)⟩
theorem rev_at {α : Type} {xs : List α} {i : Nat} {x : α} (h : xs.reverse[i]? = some x) : i < xs.length ∧ xs[xs.length - 1 - i]? = some x := by
  have hi : i < xs.length := by
    have := (List.getElem?_eq_some_iff.mp h).1
    rw [List.length_reverse] at this
    exact this
  rw [List.getElem?_reverse hi] at h
  exact ⟨hi, h⟩
theorem zipV_length (xs ys : List Val) : (zipV xs ys).length = min xs.length ys.length := by unfold zipV; rw [List.length_zipWith]
theorem wk_zr {Sq : Hp → Addr → List V → Prop} {A : Rg} {H : Hp} {a b : Addr} {vs ws : List V} {xs ys : List Val} (hq : ∀ A' H', Gr A H A' H' → Sq H' a vs) (hk : ∀ A' H', Gr A H A' H' → SqL C.K H' b ws) (r : reps C A H vs xs) (s : reps C A H ws ys) : Wk C A (ItzR Sq C.K a b vs.length) H (zipV xs.reverse ys) := fun A' H' g fr => by
  have r' := (reps.gr g r).pair
  have s' := (reps.gr g s).pair
  refine ⟨fun i z hz => ?_, ⟨vs, ws, hq A' H' g, rfl, hk A' H' g, ?_⟩⟩
  · obtain ⟨x, y, hx, hy, rfl⟩ := zipV_get hz
    obtain ⟨hi, hx'⟩ := rev_at hx
    obtain ⟨v, hv, rv⟩ := wk_list.paired_at' r' hx'
    obtain ⟨w, hw, rw'⟩ := wk_list.paired_at' s' hy
    rw [← r.len] at hv hi
    refine ⟨⟨vs, ws, v, w, hq A' H' g, rfl, hk A' H' g, hi, hv, hw⟩, fun v2 H2 ⟨T, v3, w3, e, hT, e2, k1, k2⟩ => ?_⟩
    subst e e2
    have h1 := k1 vs (hq A' H' g)
    have h2 := k2 ws (hk A' H' g)
    rw [hv] at h1; cases h1
    rw [hw] at h2; cases h2
    exact ⟨same_new hT, rep_pair fr hT rv rw'⟩
  · rw [zipV_length, List.length_reverse, r.len, s.len]
    omega
theorem sq_same {A A' : Rg} {H H' : Hp} {a : Addr} {vs : List V} (g : Gr A H A' H') (h : TupAt C.K A H a vs) : SqT C.K H' a vs := (TupAt.gr g h).sq
def zrM (a b : ME) : MI := fun ρ => a ρ >>= fun x => Rs.opt (seqV x.1) >>= fun xs => b x.2 >>= fun y => Rs.opt (lstV y.1) >>= fun ys => .ok (zipV xs.reverse ys, y.2)
theorem sqL_of {A A' : Rg} {H H' : Hp} {a : Addr} {vs : List V} (g : Gr A H A' H') (n : A a) (h : H a = some (.lst vs)) : SqL C.K H' a vs := SqL.of (g a _ nt n h).2
theorem lstV_of {x : Val} {xs : List Val} (e : lstV x = some xs) : x = .lst xs := by
  unfold lstV at e
  split at e
  · cases e; rfl
  · cases e
theorem yi_zr (hK : X.K = C.K) (h : ∀ {tx ty : TE}, PE X a tx → PE X b ty → PI X tg e (iZr X.K tx ty)) (ha : PE X a (SE C E ma)) (hb : PE X b (SE C E mb)) : PI X tg e (SI C E (zrM ma mb)) := PI.imp (h ha hb) fun σ H R ⟨B, A, ρ, N, hm⟩ =>
  ⟨B, A, ρ, N, Rs.wp_mono (Rs.wp_bind hm) (fun x hx v H1 N1 g1 r1 => by
    obtain ⟨xs, ex, hx⟩ := Rs.wp_opt (Rs.wp_bind hx)
    rw [hK]
    have two : ∀ {vs : List V} {a : Addr} {Sq : Hp → Addr → List V → Prop}, reps C A H1 vs xs → (∀ A' H', Gr A H1 A' H' → Sq H' a vs) →
        SE C E mb σ H1 fun y H2 => ∃ b ys, y = .ref b ∧ Sq H2 a vs ∧ SqL C.K H2 b ys ∧ R (ItzR Sq C.K a b vs.length) H2 := fun {vs a Sq} r hq => ⟨B, A, x.2, N1, Rs.wp_mono (Rs.wp_bind hx) (fun y hy w H2 N2 g2 r2 => by
      obtain ⟨ys, ey, hz⟩ := Rs.wp_opt (Rs.wp_bind hy)
      rw [lstV_of ey] at r2
      obtain ⟨b, ws, rfl, nb, hb, rs⟩ := rep_lst.mp r2
      exact ⟨b, ws, rfl, hq A H2 g2.g, sqL_of (.refl _ _) nb hb, hz _ H2 N2 (g1.trans g2) (wk_zr (fun A' H' g => hq A' H' (g2.g.trans g)) (fun A' H' g => sqL_of g nb hb) (reps.gr g2.g r) rs)⟩) (EXe.tr g1)⟩
    unfold seqV at ex
    split at ex
    · rename_i q
      cases ex
      rw [q] at r1
      obtain ⟨a, vs, rfl, na, ha, r⟩ := rep_lst.mp r1
      exact ⟨a, vs, rfl, .inl ⟨sqL_of (.refl _ _) na ha, two r fun A' H' g => sqL_of g na ha⟩⟩
    · rename_i q
      cases ex
      rw [q] at r1
      obtain ⟨a, vs, rfl, ha, r⟩ := rep_tup.mp r1
      exact ⟨a, vs, rfl, .inr ⟨sq_same (.refl _ _) ha, two r fun A' H' g => sq_same g ha⟩⟩
    · cases ex) fun _ _ _ _ h => h⟩
/-- zip(x, y) of two lists or two tuples -/
def zipM (a : MA) : MI := fun ρ => a ρ >>= fun x => match x.1 with
  | [.lst xs, .lst ys] => .ok (zipV xs ys, x.2)
  | [.tup xs, .tup ys] => .ok (zipV xs ys, x.2)
  | _ => .bad
theorem wk_zip {A : Rg} {H : Hp} {J : It} {vs ws : List V} {xs ys : List Val} (r : reps C A H vs xs) (s : reps C A H ws ys)
    (hgo : ∀ A' H' i v w, Gr A H A' H' → vs[i]? = some v → ws[i]? = some w → J.go i H' ∧ ∀ u H2, J.yld i H' u H2 → ∃ T, u = .ref T ∧ H' T = none ∧ H2 = upd H' T (.tup [v, w])) (hst : ∀ A' H' i, Gr A H A' H' → (vs.length ≤ i ∨ ws.length ≤ i) → J.stop i H') : Wk C A J H (zipV xs ys) := fun A' H' g fr => by
  have r' := (reps.gr g r).pair
  have s' := (reps.gr g s).pair
  refine ⟨fun i z hz => ?_, hst A' H' _ g (by rw [zipV_length, r.len, s.len]; omega)⟩
  obtain ⟨x, y, hx, hy, rfl⟩ := zipV_get hz
  obtain ⟨v, hv, rv⟩ := wk_list.paired_at' r' hx
  obtain ⟨w, hw, rw'⟩ := wk_list.paired_at' s' hy
  obtain ⟨k1, k2⟩ := hgo A' H' i v w g hv hw
  refine ⟨k1, fun u H2 hy => ?_⟩
  obtain ⟨T, rfl, hT, rfl⟩ := k2 u H2 hy
  exact ⟨same_new hT, rep_pair fr hT rv rw'⟩
theorem yi_zip (hK : X.K = C.K) (h : PI X tg e (RZ.iZipA X.K (SA C E ml))) : PI X tg e (SI C E (zipM ml)) := PI.imp h fun σ H R ⟨B, A, ρ, N, hm⟩ =>
  ⟨B, A, ρ, N, Rs.wp_mono (Rs.wp_bind hm) (fun x hx us H1 N1 g1 r1 => by
    rw [hK]
    split at hx
    · rename_i xs ys q
      rw [q] at r1
      obtain ⟨u, w, rfl, ru, rw'⟩ := reps2 r1
      obtain ⟨a, vs, rfl, na, ha, r⟩ := rep_lst.mp ru
      obtain ⟨b, ws, rfl, nb, hb, s⟩ := rep_lst.mp rw'
      refine ⟨a, b, vs, ws, rfl, .inl ⟨SqL.of ha, SqL.of hb, hx _ H1 N1 g1 (wk_zip r s (fun A' H' i v w g hv hw => ⟨⟨vs, ws, v, w, sqL_of g na ha, sqL_of g nb hb, hv, hw⟩, fun u H2 ⟨T, x, y, e, hT, e2, k1, k2⟩ => ⟨T, e, hT, ?_⟩⟩) fun A' H' i g z => ⟨vs, ws, sqL_of g na ha, sqL_of g nb hb, z⟩)⟩⟩
      have h1 := k1 vs (sqL_of g na ha)
      have h2 := k2 ws (sqL_of g nb hb)
      rw [hv] at h1; cases h1
      rw [hw] at h2; cases h2
      exact e2
    · rename_i xs ys q
      rw [q] at r1
      obtain ⟨u, w, rfl, ru, rw'⟩ := reps2 r1
      obtain ⟨a, vs, rfl, ha, r⟩ := rep_tup.mp ru
      obtain ⟨b, ws, rfl, hb, s⟩ := rep_tup.mp rw'
      refine ⟨a, b, vs, ws, rfl, .inr ⟨ha.sq, hb.sq, hx _ H1 N1 g1 (wk_zip r s (fun A' H' i v w g hv hw => ⟨⟨vs, ws, v, w, sq_same g ha, sq_same g hb, hv, hw⟩, fun u H2 ⟨T, x, y, e, hT, e2, k1, k2⟩ => ⟨T, e, hT, ?_⟩⟩) fun A' H' i g z => ⟨vs, ws, sq_same g ha, sq_same g hb, z⟩)⟩⟩
      have h1 := k1 vs (sq_same g ha)
      have h2 := k2 ws (sq_same g hb)
      rw [hv] at h1; cases h1
      rw [hw] at h2; cases h2
      exact e2
    · exact hx.elim) fun _ _ _ _ h => h⟩
/-! ### reversed -/
theorem reps.rev {A : Rg} {H : Hp} {vs : List V} {xs : List Val} (r : reps C A H vs xs) : reps C A H vs.reverse xs.reverse := by
  have go : ∀ {vs : List V} {xs : List Val} {ws : List V} {ys : List Val}, reps C A H vs xs → reps C A H ws ys → reps C A H (vs.reverseAux ws) (xs.reverseAux ys) := by
    intro vs xs
    induction xs generalizing vs with
    | nil => intro ws ys r s; unfold reps at r; subst r; exact s
    | cons x xs ih =>
      intro ws ys r s
      unfold reps at r
      obtain ⟨v, vs', rfl, h1, h2⟩ := r
      exact ih (vs := vs') h2 (reps_cons h1 s)
  exact go r reps_nil
/-- list(reversed(x)) -/
def lrevF (m : ME) : ML := fun ρ => m ρ >>= fun x => Rs.opt (seqV x.1) >>= fun xs => .ok (xs.reverse, x.2)
theorem yf_lrev (hK : X.K = C.K) (h : PE X e (tListRev X.K (SE C E ma))) : PE X e (SF C E (lrevF ma)) := PE.imp h fun σ H Q hs => by
  obtain ⟨B, A, ρ, N, hm⟩ := sf_of hs
  exact ⟨B, A, ρ, N, Rs.wp_mono (Rs.wp_bind hm) (fun x hx v H1 N1 g1 r1 => by
    obtain ⟨xs, ex, hz⟩ := Rs.wp_opt (Rs.wp_bind hx)
    rw [hK]
    unfold seqV at ex
    split at ex
    · rename_i q
      cases ex
      rw [q] at r1
      obtain ⟨a, vs, rfl, na, ha, r⟩ := rep_lst.mp r1
      exact ⟨a, vs, rfl, .inl (SqL.of ha), fun p hp => new_rd N1 g1 hz p _ hp r.rev⟩
    · rename_i q
      cases ex
      rw [q] at r1
      obtain ⟨a, vs, rfl, ha, r⟩ := rep_tup.mp r1
      exact ⟨a, vs, rfl, .inr ha.sq, fun p hp => new_rd N1 g1 hz p _ hp r.rev⟩
    · cases ex) fun _ _ _ _ h => h⟩
/-- tuple(reversed(x)), x a list -/
def trevV : Val → Option Val | .lst xs => some (.tup xs.reverse) | _ => none
theorem y_trev (hK : X.K = C.K) (h : PE X e (RT.tTupRev X.K (SE C E ma))) : PE X e (SE C E (unM trevV ma)) := PE.imp h fun σ H Q ⟨B, A, ρ, N, hm⟩ =>
  ⟨B, A, ρ, N, Rs.wp_mono (Rs.wp_bind hm) (fun x hx v H1 N1 g1 r1 => by
    obtain ⟨z, e, hz⟩ := Rs.wp_opt (Rs.wp_bind hx)
    rw [hK]
    unfold trevV at e
    split at e
    · rename_i q
      cases e
      rw [q] at r1
      obtain ⟨a, vs, rfl, na, ha, r⟩ := rep_lst.mp r1
      exact ⟨a, vs, rfl, SqL.of ha, fun p hp => hz _ _ (N1.new hp) (g1.trans (.same N1 (same_new hp))) (rep_tup.mpr ⟨p, _, rfl, .inl ⟨N1.fr p (.of hp), upd_same⟩, reps.gr (gr_new hp) r.rev⟩)⟩
    · cases e) fun _ _ _ _ h => h⟩
/-! ### tuple(x) -/
def tupOfV : Val → Option Val | .lst xs => some (.tup xs) | .tup xs => some (.tup xs) | _ => none
theorem cv_tuple : CbV C (fun xs H Q => ∃ p ys, xs = [.ref p] ∧ ((SqL C.K H p ys ∧ ∀ l, H l = none → Q (.ref l) (upd H l (.tup ys))) ∨ (SqT C.K H p ys ∧ Q (.ref p) H))) (f1 tupOfV) := fun A H us xs z fr r e0 Q q => by
  obtain ⟨u, x, rfl, rfl, ru, e⟩ := one_of r e0
  unfold tupOfV at e
  split at e
  · cases e
    obtain ⟨a, vs, rfl, n, h, rs⟩ := rep_lst.mp ru
    exact ⟨a, vs, rfl, .inl ⟨SqL.of h, fun l hl => q _ _ (same_new hl) (rep_tup.mpr ⟨l, vs, rfl, .inl ⟨fr l (.of hl), upd_same⟩, reps.gr (gr_new hl) rs⟩)⟩⟩
  · cases e
    obtain ⟨a, vs, rfl, h, rs⟩ := rep_tup.mp ru
    exact ⟨a, vs, rfl, .inr ⟨h.sq, q _ H (Same.refl H) (rep_tup.mpr ⟨a, vs, rfl, h, rs⟩)⟩⟩
  · cases e
/-! ### lists added, repeated -/
def addV2 : Val → Val → Option Val := fun x y => match x, y with
  | .lst xs, .lst ys => if xs.length + ys.length ≤ sizeLine then some (.lst (xs ++ ys)) else none
  | _, _ => addV x y
abbrev rAdd2 : R2 := fun x y H Q => rAddA x y H Q ∨ rCat x y H Q
theorem oy_add2 : OpR X (binaryOp .Add) rAdd2 := oy_add.or op_cat
theorem reps.app {A : Rg} {H : Hp} : ∀ {xs : List Val} {vs : List V} {ys : List Val} {ws : List V}, reps C A H vs xs → reps C A H ws ys → reps C A H (vs ++ ws) (xs ++ ys)
  | [], vs, _, _, h, k => by unfold reps at h; subst h; exact k
  | x :: xs, vs, _, _, h, k => by
    unfold reps at h
    obtain ⟨v, r, rfl, h1, h2⟩ := h
    exact reps_cons h1 (reps.app h2 k)
theorem ov_add2 : OpV C rAdd2 addV2 := fun A H u v x y z fr hu hv e Q q => by
  unfold addV2 at e
  split at e
  · split at e
    · rename_i h
      cases e
      obtain ⟨a, vs, rfl, na, ha, r⟩ := rep_lst.mp hu
      obtain ⟨b, ws, rfl, nb, hb, s⟩ := rep_lst.mp hv
      exact .inr ⟨a, b, vs, ws, rfl, rfl, ha, hb, by rw [r.len, s.len]; exact h, fun p hp => q _ _ (same_new hp) (rep_lst.mpr ⟨p, _, rfl, fr p (.of hp), upd_same, reps.gr (gr_new hp) (r.app s)⟩)⟩
    · cases e
  · exact .inl (ov_add A H u v x y z fr hu hv e Q q)
/-- x * n, x a list -/
def repL {α : Type} (xs : List α) (n : Nat) : List α := (List.replicate n xs).flatten
abbrev rMulL (K : PySem.W.Frag) : R2 := fun x y H Q => ∃ (a : Addr) (xs : List V) (i : Int), x = .ref a ∧ y = .int i ∧ SqL K H a xs ∧ -(2 ^ 62) ≤ i ∧ i < 2 ^ 62 ∧ xs.length * i.toNat ≤ 1000 ∧ ∀ p, H p = none → Q (.ref p) (upd H p (.lst (repL xs i.toNat)))
theorem vals_rep {vs : List V} {us : List Value} (r : Vals vs us) : ∀ n : Nat, Vals (repL vs n) (repL us n)
  | 0 => .nil
  | n + 1 => by
    show Vals ((vs :: List.replicate n vs).flatten) ((us :: List.replicate n us).flatten)
    rw [List.flatten_cons, List.flatten_cons]
    exact r.append (vals_rep r n)
theorem repL_length {α : Type} (xs : List α) (n : Nat) : (repL xs n).length = xs.length * n := by
  unfold repL
  induction n with
  | zero => simp
  | succ n ih => rw [List.replicate_succ, List.flatten_cons, List.length_append, ih, Nat.mul_succ, Nat.add_comm]
theorem op_mulL : OpR X (binaryOp .Mult) (rMulL X.K) := by
  intro pins s σ H x y v u Q I rx ry h
  obtain ⟨a, xs, i, rfl, rfl, hs, lo, hi, hz, q⟩ := h
  obtain rfl : v = Value.ref a := rx
  obtain ⟨t, rfl⟩ : ∃ t, u = Value.int i t := ry
  obtain ⟨its, rv, ⟨⟨cls, dd, data, sl⟩, n, ho, hc, hdn, hd⟩, hlen⟩ := I.list hs
  have hc1 : cls = Value.type "list" := hc
  have hd1 : data = Data.seq its.toArray n := hd
  subst hc1 hd1
  have hz' : its.toArray.size * i.toNat ≤ 1000 := by rw [List.size_toArray, ← rv.length]; exact hz
  have hsl := sizeLine_eq
  refine wpAny_binaryOp_repeat_ref (T := "list") (U := "int") (by decide) ⟨_, ho, rfl⟩ (fun s' => typeIs_int s' i t) noFill_list_mul F.fills_int_mul F.slot_int_rmul repeat_list F.slot_int_index.lookup (call_meets F.slot_int_rmul (typeIs_int s i t) F.entry_int_rmul (F.args_int_rmul_2 _ _) (lm_int_rmul_list_any i t a its.toArray n dd sl)
    ⟨ho, rfl, ⟨_, ho, rfl⟩, call_meets F.slot_list_mul ⟨_, ho, rfl⟩ F.entry_list_mul (F.args_list_mul_2 _ _) (lm_list_mul_any a its.toArray n dd sl i t (by simp only [Builtin.List.listFitsIndex, Bool.not_eq_true', Bool.and_eq_false_iff, decide_eq_false_iff_not]; omega) (by omega) (by simp only [Builtin.List.listTooLong, decide_eq_true_eq]; omega)) ⟨ho, ?_⟩⟩)
  rw [listMul_foldl_if]
  refine ⟨.ref s.heap.objs.size, upd H s.heap.objs.size (.lst (repL xs i.toNat)), I.laid (t' := s.toks) (fun b o e => Heap.get?_push_of_some _ e) (Nat.le_refl _) ⟨by rw [repL_length]; omega, repL its i.toNat, 0, vals_rep rv _, Heap.get?_push_size _ rfl⟩, rfl, q _ (I.hok.fresh (Nat.le_refl _))⟩
theorem reps.repL {A : Rg} {H : Hp} {vs : List V} {xs : List Val} (r : reps C A H vs xs) : ∀ n : Nat, reps C A H (Y.repL vs n) (Y.repL xs n)
  | 0 => reps_nil
  | n + 1 => by
    show reps C A H ((vs :: List.replicate n vs).flatten) ((xs :: List.replicate n xs).flatten)
    rw [List.flatten_cons, List.flatten_cons]
    exact r.app (reps.repL r n)
def mulF : Val → Val → Option (List Val) := fun x y => match x, y with
  | .lst xs, .int i => if -(2 ^ 62) ≤ i ∧ i < 2 ^ 62 ∧ xs.length * i.toNat ≤ 1000 then some (repL xs i.toNat) else none
  | _, _ => none
theorem of_mulL : OfV C (rMulL C.K) mulF := fun A H u v x y z fr hu hv e Q q => by
  unfold mulF at e
  split at e
  · split at e
    · rename_i h
      cases e
      obtain ⟨a, vs, rfl, na, ha, r⟩ := rep_lst.mp hu
      exact ⟨a, vs, _, rfl, rep_int.mp hv, SqL.of ha, h.1, h.2.1, by rw [r.len]; exact h.2.2, fun p hp => q p _ hp (r.repL _)⟩
    · cases e
  · cases e
end
end Y

set_option Elab.async false
set_option linter.all false
set_option maxRecDepth 100000
set_option maxHeartbeats 4000000
set_option autoImplicit false
/-! WG: slices, chains, None, constants, x, y = new, e; views of own values. -/
namespace Y
open PySem PySem.Spec PyProof.Rows L2 Z
theorem PO.imp {X : Cx} {e : Option Expr} {t t' : TO} (h : PO X e t) (k : ∀ σ H Q, t' σ H Q → t σ H Q) : PO X e t' := ⟨fun pins s σ H Q I q => h.run pins s σ H Q I (k σ H Q q)⟩
abbrev MP := En → Rs (Option Int × En)
def noP : MP := fun ρ => .ok (none, ρ)
def parP (m : ME) : MP := fun ρ => m ρ >>= fun x => match x.1 with | .int i => .ok (some i, x.2) | _ => .bad
def SPt (C : Cn) (E : XK) (m : MP) : TO := fun σ H Q => ∃ B A ρ, Now C B A H σ ρ ∧ (m ρ).wp (fun x => ∀ H', Now C B A H' σ x.2 → Gd σ A H ρ H' x.2 → Q x.1 H') (EXe C E B A H σ ρ)
def cutX {α : Type} (xs : List α) (lo hi : Option Int) : List α := (xs.drop (HT.sIx xs.length 0 lo)).take (HT.sIx xs.length xs.length hi - HT.sIx xs.length 0 lo)
section
variable {X : Cx} {C : Cn} {E : XK} {e a b c tg : Expr} {ma mb mc : ME} {ms mk : MS} {mi : MI} {es : List Expr} {ml : MA} {mf : ML} {pos : Pos} {lo hi : Option Expr} {pl ph : MP}
theorem yp_no : PO X none (SPt C E noP) := PO.imp po_none fun σ H Q ⟨B, A, ρ, N, hm⟩ => hm H N (.refl _ _ _ _)
theorem yp_of (h : PE X e (SE C E ma)) : PO X (some e) (SPt C E (parP ma)) := PO.imp (po_some h) fun σ H Q ⟨B, A, ρ, N, hm⟩ =>
  ⟨B, A, ρ, N, Rs.wp_mono (Rs.wp_bind hm) (fun x hx v H1 N1 g1 r1 => by
    split at hx
    · rename_i i q
      rw [q] at r1
      exact ⟨i, rep_int.mp r1, hx H1 N1 g1⟩
    · exact hx.elim) fun _ _ _ _ h => h⟩
theorem reps.drop {A : Rg} {H : Hp} {vs : List V} : ∀ {xs : List Val} {n : Nat}, reps C A H vs xs → reps C A H (vs.drop n) (xs.drop n) := fun {xs n} r => by
  induction n generalizing vs xs with
  | zero => exact r
  | succ n ih =>
    cases xs with
    | nil => unfold reps at r; subst r; exact reps_nil
    | cons x xs =>
      unfold reps at r
      obtain ⟨v, vs', rfl, h1, h2⟩ := r
      exact ih h2
theorem reps.take {A : Rg} {H : Hp} {vs : List V} : ∀ {xs : List Val} {n : Nat}, reps C A H vs xs → reps C A H (vs.take n) (xs.take n) := fun {xs n} r => by
  induction n generalizing vs xs with
  | zero => exact reps_nil
  | succ n ih =>
    cases xs with
    | nil => unfold reps at r; subst r; exact reps_nil
    | cons x xs =>
      unfold reps at r
      obtain ⟨v, vs', rfl, h1, h2⟩ := r
      exact reps_cons h1 (ih h2)
theorem reps.cut {A : Rg} {H : Hp} {vs : List V} {xs : List Val} (r : reps C A H vs xs) (lo hi : Option Int) : reps C A H (cutV vs lo hi) (cutX xs lo hi) := by
  unfold cutV cutX
  rw [r.len]
  exact (r.drop).take
def slV (x : Val) (lo hi : Option Int) : Option Val := match x with
  | .lst xs => some (.lst (cutX xs lo hi))
  | .tup xs => some (.tup (cutX xs lo hi))
  | _ => none
abbrev rSl2 (K : PySem.W.Frag) : V → Option Int → Option Int → Hp → VK → Prop := fun x lo hi H Q => rSlL K x lo hi H Q ∨ rSlA K x lo hi H Q
theorem sl_2 : SlR X (rSl2 X.K) := fun pins s σ H x v vl vu lo hi sl Q I rx hs pl pu h => h.elim (sl_list pins s σ H x v vl vu lo hi sl Q I rx hs pl pu) (sl_tupA pins s σ H x v vl vu lo hi sl Q I rx hs pl pu)
theorem sIx_all {n : Nat} {lo hi : Option Int} (h : HT.sIx n 0 lo = 0 ∧ HT.sIx n n hi = n) {xs : List Val} (hn : xs.length = n) : cutX xs lo hi = xs := by
  subst hn
  unfold cutX
  rw [h.1, h.2, List.drop_zero, Nat.sub_zero, List.take_length]
def slM (m : ME) (lo hi : MP) : ME := fun ρ => m ρ >>= fun x => lo x.2 >>= fun l => hi l.2 >>= fun u => Rs.opt (slV x.1 l.1 u.1) >>= fun z => .ok (z, u.2)
theorem y_sl {p2 : Pos} (hK : X.K = C.K) (ha : PE X a (SE C E ma)) (hl : PO X lo (SPt C E pl)) (hh : PO X hi (SPt C E ph)) : PE X (.Subscript a (.Slice lo hi none p2) pos) (SE C E (slM ma pl ph)) := PE.imp (pe_slice sl_2 ha hl hh) fun σ H Q ⟨B, A, ρ, N, hm⟩ =>
  ⟨B, A, ρ, N, Rs.wp_mono (Rs.wp_bind hm) (fun x hx v H1 N1 g1 r1 => ⟨B, A, x.2, N1, Rs.wp_mono (Rs.wp_bind hx) (fun l hl H2 N2 g2 => ⟨B, A, l.2, N2, Rs.wp_mono (Rs.wp_bind hl) (fun u hu H3 N3 g3 => by
    obtain ⟨z, e, hz⟩ := Rs.wp_opt (Rs.wp_bind hu)
    rw [hK]
    have g := (g1.trans g2).trans g3
    have r3 := rep.gr g3.g (rep.gr g2.g r1)
    unfold slV at e
    split at e
    · rename_i xs q
      cases e
      rw [q] at r3
      obtain ⟨a, vs, rfl, na, ha, r⟩ := rep_lst.mp r3
      exact .inl ⟨a, vs, rfl, SqL.of ha, fun p hp => hz _ _ (N3.new hp) (g.trans (.same N3 (same_new hp))) (rep_lst.mpr ⟨p, _, rfl, N3.fr p (.of hp), upd_same, reps.gr (gr_new hp) (r.cut _ _)⟩)⟩
    · rename_i xs q
      cases e
      rw [q] at r3
      obtain ⟨a, vs, rfl, ha, r⟩ := rep_tup.mp r3
      refine .inr ⟨a, vs, rfl, ha.sq, fun h => hz _ _ N3 g ?_, fun _ p hp => hz _ _ (N3.new hp) (g.trans (.same N3 (same_new hp))) (rep_tup.mpr ⟨p, _, rfl, .inl ⟨N3.fr p (.of hp), upd_same⟩, reps.gr (gr_new hp) (r.cut _ _)⟩)⟩
      rw [sIx_all (by rw [← r.len]; exact h) rfl]
      exact rep_tup.mpr ⟨a, vs, rfl, ha, r⟩
    · cases e) (EXe.tr (g1.trans g2))⟩) (EXe.tr g1)⟩) fun _ _ _ _ h => h⟩
/-- a slice of an own list, all in it frozen -/
def slO (i : Nat) (lo hi : MP) : ML := fun ρ => lo ρ >>= fun l => hi l.2 >>= fun u => match u.2[i]? with
  | some (some (.ob _ (.olst xs))) => if (xs.all fun x => !x.isO) = true then .ok (cutX xs l.1 u.1, u.2) else .bad
  | _ => .bad
def slOM (i : Nat) (lo hi : MP) : ML := fun ρ => match ρ[i]? with | some (some (.ob _ (.olst _))) => slO i lo hi ρ | _ => .bad
theorem yf_slO {i : Nat} {p2 : Pos} (hK : X.K = C.K) (hv : PE X a (tVar i)) (hl : PO X lo (SPt C E pl)) (hh : PO X hi (SPt C E ph)) : PE X (.Subscript a (.Slice lo hi none p2) pos) (SF C E (slOM i pl ph)) := PE.imp (pe_slice sl_list hv hl hh) fun σ H Q hs => by
  obtain ⟨B, A, ρ, N, hm⟩ := sf_of hs
  unfold slOM at hm
  split at hm
  · rename_i p0 xs0 h0
    obtain ⟨l, vs, hσ, hL, _⟩ := N.lst h0
    unfold slO at hm
    refine ⟨_, hσ, B, A, ρ, N, Rs.wp_mono (Rs.wp_bind hm) (fun lo hlo H1 N1 g1 => ⟨B, A, lo.2, N1, Rs.wp_mono (Rs.wp_bind hlo) (fun u hu H2 N2 g2 => ?_) (EXe.tr g1)⟩) fun _ _ _ _ h => h⟩
    split at hu
    · rename_i p xs h1
      obtain ⟨hf, hu⟩ := ite_bad hu
      obtain ⟨l', ws, hσ', hl', rs, _⟩ := N2.lst h1
      rw [hσ] at hσ'; cases hσ'
      rw [hK]
      exact ⟨l, ws, rfl, SqL.of hl', fun p hp => new_rd N2 (g1.trans g2) hu p _ hp ((rs.reps hf).cut _ _)⟩
    · exact hu.elim
  · exact hm.elim
/-! ### a op b op' c, of comparisons -/
def chnM (f g : Val → Val → Option Val) (a b c : ME) : ME := fun ρ => a ρ >>= fun x => b x.2 >>= fun y => Rs.opt ((f x.1 y.1).bind blV) >>= fun k => if k = true then c y.2 >>= fun z => Rs.opt (g y.1 z.1) >>= fun w => .ok (w, z.2) else .ok (.bl false, y.2)
theorem chn_rd {r r' : R2} {f g : Val → Val → Option Val} (hv : OpV C r f) (hv' : OpV C r' g) : ∀ σ H Q, SE C E (chnM f g ma mb mc) σ H Q → tChain r r' (SE C E ma) (SE C E mb) (SE C E mc) σ H Q := fun σ H Q ⟨B, A, ρ, N, hm⟩ =>
  ⟨B, A, ρ, N, Rs.wp_mono (Rs.wp_bind hm) (fun x hx u H1 N1 g1 r1 => ⟨B, A, x.2, N1, Rs.wp_mono (Rs.wp_bind hx) (fun y hy v H2 N2 g2 r2 => by
    obtain ⟨k, ek, hk⟩ := Rs.wp_opt (Rs.wp_bind hy)
    cases ef : f x.1 y.1 with
    | none => rw [ef] at ek; cases ek
    | some z =>
      rw [ef] at ek
      refine hv A H2 u v x.1 y.1 z N2.fr (rep.gr g2.g r1) r2 ef _ fun w H3 s r3 => ⟨k, blV_rep ek r3, ?_⟩
      have N3 := N2.same s
      have g3 := (g1.trans g2).trans (.same N2 s)
      by_cases h : k = true
      · rw [if_pos h] at hk ⊢
        exact ⟨B, A, y.2, N3, Rs.wp_mono (Rs.wp_bind hk) (fun z' hz' w' H4 N4 g4 r4 => by
          obtain ⟨q, eq, hq⟩ := Rs.wp_opt (Rs.wp_bind hz')
          exact hv' A H4 v w' y.1 z'.1 q N4.fr (rep.gr g4.g (rep.gr (.same s) r2)) r4 eq Q fun w2 H5 s5 r5 => hq w2 H5 (N4.same s5) ((g3.trans g4).trans (.same N4 s5)) r5) (EXe.tr g3)⟩
      · rw [if_neg h] at hk ⊢
        exact hk _ H3 N3 g3 (rep_bl.mpr rfl)) (EXe.tr g1)⟩) fun _ _ _ _ h => h⟩
theorem y_chn {op op' : CmpOp} {r r' : R2} {f g : Val → Val → Option Val} (h : ∀ {ta tb tc : TE}, PE X a ta → PE X b tb → PE X c tc → PE X e (tChain r r' ta tb tc)) (hv : OpV C r f) (hv' : OpV C r' g) (ha : PE X a (SE C E ma)) (hb : PE X b (SE C E mb)) (hc : PE X c (SE C E mc)) : PE X e (SE C E (chnM f g ma mb mc)) := PE.imp (h ha hb hc) (chn_rd hv hv')
theorem yt_of (hK : X.K = C.K) (h : PT X e (tTest (SE C E ma))) : PT X e (SB C E (tstM blV ma)) := PT.imp h fun σ H Q ⟨B, A, ρ, N, hm⟩ =>
  ⟨B, A, ρ, N, Rs.wp_mono (Rs.wp_bind hm) (fun x hx v H' N' g' r' => by
    obtain ⟨k, e, hk⟩ := Rs.wp_opt (Rs.wp_bind hx)
    exact ⟨k, blV_rep e r', hk H' N' g'⟩) fun _ _ _ _ h => h⟩
theorem tst_chn {r r' : R2} {f g : Val → Val → Option Val} (hv : OpV C r f) (hv' : OpV C r' g) (h : PT X e (tTest (tChain r r' (SE C E ma) (SE C E mb) (SE C E mc)))) (hK : X.K = C.K) : PT X e (SB C E (tstM blV (chnM f g ma mb mc))) :=
  yt_of hK (PT.imp h fun σ H Q q => chn_rd hv hv' σ H _ q)
/-! ### is None -/
def noneV : Val → Option Bool | .non => some true | .bl _ => some false | .int _ => some false | .str _ => some false | .lst _ => some false | .tup _ => some false | .dic _ _ => some false | .ins _ _ _ => some false | .err _ _ _ => some false | _ => none
def isNV : Val → Val → Option Val := fun x y => match y with | .non => (noneV x).map .bl | _ => none
def isnotNV : Val → Val → Option Val := fun x y => match y with | .non => (noneV x).map fun b => .bl (!b) | _ => none
theorem noneV_ok {A : Rg} {H : Hp} {v : V} {x : Val} {b : Bool} (r : rep C A H v x) (e : noneV x = some b) : decide (v = V.non) = b := by
  cases x with
  | non => cases e; rw [rep_non.mp r]; simp
  | bl _ => cases e; rw [rep_bl.mp r]; simp
  | int _ => cases e; rw [rep_int.mp r]; simp
  | str _ => cases e; rw [rep_str.mp r]; simp
  | lst _ => cases e; obtain ⟨a, vs, rfl, _⟩ := rep_lst.mp r; simp
  | tup _ => cases e; obtain ⟨a, vs, rfl, _⟩ := rep_tup.mp r; simp
  | dic _ _ => cases e; obtain ⟨a, vs, rfl, _⟩ := rep_dic.mp r; simp
  | ins _ _ _ => cases e; obtain ⟨a, dx, vs, rfl, _⟩ := rep_ins.mp r; simp
  | err _ _ _ => cases e; obtain ⟨a, dx, vs, rfl, _⟩ := rep_err.mp r; simp
  | _ => cases e
theorem ov_isN : OpV C (fun x y H Q => y = .non ∧ Q (.bl (decide (x = .non))) H) isNV := fun A H u v x y z fr hu hv e Q q => by
  unfold isNV at e
  split at e
  · cases e1 : noneV x with
    | none => rw [e1] at e; cases e
    | some k =>
      rw [e1] at e; cases e
      exact ⟨rep_non.mp hv, by rw [noneV_ok hu e1]; exact q _ H (Same.refl H) (rep_bl.mpr rfl)⟩
  · cases e
theorem ov_isnotN : OpV C (fun x y H Q => y = .non ∧ Q (.bl (!decide (x = .non))) H) isnotNV := fun A H u v x y z fr hu hv e Q q => by
  unfold isnotNV at e
  split at e
  · cases e1 : noneV x with
    | none => rw [e1] at e; cases e
    | some k =>
      rw [e1] at e; cases e
      exact ⟨rep_non.mp hv, by rw [noneV_ok hu e1]; exact q _ H (Same.refl H) (rep_bl.mpr rfl)⟩
  · cases e
/-- a module's int -/
theorem y_gint {x : Str} {i : Int} {p : Pos} (hg : Gl X x) (hm : ∃ t, X.mg x = some (.int i t)) (hdb : (x == ("__debug__" : Str)) = false := by decide) : PE X (.Name x p) (SE C E (cstM (.int i))) := by
  obtain ⟨t, hm⟩ := hm
  exact y_cst (pe_glob (v := .int i) hg hm ⟨t, rfl⟩ hdb) fun _ _ => rep_int.mpr rfl
/-! ### a view: an own value read as a frozen one, the answer an atom -/
def Val.atom : Val → Bool | .non => true | .bl _ => true | .int _ => true | .str _ => true | _ => false
def alone (ρ : En) (i : Nat) : Bool := (ρ.set i none).all fun s => match s with | some (.ob _ _) => false | _ => true
def viewM (i : Nat) (m : ME) : ME := fun ρ => match ρ[i]? with
  | some (some (.ob false x)) => if alone ρ i = true then noX (m (ρ.set i (some (.fz x.melt)))) >>= fun r => if r.1.atom = true then .ok (r.1, ρ) else .bad else .bad
  | _ => .bad
theorem alone_no {ρ : En} {i : Nat} (h : alone ρ i = true) {H : Hp} {σ : L2.St} {x : Val} {a : Addr} : ¬ OwnAt H σ (ρ.set i (some (.fz x))) a := fun ⟨j, s, v, h1, _, h3⟩ => by
  cases s with
  | fz _ => cases h3
  | ob p y =>
    rcases getset h1 with ⟨_, e, _⟩ | ⟨n, h1⟩
    · cases e
    · unfold alone at h
      rw [List.all_eq_true] at h
      have h2 : (ρ.set i none)[j]? = some (some (.ob p y)) := by rw [List.getElem?_set_ne (Ne.symm n)]; exact h1
      have := h _ (List.mem_of_getElem? h2)
      cases this
theorem atom_rep {A A' : Rg} {H : Hp} {v : V} {x : Val} (h : x.atom = true) (r : rep C A' H v x) : rep C A H v x := by
  cases x with
  | non => exact rep_non.mpr (rep_non.mp r)
  | bl _ => exact rep_bl.mpr (rep_bl.mp r)
  | int _ => exact rep_int.mpr (rep_int.mp r)
  | str _ => exact rep_str.mpr (rep_str.mp r)
  | _ => cases h
theorem y_view {i : Nat} (h : PE X e (SE C E ma)) : PE X e (SE C E (viewM i ma)) := PE.imp h fun σ H Q ⟨B, A, ρ, N, hm⟩ => by
  unfold viewM at hm
  split at hm
  · rename_i x hx
    obtain ⟨ha, hm⟩ := ite_bad hm
    obtain ⟨v, hσ, _⟩ := N.slot hx
    refine ⟨B, _, _, N.melt hx hσ, noX_wp (Rs.wp_mono (Rs.wp_bind hm) (fun r hr w H' N' g' r' => ?_) fun _ _ _ _ h => h)⟩
    obtain ⟨hat, hr⟩ := ite_bad hr
    have kp : ∀ a o, NT o → H a = some o → H' a = some o := fun a o t e => g'.k a o t e (alone_no ha)
    exact hr w H' (N.kept kp g'.f N'.tb) (.kept N kp g'.f) (atom_rep hat r')
  · exact hm.elim
/-- x, y = a new value, e -/
def parNS (i j : Nat) (m1 : MN) (m2 : ME) : MS := fun ρ => m1 ρ >>= fun x => noX (m2 x.2) >>= fun y => if (freeS y.2 i = true ∧ x.1.isO = true) ∧ freeS (y.2.set i (some (.ob false x.1))) j = true then .ok (.nx ((y.2.set i (some (.ob false x.1))).set j (some (.fz y.1)))) else .bad
theorem ys_parN {i j : Nat} {m1 : MN} {m2 : ME} {st : Stmt} (h : PS X st (tPar i j (tCons (SN C E m1) (tCons (SE C E m2) tNil)))) : PS X st (SS C E (parNS i j m1 m2)) := PS.imp h fun D σ H ⟨B, A, ρ, N, hm⟩ =>
  ⟨B, A, ρ, N, Rs.wp_mono (Rs.wp_bind hm) (fun x hx v H1 N1 n1 => ⟨B, _, x.2, N1, noX_wp (Rs.wp_mono (Rs.wp_bind hx) (fun y hy w H2 N2 g2 r2 => by
    obtain ⟨⟨⟨hf, ho⟩, hf2⟩, hy⟩ := ite_bad hy
    have keep : ∀ a ∈ fl H1 v x.1, H2 a = H1 a := fun a ha => by
      obtain ⟨u, q1, q2⟩ := ro.in n1.r ha
      rw [q1]; exact g2.k a u q2.1 q1 (n1.d a ha).2
    obtain ⟨r', e'⟩ := ro.frame g2.g n1.r keep
    have N3 := N2.own' (x := x.1) (v := v) hf ⟨ho, r', by rw [e']; exact n1.n, fun a ha z => by rw [e'] at ha; exact z.2 ha⟩ (fun a ha => by rw [e'] at ha; exact N.fe a (n1.d a ha).1) fun a ha z => by
      rw [e'] at ha
      rcases g2.o a z with q | q
      · exact (n1.d a ha).2 q
      · obtain ⟨u, q1, q2⟩ := ro.in n1.r ha
        exact q.no q1 q2.1
    exact ⟨v, w, rfl, hy _ _ H2 (N3.set hf2 r2) ((n1.g N).trans g2.g)⟩) fun _ _ _ _ h => h)⟩) EXe.of⟩
end
end Y

set_option Elab.async false
set_option linter.all false
set_option maxRecDepth 100000
set_option maxHeartbeats 4000000
set_option autoImplicit false
/-! WH: name = [.. for ..]. -/
namespace Y
open PySem PySem.Spec PyProof.Rows L2 Z
section
variable {X : Cx} {C : Cn} {E E0 : XK} {mi : MI}
theorem ps_lcW {i : Nat} {y : Str} {py : Pos} {me : MN} {elt tg iter : Expr} {ifs : List Expr} {scope : Scope} {own : List (Str × Nat)} {pos spos : Pos} {is : List Nat} {t : MT} {c : MB} {tt : TT} (hc : X.calm = true) (hN : X.N.Nodup) (hy : X.N[i]? = some y) (hyl : X.env.scope.names.lookup y = some .local)
    (hsw : swapsWith (.ListComp elt [⟨tg, iter, ifs, 0⟩] scope pos) (some (.Name y py)) spos.line X.env = pure true) (hi : PI X tg iter (SI C E mi)) (ok : BlkOk X.N X.env.scope scope own) (hs : ∀ i ∈ is, i ∈ own.map (·.2)) (htt : ∀ σ H Q, SB C E0 c σ H Q → tt σ H Q)
    (hg : ∀ (s : Shared) (H : Hp) (D : Addr) (cl : List (Str × Addr)) (fp : List Addr), PG (X.blk s H scope (compEnvC scope cl D X.env) fp) tg (SG C is t)) (ht : ∀ (s : Shared) (H : Hp) (D : Addr) (cl : List (Str × Addr)) (fp : List Addr), PTs (X.blk s H scope (compEnvC scope cl D X.env) fp) ifs tt)
    (he : ∀ (s : Shared) (H : Hp) (D : Addr) (cl : List (Str × Addr)) (fp : List Addr), PE (X.blk s H scope (compEnvC scope cl D X.env) fp) elt (SN C E0 me)) (hf : ∀ x, foldedSetIterable iter X.env x = pure x := by intro _; rfl) :
    PS X (.Assign [.Name y py] (.ListComp elt [⟨tg, iter, ifs, 0⟩] scope pos) spos) (tAsg (SF C E (compF (own.map (·.2)) mi t c me)) (gName i)) := PS.imp (ps_setLc hc hN hy hyl hsw hi ok hg ht he hf) fun D σ H h => lc_rd hs (fun _ _ _ h => h) htt σ H _ h
/-- .. its value frozen -/
theorem ys_asgF {i : Nat} {st : Stmt} {m : ML} (h : PS X st (tAsg (SF C E m) (gName i))) : PS X st (SS C E (asgS i (listM m))) := ys_asg (PS.imp h fun D σ H ⟨B, A, ρ, N, hm⟩ => SE.ofN σ H _ ⟨B, A, ρ, N, by
  unfold meltM ownL
  unfold listM at hm
  have e : ∀ xs : List Val, (Val.olst xs).melt = .lst (melts xs) := fun xs => by unfold Val.melt; rfl
  exact Rs.bind_wp (Rs.bind_wp (Rs.wp_mono (Rs.wp_bind hm) (fun x hx v H' N' g' r' => hx v H' N' g' (by rw [← e]; exact r')) fun _ _ _ _ h => h))⟩)
end
end Y

set_option Elab.async false
set_option linter.all false
set_option maxRecDepth 100000
set_option maxHeartbeats 4000000
set_option autoImplicit false
/-! WJ: instances of the program's classes: made, their fields stored and read, methods. -/
namespace Y
open PySem PySem.Spec PyProof.Rows L2 Z
section
variable {X : Cx} {C : Cn} {E : XK} {e a b tg : Expr} {ma mb : ME} {ms mk : MS} {mi : MI} {es : List Expr} {ml : MA} {mf : ML} {pos : Pos}
/-! ### fields read -/
theorem lookup_zip {A : Rg} {H : Hp} {f : Str} {x : Val} : ∀ {ns : List Str} {xs : List Val} {vs : List V}, reps C A H vs xs → (ns.zip xs).lookup f = some x → ∃ v, (ns.zip vs).lookup f = some v ∧ rep C A H v x
  | [], _, _, _, h => by cases h
  | n :: ns, [], _, _, h => by cases h
  | n :: ns, y :: ys, vs, r, h => by
    unfold reps at r
    obtain ⟨v, r', rfl, h1, h2⟩ := r
    simp only [List.zip_cons_cons, List.lookup_cons] at h ⊢
    cases e : f == n with
    | true => rw [e] at h; cases h; exact ⟨v, rfl, h1⟩
    | false => rw [e] at h; exact lookup_zip h2 h
theorem lookup_zipO {A : Rg} {H : Hp} {f : Str} {x : Val} : ∀ {ns : List Str} {xs : List Val} {vs : List V}, ros C A H vs xs → (ns.zip xs).lookup f = some x → ∃ v, (ns.zip vs).lookup f = some v ∧ ro C A H v x
  | [], _, _, _, h => by cases h
  | n :: ns, [], _, _, h => by cases h
  | n :: ns, y :: ys, vs, r, h => by
    unfold ros at r
    obtain ⟨v, r', rfl, h1, h2⟩ := r
    simp only [List.zip_cons_cons, List.lookup_cons] at h ⊢
    cases e : f == n with
    | true => rw [e] at h; cases h; exact ⟨v, rfl, h1⟩
    | false => rw [e] at h; exact lookup_zipO h2 h
/-- e.f, e an instance of the class c -/
def fldV (c0 : Nat) (f : Str) : Val → Option Val := fun x => match x with
  | .ins c ns xs => if c = c0 then (ns.zip xs).lookup f else none
  | _ => none
theorem fld_rd {c0 : Nat} {f : Str} (hc : Cls C.K (C.ca c0)) (hn : NoAttr C.K (C.ca c0) f) : ∀ σ H Q, SE C E (unM (fldV c0 f) ma) σ H Q → tFld C.K (SE C E ma) f σ H Q := fun σ H Q ⟨B, A, ρ, N, hm⟩ =>
  ⟨B, A, ρ, N, Rs.wp_mono (Rs.wp_bind hm) (fun x hx v H' N' g' r' => by
    obtain ⟨z, ez, hz⟩ := Rs.wp_opt (Rs.wp_bind hx)
    unfold fldV at ez
    split at ez
    · rename_i c ns xs q
      split at ez
      · rename_i h
        subst h
        rw [q] at r'
        obtain ⟨p, dx, vs, rfl, na, nd, h1, h2, h3, h4⟩ := rep_ins.mp r'
        obtain ⟨u, e1, ru⟩ := lookup_zip h4 ez
        exact ⟨p, _, dx, _, u, rfl, h1, hc, hn, e1, hz u H' N' g' ru⟩
      · cases ez
    · cases ez) fun _ _ _ _ h => h⟩
theorem y_fld {c0 : Nat} {f : Str} (hK : X.K = C.K) (hc : Cls C.K (C.ca c0)) (hn : NoAttr C.K (C.ca c0) f) (ha : PE X a (SE C E ma)) (hb : attributeBase a f X.env (eval a X.env) = eval a X.env := by rfl) : PE X (.Attribute a f pos) (SE C E (unM (fldV c0 f) ma)) := by
  refine PE.imp (pe_fld ha hb) ?_
  rw [hK]
  exact fld_rd hc hn
/-- x.f of an own instance, what the field holds frozen -/
def fldO (i c0 : Nat) (f : Str) : ME := fun ρ => match ρ[i]? with
  | some (some (.ob _ (.oins c ns xs))) => if c = c0 then Rs.opt ((ns.zip xs).lookup f) >>= fun z => if z.isO = false then .ok (z, ρ) else .bad else .bad
  | _ => .bad
theorem Now.oins {B : Bs} {A : Rg} {H : Hp} {σ : L2.St} {ρ : En} {i c : Nat} {p : Bool} {ns : List Str} {xs : List Val} (N : Now C B A H σ ρ) (h : ρ[i]? = some (some (.ob p (.oins c ns xs)))) : ∃ l dx vs, σ[i]? = some (some (.ref l)) ∧ A dx ∧ H l = some (.ins (C.ca c) dx (ns.zip vs)) ∧ H dx = some (.own l) ∧ ns.length = xs.length ∧ ros C A H vs xs ∧ slr C A H (.ref l) (.ob p (.oins c ns xs)) ∧ ¬ A l ∧ l ∉ fls H vs xs := by
  obtain ⟨v, h1, h2⟩ := N.slot h
  obtain ⟨o, r, n, d⟩ := h2
  obtain ⟨l, dx, vs, rfl, ad, k, k2, hl, rs⟩ := ro_oins.mp r
  have e := fl_oins (k := c) (xs := xs) k (by rw [rs.len]; exact hl)
  refine ⟨l, dx, vs, h1, ad, k, k2, hl, rs, ⟨o, r, n, d⟩, d l (by rw [e]; exact .head _), ?_⟩
  rw [e] at n
  exact (List.nodup_cons.mp n).1
theorem y_fldO {i c0 : Nat} {f : Str} (hK : X.K = C.K) (hc : Cls C.K (C.ca c0)) (hn : NoAttr C.K (C.ca c0) f) (h : PE X a (tVar i)) (hb : attributeBase a f X.env (eval a X.env) = eval a X.env := by rfl) : PE X (.Attribute a f pos) (SE C E (fldO i c0 f)) := by
  refine PE.imp (pe_fld h hb) ?_
  rw [hK]
  intro σ H Q ⟨B, A, ρ, N, hm⟩
  unfold fldO at hm
  split at hm
  · rename_i p c ns xs h0
    obtain ⟨hcc, hm2⟩ := ite_bad hm
    subst hcc
    obtain ⟨z, ez, hz⟩ := Rs.wp_opt (Rs.wp_bind hm2)
    obtain ⟨ho, hz⟩ := ite_bad hz
    obtain ⟨l, dx, vs, hσ, _, hl, _, _, rs, _⟩ := N.oins h0
    obtain ⟨u, e1, ru⟩ := lookup_zipO rs ez
    exact ⟨_, hσ, l, _, dx, _, u, rfl, hl, hc, hn, e1, hz u H N (.refl _ _ _ _) ((ro_fz ho).mp ru)⟩
  · exact hm.elim
/-! ### a field stored -/
theorem putF_new {f : Str} {v : V} : ∀ {fs : List (Str × V)}, (∀ p ∈ fs, p.1 ≠ f) → putF f v fs = fs ++ [(f, v)]
  | [], _ => rfl
  | (g, w) :: fs, h => by
    have h1 : g ≠ f := h (g, w) (.head _)
    have ih := putF_new (f := f) (v := v) (fs := fs) fun p hp => h p (.tail _ hp)
    show (if g = f then (g, v) :: fs else (g, w) :: putF f v fs) = (g, w) :: (fs ++ [(f, v)])
    rw [if_neg h1, ih]
/-- x.f = e, x an own instance that has no such field yet -/
def setFS (i c0 : Nat) (f : Str) (m : ME) : MS := fun ρ => m ρ >>= fun x => match x.2[i]? with
  | some (some (.ob p (.oins c ns xs))) => if c = c0 ∧ f ∉ ns ∧ xs.length < 1000 then .ok (.nx (x.2.set i (some (.ob p (.oins c (ns ++ [f]) (xs ++ [x.1])))))) else .bad
  | _ => .bad
theorem zip_app {α β : Type} : ∀ {ns : List α} {vs : List β} {n : α} {v : β}, ns.length = vs.length → (ns ++ [n]).zip (vs ++ [v]) = ns.zip vs ++ [(n, v)]
  | [], [], _, _, _ => rfl
  | [], _ :: _, _, _, h => by cases h
  | _ :: _, [], _, _, h => by cases h
  | a :: ns, b :: vs, n, v, h => by simp [zip_app (ns := ns) (vs := vs) (by simpa using h)]
theorem ys_setF {i c0 : Nat} {f : Str} {st : Stmt} (hK : X.K = C.K) (hc : Cls C.K (C.ca c0)) (hn : NoAttr C.K (C.ca c0) f) (h : PS X st (sFld X.K (tVar i) (SE C E ma) f)) : PS X st (SS C E (setFS i c0 f ma)) := PS.imp h fun D σ H ⟨B, A, ρ, N, hm⟩ =>
  ⟨B, A, ρ, N, Rs.wp_mono (Rs.wp_bind hm) (fun x hx v H1 N1 g1 r1 => by
    split at hx
    · rename_i p c ns xs h0
      obtain ⟨⟨hcc, hf, hz⟩, hx2⟩ := ite_bad hx
      subst hcc
      obtain ⟨l, dx, vs, hσ, ad, hl, hd, hlen, rs, s0, nA, nl⟩ := N1.oins h0
      have lv : ns.length = vs.length := by rw [rs.len]; exact hlen
      have pf : putF f v (ns.zip vs) = (ns ++ [f]).zip (vs ++ [v]) := by
        rw [zip_app lv, putF_new]
        intro q hq z
        exact hf (by rw [← z]; exact (List.of_mem_zip hq).1)
      have ndl : dx ≠ l := fun z => by rw [z, hl] at hd; cases hd
      refine ⟨_, hσ, l, _, dx, _, rfl, hl, by rw [hK]; exact hc, by rw [hK]; exact hn, by rw [List.length_zip, rs.len]; omega, ?_⟩
      rw [pf]
      have q := rs.keep (H' := upd H1 l (.ins (C.ca c) dx ((ns ++ [f]).zip (vs ++ [v])))) nA nl fun a n => upd_ne n
      have r2 := rep.keep (l := l) (H' := upd H1 l (.ins (C.ca c) dx ((ns ++ [f]).zip (vs ++ [v])))) nA (fun a n => upd_ne n) r1
      have rs' : ros C A (upd H1 l (.ins (C.ca c) dx ((ns ++ [f]).zip (vs ++ [v])))) (vs ++ [v]) (xs ++ [x.1]) := q.1.append (ros_cons r2.ro ros_nil)
      have e0 := fl_oins (k := c) (xs := xs) hl lv
      have e1 : fl (upd H1 l (.ins (C.ca c) dx ((ns ++ [f]).zip (vs ++ [v])))) (.ref l) (.oins c (ns ++ [f]) (xs ++ [x.1])) = fl H1 (.ref l) (.oins c ns xs) := by
        rw [fl_oins upd_same (by rw [List.length_append, List.length_append, lv]; rfl), fls_append rs.len, q.2, fls_fz (reps_cons r2 reps_nil), List.append_nil, e0]
      obtain ⟨io, _, n, d⟩ := s0
      obtain ⟨N2, g2⟩ := N1.put (s := .ob p (.oins c ns xs)) (s' := .ob p (.oins c (ns ++ [f]) (xs ++ [x.1]))) (l := l) (o := .ins (C.ca c) dx ((ns ++ [f]).zip (vs ++ [v]))) h0 hσ (by show l ∈ fl H1 (.ref l) (.oins c ns xs); rw [e0]; exact .head _) nt rfl rfl
        ⟨rfl, ro_oins.mpr ⟨l, dx, _, rfl, ad, upd_same, by rw [upd_ne ndl]; exact hd, by simp [hlen], rs'⟩, by rw [e1]; exact n, by rw [e1]; exact d⟩ e1
      exact hx2 A σ _ N2 (g1.g.trans g2.g)
    · exact hx.elim) EXe.of⟩
/-! ### an instance made -/
def makeM (c np n : Nat) (body : MS) (a : MA) : MN := fun ρ => a ρ >>= fun x => if x.1.length + 1 = np ∧ np ≤ n then (match runO n body (.ob false (.oins c [] [])) x.1 with
  | .ok r => (match r.1, r.2 with | .non, .ob _ y => .ok (y, x.2) | _, _ => .bad)
  | .exc c' ns vs _ => .exc c' ns vs x.2
  | .bad => .bad) else .bad
theorem fz_upd {H : Hp} {l p : Addr} {o : HO} (n : NT o) (h : Fz (upd H l o) p) : p ≠ l ∧ Fz H p := by
  have e : p ≠ l := fun z => by rw [z] at h; exact h.no upd_same n
  exact ⟨e, fun u z => h u (by rw [upd_ne e]; exact z)⟩
theorem make_rd {c np n : Nat} {body : MS} : ∀ σ H Q, SN C E (makeM c np n body ml) σ H Q → tMake (C.ca c) (spF C np n body) [] E (SA C E ml) σ H Q := fun σ H Q ⟨B, A, ρ, N, hm⟩ =>
  ⟨B, A, ρ, N, Rs.wp_mono (Rs.wp_bind hm) (fun x hx vs H1 N1 g1 r1 => by
    intro q dx hq hdx ne
    rw [List.append_nil]
    obtain ⟨⟨hl, hn⟩, hx⟩ := ite_bad hx
    -- the heap with the new instance
    generalize eH : upd (upd H1 dx (.own q)) q (.ins (C.ca c) dx []) = H2
    have H2q : H2 q = some (.ins (C.ca c) dx []) := by rw [← eH]; exact upd_same
    have H2d : H2 dx = some (.own q) := by rw [← eH, upd_ne ne]; exact upd_same
    have H2o : ∀ a o, H1 a = some o → H2 a = some o := fun a o h => by
      rw [← eH, upd_ne (fun z => by rw [z, hq] at h; cases h), upd_ne (fun z => by rw [z, hdx] at h; cases h)]; exact h
    have fz2 : ∀ a, Fz H2 a → a ≠ q ∧ Fz H1 a := fun a h => by
      rw [← eH] at h
      obtain ⟨n1, h⟩ := fz_upd nt h
      obtain ⟨n2, h⟩ := fz_upd nt h
      exact ⟨n1, h⟩
    have A2 : ∀ a, lessL A [q] a ↔ A a ∧ a ≠ q := fun a => ⟨fun h => ⟨h.1, fun z => h.2 (by rw [z]; exact .head _)⟩, fun h => ⟨h.1, fun z => h.2 (List.mem_singleton.mp z)⟩⟩
    have gr : Gr A H1 (lessL A [q]) H2 := fun a o t ha h => ⟨(A2 a).mpr ⟨ha, fun z => by rw [z, hq] at h; cases h⟩, H2o a o h⟩
    have r2 := reps.gr gr r1
    have fr2 : Fq (lessL A [q]) H2 := fun p h => (A2 p).mpr ⟨N1.fr p (fz2 p h).2, (fz2 p h).1⟩
    have tb2 : LamX.Tabs C.T H2 := N1.tb.ext fun a o h => H2o a o h
    have fl0 : fl H2 (.ref q) (.oins c [] []) = [q] := by
      rw [fl_oins (vs := []) (ns := []) H2q rfl]
      rfl
    have ef := env_fz r2
    have env : EnvR C (lessL A [q]) H2 ((V.ref q :: vs).map some) (some (.ob true (.oins c [] [])) :: x.1.map fun x => some (.fz x)) := by
      refine ⟨by simp [r2.len], fun j t h => ?_, fun j k t u v w jk hj hk ev ew a ha hb => ?_⟩
      · cases j with
        | zero =>
          simp at h; subst h
          refine ⟨_, rfl, rfl, ro_oins.mpr ⟨q, dx, [], rfl, (A2 dx).mpr ⟨N1.fr dx (.of hdx), ne⟩, H2q, H2d, rfl, ros_nil⟩, by rw [fl0]; simp, fun a ha => ?_⟩
          rw [fl0, List.mem_singleton] at ha
          subst ha
          exact fun z => ((A2 _).mp z).2 rfl
        | succ j => exact ef.sl j t (by simpa using h)
      · cases j with
        | zero =>
          cases k with
          | zero => exact absurd rfl jk
          | succ k => exact no_own (H := H2) (vs := vs) (xs := x.1) ⟨k, u, w, by simpa using hk, by simpa using ew, hb⟩
        | succ j => exact no_own (H := H2) (vs := vs) (xs := x.1) ⟨j, t, v, by simpa using hj, by simpa using ev, ha⟩
    have own1 : ∀ {a : Addr}, OwnAt H2 ((V.ref q :: vs).map some) (some (.ob true (.oins c [] [])) :: x.1.map fun x => some (.fz x)) a → a = q := fun {a} => by
      rintro ⟨j, t, v, h1, h2, h3⟩
      cases j with
      | zero =>
        simp at h1 h2; subst h1 h2
        have h3 : a ∈ fl H2 (.ref q) (.oins c [] []) := h3
        rw [fl0, List.mem_singleton] at h3
        exact h3
      | succ j => exact (no_own (H := H2) (vs := vs) (xs := x.1) ⟨j, t, v, by simpa using h1, by simpa using h2, h3⟩).elim
    have kept : ∀ {H' : Hp} {ρ' : En}, Aft C (lessL A [q]) (V.ref q :: vs) (some (.ob true (.oins c [] [])) :: x.1.map fun x => some (.fz x)) H2 H' ρ' → (∀ a o, NT o → H1 a = some o → H' a = some o) ∧ (∀ a, Fz H' a → Fz H1 a) := fun {H' ρ'} af =>
      ⟨fun a o t h => af.kp a o t (fun z => by rw [own1 z, hq] at h; cases h) (H2o a o h), fun a h => (fz2 a (af.fe a h)).2⟩
    refine ⟨lessL A [q], _, fr2, tb2, by rw [List.length_cons, r2.len]; exact hl, hn, env, fun j t h o => ?_, ?_⟩
    · cases j with
      | zero => simp at h; subst h; rfl
      | succ j => exact fz_pin j t (by simpa using h) o
    · unfold runO at hx
      rw [show SV.setPin true (.ob false (.oins c [] [])) = .ob true (.oins c [] []) from rfl] at hx
      cases e : finM (body (padE (some (.ob true (.oins c [] [])) :: x.1.map fun x => some (.fz x)) n)) with
      | bad => rw [e] at hx; exact hx.elim
      | ok r =>
        rw [e] at hx
        dsimp only at hx
        intro v H' af rv
        cases e2 : r.2[0]? with
        | none => rw [e2] at hx; exact hx.elim
        | some t =>
          cases t with
          | none => rw [e2] at hx; exact hx.elim
          | some s' =>
            rw [e2] at hx
            dsimp only at hx
            by_cases hf : s'.flat = true
            · rw [if_pos hf] at hx
              obtain ⟨w, s2, e1, e3, o', p', rr⟩ := af.ow 0 _ rfl rfl
              rw [e2] at e3; cases e3
              cases e1
              obtain ⟨sl, sub⟩ := rr hf
              dsimp only at hx
              split at hx
              · rename_i r1' y p y' q1 q2
                cases s' with
                | fz z => cases o'
                | ob p2 z =>
                  cases q2
                  obtain ⟨io, rz, nd, dd⟩ := sl
                  obtain ⟨l, el, fz⟩ := fl_flat (C := C) hf rz
                  cases el
                  have rv : rep C (lessL A [q]) H' v .non := by rw [← q1]; exact rv
                  refine ⟨rep_non.mp rv, ?_⟩
                  obtain ⟨kp, fe⟩ := kept af
                  have N2 := N1.kept kp fe af.tb
                  have gg : Gr A H1 (lessL A [q]) H' := fun a o t n h => ⟨(A2 a).mpr ⟨n, fun z => by rw [z, hq] at h; cases h⟩, kp a o t h⟩
                  have nown : ¬ OwnAt H' σ x.2 q := fun z => by
                    obtain ⟨j, s, w, k1, k2, k3⟩ := z
                    obtain ⟨_, ee⟩ := N1.env.frame (A' := A) (H' := H') (fun a o t n h => ⟨n, kp a o t h⟩) fun b hb => by
                      obtain ⟨n, u, h1, h2⟩ := N1.own hb
                      exact ⟨by rw [h1]; exact kp b u h2.1 h1, n⟩
                    rw [ee j s w k1 k2] at k3
                    obtain ⟨_, u', h3, h4⟩ := N1.own ⟨j, s, w, k1, k2, k3⟩
                    rw [hq] at h3; cases h3
                  have o3 : ∀ a, OwnAt H' σ x.2 a → OwnAt H1 σ x.2 a ∨ Fz H1 a := (Gd.kept N1 kp fe).o
                  rw [← fz] at gg rz
                  refine hx (.ref q) H' ?_ (Gm.tr g1 ⟨o3, fun a o t h _ => kp a o t h, fe, rz, nd, fun a ha => ?_⟩)
                  · refine N1.frame gg (fun a h => ?_) (fun p h => ?_) (fun a h => N1.le a h.1) (fun a o t z h => kp a o t (N1.kp a o t z h)) af.tb fun a h => N1.fe a (fe a h)
                    · obtain ⟨n, u, h1, h2⟩ := N1.own h
                      exact ⟨by rw [h1]; exact kp a u h2.1 h1, fun z => n z.1⟩
                    · rw [fz]
                      exact fr2 p (af.fe p h)
                  · rw [fz, List.mem_singleton] at ha
                    subst ha
                    exact ⟨.of hq, nown⟩
              · exact hx.elim
            · rw [if_neg hf] at hx; exact hx.elim
      | exc c' ns xs ρ' =>
        rw [e] at hx
        dsimp only at hx
        intro d ws H' af hd h1 h2 h3
        cases e2 : ρ'[0]? with
        | none => rw [e2] at hx; exact hx.elim
        | some t =>
          cases t with
          | none => rw [e2] at hx; exact hx.elim
          | some s' =>
            rw [e2] at hx
            dsimp only at hx
            by_cases hf : s'.flat = true
            · rw [if_pos hf] at hx
              obtain ⟨kp, fe⟩ := kept af
              exact hx d ws H' (N1.kept kp fe af.tb) (g1.trans (.kept N1 kp fe)) hd.1 h1 h2 (reps.gr gr_lessL h3)
            · rw [if_neg hf] at hx; exact hx.elim) fun _ _ _ _ h => h⟩
/-! ### methods of a frozen instance -/
theorem lookup_no {m : Str} : ∀ {ns : List Str} {vs : List V}, m ∉ ns → (ns.zip vs).lookup m = none
  | [], _, _ => rfl
  | _ :: _, [], _ => rfl
  | n :: ns, v :: vs, h => by
    simp only [List.zip_cons_cons, List.lookup_cons]
    have h1 : m ≠ n := fun z => h (by rw [z]; exact .head _)
    cases e : m == n with
    | true => exact absurd (beq_iff_eq.mp e) h1
    | false => exact lookup_no fun z => h (.tail _ z)
def methM (c0 : Nat) (m : Str) (np n : Nat) (body : MS) (ma : ME) (a : MA) : ME := fun ρ => ma ρ >>= fun o => match o.1 with
  | .ins c ns _ => if c = c0 ∧ m ∉ ns then a o.2 >>= fun x => if (o.1 :: x.1).length = np ∧ np ≤ n then reE (runF n body (o.1 :: x.1)) x.2 >>= fun r => .ok (r.1, x.2) else .bad else .bad
  | _ => .bad
theorem meth_rd {c0 np n : Nat} {m : Str} {body : MS} : ∀ σ H Q, SE C E (methM c0 m np n body ma ml) σ H Q → tMeth (C.ca c0) m (spF C np n body) [] E (SE C E ma) (SA C E ml) σ H Q := fun σ H Q ⟨B, A, ρ, N, hm⟩ =>
  ⟨B, A, ρ, N, Rs.wp_mono (Rs.wp_bind hm) (fun o ho v H1 N1 g1 r1 => by
    split at ho
    · rename_i c ns xs q
      obtain ⟨⟨hc, hf⟩, ho2⟩ := ite_bad ho
      subst hc
      have r1' := r1
      rw [q] at r1'
      obtain ⟨p, dx, vs, ep, na, nd, h1, h2, h3, h4⟩ := rep_ins.mp r1'
      refine ⟨p, dx, _, ep, h1, lookup_no hf, B, A, o.2, N1, Rs.wp_mono (Rs.wp_bind ho2) (fun x hx us H2 N2 g2 r2 => ?_) (EXe.tr g1)⟩
      show spF C np n body (v :: (us ++ [])) H2 Q E
      rw [List.append_nil]
      exact call_core N2 (reps_cons (rep.gr g2.g r1) r2) (Rs.wp_mono hx (fun y hy v H3 N3 g3 r3 => hy v H3 N3 ((g1.trans g2).trans g3) r3) (EXe.tr (g1.trans g2)))
    · exact ho.elim) fun _ _ _ _ h => h⟩
theorem meth0_rd {c0 np n : Nat} {m : Str} {body : MS} : ∀ σ H Q, SE C E (methM c0 m np n body ma nilA) σ H Q → tMeth (C.ca c0) m (spF C np n body) [] E (SE C E ma) tNil σ H Q := fun σ H Q ⟨B, A, ρ, N, hm⟩ =>
  ⟨B, A, ρ, N, Rs.wp_mono (Rs.wp_bind hm) (fun o ho v H1 N1 g1 r1 => by
    split at ho
    · rename_i c ns xs q
      obtain ⟨⟨hc, hf⟩, ho2⟩ := ite_bad ho
      subst hc
      have r1' := r1
      rw [q] at r1'
      obtain ⟨p, dx, vs, ep, na, nd, h1, h2, h3, h4⟩ := rep_ins.mp r1'
      refine ⟨p, dx, _, ep, h1, lookup_no hf, ?_⟩
      show spF C np n body (v :: ([] ++ [])) H1 Q E
      exact call_core N1 (reps_cons r1 reps_nil) (Rs.wp_mono (show Rs.wp (if ([o.1] : List Val).length = np ∧ np ≤ n then reE (runF n body [o.1]) o.2 >>= fun r => .ok (r.1, o.2) else .bad) _ _ from ho2) (fun y hy v H3 N3 g3 r3 => hy v H3 N3 (g1.trans g3) r3) (EXe.tr g1))
    · exact ho.elim) fun _ _ _ _ h => h⟩
end
end Y

set_option Elab.async false
set_option linter.all false
set_option maxRecDepth 100000
set_option maxHeartbeats 4000000
set_option autoImplicit false
/-! WK: setdefault where the keys are tuples. -/
namespace Y
open PySem PySem.Spec PyProof.Rows L2 Z
section
variable {X : Cx} {pins : List (Addr × Obj)} {σ : L2.St} {H : Hp} {s : Shared} {a b : Addr} {r : Value} {d : V} {k : List Key} {A : Around} {E : Value → Shared → Prop}
theorem d_setdT {kvs : List (List Key × V)} {Q : Value → Shared → Prop} (hu : A.units + 1 < cLine) (I : L2.Inv X pins σ H s) (e : H a = some (.dT kvs)) (eb : H b = some (.tup (k.map kV))) (rd : RelV d r) (hl : kvs.length < sizeLine)
    (h1 : ∀ v, valV kvs k = some v → ∀ (w' : Value) (s' : Shared), L2.Inv X pins σ H s' → RelV v w' → Q w' s') (h2 : valV kvs k = none → ∀ (w' : Value) (s' : Shared), L2.Inv X pins σ (upd H a (.dT (putK kvs k d))) s' → RelV d w' → Q w' s') :
    wpAny (model X.prog X.w) A (call (.builtin "dict.setdefault") [.ref a, .ref b, r]) Q E s := by
  obtain ⟨_, hd, xs, rel, dd⟩ := dt_of I.hok e
  have hz : xs.length ≤ sizeLine := Nat.le_of_lt (by rw [← Paired.length rel]; exact hl)
  refine call_setdefault_heap (hsz := hz) (tupleKind_room_in1 hu) (key_of I.hok eb) hd dd (fun p hp => ?_) fun hn h' dd' hs => ?_
  · obtain ⟨v0, hv⟩ : ∃ v0, valV kvs k = some v0 := by
      cases hv : valV kvs k with
      | some v0 => exact ⟨v0, rfl⟩
      | none =>
        have q := rel.val k
        rw [hv, hp] at q
        exact q.elim
    have q := rel.val k
    rw [hv, hp] at q
    exact h1 v0 hv _ _ (I.tok _) q
  · have hv : valV kvs k = none := by
      have q := rel.val k
      rw [hn] at q
      cases hv : valV kvs k with
      | none => rfl
      | some v0 => rw [hv] at q; exact q.elim
    have hl2 : (putK kvs k d).length ≤ sizeLine := by
      have := length_putK kvs k d
      omega
    obtain ⟨q, es, ep, hq, g2, g3, g4, _, g5⟩ := dd'
    refine h2 hv _ _ (d_write I (by rw [e]; exact True.intro) hs ⟨q, hq⟩ ⟨hl2, hd, _, (rel.put k eb rd).keeps fun c ys ec => ?_, q, es, ep, hq, g2, g3, g4, g5⟩) rd
    rw [upd_ne (L2.ne_of ec e fun z => nomatch z)]
    exact ec
end
/-- d.setdefault(y, z), the keys tuples -/
def tDSetdT (td ty tx : TE) : TE := fun σ H Q => td σ H fun x H1 => ∃ a, x = .ref a ∧ IsD H1 a ∧ ty σ H1 fun y H2 => tx σ H2 fun z H3 => ∃ (kvs : List (List Key × V)) (k : List Key) (b : Addr), H3 a = some (.dT kvs) ∧ y = .ref b ∧ H3 b = some (.tup (k.map kV)) ∧ kvs.length < sizeLine ∧
  (∀ v, valV kvs k = some v → Q v H3) ∧ (valV kvs k = none → Q z (upd H3 a (.dT (putK kvs k z))))
section
variable {X : Cx} {o e f : Expr} {td ty tx : TE} {apos cpos : Pos}
/-- .. of either kind -/
theorem pe_dsetd2 (hu : X.A.units + 1 < cLine) (ho : PE X o td) (he : PE X e ty) (hf : PE X f tx) (m : M2 X o "setdefault" apos e f cpos) : PE X (.Call (.Attribute o "setdefault" apos) [e, f] [] cpos) (fun σ H Q => tDSetd td ty tx σ H Q ∨ tDSetdT td ty tx σ H Q) := by
  refine ⟨fun pins s σ H Q I h => ?_⟩
  rcases h with h | h
  · exact (pe_dsetd ho he hf m).run pins s σ H Q I h
  refine wpAny_Call_method m.base m.few m.line PySem.F.plainAttrs_dict PySem.F.slot_dict_setdefault PySem.F.type_dict_setdefault (thn (ho.run pins s σ H _ I h) fun u s1 ⟨x, H1, I1, rx, a, ex, d, q1⟩ => ?_)
  subst ex
  obtain rfl : u = Value.ref a := rx
  obtain ⟨t1, t2, _⟩ := isD_at I1 d
  refine ⟨t1, t2, ?_⟩
  rw [m.trees]
  refine Calls.callWith_builtin rfl (Calls.evalArgs_plain (Calls.spliced_cons (thn (he.run pins s1 σ H1 _ I1 q1) fun iv s2 ⟨y, H2, I2, ry, q2⟩ =>
    Calls.spliced_cons (thn (hf.run pins s2 σ H2 _ I2 q2) fun fv s3 ⟨z, H3, I3, rz, kvs, k, b, ea, ey, eb, hl, q3, q4⟩ => Calls.spliced_nil ?_))))
  subst ey
  obtain rfl : iv = Value.ref b := ry
  exact d_setdT hu I3 ea eb rz hl (fun v hv w' s4 I4 rw' => ⟨v, _, I4, rw', q3 v hv⟩) fun hn w' s4 I4 rw' => ⟨z, _, I4, rw', q4 hn⟩
end
end Y

set_option Elab.async false
set_option linter.all false
set_option maxRecDepth 100000
set_option maxHeartbeats 4000000
set_option autoImplicit false
/-! WL: own trees changed within; the first that stands twice. -/
namespace Y
open PySem PySem.Spec PyProof.Rows L2 Z
section
variable {X : Cx} {C : Cn} {E : XK} {e a b tg : Expr} {ma mb : ME} {ms mk : MS} {mi : MI} {es : List Expr} {ml : MA} {mf : ML} {pos : Pos}
/-- one child changes, its addresses are as they were -/
theorem ros.upd {A : Rg} {H H' : Hp} (g : Gr A H A H') {x x' : Val} {v : V} (r' : ro C A H' v x') (e' : fl H' v x' = fl H v x) (k : ∀ a, a ∉ fl H v x → (∃ u, H a = some u ∧ OwnO u) → H' a = H a) :
    ∀ {xs : List Val} {vs : List V} {n : Nat}, ros C A H vs xs → xs[n]? = some x → vs[n]? = some v → (fls H vs xs).Nodup → ros C A H' vs (xs.set n x') ∧ fls H' vs (xs.set n x') = fls H vs xs
  | [], _, _, _, h, _, _ => by simp at h
  | y :: ys, vs, n, r, h, hv, nd => by
    unfold ros at r
    obtain ⟨w, ws, rfl, h1, h2⟩ := r
    rw [fls_cons] at nd
    obtain ⟨nd1, nd2, dj⟩ := List.nodup_append.mp nd
    cases n with
    | zero =>
      simp at h hv
      subst h hv
      obtain ⟨q1, q2⟩ := ros.frame g h2 fun a ha => by
        obtain ⟨u, hu⟩ := (show ∃ u, H a = some u ∧ OwnO u from by
          have : ∀ {xs : List Val} {vs : List V}, ros C A H vs xs → a ∈ fls H vs xs → ∃ u, H a = some u ∧ OwnO u := by
            intro xs
            induction xs with
            | nil => intro vs _ z; unfold fls at z; cases z
            | cons z zs ih =>
              intro vs r z'
              unfold ros at r
              obtain ⟨w', ws', rfl, r1, r2⟩ := r
              rw [fls_cons] at z'
              rcases List.mem_append.mp z' with q | q
              · exact ro.in r1 q
              · exact ih r2 q
          exact this h2 ha)
        exact k a (fun z => dj a z a ha rfl) ⟨u, hu⟩
      refine ⟨ros_cons r' q1, ?_⟩
      show fls H' (w :: ws) (x' :: ys) = _
      rw [fls_cons, fls_cons, e', q2]
    | succ n =>
      have h : ys[n]? = some x := by simpa using h
      have hv : ws[n]? = some v := by simpa using hv
      obtain ⟨q1, q2⟩ := ros.upd g r' e' k h2 h hv nd2
      have sub : ∀ a ∈ fl H v x, a ∈ fls H ws ys := fun a ha => by
        have : ∀ {xs : List Val} {vs : List V} {n : Nat}, xs[n]? = some x → vs[n]? = some v → a ∈ fls H vs xs := by
          intro xs
          induction xs with
          | nil => intro vs n z _; simp at z
          | cons z zs ih =>
            intro vs n hx hv
            cases vs with
            | nil => simp at hv
            | cons w' ws' =>
              rw [fls_cons]
              cases n with
              | zero => simp at hx hv; subst hx hv; exact List.mem_append_left _ ha
              | succ n => exact List.mem_append_right _ (ih (by simpa using hx) (by simpa using hv))
        exact this h hv
      obtain ⟨q3, q4⟩ := ro.frame g h1 fun a ha => k a (fun z => dj a ha a (sub a z) rfl) (ro.in h1 ha)
      refine ⟨ros_cons q3 q1, ?_⟩
      show fls H' (w :: ws) (y :: ys.set n x') = _
      rw [fls_cons, fls_cons, q4, q2]
/-- .. and grows: what was new leaves the region -/
theorem Now.grow {B : Bs} {A A' : Rg} {H H' : Hp} {σ : L2.St} {ρ : En} {i : Nat} {v : V} {s s' : SV} (N : Now C B A H σ ρ) (hs : ρ[i]? = some (some s)) (hσ : σ[i]? = some (some v)) (keep : ∀ a o, NT o → H a = some o → a ∉ flS H v s → H' a = some o) (fe : ∀ a, Fz H' a → Fz H a) (tb : LamX.Tabs C.T H')
    (r : slr C A' H' v s') (ow : s'.own = s.own) (pin : s'.pin = s.pin) (sub : ∀ a ∈ flS H' v s', a ∈ flS H v s ∨ Fz H a) (sm : ∀ a, A' a → A a) (st : ∀ a u, NT u → A a → H a = some u → A' a) (fr : Fq A' H') : Now C B A' H' σ (ρ.set i (some s')) ∧ Gr A H A' H' := by
  have hi : i < ρ.length := (List.getElem?_eq_some_iff.mp hs).1
  have g : Gr A H A' H' := fun a u t n h => ⟨st a u t n h, keep a u t h fun z => (N.own ⟨i, s, v, hs, hσ, z⟩).1 n⟩
  have oth : ∀ (j : Nat) (t : SV) (w : V), j ≠ i → ρ[j]? = some (some t) → σ[j]? = some (some w) → slr C A' H' w t ∧ flS H' w t = flS H w t := fun j t w n h1 h2 => by
    obtain ⟨w', k1, k2⟩ := N.env.sl j t h1
    rw [h2] at k1; cases k1
    refine slr.frame g (fun a ha => ?_) k2
    obtain ⟨na, u, e1, e2⟩ := N.own ⟨j, t, w, h1, h2, ha⟩
    exact ⟨by rw [e1]; exact keep a u e2.1 e1 fun z => N.env.ne j i t s w v n h1 hs h2 hσ a ha z, fun q => na (sm a q)⟩
  have bs : ∀ {j : Nat} {t : SV} {w : V}, (ρ.set i (some s'))[j]? = some (some t) → σ[j]? = some (some w) → (j = i ∧ t = s' ∧ w = v) ∨ (j ≠ i ∧ ρ[j]? = some (some t)) := fun {j t w} h1 h2 => by
    rcases getset h1 with ⟨e, e2, _⟩ | ⟨n, h1⟩
    · subst e; cases e2
      rw [hσ] at h2; cases h2
      exact .inl ⟨rfl, rfl, rfl⟩
    · exact .inr ⟨n, h1⟩
  have cross : ∀ (j : Nat) (t : SV) (w : V), j ≠ i → ρ[j]? = some (some t) → σ[j]? = some (some w) → ∀ a ∈ flS H' v s', a ∉ flS H' w t := fun j t w n h1 h2 a ha hb => by
    rw [(oth j t w n h1 h2).2] at hb
    rcases sub a ha with z | z
    · exact N.env.ne j i t s w v n h1 hs h2 hσ a hb z
    · obtain ⟨_, u, e1, e2⟩ := N.own ⟨j, t, w, h1, h2, hb⟩
      exact z.no e1 e2.1
  refine ⟨⟨⟨by simp [N.env.len], fun j t h => ?_, fun j k t u a b jk ht hu ha hb => ?_⟩, fr, N.f0, N.nz, fun a h => N.le a (sm a h), fun a o t z h => ?_, tb, fun a h => N.fe a (fe a h), fun j t w a h1 h2 h3 => ?_, fun j l h => ?_⟩, g⟩
  · rcases getset h with ⟨e, e2, _⟩ | ⟨n, h⟩
    · subst e; cases e2
      exact ⟨v, hσ, r⟩
    · obtain ⟨w, h1, h2⟩ := N.env.sl j t h
      exact ⟨w, h1, (oth j t w n h h1).1⟩
  · rcases bs ht ha with ⟨e1, e2, e3⟩ | ⟨n1, q1⟩
    · subst e1 e2 e3
      rcases bs hu hb with ⟨e1, e2, e3⟩ | ⟨n2, q2⟩
      · exact absurd e1.symm jk
      · exact cross k u b n2 q2 hb
    · rcases bs hu hb with ⟨e1, e2, e3⟩ | ⟨n2, q2⟩
      · subst e1 e2 e3
        exact fun p hp hp2 => cross j t a n1 q1 ha p hp2 hp
      · rw [(oth j t a n1 q1 ha).2, (oth k u b n2 q2 hb).2]
        exact N.env.ne j k t u a b jk q1 q2 ha hb
  · refine keep a o t (N.kp a o t z h) fun q => ?_
    rcases N.ow i s v a hs hσ q with w | ⟨w, _⟩
    · exact w.no h t
    · exact z w
  · rcases bs h1 h2 with ⟨e1, e2, e3⟩ | ⟨n1, q1⟩
    · subst e1 e2 e3
      rcases sub a h3 with z | z
      · rw [pin]; exact N.ow j s w a hs hσ z
      · exact .inl (N.fe a z)
    · rw [(oth j t w n1 q1 h2).2] at h3
      exact N.ow j t w a q1 h2 h3
  · obtain ⟨h1, t, h2, h3, h4⟩ := N.pn j l h
    refine ⟨h1, ?_⟩
    by_cases e : j = i
    · subst e
      rw [hs] at h2; cases h2
      exact ⟨s', List.getElem?_set_self hi, by rw [ow]; exact h3, by rw [pin]; exact h4⟩
    · exact ⟨t, by rw [List.getElem?_set_ne (Ne.symm e)]; exact h2, h3, h4⟩
/-- a slot of which nothing is claimed may hold anything -/
theorem Now.junk {B : Bs} {A : Rg} {H : Hp} {σ : L2.St} {ρ : En} {j : Nat} {v : V} (N : Now C B A H σ ρ) (h : ρ[j]? = some none) : Now C B A H (σ.set j (some v)) ρ := by
  have ne : ∀ {i : Nat} {s : SV}, ρ[i]? = some (some s) → i ≠ j := fun {i s} k z => by rw [z, h] at k; cases k
  have st : ∀ {i : Nat} {s : SV}, ρ[i]? = some (some s) → (σ.set j (some v))[i]? = σ[i]? := fun {i s} k => by rw [List.getElem?_set_ne (Ne.symm (ne k))]
  refine ⟨⟨by rw [List.length_set]; exact N.env.len, fun i s k => by rw [st k]; exact N.env.sl i s k, fun i l s t u w il hs ht hu hw => ?_⟩, N.fr, N.f0, N.nz, N.le, N.kp, N.tb, N.fe, fun i s w a h1 h2 h3 => ?_, fun i l k => ?_⟩
  · rw [st hs] at hu
    rw [st ht] at hw
    exact N.env.ne i l s t u w il hs ht hu hw
  · rw [st h1] at h2
    exact N.ow i s w a h1 h2 h3
  · obtain ⟨h1, s, h2, h3⟩ := N.pn i l k
    exact ⟨by rw [st h2]; exact h1, s, h2, h3⟩
/-! ### the place of a key -/
def kix {κ : Type} [DecidableEq κ] : List κ → κ → Option Nat
  | [], _ => none
  | q :: qs, k => if q = k then some 0 else (kix qs k).map (· + 1)
theorem kix_val {κ : Type} [DecidableEq κ] {k : κ} : ∀ {ks : List κ} {vs : List V}, ks.length = vs.length → valV (ks.zip vs) k = (kix ks k).bind fun n => vs[n]?
  | [], _, _ => rfl
  | _ :: _, [], h => by cases h
  | q :: qs, v :: vs, h => by
    have ih := kix_val (k := k) (ks := qs) (vs := vs) (by simpa using h)
    by_cases e : q = k
    · rw [List.zip_cons_cons, valV_pos (p := (q, v)) e]
      unfold kix
      rw [if_pos e]; rfl
    · rw [List.zip_cons_cons]
      unfold kix
      rw [if_neg e]
      have : valV ((q, v) :: qs.zip vs) k = valV (qs.zip vs) k := by unfold valV; rw [List.find?_cons_of_neg (by simpa using e)]
      rw [this, ih]
      cases kix qs k <;> simp
theorem kix_new {κ : Type} [DecidableEq κ] {k : κ} {d : V} {ks : List κ} {vs : List V} (h : ks.length = vs.length) (n : kix ks k = none) : putK (ks.zip vs) k d = (ks ++ [k]).zip (vs ++ [d]) := by
  rw [zip_app h]
  unfold putK
  rw [if_neg]
  have := kix_val (k := k) h
  rw [n] at this
  intro z
  obtain ⟨p, hp, e⟩ := List.any_eq_true.mp z
  unfold valV at this
  simp only [Option.bind_none, Option.map_eq_none_iff, List.find?_eq_none] at this
  exact this p hp e
theorem kix_lt {κ : Type} [DecidableEq κ] {k : κ} : ∀ {ks : List κ} {n : Nat}, kix ks k = some n → n < ks.length
  | [], _, h => by cases h
  | q :: qs, n, h => by
    unfold kix at h
    split at h
    · cases h; simp
    · obtain ⟨m, hm, rfl⟩ := Option.map_eq_some_iff.mp h
      have := kix_lt hm
      simp; omega
/-! ### a key: a tuple that is new -/
def STk (C : Cn) (E : XK) (m : En → Rs (List Key × En)) : TE := fun σ H Q => ∃ B A ρ, Now C B A H σ ρ ∧ (m ρ).wp (fun x => ∀ b H', Now C B A H' σ x.2 → Gd σ A H ρ H' x.2 → H' b = some (.tup (x.1.map kV)) → Q (.ref b) H') (EXe C E B A H σ ρ)
def eqIn (y : Val) (ys : List Val) : Option Bool := match dat y, dats ys with
  | some d, some ds => if SeqAt.shaped d = true ∧ SeqAt.shaped (.list ds) = true then some (ds.any fun z => PyData.eqv z d) else none
  | _, _ => none
/-- alike = d.setdefault(key, []); if v in alike: return v; alike.append(v) -/
def firstS (i j v : Nat) (mk : En → Rs (List Key × En)) : MS := fun ρ => match ρ[i]? with
  | some (some (.ob _ (.odit _ _))) => mk ρ >>= fun x => match x.2[i]?, x.2[v]? with
    | some (some (.ob p (.odit ks xs))), some (some (.fz y)) =>
      if (i ≠ j ∧ v ≠ j) ∧ freeS x.2 j = true ∧ xs.length < 100000 then (match kix ks x.1 with
        | none => (match eqIn y [] with
          | some _ => .ok (.nx ((x.2.set i (some (.ob p (.odit (ks ++ [x.1]) (xs ++ [.olst [y]]))))).set j none))
          | none => .bad)
        | some n => (match xs[n]? with
          | some (.olst ys) => (match eqIn y ys with
            | some true => .ok (.rt y x.2)
            | some false => if ys.length < 100000 ∧ (ys.all fun z => !z.isO) = true then .ok (.nx ((x.2.set i (some (.ob p (.odit ks (xs.set n (.olst (ys ++ [y]))))))).set j none)) else .bad
            | none => .bad)
          | _ => .bad)) else .bad
    | _, _ => .bad
  | _ => .bad
theorem Now.odit {B : Bs} {A : Rg} {H : Hp} {σ : L2.St} {ρ : En} {i : Nat} {p : Bool} {ks : List (List Key)} {xs : List Val} (N : Now C B A H σ ρ) (h : ρ[i]? = some (some (.ob p (.odit ks xs)))) : ∃ l vs, σ[i]? = some (some (.ref l)) ∧ H l = some (.dT (ks.zip vs)) ∧ ks.length = xs.length ∧ ros C A H vs xs ∧ slr C A H (.ref l) (.ob p (.odit ks xs)) ∧ fl H (.ref l) (.odit ks xs) = l :: fls H vs xs := by
  obtain ⟨v, h1, h2⟩ := N.slot h
  obtain ⟨o, r, n, d⟩ := h2
  obtain ⟨l, vs, rfl, k, hl, rs⟩ := ro_odit.mp r
  exact ⟨l, vs, h1, k, hl, rs, ⟨o, r, n, d⟩, fl_odit k (by rw [rs.len]; exact hl)⟩
theorem setD_ne {ρ : En} {i j : Nat} {s : Option SV} (h : i ≠ j) : (ρ.set j s)[i]? = ρ[i]? := by rw [List.getElem?_set_ne (Ne.symm h)]
theorem free_lt {ρ : En} {j : Nat} (h : freeS ρ j = true) : j < ρ.length := by
  unfold freeS at h
  cases e : ρ[j]? with
  | none => rw [e] at h; cases h
  | some s => exact (List.getElem?_eq_some_iff.mp e).1
theorem free_set {ρ : En} {i j : Nat} {s : Option SV} (n : i ≠ j) (h : freeS ρ j = true) : freeS (ρ.set i s) j = true := by
  unfold freeS at h ⊢
  rw [List.getElem?_set_ne n]; exact h
abbrev tFirst (C : Cn) (E : XK) (i j v : Nat) (mk : En → Rs (List Key × En)) : TS := tSeq (tAsg (fun σ H Q => tDSetd (tVar i) (STk C E mk) (tLst tNil) σ H Q ∨ tDSetdT (tVar i) (STk C E mk) (tLst tNil) σ H Q) (gName j)) (tSeq (tIfS (tTest (tOp (rInD C.K) (tVar v) (tVar j))) (tRet (tVar v)) tNext) (tDrop (tBM C.K "list" rAppend (tVar j) (tCons (tVar v) tNil))))
theorem ys_first {i j v : Nat} {mk : En → Rs (List Key × En)} {sts : List Stmt} (h : PSs X sts (tFirst C E i j v mk)) : PSs X sts (SS C E (firstS i j v mk)) := PSs.imp h fun D σ H ⟨B, A, ρ, N, hm⟩ => by
  unfold firstS at hm
  split at hm
  · rename_i p0 ks0 xs0 h0
    obtain ⟨a, vs0, hσ, ha0, _⟩ := N.odit h0
    refine Or.inr ⟨_, hσ, a, rfl, .inr ⟨_, .inl ha0⟩, B, A, ρ, N, Rs.wp_mono (Rs.wp_bind hm) (fun x hx b H1 N1 g1 eb => ?_) EXe.of⟩
    refine ⟨Nat.zero_le _, fun q hq => ?_⟩
    split at hx
    · rename_i p ks xs y h1 h2
      obtain ⟨⟨⟨nij, nvj⟩, hf, hz⟩, hx⟩ := ite_bad hx
      obtain ⟨a', vs, hσ', ha, hl, rs, s0, fla⟩ := N1.odit h1
      rw [hσ] at hσ'; cases hσ'
      obtain ⟨u, hu, ru⟩ := N1.slot h2
      have ru : rep C A H1 u y := ru
      have lv : ks.length = vs.length := by rw [rs.len]; exact hl
      have naq : a ≠ q := fun z => by rw [z, hq] at ha; cases ha
      have nbq : b ≠ q := fun z => by rw [z, hq] at eb; cases eb
      -- the new, empty list
      have N3 : Now C B A (upd H1 q (.lst [])) σ x.2 := N1.new hq
      have g3 : Gd σ A H1 x.2 (upd H1 q (.lst [])) x.2 := .same N1 (same_new hq)
      have ru3 : rep C A (upd H1 q (.lst [])) u y := rep.gr g3.g ru
      have juv : ∀ {w : V}, (σ.set j (some w))[v]? = some (some u) := fun {w} => by rw [List.getElem?_set_ne (Ne.symm nvj)]; exact hu
      have hj : j < σ.length := by rw [N1.env.len]; exact free_lt hf
      have juj : ∀ {w : V}, (σ.set j (some w))[j]? = some (some w) := fun {w} => List.getElem?_set_self hj
      refine ⟨ks.zip vs, x.1, b, by rw [upd_ne naq]; exact ha, rfl, by rw [upd_ne nbq]; exact eb, by rw [List.length_zip, ← lv, Nat.min_self, hl]; exact Nat.lt_trans hz (by decide), fun w hw => ?_, fun hw => ?_⟩
      · -- it is there
        rw [kix_val lv] at hw
        obtain ⟨n, hn, hv⟩ := Option.bind_eq_some_iff.mp hw
        rw [hn] at hx
        dsimp only at hx
        split at hx
        · rename_i ys hys
          obtain ⟨w', hv', rw'⟩ := rs.at hys
          rw [hv] at hv'; cases hv'
          obtain ⟨l, ws, rfl, hl1, rws⟩ := ro_olst.mp rw'
          have nlq : l ≠ q := fun z => by rw [z, hq] at hl1; cases hl1
          have hl3 : (upd H1 q (.lst [])) l = some (.lst ws) := by rw [upd_ne nlq]; exact hl1
          cases ein : eqIn y ys with
          | none => rw [ein] at hx; exact hx.elim
          | some t =>
            rw [ein] at hx
            unfold eqIn at ein
            split at ein
            · rename_i d ds hd hds
              split at ein
              · rename_i hsh
                cases ein
                have fzy : (ys.all fun z => !z.isO) = true := by
                  clear hx hys rw' rws
                  have : ∀ {ys : List Val} {ds : List PyData}, dats ys = some ds → (ys.all fun z => !z.isO) = true := by
                    intro ys
                    induction ys with
                    | nil => intro _ _; rfl
                    | cons z zs ih =>
                      intro ds h
                      unfold dats at h
                      split at h
                      · rename_i d1 d2 q1 q2
                        rw [List.all_cons, ih q2, Bool.and_true]
                        cases z <;> first | rfl | (unfold dat at q1; cases q1)
                      · cases h
                  exact this hds
                have rws1 := rws.reps fzy
                have rws3 : reps C A (upd H1 q (.lst [])) ws ys := reps.gr g3.g rws1
                refine ⟨u, juv, .ref l, juj, d, ds, dat_dp ru3 hd, .lst (SqL.of hl3) (dats_dp rws3 hds), hsh.1, hsh.2, _, rfl, ?_⟩
                cases ht : ds.any fun z => PyData.eqv z d with
                | true =>
                  rw [ht] at hx
                  rw [if_pos rfl]
                  exact ⟨u, juv, hx u A σ _ N3 (g1.trans g3).g ru3⟩
                | false =>
                  rw [ht] at hx
                  obtain ⟨⟨hz2, _⟩, hx⟩ := ite_bad hx
                  rw [if_neg (fun z => nomatch z)]
                  have tl : tyV C.K "list" (.ref l) (upd H1 q (.lst [])) := .inl ⟨rfl, ws, SqL.of hl3⟩
                  refine ⟨.ref l, juj, tl, u, juv, l, ws, u, rfl, rfl, hl3, by rw [rws.len]; exact Nat.lt_trans hz2 (by decide), ?_⟩
                  -- the child has one more
                  have nl : l ∉ fls H1 ws ys := fun z => by rw [fls_fz rws1] at z; cases z
                  have lin : l ∈ fls H1 vs xs := by
                    have : ∀ {xs : List Val} {vs : List V} {n : Nat}, xs[n]? = some (.olst ys) → vs[n]? = some (.ref l) → l ∈ fls H1 vs xs := by
                      intro xs
                      induction xs with
                      | nil => intro vs n z _; simp at z
                      | cons z zs ih =>
                        intro vs n hx hv
                        cases vs with
                        | nil => simp at hv
                        | cons w' ws' =>
                          rw [fls_cons]
                          cases n with
                          | zero => simp at hx hv; subst hx hv; exact List.mem_append_left _ (by rw [fl_olst hl1]; exact .head _)
                          | succ n => exact List.mem_append_right _ (ih (by simpa using hx) (by simpa using hv))
                    exact this hys hv
                  obtain ⟨io, r0, nd, dj⟩ := s0
                  have dj : ∀ a' ∈ fl H1 (.ref a) (.odit ks xs), ¬ A a' := dj
                  have nd : (fl H1 (.ref a) (.odit ks xs)).Nodup := nd
                  rw [fla] at nd dj
                  have nAl : ¬ A l := dj l (List.mem_cons_of_mem _ lin)
                  have nal : a ≠ l := fun z => (List.nodup_cons.mp nd).1 (by rw [z]; exact lin)
                  have g4 : Gr A H1 A (upd (upd H1 q (.lst [])) l (.lst (ws ++ [u]))) := fun c o t hc h => ⟨hc, by
                    rw [upd_ne (fun z => nAl (by rw [← z]; exact hc)), upd_ne (fun z => by rw [z, hq] at h; cases h)]; exact h⟩
                  have r4 : ro C A (upd (upd H1 q (.lst [])) l (.lst (ws ++ [u]))) (.ref l) (.olst (ys ++ [y])) := ro_olst.mpr ⟨l, ws ++ [u], rfl, upd_same, ((reps.gr g4 rws1).ros).append (ros_cons (rep.gr g4 ru).ro ros_nil)⟩
                  have f4 : fl (upd (upd H1 q (.lst [])) l (.lst (ws ++ [u]))) (.ref l) (.olst (ys ++ [y])) = fl H1 (.ref l) (.olst ys) := by
                    rw [fl_olst upd_same, fl_olst hl1, fls_append rws.len, fls_fz (reps.gr g4 rws1), fls_fz rws1, fls_fz (reps_cons (rep.gr g4 ru) reps_nil)]
                    rfl
                  obtain ⟨q1, q2⟩ := ros.upd g4 r4 f4 (fun c hc ⟨o, ho, _⟩ => by
                    rw [fl_olst hl1] at hc
                    rw [upd_ne (fun z => hc (by rw [z]; exact .head _)), upd_ne (fun z => by rw [z, hq] at ho; cases ho)]) rs hys hv (List.nodup_cons.mp nd).2
                  have ha4 : (upd (upd H1 q (.lst [])) l (.lst (ws ++ [u]))) a = some (.dT (ks.zip vs)) := by rw [upd_ne nal, upd_ne naq]; exact ha
                  have fl4 : fl (upd (upd H1 q (.lst [])) l (.lst (ws ++ [u]))) (.ref a) (.odit ks (xs.set n (.olst (ys ++ [y])))) = a :: fls H1 vs xs := by
                    rw [fl_odit ha4 lv, q2]
                  obtain ⟨N4, g5⟩ := N1.change (H' := upd (upd H1 q (.lst [])) l (.lst (ws ++ [u]))) (s' := .ob p (.odit ks (xs.set n (.olst (ys ++ [y]))))) h1 hσ
                    (fun c o t h nc => by
                      have nc : c ∉ fl H1 (.ref a) (.odit ks xs) := nc
                      rw [fla] at nc
                      rw [upd_ne (fun z => nc (by rw [z]; exact List.mem_cons_of_mem _ lin)), upd_ne (fun z => by rw [z, hq] at h; cases h)]; exact h)
                    (fun c h => (fz_upd nt (fz_upd nt h).2).2) (tabs_put N3.tb hl3 nt fun φ z => nomatch z)
                    ⟨rfl, ro_odit.mpr ⟨a, vs, rfl, ha4, by rw [List.length_set]; exact hl, q1⟩, by rw [fl4]; exact nd, by rw [fl4]; exact dj⟩ rfl rfl
                    (fun c hc => .inl (by
                      have hc : c ∈ fl (upd (upd H1 q (.lst [])) l (.lst (ws ++ [u]))) (.ref a) (.odit ks (xs.set n (.olst (ys ++ [y])))) := hc
                      show c ∈ fl H1 (.ref a) (.odit ks xs)
                      rw [fl4] at hc; rw [fla]; exact hc))
                  have hf4 := free_set (s := some (.ob p (.odit ks (xs.set n (.olst (ys ++ [y])))))) nij hf
                  exact hx A _ _ ((N4.hide hf4).junk (v := .ref l) (by rw [List.getElem?_set_self (free_lt hf4)])) (g1.trans g5).g
              · cases ein
            · cases ein
        · exact hx.elim
      · -- it is not
        have kn : kix ks x.1 = none := by
          cases e : kix ks x.1 with
          | none => rfl
          | some n =>
            rw [kix_val lv, e] at hw
            have := kix_lt e
            simp at hw
            omega
        rw [kn] at hx
        dsimp only at hx
        cases ein : eqIn y [] with
        | none => rw [ein] at hx; exact hx.elim
        | some t =>
          rw [ein] at hx
          dsimp only at hx
          unfold eqIn at ein
          split at ein
          · rename_i d ds hd hds
            split at ein
            · rename_i hsh
              rw [kix_new lv kn]
              generalize eH : upd (upd H1 q (.lst [])) a (.dT ((ks ++ [x.1]).zip (vs ++ [.ref q]))) = H4
              have H4q : H4 q = some (.lst []) := by rw [← eH, upd_ne (Ne.symm naq)]; exact upd_same
              have H4a : H4 a = some (.dT ((ks ++ [x.1]).zip (vs ++ [.ref q]))) := by rw [← eH]; exact upd_same
              have H4o : ∀ c, c ≠ a → c ≠ q → H4 c = H1 c := fun c n1 n2 => by rw [← eH, upd_ne n1, upd_ne n2]
              obtain ⟨io, r0, nd, dj⟩ := s0
              have dj : ∀ a' ∈ fl H1 (.ref a) (.odit ks xs), ¬ A a' := dj
              have nd : (fl H1 (.ref a) (.odit ks xs)).Nodup := nd
              rw [fla] at nd dj
              have nAa : ¬ A a := dj a (.head _)
              have occ : ∀ c ∈ a :: fls H1 vs xs, ∃ o, H1 c = some o := fun c hc => by
                obtain ⟨_, o, ho, _⟩ := N1.own ⟨i, _, _, h1, hσ, by show c ∈ fl H1 (.ref a) (.odit ks xs); rw [fla]; exact hc⟩
                exact ⟨o, ho⟩
              have nq : q ∉ a :: fls H1 vs xs := fun z => by
                obtain ⟨o, ho⟩ := occ q z
                rw [hq] at ho; cases ho
              have ru4 : rep C A H4 u y := rep.gr (fun c o t hc h => ⟨hc, by rw [H4o c (fun z => nAa (by rw [← z]; exact hc)) (fun z => by rw [z, hq] at h; cases h)]; exact h⟩) ru
              cases hds0 : ds with
              | cons _ _ => rw [hds0] at hds; unfold dats at hds; cases hds
              | nil =>
                refine ⟨u, juv, .ref q, juj, d, [], dat_dp ru4 hd, .lst (SqL.of H4q) .nil, hsh.1, by rw [hds0] at hsh; exact hsh.2, false, rfl, ?_⟩
                dsimp only
                rw [if_neg (fun z : false = true => nomatch z)]
                have tl : tyV C.K "list" (.ref q) H4 := .inl ⟨rfl, [], SqL.of H4q⟩
                refine ⟨.ref q, juj, tl, u, juv, q, [], u, rfl, rfl, H4q, by decide, ?_⟩
                generalize eH5 : upd H4 q (.lst ([] ++ [u])) = H5
                have H5q : H5 q = some (.lst [u]) := by rw [← eH5]; exact upd_same
                have H5a : H5 a = some (.dT ((ks ++ [x.1]).zip (vs ++ [.ref q]))) := by rw [← eH5, upd_ne naq]; exact H4a
                have H5o : ∀ c, c ≠ a → c ≠ q → H5 c = H1 c := fun c n1 n2 => by rw [← eH5, upd_ne n2]; exact H4o c n1 n2
                have A2 : ∀ c, lessL A [q] c ↔ A c ∧ c ≠ q := fun c => ⟨fun h => ⟨h.1, fun z => h.2 (by rw [z]; exact .head _)⟩, fun h => ⟨h.1, fun z => h.2 (List.mem_singleton.mp z)⟩⟩
                have fz5 : ∀ c, Fz H5 c → c ≠ q ∧ Fz H1 c := fun c h => by
                  have n2 : c ≠ q := fun z => by rw [z] at h; exact h.no H5q nt
                  have n1 : c ≠ a := fun z => by rw [z] at h; exact h.no H5a nt
                  exact ⟨n2, fun o ho => h o (by rw [H5o c n1 n2]; exact ho)⟩
                have g5 : Gr A H1 (lessL A [q]) H5 := fun c o t hc h => by
                  have n2 : c ≠ q := fun z => by rw [z, hq] at h; cases h
                  exact ⟨(A2 c).mpr ⟨hc, n2⟩, by rw [H5o c (fun z => nAa (by rw [← z]; exact hc)) n2]; exact h⟩
                obtain ⟨q1, q2⟩ := ros.frame g5 rs fun c hc => H5o c (fun z => (List.nodup_cons.mp nd).1 (by rw [← z]; exact hc)) (fun z => nq (List.mem_cons_of_mem _ (by rw [← z]; exact hc)))
                have ru5 := rep.gr g5 ru
                have rc : ro C (lessL A [q]) H5 (.ref q) (.olst [y]) := ro_olst.mpr ⟨q, [u], rfl, H5q, ros_cons ru5.ro ros_nil⟩
                have fq : fl H5 (.ref q) (.olst [y]) = [q] := by rw [fl_olst H5q, fls_fz (reps_cons ru5 reps_nil)]
                have fl5 : fl H5 (.ref a) (.odit (ks ++ [x.1]) (xs ++ [.olst [y]])) = (a :: fls H1 vs xs) ++ [q] := by
                  rw [fl_odit H5a (by simp [lv]), fls_append rs.len, q2, fls_cons, fq]
                  rfl
                obtain ⟨N5, g6⟩ := N1.grow (A' := lessL A [q]) (H' := H5) (s' := .ob p (.odit (ks ++ [x.1]) (xs ++ [.olst [y]]))) h1 hσ
                  (fun c o t h nc => by
                    have nc : c ∉ fl H1 (.ref a) (.odit ks xs) := nc
                    rw [fla] at nc
                    rw [H5o c (fun z => nc (by rw [z]; exact .head _)) (fun z => by rw [z, hq] at h; cases h)]; exact h)
                  (fun c h => (fz5 c h).2)
                  (by
                    have t3 : LamX.Tabs C.T (upd H1 q (.lst [])) := N3.tb
                    have t4 : LamX.Tabs C.T H4 := by rw [← eH]; exact tabs_put t3 (o0 := .dT (ks.zip vs)) (by rw [upd_ne naq]; exact ha) nt fun φ z => nomatch z
                    rw [← eH5]
                    exact tabs_put t4 H4q nt fun φ z => nomatch z)
                  ⟨rfl, ro_odit.mpr ⟨a, _, rfl, H5a, by simp [hl], q1.append (ros_cons rc ros_nil)⟩, by rw [fl5]; exact List.nodup_append.mpr ⟨nd, by simp, fun c hc e he z => by rw [List.mem_singleton] at he; subst z he; exact nq hc⟩, fun c hc => by
                    rw [fl5] at hc
                    rcases List.mem_append.mp hc with h | h
                    · exact fun z => dj c h z.1
                    · rw [List.mem_singleton] at h; subst h; exact fun z => ((A2 _).mp z).2 rfl⟩ rfl rfl
                  (fun c hc => by
                    have hc : c ∈ fl H5 (.ref a) (.odit (ks ++ [x.1]) (xs ++ [.olst [y]])) := hc
                    rw [fl5] at hc
                    rcases List.mem_append.mp hc with h | h
                    · left; show c ∈ fl H1 (.ref a) (.odit ks xs); rw [fla]; exact h
                    · rw [List.mem_singleton] at h; subst h; exact .inr (.of hq))
                  (fun c h => h.1) (fun c o t hc h => (g5 c o t hc h).1) fun c h => (A2 c).mpr ⟨N1.fr c (fz5 c h).2, (fz5 c h).1⟩
                have hf5 := free_set (s := some (.ob p (.odit (ks ++ [x.1]) (xs ++ [.olst [y]])))) nij hf
                exact hx _ _ _ ((N5.hide hf5).junk (v := .ref q) (by rw [List.getElem?_set_self (free_lt hf5)])) (g1.g.trans g6)
            · cases ein
          · cases ein
    · exact hx.elim
  · exact hm.elim
end
end Y

set_option Elab.async false
set_option linter.all false
set_option maxRecDepth 100000
set_option maxHeartbeats 4000000
set_option autoImplicit false
/-! WI: how mirrors are computed. -/
namespace Y
open PySem PySem.Spec PyProof.Rows L2 Z
/-- a def's value -/
def runV (n : Nat) (body : MS) (xs : List Val) : Rs Val := match runF n body xs with
  | .ok r => .ok r.1 | .exc c ns vs _ => .exc c ns vs [] | .bad => .bad
def liftV (r : Rs Val) (ρ : En) : Rs (Val × En) := match r with | .ok v => .ok (v, ρ) | .exc c ns vs _ => .exc c ns vs ρ | .bad => .bad
theorem callM_eq {np n : Nat} {body : MS} {a : MA} {ρ ρ1 : En} {xs : List Val} (h : a ρ = .ok (xs, ρ1)) (hl : xs.length = np) (hn : np ≤ n) : callM np n body a ρ = liftV (runV n body xs) ρ1 := by
  unfold callM runV
  rw [h, Rs.ok_bind]
  dsimp only
  rw [if_pos ⟨hl, hn⟩]
  cases runF n body xs <;> rfl
theorem small_sz {n : Nat} (h : Nat.ble n 100 = true) : n ≤ sizeLine := Nat.le_trans (Nat.le_of_ble_eq_true h) (by decide)
theorem small_lt {n : Nat} (h : Nat.ble n 100 = true) : n < sizeLine := Nat.lt_of_le_of_lt (Nat.le_of_ble_eq_true h) (by decide)
theorem sz_lt {n : Nat} (h : n ≤ 100000) : n < sizeLine := Nat.lt_of_le_of_lt h (by decide)
theorem sz_le {n : Nat} (h : n ≤ 100000) : n ≤ sizeLine := Nat.le_trans h (by decide)
theorem st0 {s v : Option SV} {r : En} : (v :: r).set 0 s = s :: r := rfl
theorem stS {s v : Option SV} {r r' : En} {i : Nat} (h : r.set i s = r') : (v :: r).set (i + 1) s = v :: r' := by rw [← h]; rfl
section
variable {ρ ρ1 ρ2 ρ3 : En} {x y z : Val} {i : Nat} {a b m : ME} {c d : MB} {al bl : MA} {xs ys : List Val} {k l : Bool} {f : Val → Val → Option Val} {g : Val → Option Val} {s t : MS} {R : Rs Out}
theorem e_var (h : ρ[i]? = some (some (.fz x))) : varM i ρ = .ok (x, ρ) := by unfold varM; rw [h]
theorem e_cst : cstM x ρ = .ok (x, ρ) := rfl
theorem e_bin (h1 : a ρ = .ok (x, ρ1)) (h2 : b ρ1 = .ok (y, ρ2)) (h3 : f x y = some z) : binM f a b ρ = .ok (z, ρ2) := by
  unfold binM; rw [h1, Rs.ok_bind]; dsimp only; rw [h2, Rs.ok_bind]; dsimp only; rw [h3]; rfl
theorem e_un (h1 : a ρ = .ok (x, ρ1)) (h3 : g x = some z) : unM g a ρ = .ok (z, ρ1) := by
  unfold unM; rw [h1, Rs.ok_bind]; dsimp only; rw [h3]; rfl
theorem e_tst {f : Val → Option Bool} (h1 : a ρ = .ok (x, ρ1)) (h3 : f x = some k) : tstM f a ρ = .ok (k, ρ1) := by
  unfold tstM; rw [h1, Rs.ok_bind]; dsimp only; rw [h3]; rfl
theorem e_tstX {f : Val → Option Bool} {cl : Nat} {ns : List Str} (h1 : a ρ = .exc cl ns xs ρ1) : tstM f a ρ = .exc cl ns xs ρ1 := by
  unfold tstM; rw [h1]; rfl
theorem e_andB (h1 : c ρ = .ok (k, ρ1)) (h2 : k = true → d ρ1 = .ok (l, ρ1)) : andB c d ρ = .ok (k && l, ρ1) := by
  unfold andB; rw [h1, Rs.ok_bind]
  cases k with
  | true => simpa using h2 rfl
  | false => rfl
theorem e_andT (h1 : c ρ = .ok (k, ρ1)) (hk : k = true) (h2 : d ρ1 = .ok (l, ρ2)) : andB c d ρ = .ok (l, ρ2) := by
  subst hk; unfold andB; rw [h1, Rs.ok_bind]; exact h2
theorem e_andF (h1 : c ρ = .ok (k, ρ1)) (hk : k = false) : andB c d ρ = .ok (false, ρ1) := by
  subst hk; unfold andB; rw [h1, Rs.ok_bind]; rfl
theorem e_orB (h1 : c ρ = .ok (k, ρ1)) (h2 : k = false → d ρ1 = .ok (l, ρ1)) : orB c d ρ = .ok (k || l, ρ1) := by
  unfold orB; rw [h1, Rs.ok_bind]
  cases k with
  | true => rfl
  | false => simpa using h2 rfl
theorem e_orF (h1 : c ρ = .ok (k, ρ1)) (hk : k = false) (h2 : d ρ1 = .ok (l, ρ2)) : orB c d ρ = .ok (l, ρ2) := by
  subst hk; unfold orB; rw [h1, Rs.ok_bind]; exact h2
theorem e_orT (h1 : c ρ = .ok (k, ρ1)) (hk : k = true) : orB c d ρ = .ok (true, ρ1) := by
  subst hk; unfold orB; rw [h1, Rs.ok_bind]; rfl
theorem e_notB (h1 : c ρ = .ok (k, ρ1)) : notB c ρ = .ok (!k, ρ1) := by unfold notB; rw [h1, Rs.ok_bind]
theorem e_andM (h1 : a ρ = .ok (.bl k, ρ1)) (h2 : k = true → b ρ1 = .ok (.bl l, ρ1)) : andM a b ρ = .ok (.bl (k && l), ρ1) := by
  unfold andM; rw [h1, Rs.ok_bind]
  cases k with
  | true => simpa [blV] using h2 rfl
  | false => rfl
theorem e_orM (h1 : a ρ = .ok (.bl k, ρ1)) (h2 : k = false → b ρ1 = .ok (.bl l, ρ1)) : orM a b ρ = .ok (.bl (k || l), ρ1) := by
  unfold orM; rw [h1, Rs.ok_bind]
  cases k with
  | true => rfl
  | false => simpa [blV] using h2 rfl
theorem e_ifM (h1 : c ρ = .ok (k, ρ1)) (h2 : (if k = true then a ρ1 else b ρ1) = .ok (x, ρ2)) : ifM c a b ρ = .ok (x, ρ2) := by unfold ifM; rw [h1, Rs.ok_bind]; exact h2
theorem e_ifMT (h1 : c ρ = .ok (k, ρ1)) (hk : k = true) (h2 : a ρ1 = .ok (x, ρ2)) : ifM c a b ρ = .ok (x, ρ2) := e_ifM h1 (by rw [if_pos hk]; exact h2)
theorem e_ifMF (h1 : c ρ = .ok (k, ρ1)) (hk : k = false) (h2 : b ρ1 = .ok (x, ρ2)) : ifM c a b ρ = .ok (x, ρ2) := e_ifM h1 (by rw [if_neg (by rw [hk]; exact fun z => nomatch z)]; exact h2)
theorem e_nilA : nilA ρ = .ok ([], ρ) := rfl
theorem e_consA (h1 : a ρ = .ok (x, ρ1)) (h2 : al ρ1 = .ok (xs, ρ2)) : consA a al ρ = .ok (x :: xs, ρ2) := by
  unfold consA; rw [h1, Rs.ok_bind]; dsimp only; rw [h2]; rfl
theorem e_tupM (h1 : al ρ = .ok (xs, ρ1)) (h2 : xs.length ≤ sizeLine) : tupM al ρ = .ok (.tup xs, ρ1) := by
  unfold tupM; rw [h1, Rs.ok_bind]; exact if_pos h2
theorem e_lstM (h1 : al ρ = .ok (xs, ρ1)) (h2 : xs.length ≤ sizeLine) : lstM al ρ = .ok (.lst xs, ρ1) := by
  unfold lstM; rw [h1, Rs.ok_bind]; exact if_pos h2
theorem e_dispF (h1 : al ρ = .ok (xs, ρ1)) (h2 : xs.length ≤ sizeLine) : dispF al ρ = .ok (xs, ρ1) := by
  unfold dispF; rw [h1, Rs.ok_bind]; exact if_pos h2
theorem e_cbM {f : List Val → Option Val} (h1 : al ρ = .ok (xs, ρ1)) (h2 : f xs = some z) : cbM f al ρ = .ok (z, ρ1) := by
  unfold cbM; rw [h1, Rs.ok_bind]; dsimp only; rw [h2]; rfl
theorem e_cfM {f : List Val → Option (List Val)} (h1 : al ρ = .ok (xs, ρ1)) (h2 : f xs = some ys) : cfM f al ρ = .ok (ys, ρ1) := by
  unfold cfM; rw [h1, Rs.ok_bind]; dsimp only; rw [h2]; rfl
theorem e_bfM {f : Val → Val → Option (List Val)} (h1 : a ρ = .ok (x, ρ1)) (h2 : b ρ1 = .ok (y, ρ2)) (h3 : f x y = some ys) : bfM f a b ρ = .ok (ys, ρ2) := by
  unfold bfM; rw [h1, Rs.ok_bind]; dsimp only; rw [h2, Rs.ok_bind]; dsimp only; rw [h3]; rfl
theorem e_ownL {mf : ML} (h1 : mf ρ = .ok (xs, ρ1)) : ownL mf ρ = .ok (.olst xs, ρ1) := by unfold ownL; rw [h1]; rfl
theorem melts_int : ∀ ns : List Int, melts (ns.map .int) = ns.map .int
  | [] => by unfold melts; rfl
  | n :: ns => by rw [List.map_cons]; unfold melts; rw [melts_int ns, melt_fz rfl]
theorem melts_all : ∀ {xs : List Val}, (xs.all fun x => !x.isO) = true → melts xs = xs
  | [], _ => by unfold melts; rfl
  | x :: xs, h => by rw [List.all_cons, Bool.and_eq_true] at h; unfold melts; rw [melts_all h.2, melt_fz (by simpa using h.1)]
theorem e_listM {mf : ML} (h1 : mf ρ = .ok (xs, ρ1)) (h2 : melts xs = ys) : listM mf ρ = .ok (.lst ys, ρ1) := by subst h2; unfold listM; rw [h1]; rfl
theorem e_listI {mf : ML} {ns : List Int} (h1 : mf ρ = .ok (ns.map .int, ρ1)) : listM mf ρ = .ok (.lst (ns.map .int), ρ1) := e_listM h1 (melts_int ns)
theorem e_walkM {f : Val → Option (List Val)} (h1 : a ρ = .ok (x, ρ1)) (h2 : f x = some xs) : walkM f a ρ = .ok (xs, ρ1) := by
  unfold walkM; rw [h1, Rs.ok_bind]; dsimp only; rw [h2]; rfl
theorem e_lrevF (h1 : a ρ = .ok (x, ρ1)) (h2 : seqV x = some xs) : lrevF a ρ = .ok (xs.reverse, ρ1) := by
  unfold lrevF; rw [h1, Rs.ok_bind]; dsimp only; rw [h2]; rfl
theorem e_zrM (h1 : a ρ = .ok (x, ρ1)) (h2 : seqV x = some xs) (h3 : b ρ1 = .ok (.lst ys, ρ2)) : zrM a b ρ = .ok (zipV xs.reverse ys, ρ2) := by
  unfold zrM; rw [h1, Rs.ok_bind]; dsimp only; rw [h2, Rs.opt_some, Rs.ok_bind, h3]; rfl
theorem e_zipL (h1 : al ρ = .ok ([.lst xs, .lst ys], ρ1)) : zipM al ρ = .ok (zipV xs ys, ρ1) := by unfold zipM; rw [h1]; rfl
theorem e_zipT (h1 : al ρ = .ok ([.tup xs, .tup ys], ρ1)) : zipM al ρ = .ok (zipV xs ys, ρ1) := by unfold zipM; rw [h1]; rfl
theorem e_enum (h1 : al ρ = .ok ([.lst xs], ρ1)) : enumM al ρ = .ok (enumL 0 xs, ρ1) := by unfold enumM; rw [h1]; rfl
theorem e_rng1 {j : Int} (h1 : al ρ = .ok ([.int j], ρ1)) (hj : -(2 ^ 62) ≤ j ∧ j < 2 ^ 62) : rng1M al ρ = .ok (iota 0 j.toNat, ρ1) := by
  unfold rng1M; rw [h1, Rs.ok_bind]; exact if_pos hj
theorem e_rng2 {i j : Int} (h1 : al ρ = .ok ([.int i, .int j], ρ1)) (hj : -(2 ^ 62) ≤ i ∧ i < 2 ^ 62 ∧ -(2 ^ 62) ≤ j ∧ j < 2 ^ 62) : rng2M al ρ = .ok (iota i (j - i).toNat, ρ1) := by
  unfold rng2M; rw [h1, Rs.ok_bind]; exact if_pos hj
theorem e_yesB : yesB ρ = .ok (true, ρ) := rfl
/-! slices -/
theorem e_noP : noP ρ = .ok (none, ρ) := rfl
theorem e_parP {j : Int} (h : a ρ = .ok (.int j, ρ1)) : parP a ρ = .ok (some j, ρ1) := by unfold parP; rw [h]; rfl
theorem e_sl {lo hi : MP} {u v : Option Int} (h1 : a ρ = .ok (x, ρ1)) (h2 : lo ρ1 = .ok (u, ρ2)) (h3 : hi ρ2 = .ok (v, ρ3)) (h4 : slV x u v = some z) : slM a lo hi ρ = .ok (z, ρ3) := by
  unfold slM; rw [h1, Rs.ok_bind]; dsimp only; rw [h2, Rs.ok_bind]; dsimp only; rw [h3, Rs.ok_bind]; dsimp only; rw [h4]; rfl
theorem e_slO {lo hi : MP} {u v : Option Int} {p q : Bool} {us : List Val} (h0 : ρ[i]? = some (some (.ow q us))) (h1 : lo ρ = .ok (u, ρ1)) (h2 : hi ρ1 = .ok (v, ρ2)) (h3 : ρ2[i]? = some (some (.ow p xs))) (h4 : (xs.all fun x => !x.isO) = true) (h5 : cutX xs u v = ys) : slOM i lo hi ρ = .ok (ys, ρ2) := by
  subst h5
  unfold slOM slO; rw [h0]; dsimp only; rw [h1, Rs.ok_bind]; dsimp only; rw [h2, Rs.ok_bind]; dsimp only; rw [h3]; exact if_pos h4
theorem e_chnT {f g : Val → Val → Option Val} (h1 : a ρ = .ok (x, ρ1)) (h2 : b ρ1 = .ok (y, ρ2)) (h3 : f x y = some (.bl true)) {c : ME} {w : Val} (h4 : c ρ2 = .ok (z, ρ3)) (h5 : g y z = some w) : chnM f g a b c ρ = .ok (w, ρ3) := by
  unfold chnM; rw [h1, Rs.ok_bind]; dsimp only; rw [h2, Rs.ok_bind]; dsimp only; rw [h3]; dsimp only [Option.bind, blV]; rw [Rs.opt_some, Rs.ok_bind, if_pos rfl, h4, Rs.ok_bind]; dsimp only; rw [h5]; rfl
theorem e_chnF {f g : Val → Val → Option Val} (h1 : a ρ = .ok (x, ρ1)) (h2 : b ρ1 = .ok (y, ρ2)) (h3 : f x y = some (.bl false)) {c : ME} : chnM f g a b c ρ = .ok (.bl false, ρ2) := by
  unfold chnM; rw [h1, Rs.ok_bind]; dsimp only; rw [h2, Rs.ok_bind]; dsimp only; rw [h3]; rfl
theorem e_view {i : Nat} (h0 : ρ[i]? = some (some (.ob false x))) (h1 : alone ρ i = true) (h2 : ρ.set i (some (.fz x.melt)) = ρ1) (h3 : m ρ1 = .ok (z, ρ2)) (h4 : z.atom = true) : viewM i m ρ = .ok (z, ρ) := by
  subst h2
  unfold viewM; rw [h0]; dsimp only; rw [if_pos h1, h3]; dsimp only [noX]; rw [Rs.ok_bind]; exact if_pos h4
/-! comprehensions -/
theorem e_compF {vs : List Nat} {mi : MI} {tg : MT} {cc : MB} {e : MN} (h1 : mi ρ = .ok (xs, ρ1)) (h2 : xs.length < sizeLine) (h3 : vs.all (freeS ρ1) = true) (h4 : compL vs tg cc e xs (wipeE ρ1 vs) = .ok (ys, ρ2)) : compF vs mi tg cc e ρ = .ok (ys, ρ2) := by
  unfold compF; rw [h1, Rs.ok_bind]; dsimp only; rw [if_pos ⟨h2, h3⟩]; exact h4
theorem e_cL0 {vs : List Nat} {tg : MT} {cc : MB} {e : MN} : compL vs tg cc e [] ρ = .ok ([], ρ) := rfl
/-- one turn, nothing asked -/
theorem e_cL {vs : List Nat} {tg : MT} {e : MN} (h0 : wipeE ρ vs = ρ) (h1 : tg x ρ = some ρ1) (h2 : e ρ1 = .ok (y, ρ2)) (h3 : vs.all (freeS ρ2) = true) {ρ4 : En} (h4 : wipeE ρ2 vs = ρ3) (h5 : compL vs tg yesB e xs ρ3 = .ok (ys, ρ4)) : compL vs tg yesB e (x :: xs) ρ = .ok (y :: ys, ρ4) := by
  unfold compL
  rw [h0, h1, Rs.opt_some, Rs.ok_bind, e_yesB]
  simp only [noX, Rs.ok_bind, if_true, h2, h3]
  rw [h4, h5]
  rfl
/-- a comprehension whose turns leave the slots as they were -/
theorem e_cLs {α : Type} {vs : List Nat} {tg : MT} {e : MN} {ρ : En} (F G : α → Val) (ρt : α → En) (hw : wipeE ρ vs = ρ) : ∀ xs : List α, (∀ x ∈ xs, tg (F x) ρ = some (ρt x) ∧ e (ρt x) = .ok (G x, ρt x) ∧ vs.all (freeS (ρt x)) = true ∧ wipeE (ρt x) vs = ρ) → compL vs tg yesB e (xs.map F) ρ = .ok (xs.map G, ρ)
  | [], _ => rfl
  | x :: xs, h => by
    obtain ⟨h1, h2, h4, h5⟩ := h x (.head _)
    exact e_cL hw h1 h2 h4 h5 (e_cLs F G ρt hw xs fun y hy => h y (.tail _ hy))
/-! statements -/
theorem e_seq (h1 : s ρ = .ok (.nx ρ1)) (h2 : t ρ1 = R) : seqS s t ρ = R := by unfold seqS; rw [h1]; exact h2
theorem e_seqR (h1 : s ρ = .ok (.rt x ρ1)) : seqS s t ρ = .ok (.rt x ρ1) := by unfold seqS; rw [h1]; rfl
theorem e_seqX {cl : Nat} {ns : List Str} (h1 : s ρ = .exc cl ns xs ρ1) : seqS s t ρ = .exc cl ns xs ρ1 := by unfold seqS; rw [h1]; rfl
theorem e_if (h1 : c ρ = .ok (k, ρ1)) (h2 : (if k = true then s ρ1 else t ρ1) = R) : ifS c s t ρ = R := by unfold ifS; rw [h1]; exact h2
theorem e_ifT (h1 : c ρ = .ok (k, ρ1)) (hk : k = true) (h2 : s ρ1 = R) : ifS c s t ρ = R := e_if h1 (by rw [if_pos hk]; exact h2)
theorem e_ifF (h1 : c ρ = .ok (k, ρ1)) (hk : k = false) (h2 : t ρ1 = R) : ifS c s t ρ = R := e_if h1 (by rw [if_neg (by rw [hk]; exact fun z => nomatch z)]; exact h2)
theorem e_next : nextS ρ = .ok (.nx ρ) := rfl
theorem e_asg (h1 : m ρ = .ok (x, ρ1)) (h2 : freeS ρ1 i = true) (h3 : ρ1.set i (some (.fz x)) = ρ2) : asgS i m ρ = .ok (.nx ρ2) := by
  subst h3; unfold asgS; rw [h1, Rs.ok_bind]; exact if_pos h2
theorem e_ret (h1 : m ρ = .ok (x, ρ1)) : retS m ρ = .ok (.rt x ρ1) := by unfold retS; rw [h1]; rfl
theorem e_retX {cl : Nat} {ns : List Str} (h1 : m ρ = .exc cl ns xs ρ1) : retS m ρ = .exc cl ns xs ρ1 := by unfold retS; rw [h1]; rfl
theorem e_drop (h1 : m ρ = .ok (x, ρ1)) : dropS m ρ = .ok (.nx ρ1) := by unfold dropS; rw [h1]; rfl
theorem e_dropX {cl : Nat} {ns : List Str} (h1 : m ρ = .exc cl ns xs ρ1) : dropS m ρ = .exc cl ns xs ρ1 := by unfold dropS; rw [h1]; rfl
theorem e_raise {cl : Nat} {ns : List Str} (h1 : al ρ = .ok (xs, ρ1)) (h2 : xs.length = ns.length) : raiseS cl ns al ρ = .exc cl ns xs ρ1 := by
  unfold raiseS; rw [h1, Rs.ok_bind]; exact if_pos h2
theorem e_new {mf : ML} (h1 : mf ρ = .ok (xs, ρ1)) (h2 : freeS ρ1 i = true) (h3 : ρ1.set i (some (.ow false xs)) = ρ2) : newS i mf ρ = .ok (.nx ρ2) := by
  subst h3; unfold newS; rw [h1, Rs.ok_bind]; exact if_pos h2
theorem e_newT {mn : MN} (h1 : mn ρ = .ok (x, ρ1)) (h2 : freeS ρ1 i = true) (ho : x.isO = true) (h3 : ρ1.set i (some (.ob false x)) = ρ2) : newT i mn ρ = .ok (.nx ρ2) := by
  subst h3; unfold newT; rw [h1, Rs.ok_bind]; exact if_pos ⟨h2, ho⟩
theorem e_par {i j : Nat} {u v : Val} (h1 : al ρ = .ok ([u, v], ρ1)) (h2 : freeS ρ1 i = true) (h4 : ρ1.set i (some (.fz u)) = ρ2) (h3 : freeS ρ2 j = true) (h5 : ρ2.set j (some (.fz v)) = ρ3) : parS i j al ρ = .ok (.nx ρ3) := by
  subst h4 h5; unfold parS; rw [h1, Rs.ok_bind]; exact if_pos ⟨h2, h3⟩
theorem e_parNS {i j : Nat} {u v : Val} {m1 : MN} {m2 : ME} {ρ4 : En} (h0 : m1 ρ = .ok (u, ρ1)) (h1 : m2 ρ1 = .ok (v, ρ2)) (h2 : freeS ρ2 i = true) (ho : u.isO = true) (h4 : ρ2.set i (some (.ob false u)) = ρ3) (h3 : freeS ρ3 j = true) (h5 : ρ3.set j (some (.fz v)) = ρ4) : parNS i j m1 m2 ρ = .ok (.nx ρ4) := by
  subst h4 h5; unfold parNS; rw [h0, Rs.ok_bind]; dsimp only; rw [h1]; dsimp only [noX]; rw [Rs.ok_bind]; exact if_pos ⟨⟨h2, ho⟩, h3⟩
theorem e_asgT {tg : MT} (h1 : m ρ = .ok (x, ρ1)) (h2 : tg x ρ1 = some ρ2) : asgT tg m ρ = .ok (.nx ρ2) := by
  unfold asgT; rw [h1, Rs.ok_bind]; dsimp only; rw [h2]; rfl
theorem t_name (h : freeS ρ i = true) (h2 : ρ.set i (some (.fz x)) = ρ1) : nameT i x ρ = some ρ1 := by subst h2; exact if_pos h
theorem t_tup2 {i j : MT} (h1 : i x ρ = some ρ1) (h2 : j y ρ1 = some ρ2) : tupT 2 (consT i (consT j nilT)) (.tup [x, y]) ρ = some ρ2 := by
  show (i x ρ).bind (consT j nilT [y]) = _
  rw [h1]
  show (j y ρ1).bind (nilT []) = _
  rw [h2]
  rfl
theorem t_tup3 {i j k : MT} {z : Val} (h1 : i x ρ = some ρ1) (h2 : j y ρ1 = some ρ2) (h3 : k z ρ2 = some ρ3) : tupT 3 (consT i (consT j (consT k nilT))) (.tup [x, y, z]) ρ = some ρ3 := by
  show (i x ρ).bind (consT j (consT k nilT) [y, z]) = _
  rw [h1]
  show (j y ρ1).bind (consT k nilT [z]) = _
  rw [h2]
  show (k z ρ2).bind (nilT []) = _
  rw [h3]
  rfl
theorem e_ixO {p : Bool} {us us' : List Val} {p' : Bool} {j : Int} (h0 : ρ[i]? = some (some (.ow p us))) (h1 : m ρ = .ok (.int j, ρ1)) (h2 : ρ1[i]? = some (some (.ow p' us'))) (h3 : atI us' j = some z) (h4 : z.isO = false) : ixO i m ρ = .ok (z, ρ1) := by
  unfold ixO; rw [h0]; dsimp only; rw [h1, Rs.ok_bind]; dsimp only; rw [h2]; dsimp only; rw [h3, Rs.opt_some, Rs.ok_bind]; exact if_pos h4
theorem e_setS {mk : ME} {p p' : Bool} {us us' : List Val} {j : Int} {n : Nat} (h1 : m ρ = .ok (x, ρ1)) (h2 : ρ1[i]? = some (some (.ow p us))) (h3 : mk ρ1 = .ok (.int j, ρ2)) (h4 : ρ2[i]? = some (some (.ow p' us'))) (h5 : ixN us'.length j = some n) (h6 : us'[n]? = some z) (h7 : z.isO = false) (h8 : ρ2.set i (some (.ow p' (us'.set n x))) = ρ3) : setS i mk m ρ = .ok (.nx ρ3) := by
  subst h8
  unfold setS; rw [h1, Rs.ok_bind]; dsimp only; rw [h2]; dsimp only; rw [h3, Rs.ok_bind]; dsimp only; rw [h4]; dsimp only; rw [h5]; dsimp only; rw [h6]; exact if_pos h7
theorem e_app {p p' : Bool} {us us' : List Val} (h0 : ρ[i]? = some (some (.ow p us))) (h1 : m ρ = .ok (x, ρ1)) (h2 : ρ1[i]? = some (some (.ow p' us'))) (h3 : us'.length < sizeLine) (h4 : ρ1.set i (some (.ow p' (us' ++ [x]))) = ρ2) : appS i m ρ = .ok (.nx ρ2) := by
  subst h4
  unfold appS; rw [h0]; dsimp only; rw [h1, Rs.ok_bind]; dsimp only; rw [h2]; exact if_pos h3
theorem e_melt (h0 : ρ[i]? = some (some (.ow false xs))) (h1 : melts xs = ys) (h2 : ρ.set i (some (.fz (.lst ys))) = ρ1) (h : s ρ1 = R) : meltS i s ρ = R := by
  subst h1 h2
  unfold meltS; rw [h0]; unfold Val.melt; exact h
/-! calls -/
theorem e_callM {np n : Nat} {body : MS} (h : al ρ = .ok (xs, ρ1)) (h2 : runV n body xs = .ok x) (hl : xs.length = np := by rfl) (hn : np ≤ n := by decide) : callM np n body al ρ = .ok (x, ρ1) := by
  rw [callM_eq h hl hn, h2]; rfl
theorem e_callX {np n cl : Nat} {ns : List Str} {body : MS} {ρ0 : En} (h : al ρ = .ok (xs, ρ1)) (h2 : runV n body xs = .exc cl ns ys ρ0) (hl : xs.length = np := by rfl) (hn : np ≤ n := by decide) : callM np n body al ρ = .exc cl ns ys ρ1 := by
  rw [callM_eq h hl hn, h2]; rfl
theorem e_callN {np n : Nat} {mn : MN} {ρ0 ρ2 : En} (h : al ρ = .ok (xs, ρ1)) (h0 : padE (xs.map fun x => some (.fz x)) n = ρ0) (h2 : mn ρ0 = .ok (x, ρ2)) (hl : xs.length = np := by rfl) (hn : np ≤ n := by decide) : callN np n mn al ρ = .ok (x, ρ1) := by
  subst h0
  unfold callN
  rw [h, Rs.ok_bind]
  dsimp only
  rw [if_pos ⟨hl, hn⟩, h2]
theorem e_hearX {cl : Nat} {f : Str} (h : m ρ = .exc cl [f] [x] ρ1) : hearM2 cl f m ρ = .ok (x, ρ1) := by
  unfold hearM2; rw [h]; exact if_pos ⟨rfl, rfl⟩
theorem e_hearN {cl : Nat} {f : Str} (h : m ρ = .ok (x, ρ1)) : hearM2 cl f m ρ = .ok (x, ρ1) := by unfold hearM2; rw [h]
theorem e_run {n : Nat} {body : MS} (h : body (padE (xs.map fun x => some (.fz x)) n) = .ok (.rt x ρ1)) : runV n body xs = .ok x := by
  unfold runV runF finM; rw [h]; rfl
theorem e_run' {n : Nat} {body : MS} (ρ0 : En) (h0 : padE (xs.map fun x => some (.fz x)) n = ρ0) (h : body ρ0 = .ok (.rt x ρ1)) : runV n body xs = .ok x := by subst h0; exact e_run h
theorem e_runN {n : Nat} {body : MS} (ρ0 : En) (h0 : padE (xs.map fun x => some (.fz x)) n = ρ0) (h : body ρ0 = .ok (.nx ρ1)) : runV n body xs = .ok .non := by
  subst h0; unfold runV runF finM; rw [h]; rfl
theorem e_runX {n cl : Nat} {ns : List Str} {body : MS} (ρ0 : En) (h0 : padE (xs.map fun x => some (.fz x)) n = ρ0) (h : body ρ0 = .exc cl ns ys ρ1) : runV n body xs = .exc cl ns ys [] := by
  subst h0; unfold runV runF finM; rw [h]; rfl
theorem e_runO {n : Nat} {body : MS} {s0 s1 : SV} (ρ0 : En) {ρ1 : En} (h0 : padE (some (s0.setPin true) :: xs.map fun x => some (.fz x)) n = ρ0) (h : body ρ0 = .ok (.rt x ρ1)) (h2 : ρ1[0]? = some (some s1)) (h3 : s1.flat = true) : runO n body s0 xs = .ok (x, s1.setPin s0.pin) := by
  subst h0
  unfold runO finM; rw [h, Rs.ok_bind]; dsimp only; rw [h2]; exact if_pos h3
theorem e_callO {np n : Nat} {body : MS} {s0 s1 s2 : SV} (h0 : ρ[i]? = some (some s0)) (o0 : s0.own = true) (h1 : al ρ = .ok (xs, ρ1)) (h2 : ρ1[i]? = some (some s1)) (o1 : s1.own = true) (hr : runO n body s1 xs = .ok (x, s2)) (h3 : ρ1.set i (some s2) = ρ2) (hl : xs.length + 1 = np := by rfl) (hn : np ≤ n := by decide) : callO i np n body al ρ = .ok (x, ρ2) := by
  subst h3
  unfold callO; rw [h0]; dsimp only; rw [if_pos o0, h1, Rs.ok_bind]; dsimp only; rw [h2]; dsimp only; rw [if_pos ⟨o1, hl, hn⟩, hr]
theorem e_forS {mi : MI} {tg : MT} (h1 : mi ρ = .ok (xs, ρ1)) (h2 : forL tg s xs ρ1 = R) : forS mi tg s ρ = R := by unfold forS; rw [h1]; exact h2
theorem e_forL_nil {tg : MT} : forL tg s [] ρ = .ok (.nx ρ) := rfl
theorem e_forL {tg : MT} (h1 : tg x ρ = some ρ1) (h2 : s ρ1 = .ok (.nx ρ2)) (h3 : forL tg s xs ρ2 = R) : forL tg s (x :: xs) ρ = R := by
  unfold forL; rw [h1, Rs.opt_some, Rs.ok_bind, h2]; exact h3
end
/-- a loop with an invariant -/
theorem e_loop {α : Type} {tg : MT} {s : MS} (F : α → Val) (I : Nat → En → Prop) : ∀ (as : List α) (n : Nat) (ρ : En), I n ρ → (∀ j a ρ, as[j]? = some a → I (n + j) ρ → ∃ ρ1 ρ2, tg (F a) ρ = some ρ1 ∧ s ρ1 = .ok (.nx ρ2) ∧ I (n + j + 1) ρ2) → ∃ ρ', forL tg s (as.map F) ρ = .ok (.nx ρ') ∧ I (n + as.length) ρ'
  | [], n, ρ, h0, _ => ⟨ρ, rfl, h0⟩
  | a :: as, n, ρ, h0, h => by
    obtain ⟨ρ1, ρ2, h1, h2, h3⟩ := h 0 a ρ rfl h0
    obtain ⟨ρ', k1, k2⟩ := e_loop F I as (n + 1) ρ2 h3 fun j b ρ hb hi => by
      have := h (j + 1) b ρ (by simpa using hb) (by rw [show n + (j + 1) = n + 1 + j by omega]; exact hi)
      rw [show n + 1 + j = n + (j + 1) by omega]; exact this
    refine ⟨ρ', e_forL h1 h2 k1, ?_⟩
    rw [show n + (a :: as).length = n + 1 + as.length by simp; omega]
    exact k2
/-- .. over a range -/
theorem e_loopR {tg : MT} {s : MS} (I : Int → En → Prop) : ∀ (n : Nat) (lo : Int) (ρ : En), I lo ρ → (∀ i ρ, lo ≤ i → i < lo + n → I i ρ → ∃ ρ1 ρ2, tg (.int i) ρ = some ρ1 ∧ s ρ1 = .ok (.nx ρ2) ∧ I (i + 1) ρ2) → ∃ ρ', forL tg s (iota lo n) ρ = .ok (.nx ρ') ∧ I (lo + n) ρ'
  | 0, lo, ρ, h0, _ => ⟨ρ, rfl, by rw [show lo + ((0 : Nat) : Int) = lo by omega]; exact h0⟩
  | n + 1, lo, ρ, h0, h => by
    obtain ⟨ρ1, ρ2, h1, h2, h3⟩ := h lo ρ (by omega) (by omega) h0
    obtain ⟨ρ', k1, k2⟩ := e_loopR I n (lo + 1) ρ2 h3 fun i ρ a b hi => h i ρ (by omega) (by omega) hi
    exact ⟨ρ', e_forL h1 h2 k1, by rw [show lo + ((n + 1 : Nat) : Int) = lo + 1 + n by omega]; exact k2⟩
theorem e_forL_rt {tg : MT} {s : MS} {x y : Val} {xs : List Val} {ρ ρ1 ρ2 : En} (h1 : tg x ρ = some ρ1) (h2 : s ρ1 = .ok (.rt y ρ2)) : forL tg s (x :: xs) ρ = .ok (.rt y ρ2) := by
  unfold forL; rw [h1, Rs.opt_some, Rs.ok_bind, h2]; rfl
/-- .. that may end with an answer -/
theorem e_loopE {tg : MT} {s : MS} (I : Int → En → Prop) (J : Val → Prop) : ∀ (n : Nat) (lo : Int) (ρ : En), I lo ρ → (∀ i ρ, lo ≤ i → i < lo + n → I i ρ → ∃ ρ1, tg (.int i) ρ = some ρ1 ∧ ((∃ ρ2, s ρ1 = .ok (.nx ρ2) ∧ I (i + 1) ρ2) ∨ ∃ x ρ2, s ρ1 = .ok (.rt x ρ2) ∧ J x)) →
    (∃ ρ', forL tg s (iota lo n) ρ = .ok (.nx ρ') ∧ I (lo + n) ρ') ∨ ∃ x ρ', forL tg s (iota lo n) ρ = .ok (.rt x ρ') ∧ J x
  | 0, lo, ρ, h0, _ => .inl ⟨ρ, rfl, by rw [show lo + ((0 : Nat) : Int) = lo by omega]; exact h0⟩
  | n + 1, lo, ρ, h0, h => by
    obtain ⟨ρ1, h1, ⟨ρ2, h2, h3⟩ | ⟨x, ρ2, h2, h3⟩⟩ := h lo ρ (by omega) (by omega) h0
    · rcases e_loopE I J n (lo + 1) ρ2 h3 fun i ρ a b hi => h i ρ (by omega) (by omega) hi with ⟨ρ', k1, k2⟩ | ⟨x, ρ', k1, k2⟩
      · exact .inl ⟨ρ', e_forL h1 h2 k1, by rw [show lo + ((n + 1 : Nat) : Int) = lo + 1 + n by omega]; exact k2⟩
      · exact .inr ⟨x, ρ', e_forL h1 h2 k1, k2⟩
    · exact .inr ⟨x, ρ2, e_forL_rt h1 h2, h3⟩
/-- a slot that may be set -/
def Fr (u : Option SV) : Prop := match u with | some s => s.pin = false | none => True
theorem Fr.fz {x : Val} : Fr (some (.fz x)) := rfl
theorem Fr.none : Fr none := trivial
theorem fs0 {u : Option SV} {r : En} (h : Fr u) : freeS (u :: r) 0 = true := by
  cases u with
  | none => rfl
  | some s => show (!s.pin) = true; rw [show s.pin = false from h]; rfl
theorem fsS {u : Option SV} {r : En} {i : Nat} (h : freeS r i = true) : freeS (u :: r) (i + 1) = true := by
  unfold freeS at h ⊢; simpa using h
theorem e_as {α : Type} {r : Rs α} {v w : α} (h : r = .ok v) (e : v = w) : r = .ok w := by rw [h, e]
/-! values -/
def Bd (k : Nat) (x : Int) : Prop := x.natAbs < 2 ^ k
theorem Bd.mono {k l : Nat} {x : Int} (h : Bd k x) (e : k ≤ l) : Bd l x := Nat.lt_of_lt_of_le h (Nat.pow_le_pow_right (by decide) e)
theorem Bd.sm {k : Nat} {x : Int} (h : x.natAbs < 2 ^ 60) (e : 60 ≤ k) : Bd k x := Nat.lt_of_lt_of_le h (Nat.pow_le_pow_right (by decide) e)
theorem Bd.add {k : Nat} {x y : Int} (h : Bd k x) (g : Bd k y) : Bd (k + 1) (x + y) := by unfold Bd at *; rw [Nat.pow_succ]; omega
theorem Bd.sub {k : Nat} {x y : Int} (h : Bd k x) (g : Bd k y) : Bd (k + 1) (x - y) := by unfold Bd at *; rw [Nat.pow_succ]; omega
theorem Bd.neg {k : Nat} {x : Int} (h : Bd k x) : Bd k (-x) := by unfold Bd at *; omega
theorem Bd.mul {k l : Nat} {x y : Int} (h : Bd k x) (g : Bd l y) : Bd (k + l) (x * y) := by
  unfold Bd at *; rw [Int.natAbs_mul, Nat.pow_add]; exact Nat.mul_lt_mul'' h g
theorem Bd.log {k : Nat} {x : Int} (h : Bd k x) (k0 : 0 < k) : x.natAbs.log2 < k := PySem.Flt.log2_lt_of k0 h
theorem mulV_bd {i j : Int} (hi : Bd 8000 i) (hj : Bd 8000 j) : mulV (.int i) (.int j) = some (.int (i * j)) := by
  have h1 := hi.log (by decide)
  have h2 := hj.log (by decide)
  exact if_pos (by omega)
theorem mulV_big {i j : Int} (hi : Bd 60 i) (hj : j.natAbs.log2 < 100000000) : mulV (.int i) (.int j) = some (.int (i * j)) := by
  have h1 := hi.log (by decide)
  exact if_pos (by omega)
theorem divV_pos {i j : Int} (h : 0 < j) (hj : Bd 60 j) : divV (.int i) (.int j) = some (.int (i / j)) := if_pos ⟨h, by have := hj.log (by decide); omega⟩
theorem modV_pos {i j : Int} (h : 0 < j) : modV (.int i) (.int j) = some (.int (i % j)) := if_pos h
theorem powV_nat {i j : Int} (h0 : 0 ≤ j) (h1 : j ≤ 1000000) (h : i.natAbs < 2 ^ 64) : powV (.int i) (.int j) = some (.int (i ^ j.toNat)) := if_pos ⟨h0, h1, h⟩
theorem shp_int (i : Int) : SeqAt.shaped (.int i) = true := by simp [SeqAt.shaped, PyData.canLay0, PyData.depth]
theorem eqV_int (i j : Int) : eqV (.int i) (.int j) = some (.bl (decide (i = j))) := by
  unfold eqV
  simp only [dat]
  rw [if_pos ⟨shp_int i, shp_int j⟩]
  simp only [PyData.eqv]
  by_cases h : i = j <;> simp [h]
theorem neV_int (i j : Int) : neV (.int i) (.int j) = some (.bl (!decide (i = j))) := by
  unfold neV
  simp only [dat]
  rw [if_pos ⟨shp_int i, shp_int j⟩]
  simp only [PyData.eqv]
  by_cases h : i = j <;> simp [h]
theorem dats_ints : ∀ cs : List Int, dats (cs.map .int) = some (cs.map .int)
  | [] => by simp only [List.map_nil, dats]
  | c :: cs => by simp only [List.map_cons, dats, dat, dats_ints cs]
theorem lay_ints : ∀ cs : List Int, PyData.canLayAll0 (cs.map .int) = true
  | [] => by simp [PyData.canLayAll0]
  | c :: cs => by simp only [List.map_cons, PyData.canLayAll0, PyData.canLay0, Bool.true_and]; exact lay_ints cs
theorem dep_ints : ∀ cs : List Int, PyData.depthAll (cs.map .int) = 0
  | [] => by simp [PyData.depthAll]
  | c :: cs => by simp only [List.map_cons, PyData.depthAll, PyData.depth, dep_ints cs]; rfl
theorem shp_lst (cs : List Int) : SeqAt.shaped (.list (cs.map .int)) = true := by
  unfold SeqAt.shaped
  simp only [PyData.canLay0, PyData.depth, lay_ints, dep_ints]
  rfl
theorem shp_tup (cs : List Int) : SeqAt.shaped (.tuple (cs.map .int)) = true := by
  unfold SeqAt.shaped
  simp only [PyData.canLay0, PyData.depth, lay_ints, dep_ints]
  rfl
theorem eqv_ints : ∀ cs ds : List Int, PyData.eqvAll (cs.map .int) (ds.map .int) = decide (cs = ds)
  | [], [] => by simp [PyData.eqvAll]
  | [], d :: ds => by simp [PyData.eqvAll]
  | c :: cs, [] => by simp [PyData.eqvAll]
  | c :: cs, d :: ds => by
    simp only [List.map_cons, PyData.eqvAll, PyData.eqv, eqv_ints cs ds]
    by_cases h : c = d <;> by_cases k : cs = ds <;> simp [h, k]
theorem eqV_lst (cs ds : List Int) : eqV (.lst (cs.map .int)) (.lst (ds.map .int)) = some (.bl (decide (cs = ds))) := by
  simp only [eqV, dat, dats_ints, Option.map_some]
  rw [if_pos ⟨shp_lst cs, shp_lst ds⟩]
  simp only [PyData.eqv, eqv_ints]
theorem neV_lst (cs ds : List Int) : neV (.lst (cs.map .int)) (.lst (ds.map .int)) = some (.bl (!decide (cs = ds))) := by
  simp only [neV, dat, dats_ints, Option.map_some]
  rw [if_pos ⟨shp_lst cs, shp_lst ds⟩]
  simp only [PyData.eqv, eqv_ints]
theorem eqV_tup (cs ds : List Int) : eqV (.tup (cs.map .int)) (.tup (ds.map .int)) = some (.bl (decide (cs = ds))) := by
  simp only [eqV, dat, dats_ints, Option.map_some]
  rw [if_pos ⟨shp_tup cs, shp_tup ds⟩]
  simp only [PyData.eqv, eqv_ints]
theorem neV_tup (cs ds : List Int) : neV (.tup (cs.map .int)) (.tup (ds.map .int)) = some (.bl (!decide (cs = ds))) := by
  simp only [neV, dat, dats_ints, Option.map_some]
  rw [if_pos ⟨shp_tup cs, shp_tup ds⟩]
  simp only [PyData.eqv, eqv_ints]
theorem intsOf_map : ∀ ns : List Int, intsOf (ns.map .int) = some ns
  | [] => rfl
  | n :: ns => by show (intsOf (ns.map .int)).map (n :: ·) = _; rw [intsOf_map ns]; rfl
theorem sumV_ints (ns : List Int) : sumV (.lst (ns.map .int)) = some (.int ns.sum) := by
  show (intsOf (ns.map .int)).map (fun ns => Val.int ns.sum) = _; rw [intsOf_map]; rfl
theorem lenV_ints (ns : List Int) : lenV (.lst (ns.map .int)) = some (.int ns.length) := by
  show some (Val.int ((ns.map Val.int).length : Int)) = _; rw [List.length_map]
theorem lenV_tints (ns : List Int) : lenV (.tup (ns.map .int)) = some (.int ns.length) := by
  show some (Val.int ((ns.map Val.int).length : Int)) = _; rw [List.length_map]
theorem absVl_int (i : Int) : absVl (.int i) = some (.int (if i < 0 then -i else i)) := rfl
theorem e_runE {n : Nat} {body : MS} {xs : List Val} {x v : Val} {ρ1 : En} (ρ0 : En) (h0 : padE (xs.map fun x => some (.fz x)) n = ρ0) (h : body ρ0 = .ok (.rt v ρ1)) (e : v = x) : runV n body xs = .ok x := by subst h0 e; exact e_run h
theorem e_runOE {n : Nat} {body : MS} {xs : List Val} {x v : Val} {s0 s1 s2 : SV} (ρ0 : En) {ρ1 : En} (h0 : padE (some (s0.setPin true) :: xs.map fun x => some (.fz x)) n = ρ0) (h : body ρ0 = .ok (.rt v ρ1)) (hv : v = x) (h2 : ρ1[0]? = some (some s1)) (h3 : s1.flat = true) (h4 : s1.setPin s0.pin = s2) : runO n body s0 xs = .ok (x, s2) := by
  subst hv h4; exact e_runO ρ0 h0 h h2 h3
theorem bd_lit {k : Nat} {i : Int} (h : i.natAbs < 2 ^ 60) (e : 60 ≤ k) : Bd k i := .sm h e
theorem bd_mod {k : Nat} {z m : Int} (h0 : 0 < m) (h : m < 2 ^ 60) (e : 60 ≤ k) : Bd k (z % m) := .sm (by
  have := Int.emod_nonneg z (show m ≠ 0 by omega)
  have := Int.emod_lt_of_pos z h0
  omega) e
/-! step by step -/
theorem f1_of {g : Val → Option Val} {x z : Val} (h : g x = some z) : f1 g [x] = some z := h
theorem f2_of {g : Val → Val → Option Val} {x y z : Val} (h : g x y = some z) : f2 g [x, y] = some z := h
theorem ite_T {α : Type} {k : Bool} {A B R : α} (hk : k = true) (h : A = R) : (if k = true then A else B) = R := by rw [if_pos hk]; exact h
theorem ite_F {α : Type} {k : Bool} {A B R : α} (hk : k = false) (h : B = R) : (if k = true then A else B) = R := by rw [if_neg (by rw [hk]; exact fun z => nomatch z)]; exact h
theorem pr_ints (as bs : List Int) : zipV (as.map .int) (bs.map .int) = (as.zip bs).map fun p => pairV (.int p.1) (.int p.2) := by
  unfold zipV
  rw [List.zipWith_map, List.zip_eq_zipWith, List.map_zipWith]
theorem wp0 {ρ : En} : wipeE ρ [] = ρ := rfl
theorem wpS {ρ ρ1 ρ2 : En} {i : Nat} {is : List Nat} (h : wipeE ρ is = ρ1) (k : ρ1.set i none = ρ2) : wipeE ρ (i :: is) = ρ2 := by subst h; exact k
theorem e_or {ρ ρ1 : En} {c d : MB} {k : Bool} {R : Rs (Bool × En)} (h1 : c ρ = .ok (k, ρ1)) (h2 : (if k = true then .ok (true, ρ1) else d ρ1) = R) : orB c d ρ = R := by unfold orB; rw [h1]; exact h2
theorem e_and {ρ ρ1 : En} {c d : MB} {k : Bool} {R : Rs (Bool × En)} (h1 : c ρ = .ok (k, ρ1)) (h2 : (if k = true then d ρ1 else .ok (false, ρ1)) = R) : andB c d ρ = R := by unfold andB; rw [h1]; exact h2
theorem e_orV {ρ ρ1 : En} {a b : ME} {k : Bool} {R : Rs (Val × En)} (h1 : a ρ = .ok (.bl k, ρ1)) (h2 : (if k = true then .ok (.bl true, ρ1) else b ρ1) = R) : orM a b ρ = R := by unfold orM; rw [h1]; exact h2
theorem e_andV {ρ ρ1 : En} {a b : ME} {k : Bool} {R : Rs (Val × En)} (h1 : a ρ = .ok (.bl k, ρ1)) (h2 : (if k = true then b ρ1 else .ok (.bl false, ρ1)) = R) : andM a b ρ = R := by unfold andM; rw [h1]; exact h2
theorem e_ife {ρ ρ1 : En} {c : MB} {a b : ME} {k : Bool} {R : Rs (Val × En)} (h1 : c ρ = .ok (k, ρ1)) (h2 : (if k = true then a ρ1 else b ρ1) = R) : ifM c a b ρ = R := by unfold ifM; rw [h1]; exact h2
end Y

set_option Elab.async false
set_option linter.all false
set_option maxRecDepth 100000
set_option maxHeartbeats 4000000
set_option autoImplicit false
/-! WM: keys made of tuples: a def whose answer is a new tuple. -/
namespace Y
open PySem PySem.Spec PyProof.Rows L2 Z
section
variable {X : Cx} {C : Cn} {E : XK} {e a b tg : Expr} {ma mb : ME} {ms mk : MS} {mi : MI} {es : List Expr} {ml : MA} {mf : ML} {pos : Pos}
def keysL : List Val → Option (List Key)
  | [] => some []
  | .int i :: r => (keysL r).map (Sum.inl i :: ·)
  | .str s :: r => (keysL r).map (Sum.inr s :: ·)
  | _ :: _ => none
theorem reps_keys {A : Rg} {H : Hp} : ∀ {xs : List Val} {vs : List V} {ks : List Key}, reps C A H vs xs → keysL xs = some ks → vs = ks.map kV
  | [], vs, ks, r, h => by unfold reps at r; cases h; exact r
  | x :: xs, vs, ks, r, h => by
    unfold reps at r
    obtain ⟨v, r', rfl, h1, h2⟩ := r
    cases x with
    | int i =>
      obtain ⟨ks', hk, rfl⟩ := Option.map_eq_some_iff.mp (show (keysL xs).map (Sum.inl i :: ·) = some ks from h)
      rw [rep_int.mp h1, reps_keys h2 hk]; rfl
    | str s =>
      obtain ⟨ks', hk, rfl⟩ := Option.map_eq_some_iff.mp (show (keysL xs).map (Sum.inr s :: ·) = some ks from h)
      rw [rep_str.mp h1, reps_keys h2 hk]; rfl
    | _ => cases h
theorem keysL_mem : ∀ {xs : List Val} {ks : List Key}, keysL xs = some ks → ∀ x ∈ xs, (∃ i, x = .int i) ∨ ∃ s, x = .str s
  | [], _, _, x, hx => nomatch hx
  | y :: ys, ks, h, x, hx => by
    cases y with
    | int i =>
      obtain ⟨ks', hk, _⟩ := Option.map_eq_some_iff.mp (show (keysL ys).map (Sum.inl i :: ·) = some ks from h)
      rcases List.mem_cons.mp hx with rfl | hx
      · exact .inl ⟨i, rfl⟩
      · exact keysL_mem hk x hx
    | str s =>
      obtain ⟨ks', hk, _⟩ := Option.map_eq_some_iff.mp (show (keysL ys).map (Sum.inr s :: ·) = some ks from h)
      rcases List.mem_cons.mp hx with rfl | hx
      · exact .inr ⟨s, rfl⟩
      · exact keysL_mem hk x hx
    | _ => cases h
/-- the promise of a def that makes a key of a tuple -/
def spKey (C : Cn) : Sp := fun vs H Q _ => ∃ A v xs ks, vs = [v] ∧ Fq A H ∧ LamX.Tabs C.T H ∧ rep C A H v (.tup xs) ∧ keysL xs = some ks ∧ xs.length < 100000 ∧
  ∀ b H', (∀ a o, NT o → H a = some o → H' a = some o) → (∀ a, Fz H' a → Fz H a) → LamX.Tabs C.T H' → H' b = some (.tup (ks.map kV)) → Q (.ref b) H'
def keyM (m : ME) : En → Rs (List Key × En) := fun ρ => m ρ >>= fun x => match x.1 with
  | .tup xs => if xs.length < 100000 then Rs.opt (keysL xs) >>= fun ks => .ok (ks, x.2) else .bad
  | _ => .bad
theorem key_call : ∀ σ H Q, STk C E (keyM ma) σ H Q → tCall (spKey C) [] E (SA C E (consA ma nilA)) σ H Q := fun σ H Q ⟨B, A, ρ, N, hm⟩ => by
  refine ⟨B, A, ρ, N, ?_⟩
  unfold keyM at hm
  unfold consA
  cases e : ma ρ with
  | bad => rw [e] at hm; exact hm.elim
  | exc c ns vs ρ' => rw [e] at hm; exact hm
  | ok x =>
    rw [e] at hm
    rw [Rs.ok_bind] at hm ⊢
    show ∀ vs H', _ → _ → _ → _
    intro vs H1 N1 g1 r1
    split at hm
    · rename_i xs q
      obtain ⟨hz, hm⟩ := ite_bad hm
      obtain ⟨ks, hk, hm⟩ := Rs.wp_opt (Rs.wp_bind hm)
      have r1 : reps C A H1 vs [x.1] := r1
      unfold reps at r1
      obtain ⟨v, r', rfl, h1, h2⟩ := r1
      unfold reps at h2
      subst h2
      rw [q] at h1
      show spKey C ([v] ++ []) H1 Q E
      exact ⟨A, v, xs, ks, rfl, N1.fr, N1.tb, h1, hk, hz, fun b H' kp fe tb hb => hm b H' (N1.kept kp fe tb) (g1.trans (.kept N1 kp fe)) hb⟩
    · exact hm.elim
/-! its body -/
def kM1 : MB := tstM truV (cbM (f2 isiV) (consA (varM 0) (consA (tupM (consA (cstM (.ty "int")) (consA (cstM (.ty "str")) nilA))) nilA)))
def kM2 : MB := tstM truV (cbM (f2 isiV) (consA (varM 0) (consA (cstM (.ty "tuple")) nilA)))
def kML : ME := listM (compF [1] (walkM seqV (varM 0)) (nameT 1) (tstM truV (cbM (f2 isiV) (consA (varM 1) (consA (tupM (consA (cstM (.ty "int")) (consA (cstM (.ty "str")) nilA))) nilA)))) (varM 1))
abbrev rTupOf (K : PySem.W.Frag) : List V → Hp → VK → Prop := fun xs H Q => ∃ p ys, xs = [V.ref p] ∧ ((SqL K H p ys ∧ ∀ l, H l = none → Q (.ref l) (upd H l (.tup ys))) ∨ (SqT K H p ys ∧ Q (.ref p) H))
theorem e_cLt {vs : List Nat} {t : MT} {c : MB} {e : MN} {ρ : En} (G : Val → Val) (ρt : Val → En) (hw : wipeE ρ vs = ρ) : ∀ xs : List Val, (∀ x ∈ xs, t x ρ = some (ρt x) ∧ c (ρt x) = .ok (true, ρt x) ∧ e (ρt x) = .ok (G x, ρt x) ∧ vs.all (freeS (ρt x)) = true ∧ wipeE (ρt x) vs = ρ) → compL vs t c e xs ρ = .ok (xs.map G, ρ)
  | [], _ => rfl
  | x :: xs, h => by
    obtain ⟨h1, h2, h3, h4, h5⟩ := h x (.head _)
    have ih := e_cLt G ρt hw xs fun y hy => h y (.tail _ hy)
    unfold compL
    rw [hw, h1, Rs.opt_some, Rs.ok_bind, h2]
    simp only [noX, Rs.ok_bind, if_true, h3, h4, h5, ih]
    rfl
theorem kM1_at {xs : List Val} : kM1 [some (.fz (.tup xs)), none] = .ok (false, [some (.fz (.tup xs)), none]) := e_tst (e_cbM (e_consA (e_var rfl) (e_consA (e_tupM (e_consA e_cst (e_consA e_cst e_nilA)) (small_sz rfl)) e_nilA)) rfl) rfl
theorem kM2_at {xs : List Val} : kM2 [some (.fz (.tup xs)), none] = .ok (true, [some (.fz (.tup xs)), none]) := e_tst (e_cbM (e_consA (e_var rfl) (e_consA e_cst e_nilA)) rfl) rfl
theorem kML_at {xs : List Val} {ks : List Key} (h : keysL xs = some ks) (hz : xs.length < 100000) : kML [some (.fz (.tup xs)), none] = .ok (.lst xs, [some (.fz (.tup xs)), none]) := by
  have cl := e_cLt (vs := [1]) (t := nameT 1) (c := tstM truV (cbM (f2 isiV) (consA (varM 1) (consA (tupM (consA (cstM (.ty "int")) (consA (cstM (.ty "str")) nilA))) nilA)))) (e := varM 1) (ρ := [some (.fz (.tup xs)), none]) id (fun x => [some (.fz (.tup xs)), some (.fz x)]) rfl xs fun x hx => by
    rcases keysL_mem h x hx with ⟨i, rfl⟩ | ⟨s, rfl⟩
    · exact ⟨rfl, e_tst (e_cbM (e_consA (e_var rfl) (e_consA (e_tupM (e_consA e_cst (e_consA e_cst e_nilA)) (small_sz rfl)) e_nilA)) rfl) rfl, rfl, rfl, rfl⟩
    · exact ⟨rfl, e_tst (e_cbM (e_consA (e_var rfl) (e_consA (e_tupM (e_consA e_cst (e_consA e_cst e_nilA)) (small_sz rfl)) e_nilA)) rfl) rfl, rfl, rfl, rfl⟩
  rw [List.map_id] at cl
  refine e_listM (e_compF (e_walkM (e_var rfl) rfl) (Nat.lt_trans hz (by decide)) rfl cl) (melts_all ?_)
  rw [List.all_eq_true]
  intro x hx
  rcases keysL_mem h x hx with ⟨i, rfl⟩ | ⟨s, rfl⟩ <;> rfl
theorem key_rd {N : List Str} {vs : List V} {H : Hp} {Q : VK} {t1 t3 : TS} (hN : N.length = 2) (h : spKey C vs H Q E) :
    tSeq (tIfS (SB C E kM1) t1 tNext) (tSeq (tIfS (SB C E kM2) (tRet (tCB (rTupOf C.K) (tCons (SE C E kML) tNil))) tNext) t3) { nx := fun x H' => Q V.non H', rt := Q } (L2.start N vs) H := by
  obtain ⟨A, v, xs, ks, rfl, fr, tb, r, hk, hz, q⟩ := h
  have env := env_fz (reps_cons r reps_nil)
  have N0 := now_start (N := N) fr tb env fz_pin
  have pe : padE ([Val.tup xs].map fun x => some (SV.fz x)) N.length = [some (.fz (.tup xs)), none] := by rw [hN]; rfl
  rw [pe] at N0
  refine ⟨_, A, _, N0, ?_⟩
  rw [kM1_at]
  intro H1 N1 g1
  rw [if_neg (fun z : false = true => nomatch z)]
  refine ⟨_, A, _, N1, ?_⟩
  rw [kM2_at]
  intro H2 N2 g2
  rw [if_pos rfl]
  refine ⟨_, A, _, N2, ?_⟩
  rw [kML_at hk hz]
  intro u H3 N3 g3 r3
  obtain ⟨p, us, rfl, _, hp, rs⟩ := rep_lst.mp r3
  have eu := reps_keys rs hk
  refine ⟨p, us, rfl, .inl ⟨SqL.of hp, fun l hl => ?_⟩⟩
  have af := now_aft env N3
  refine q l _ (fun c o t h => ?_) (fun c h => af.fe c (fz_upd nt h).2) (af.tb.ext fun c o h => by rw [upd_ne (fun z => by rw [z, hl] at h; cases h)]; exact h) (by rw [upd_same, eu])
  have := af.kp c o t no_own h
  rw [upd_ne (fun z => by rw [z, hl] at this; cases this)]; exact this
end
end Y

set_option Elab.async false
set_option linter.all false
set_option maxRecDepth 100000
set_option maxHeartbeats 4000000
set_option autoImplicit false
/-! WN: new dicts; dict comprehensions. -/
namespace Y
open PySem PySem.Spec PyProof.Rows L2 Z
section
variable {X : Cx} {C : Cn} {E E0 : XK} {e a b tg : Expr} {ma mb : ME} {ms mk : MS} {mi : MI} {es : List Expr} {ml : MA} {mf : ML} {pos : Pos}
theorem zip_inj {α : Type} : ∀ {ks : List α} {us vs : List V}, ks.length = us.length → ks.length = vs.length → ks.zip us = ks.zip vs → us = vs
  | [], [], [], _, _, _ => rfl
  | [], _ :: _, _, h, _, _ => by cases h
  | [], [], _ :: _, _, h, _ => by cases h
  | _ :: _, [], _, h, _, _ => by cases h
  | _ :: _, _ :: _, [], _, h, _ => by cases h
  | k :: ks, u :: us, v :: vs, h, h', e => by
    simp only [List.zip_cons_cons, List.cons.injEq, Prod.mk.injEq] at e
    rw [e.1.2, zip_inj (by simpa using h) (by simpa using h') e.2]
/-- a dict that grows by a new value -/
theorem Gm.snocD {B : Bs} {A : Rg} {σ σ3 σw : L2.St} {H1 H' H4 H5 : Hp} {ρ0 ρ' ρ4 ρ5 : En} {D : Addr} {us : List V} {acc : List Val} {w : V} {y : Val} {ks : List Key} {k : Key} (lks : ks.length = us.length) (lac : us.length = acc.length) (fD : Fz B.H0 D) (N' : Now C B (lessL A (fl H' (.ref D) (.odic ks acc))) H' σw ρ') (n : Gm C σ A H1 ρ0 (.ref D) (.odic ks acc) σw H' ρ') (hD : H' D = some (.dK (ks.zip us))) (tn : Turn σw H' ρ' σ3 H4 ρ4)
    (N5 : Now C B (lessL (lessL A (fl H' (.ref D) (.odic ks acc))) (fl H5 w y)) H5 σ3 ρ5) (n5 : Gn C σ3 (lessL A (fl H' (.ref D) (.odic ks acc))) H4 ρ4 w y H5 ρ5) :
    H5 D = some (.dK (ks.zip us)) ∧ Now C B (lessL A (fl (upd H5 D (.dK ((ks ++ [k]).zip (us ++ [w])))) (.ref D) (.odic (ks ++ [k]) (acc ++ [y])))) (upd H5 D (.dK ((ks ++ [k]).zip (us ++ [w])))) σ3 ρ5 ∧ Gm C σ A H1 ρ0 (.ref D) (.odic (ks ++ [k]) (acc ++ [y])) σ3 (upd H5 D (.dK ((ks ++ [k]).zip (us ++ [w])))) ρ5 := by
  have eL : fl H' (.ref D) (.odic ks acc) = D :: fls H' us acc := fl_odic hD lks
  obtain ⟨a', vs', e1, e2, e3, r0⟩ := ro_odic.mp n.r
  cases e1
  have lvs : ks.length = vs'.length := by rw [r0.len]; exact e3
  rw [hD] at e2
  obtain rfl : us = vs' := zip_inj lks lvs (HO.dK.inj (Option.some.inj e2))
  have t5 := tn.trans n5.turn
  have nown : ∀ a ∈ fl H' (.ref D) (.odic ks acc), ¬ OwnAt H5 σ3 ρ5 a := fun a ha z => by
    rcases t5.o a z with q | q
    · exact (n.d a ha).2 q
    · obtain ⟨u, q1, q2⟩ := ro.in n.r ha
      exact q.no q1 q2.1
  have keep5 : ∀ a ∈ fl H' (.ref D) (.odic ks acc), H5 a = H' a := fun a ha => by
    obtain ⟨u, q1, q2⟩ := ro.in n.r ha
    rw [q1]; exact t5.k a u q2.1 q1 (n.d a ha).2
  have mD : D ∈ fl H' (.ref D) (.odic ks acc) := by rw [eL]; exact .head _
  have hD5 : H5 D = some (.dK (ks.zip us)) := by rw [keep5 D mD]; exact hD
  have oldnew : ∀ a ∈ fl H' (.ref D) (.odic ks acc), a ∉ fl H5 w y := fun a ha z => by
    obtain ⟨u, q1, q2⟩ := ro.in n.r ha
    exact (n5.d a z).1.no (tn.k a u q2.1 q1 (n.d a ha).2) q2.1
  have neA : ∀ a ∈ fls H' us acc, a ≠ D := fun a ha e => by
    have := n.n
    rw [eL, List.nodup_cons] at this
    exact this.1 (by rw [← e]; exact ha)
  have gU : Gr (lessL (lessL A (fl H' (.ref D) (.odic ks acc))) (fl H5 w y)) H5 (lessL (lessL A (fl H' (.ref D) (.odic ks acc))) (fl H5 w y)) (upd H5 D (.dK ((ks ++ [k]).zip (us ++ [w])))) := fun a o _ h e => ⟨h, by rw [upd_ne fun z => h.1.2 (by rw [z]; exact mD)]; exact e⟩
  have g05 : Gr (lessL A (fl H' (.ref D) (.odic ks acc))) H' (lessL (lessL A (fl H' (.ref D) (.odic ks acc))) (fl H5 w y)) H5 := fun a o t h e => by
    have na : ¬ OwnAt H' σw ρ' a := fun z => (N'.own z).1 h
    exact ⟨⟨h, fun z => (n5.d a z).1.no (tn.k a o t e na) t⟩, t5.k a o t e na⟩
  obtain ⟨rs5, fs5⟩ := ros.frame g05 r0 fun a ha => keep5 a (by rw [eL]; exact .tail _ ha)
  obtain ⟨rs6, fs6⟩ := ros.frame gU rs5 fun a ha => by rw [upd_ne (neA a (by rw [← fs5]; exact ha))]
  have neM : ∀ a ∈ fl H5 w y, a ≠ D := fun a ha e => oldnew D mD (by rw [← e]; exact ha)
  obtain ⟨rw6, fw6⟩ := ro.frame gU n5.r fun a ha => by rw [upd_ne (neM a ha)]
  have eL6 : fl (upd H5 D (.dK ((ks ++ [k]).zip (us ++ [w])))) (.ref D) (.odic (ks ++ [k]) (acc ++ [y])) = fl H' (.ref D) (.odic ks acc) ++ fl H5 w y := by
    rw [fl_odic upd_same (by simp [lks]), fls_app r0.len, fs6, fs5, fw6, eL]; rfl
  have eA : lessL A (fl (upd H5 D (.dK ((ks ++ [k]).zip (us ++ [w])))) (.ref D) (.odic (ks ++ [k]) (acc ++ [y]))) = lessL (lessL A (fl H' (.ref D) (.odic ks acc))) (fl H5 w y) := by rw [eL6, lessL_app]
  have fz6 : ∀ a, Fz (upd H5 D (.dK ((ks ++ [k]).zip (us ++ [w])))) a → Fz H5 a := fun a h => by
    have e : a ≠ D := fun z => by rw [z] at h; exact h.no upd_same nt
    exact fun u z => h u (by rw [upd_ne e]; exact z)
  have own6 : ∀ a, OwnAt H5 σ3 ρ5 a → (upd H5 D (.dK ((ks ++ [k]).zip (us ++ [w])))) a = H5 a ∧ ¬ (lessL (lessL A (fl H' (.ref D) (.odic ks acc))) (fl H5 w y)) a := fun a z => ⟨by rw [upd_ne (fun e => nown D mD (by rw [← e]; exact z))], (N5.own z).1⟩
  obtain ⟨_, f6⟩ := N5.env.frame gU own6
  rw [eA]
  refine ⟨hD5, N5.frame gU own6 (fun q h => N5.fr q (fz6 q h)) N5.le (fun a o t z h => ?_) (tabs_put N5.tb hD5 nt (fun _ z => nomatch z)) (fun a h => N5.fe a (fz6 a h)), ⟨fun a h => ?_, fun a o t h z => ?_, fun a h => n.f a (t5.f a (fz6 a h)), ?_, ?_, fun a ha => ?_⟩⟩
  · rw [upd_ne (fun e => by rw [e] at h; exact fD.no h t)]
    exact N5.kp a o t z h
  · rcases t5.o a ((ownAt_eq f6).mp h) with q | q
    · exact n.o a q
    · exact .inr (n.f a q)
  · have na : ¬ OwnAt H' σw ρ' a := fun q => (n.o a q).elim z fun w => w.no h t
    rw [upd_ne (fun e => by rw [e] at h; exact (n.d D mD).1.no h t)]
    exact t5.k a o t (n.k a o t h z) na
  · rw [eA]
    exact ro_odic.mpr ⟨D, _, rfl, upd_same, by simp [lks, lac], ros_app rs6 rw6⟩
  · rw [eL6]
    exact List.nodup_append.mpr ⟨n.n, n5.n, fun a ha b hb e => oldnew a ha (by rw [e]; exact hb)⟩
  · rw [eL6] at ha
    rw [ownAt_eq f6]
    rcases List.mem_append.mp ha with ha | ha
    · exact ⟨(n.d a ha).1, nown a ha⟩
    · exact ⟨n.f a (tn.f a (n5.d a ha).1), (n5.d a ha).2⟩
/-! ### dict comprehensions -/
def keyV : Val → Option Key | .int i => some (.inl i) | .str s => some (.inr s) | _ => none
theorem keyV_rep {A : Rg} {H : Hp} {x : Val} {v : V} {k : Key} (h : keyV x = some k) (r : rep C A H v x) : v = kV k := by
  cases x with
  | int i => cases h; exact rep_int.mp r
  | str s => cases h; exact rep_str.mp r
  | _ => cases h
def newK (ks : List Key) (k : Key) : Bool := !(ks.any fun q => decide (q = k))
theorem putK_new {ks : List Key} {us : List V} {k : Key} {z : V} (l : ks.length = us.length) (n : newK ks k = true) : putK (ks.zip us) k z = (ks ++ [k]).zip (us ++ [z]) := by
  rw [zip_app l]
  unfold putK
  rw [if_neg]
  intro h
  obtain ⟨p, hp, e⟩ := List.any_eq_true.mp h
  unfold newK at n
  rw [Bool.not_eq_true', List.any_eq_false] at n
  exact n p.1 (List.of_mem_zip hp).1 e
abbrev MD := En → Rs ((List Key × List Val) × En)
def ownD (m : MD) : MN := fun ρ => m ρ >>= fun x => .ok (.odic x.1.1 x.1.2, x.2)
def dcompL (vs : List Nat) (t : MT) (c : MB) (mk : ME) (me : MN) : List Val → List Key → MD
  | [], _, ρ => .ok (([], []), ρ)
  | x :: xs, ks, ρ => Rs.opt (t x (wipeE ρ vs)) >>= fun ρ1 => noX (c ρ1) >>= fun q =>
      if q.1 = true then noX (mk q.2) >>= fun z => Rs.opt (keyV z.1) >>= fun k => if newK ks k = true then noX (me z.2) >>= fun y => if vs.all (freeS y.2) = true then dcompL vs t c mk me xs (ks ++ [k]) (wipeE y.2 vs) >>= fun r => .ok ((k :: r.1.1, y.1 :: r.1.2), r.2) else .bad else .bad
      else if vs.all (freeS q.2) = true then dcompL vs t c mk me xs ks (wipeE q.2 vs) else .bad
def dcompF (vs : List Nat) (mi : MI) (t : MT) (c : MB) (mk : ME) (me : MN) : MD := fun ρ => mi ρ >>= fun x => if x.1.length < sizeLine ∧ vs.all (freeS x.2) = true then dcompL vs t c mk me x.1 [] (wipeE x.2 vs) else .bad
theorem dcompL_out {vs : List Nat} {t : MT} {c : MB} {mk : ME} {me : MN} {E : XW} {Q : (List Key × List Val) × En → Prop} : ∀ {xs : List Val} {ks : List Key} {ρ : En}, (∀ i ∈ vs, ∀ s, ρ[i]? ≠ some (some s)) → (dcompL vs t c mk me xs ks ρ).wp Q E → (dcompL vs t c mk me xs ks ρ).wp (fun r => Q r ∧ ∀ i ∈ vs, ∀ s, r.2[i]? ≠ some (some s)) E
  | [], ks, ρ, h, hw => ⟨hw, h⟩
  | x :: xs, ks, ρ, h, hw => by
    unfold dcompL at hw ⊢
    refine Rs.bind_wp (Rs.wp_mono (Rs.wp_bind hw) (fun ρ1 h1 => Rs.bind_wp (Rs.wp_mono (Rs.wp_bind h1) (fun k hk => ?_) fun _ _ _ _ h => h)) fun _ _ _ _ h => h)
    by_cases hb : k.1 = true
    · rw [if_pos hb] at hk ⊢
      refine Rs.bind_wp (Rs.wp_mono (Rs.wp_bind hk) (fun z hz => Rs.bind_wp (Rs.wp_mono (Rs.wp_bind hz) (fun kk hkk => ?_) fun _ _ _ _ h => h)) fun _ _ _ _ h => h)
      obtain ⟨hn, hkk⟩ := ite_bad hkk
      rw [if_pos hn]
      refine Rs.bind_wp (Rs.wp_mono (Rs.wp_bind hkk) (fun y hy => ?_) fun _ _ _ _ h => h)
      obtain ⟨hf, hy⟩ := ite_bad hy
      rw [if_pos hf]
      exact Rs.bind_wp (Rs.wp_mono (dcompL_out (wipeE_no _) (Rs.wp_bind hy)) (fun r hr => hr) fun _ _ _ _ h => h)
    · rw [if_neg hb] at hk ⊢
      obtain ⟨hf, hk⟩ := ite_bad hk
      rw [if_pos hf]
      exact dcompL_out (wipeE_no _) hk
theorem sd_of {m : MD} {σ : L2.St} {H : Hp} {Q : VK} (h : SN C E (ownD m) σ H Q) : ∃ B A ρ, Now C B A H σ ρ ∧ (m ρ).wp (fun x => ∀ v H', Now C B (lessL A (fl H' v (.odic x.1.1 x.1.2))) H' σ x.2 → Gn C σ A H ρ v (.odic x.1.1 x.1.2) H' x.2 → Q v H') (EXe C E B A H σ ρ) := by
  obtain ⟨B, A, ρ, N, hm⟩ := h
  exact ⟨B, A, ρ, N, Rs.wp_bind hm⟩
theorem gn_newD {B : Bs} {A : Rg} {H1 : Hp} {σ : L2.St} {ρ1 : En} (N1 : Now C B A H1 σ ρ1) {p : Addr} (hp : H1 p = none) :
    fl (upd H1 p (.dK [])) (.ref p) (.odic [] []) = [p] ∧ Now C B (lessL A (fl (upd H1 p (.dK [])) (.ref p) (.odic [] []))) (upd H1 p (.dK [])) σ ρ1 ∧ Gn C σ A H1 ρ1 (.ref p) (.odic [] []) (upd H1 p (.dK [])) ρ1 := by
  have ef : fl (upd H1 p (.dK [])) (.ref p) (.odic [] []) = [p] := by
    have := fl_odic (H := upd H1 p (.dK [])) (ks := []) (xs := []) (a := p) (vs := []) upd_same rfl
    rw [this]; rfl
  have N2 := N1.cut (o := .dK []) hp nt
  have g2 := Gd.same N1 (same_new (o := .dK []) hp)
  refine ⟨ef, by rw [ef, ← less_eq]; exact N2, ⟨g2.o, g2.k, g2.f, by rw [ef, ← less_eq]; exact ro_odic.mpr ⟨p, [], rfl, upd_same, rfl, ros_nil⟩, by rw [ef]; simp, fun a ha => ?_⟩⟩
  rw [ef] at ha
  rw [List.mem_singleton.mp ha]
  exact ⟨.of hp, not_own_new N1 hp⟩
theorem gn_newT {B : Bs} {A : Rg} {H1 : Hp} {σ : L2.St} {ρ1 : En} (N1 : Now C B A H1 σ ρ1) {p : Addr} (hp : H1 p = none) :
    Now C B (lessL A (fl (upd H1 p (.dT [])) (.ref p) (.odit [] []))) (upd H1 p (.dT [])) σ ρ1 ∧ Gn C σ A H1 ρ1 (.ref p) (.odit [] []) (upd H1 p (.dT [])) ρ1 := by
  have ef : fl (upd H1 p (.dT [])) (.ref p) (.odit [] []) = [p] := by
    have := fl_odit (H := upd H1 p (.dT [])) (ks := []) (xs := []) (a := p) (vs := []) upd_same rfl
    rw [this]; rfl
  have N2 := N1.cut (o := .dT []) hp nt
  have g2 := Gd.same N1 (same_new (o := .dT []) hp)
  refine ⟨by rw [ef, ← less_eq]; exact N2, ⟨g2.o, g2.k, g2.f, by rw [ef, ← less_eq]; exact ro_odit.mpr ⟨p, [], rfl, upd_same, rfl, ros_nil⟩, by rw [ef]; simp, fun a ha => ?_⟩⟩
  rw [ef] at ha
  rw [List.mem_singleton.mp ha]
  exact ⟨.of hp, not_own_new N1 hp⟩
/-- {}, of keys, or of keys that are tuples -/
theorem yn_dic0 : PE X (.Dict [] [] pos) (SN C E (cstM (.odic [] []))) := PE.imp pe_dnewK fun σ H Q ⟨B, A, ρ, N, hm⟩ => fun p hp => by
  obtain ⟨_, N2, n2⟩ := gn_newD N hp
  exact hm _ _ N2 n2
theorem yn_dit0 : PE X (.Dict [] [] pos) (SN C E (cstM (.odit [] []))) := PE.imp pe_dnewT fun σ H Q ⟨B, A, ρ, N, hm⟩ => fun p hp => by
  obtain ⟨N2, n2⟩ := gn_newT N hp
  exact hm _ _ N2 n2
theorem dc_rd {me : MN} {mk : ME} {wi : TI} {vs is : List Nat} {t : MT} {c : MB} {tt : TT} (hs : ∀ i ∈ is, i ∈ vs) (hw : ∀ σ H R, SI C E mi σ H R → wi σ H R) (ht : ∀ σ H Q, SB C E0 c σ H Q → tt σ H Q) :
    ∀ σ H Q, SN C E (ownD (dcompF vs mi t c mk me)) σ H Q → tDc wi (SG C is t) tt (SE C E0 mk) (SN C E0 me) vs σ H Q := fun σ H Q hsf => by
  obtain ⟨B, A, ρ, N, hm⟩ := sd_of hsf
  refine hw _ _ _ ⟨B, A, ρ, N, Rs.wp_mono (Rs.wp_bind hm) (fun x hx J H1 N1 g1 wk => ?_) fun _ _ _ _ h => h⟩
  obtain ⟨⟨hz, hf⟩, hx⟩ := ite_bad hx
  intro D hD
  have hx' := dcompL_out (wipeE_no _) hx
  have ww : ∀ τ : L2.St, L2.wipe (L2.wipe τ vs) vs = L2.wipe τ vs := fun τ => wipe_off (is := []) (ρ := []) (ρ' := []) ⟨rfl, fun _ _ => rfl, fun _ _ _ h => ⟨(fun z => nomatch z), h⟩⟩ fun _ h => nomatch h
  obtain ⟨ef0, N0, n0⟩ := gn_newD N1 hD
  let Wd : Nat → Hp → Prop := fun i H' => ∃ ρ' us acc ks, ks.length = us.length ∧ us.length = acc.length ∧ Now C B (lessL A (fl H' (.ref D) (.odic ks acc))) H' (L2.wipe σ vs) ρ' ∧ Gm C σ A H1 x.2 (.ref D) (.odic ks acc) (L2.wipe σ vs) H' ρ' ∧ H' D = some (.dK (ks.zip us)) ∧ us.length ≤ i ∧
    (dcompL vs t c mk me (x.1.drop i) ks ρ').wp (fun r => (∀ v H', Now C B (lessL A (fl H' v (.odic (ks ++ r.1.1) (acc ++ r.1.2)))) H' σ r.2 → Gn C σ A H ρ v (.odic (ks ++ r.1.1) (acc ++ r.1.2)) H' r.2 → Q v H') ∧ ∀ i ∈ vs, ∀ s, r.2[i]? ≠ some (some s)) (EXe C E B A H σ ρ)
  have start : Gm C σ A H1 x.2 (.ref D) (.odic [] []) (L2.wipe σ vs) (upd H1 D (.dK [])) (wipeE x.2 vs) := ⟨fun a h => n0.o a (own_wipe h), n0.k, n0.f, n0.r, n0.n, fun a h => ⟨(n0.d a h).1, fun z => (n0.d a h).2 (own_wipe z)⟩⟩
  refine ⟨fun i m H' => m = x.1.length - i ∧ i ≤ x.1.length ∧ Wd i H', ⟨x.1.length, by simp, Nat.zero_le _, wipeE x.2 vs, [], [], [], rfl, rfl, N0.wipe vs hf, start, upd_same, Nat.zero_le _, by rw [List.drop_zero]; simpa using hx'⟩, ?_⟩
  rintro i m H' ⟨rfl, hi, ρ', us, acc, ks, lks, lac, N', n', hl, hu, hw'⟩
  obtain ⟨w1, w2⟩ := wk _ H' (n'.g N1) N'.fr
  by_cases hlt : i < x.1.length
  · obtain ⟨go, yl⟩ := w1 i x.1[i] (by simp [hlt])
    refine .inr ⟨go, Wd (i + 1), fun H2 w => ⟨x.1.length - (i + 1), by omega, rfl, hlt, w⟩, fun v H2 hy => ?_⟩
    obtain ⟨s2, rv⟩ := yl v H2 hy
    have N2 := N'.same s2
    have tn1 : Turn (L2.wipe σ vs) H' ρ' (L2.wipe σ vs) H2 ρ' := (Gd.same N' s2).turn
    rw [List.drop_eq_getElem_cons hlt] at hw'
    unfold dcompL at hw'
    obtain ⟨ρ1, e1, hb⟩ := Rs.wp_opt (Rs.wp_bind hw')
    have fr' : vs.all (freeS ρ') = true := by
      rw [List.all_eq_true]
      intro i hi
      have hne : ∀ s, ρ'[i]? ≠ some (some s) := fun s z => by
        obtain ⟨v, h1, _⟩ := N'.env.sl i s z
        exact (wipe_some h1).2 hi
      unfold freeS
      cases e : ρ'[i]? with
      | none =>
        rw [List.getElem?_eq_none_iff] at e
        have e2 := N'.env.len
        rw [L2.wipe_length] at e2
        have h3 := List.all_eq_true.mp hf i hi
        unfold freeS at h3
        have e3 := N1.env.len
        rw [List.getElem?_eq_none (show x.2.length ≤ i by omega)] at h3
        cases h3
      | some u =>
        cases u with
        | none => rfl
        | some s => exact absurd e (hne s)
    have N2w := N2.wipe vs fr'
    rw [ww] at N2w
    refine ⟨B, _, wipeE ρ' vs, x.1[i], ρ1, N2w, rv, e1, fun σ3 N3 o3 => ⟨wipe_off o3 hs, ht _ _ _ ⟨B, _, ρ1, N3, noX_wp (Rs.wp_mono (Rs.wp_bind hb) (fun k hk H4 N4 g4 => ?_) fun _ _ _ _ h => h)⟩⟩⟩
    have tn3 : Turn (L2.wipe σ vs) H' ρ' σ3 H4 k.2 := (tn1.trans (.slots fun a h => own_wipe (σ := L2.wipe σ vs) (by rw [ww]; exact o3.own h))).trans g4.turn
    have keepD : ∀ {H5 : Hp} {ρ5 : En}, Turn (L2.wipe σ vs) H' ρ' σ3 H5 ρ5 → H5 D = some (.dK (ks.zip us)) := fun t => t.k D _ nt hl (n'.d D (by rw [fl_odic hl lks]; exact .head _)).2
    by_cases hk1 : k.1 = true
    · rw [if_pos hk1] at hk
      show if k.1 = true then _ else _
      rw [if_pos hk1]
      refine ⟨B, _, k.2, N4, noX_wp (Rs.wp_mono (Rs.wp_bind hk) (fun z hz w0 H4' N4' g4' r4' => ?_) fun _ _ _ _ h => h)⟩
      obtain ⟨kk, ek, hz⟩ := Rs.wp_opt (Rs.wp_bind hz)
      obtain ⟨kn, hz⟩ := ite_bad hz
      have tn3' := tn3.trans g4'.turn
      refine ⟨B, _, z.2, N4', noX_wp (Rs.wp_mono (Rs.wp_bind hz) (fun y hy w H5 N5 n5 => ?_) fun _ _ _ _ h => h)⟩
      obtain ⟨hf5, hy⟩ := ite_bad hy
      obtain ⟨hD5, N6, n6⟩ := Gm.snocD (k := kk) lks lac (N1.fe D (.of hD)) N' n' hl tn3' N5 n5
      refine ⟨ks.zip us, kk, keyV_rep ek r4', hD5, by rw [List.length_zip]; omega, ?_⟩
      rw [putK_new lks kn]
      refine ⟨wipeE y.2 vs, us ++ [w], acc ++ [y.1], ks ++ [kk], by simp [lks], by simp [lac], ?_, ⟨fun a h => n6.o a (own_wipe (σ := σ3) (by rw [wipe_off o3 hs]; exact h)), n6.k, n6.f, n6.r, n6.n, fun a h => ⟨(n6.d a h).1, fun z => (n6.d a h).2 (own_wipe (σ := σ3) (by rw [wipe_off o3 hs]; exact z))⟩⟩, upd_same, by simp; omega, ?_⟩
      · have N7 := N6.wipe vs hf5
        rw [wipe_off o3 hs] at N7
        exact N7
      · exact Rs.wp_mono (Rs.wp_bind hy) (fun r hr => ⟨fun v H' a1 a2 => hr.1 v H' (by rw [List.append_assoc, List.append_assoc] at a1; exact a1) (by rw [List.append_assoc, List.append_assoc] at a2; exact a2), hr.2⟩) fun _ _ _ _ h => h
    · rw [if_neg hk1] at hk
      show if k.1 = true then _ else _
      rw [if_neg hk1]
      obtain ⟨hf5, hk⟩ := ite_bad hk
      have N6 := N4.wipe vs hf5
      rw [wipe_off o3 hs] at N6
      have t6 : Turn (L2.wipe σ vs) H' ρ' (L2.wipe σ vs) H4 (wipeE k.2 vs) := tn3.trans (.slots fun a h => own_wipe (σ := σ3) (by rw [wipe_off o3 hs]; exact h))
      have g6 : Gr (lessL A (fl H' (.ref D) (.odic ks acc))) H' (lessL A (fl H' (.ref D) (.odic ks acc))) H4 := fun a o t h e => ⟨h, t6.k a o t e fun z => (N'.own z).1 h⟩
      have k6 : ∀ a ∈ fl H' (.ref D) (.odic ks acc), H4 a = H' a := fun a ha => by
        obtain ⟨u, q1, q2⟩ := ro.in n'.r ha
        rw [q1]; exact t6.k a u q2.1 q1 (n'.d a ha).2
      obtain ⟨r6, e6⟩ := ro.frame g6 n'.r k6
      refine ⟨wipeE k.2 vs, us, acc, ks, lks, lac, by rw [e6]; exact N6, ⟨fun a h => (t6.o a h).elim (n'.o a) fun z => .inr (n'.f a z), fun a o t h z => t6.k a o t (n'.k a o t h z) fun q => (n'.o a q).elim z fun w => w.no h t, fun a h => n'.f a (t6.f a h), by rw [e6]; exact r6, by rw [e6]; exact n'.n, fun a h => ?_⟩, keepD tn3, by omega, hk⟩
      rw [e6] at h
      refine ⟨(n'.d a h).1, fun z => ?_⟩
      rcases t6.o a z with q | q
      · exact (n'.d a h).2 q
      · obtain ⟨u, q1, q2⟩ := ro.in n'.r h
        exact q.no q1 q2.1
  · have e : i = x.1.length := by omega
    subst e
    rw [List.drop_length] at hw'
    obtain ⟨hq, hv⟩ : (∀ v H', Now C B (lessL A (fl H' v (.odic (ks ++ []) (acc ++ [])))) H' σ ρ' → Gn C σ A H ρ v (.odic (ks ++ []) (acc ++ [])) H' ρ' → Q v H') ∧ ∀ i ∈ vs, ∀ s, ρ'[i]? ≠ some (some s) := hw'
    rw [List.append_nil, List.append_nil] at hq
    exact .inl ⟨w2, hq (.ref D) H' (N'.back hv) (Gm.tr g1 ⟨fun a h => n'.o a ((own_back hv).mpr h), n'.k, n'.f, n'.r, n'.n, fun a h => ⟨(n'.d a h).1, fun z => (n'.d a h).2 ((own_back hv).mpr z)⟩⟩)⟩
theorem y_dc {me : MN} {mk : ME} {kx vx tg iter : Expr} {ifs : List Expr} {scope : Scope} {own : List (Str × Nat)} {pos : Pos} {is : List Nat} {t : MT} {c : MB} {tt : TT} (hc : X.calm = true) (hN : X.N.Nodup) (hi : PI X tg iter (SI C E mi)) (ok : BlkOk X.N X.env.scope scope own) (hs : ∀ i ∈ is, i ∈ own.map (·.2)) (htt : ∀ σ H Q, SB C E0 c σ H Q → tt σ H Q)
    (hg : ∀ (s : Shared) (H : Hp) (D : Addr) (cl : List (Str × Addr)) (fp : List Addr), PG (X.blk s H scope (compEnvC scope cl D X.env) fp) tg (SG C is t)) (ht : ∀ (s : Shared) (H : Hp) (D : Addr) (cl : List (Str × Addr)) (fp : List Addr), PTs (X.blk s H scope (compEnvC scope cl D X.env) fp) ifs tt)
    (hk : ∀ (s : Shared) (H : Hp) (D : Addr) (cl : List (Str × Addr)) (fp : List Addr), PE (X.blk s H scope (compEnvC scope cl D X.env) fp) kx (SE C E0 mk))
    (he : ∀ (s : Shared) (H : Hp) (D : Addr) (cl : List (Str × Addr)) (fp : List Addr), PE (X.blk s H scope (compEnvC scope cl D X.env) fp) vx (SN C E0 me)) (hf : ∀ x, foldedSetIterable iter X.env x = pure x := by intro _; rfl) :
    PE X (.DictComp kx vx [⟨tg, iter, ifs, 0⟩] scope pos) (SN C E (ownD (dcompF (own.map (·.2)) mi t c mk me))) := PE.imp (pe_dc hc hN hi ok hg ht hk he hf) (dc_rd hs (fun _ _ _ h => h) htt)
end
end Y

set_option Elab.async false
set_option linter.all false
set_option maxRecDepth 100000
set_option maxHeartbeats 4000000
set_option autoImplicit false
/-! WO: dicts read; x[k][i].append(y), x an own dict of own lists of own lists. -/
namespace Y
open PySem PySem.Spec PyProof.Rows L2 Z
section
variable {X : Cx} {C : Cn} {E E0 : XK} {e a b tg : Expr} {ma mb : ME} {ms mk : MS} {mi : MI} {es : List Expr} {ml : MA} {mf : ML} {pos : Pos}
/-- d[k], the keys ints and texts -/
def dgetV : Val → Val → Option Val := fun x y => match x with
  | .dic ks xs => (keyV y).bind fun k => (kix ks k).bind fun n => xs[n]?
  | _ => none
theorem dget_rd : ∀ σ H Q, SE C E (binM dgetV ma mb) σ H Q → tDGet (SE C E ma) (SE C E mb) σ H Q := fun σ H Q ⟨B, A, ρ, N, hm⟩ =>
  ⟨B, A, ρ, N, Rs.wp_mono (Rs.wp_bind hm) (fun x hx u H1 N1 g1 r1 => ⟨B, A, x.2, N1, Rs.wp_mono (Rs.wp_bind hx) (fun y hy w H2 N2 g2 r2 => by
    obtain ⟨z, e, hz⟩ := Rs.wp_opt (Rs.wp_bind hy)
    unfold dgetV at e
    split at e
    · rename_i ks xs q
      obtain ⟨k, hk, e⟩ := Option.bind_eq_some_iff.mp e
      obtain ⟨n, hn, e⟩ := Option.bind_eq_some_iff.mp e
      have r1 := rep.gr g2.g r1
      rw [q] at r1
      obtain ⟨a, vs, rfl, na, ha, hl, rs⟩ := rep_dic.mp r1
      obtain ⟨v, hv, rv⟩ := wk_list.paired_at' rs.pair e
      have ek := keyV_rep hk r2
      subst ek
      refine ⟨a, v, rfl, ?_, hz v H2 N2 (g1.trans g2) rv⟩
      have := DGet.k (k := k) ha
      rw [kix_val (by rw [rs.len]; exact hl), hn, Option.bind_some, hv] at this
      exact this
    · cases e) (EXe.tr g1)⟩) fun _ _ _ _ h => h⟩
theorem y_dget {o i : Expr} (hu : X.A.units + 1 < cLine) (ho : PE X o (SE C E ma)) (hi : PE X i (SE C E mb)) (hs : NoSl i) : PE X (.Subscript o i pos) (SE C E (binM dgetV ma mb)) := PE.imp (pe_dget hu ho hi hs) dget_rd
/-- x[k][i].append(y): all names -/
def app2S (i c o v : Nat) : MS := fun ρ => match ρ[i]?, ρ[c]?, ρ[o]?, ρ[v]? with
  | some (some (.ob p (.odic ks xs))), some (some (.fz x)), some (some (.fz (.int j))), some (some (.fz y)) => (match keyV x with
    | some k => (match kix ks k with
      | some n => (match xs[n]? with
        | some (.olst ys) => (match ixN ys.length j with
          | some m => (match ys[m]? with
            | some (.olst zs) => if zs.length < 100000 then .ok (.nx (ρ.set i (some (.ob p (.odic ks (xs.set n (.olst (ys.set m (.olst (zs ++ [y]))))))))) ) else .bad
            | _ => .bad)
          | none => .bad)
        | _ => .bad)
      | none => .bad)
    | none => .bad)
  | _, _, _, _ => .bad
theorem Now.odic {B : Bs} {A : Rg} {H : Hp} {σ : L2.St} {ρ : En} {i : Nat} {p : Bool} {ks : List Key} {xs : List Val} (N : Now C B A H σ ρ) (h : ρ[i]? = some (some (.ob p (.odic ks xs)))) : ∃ l vs, σ[i]? = some (some (.ref l)) ∧ H l = some (.dK (ks.zip vs)) ∧ ks.length = xs.length ∧ ros C A H vs xs ∧ slr C A H (.ref l) (.ob p (.odic ks xs)) ∧ fl H (.ref l) (.odic ks xs) = l :: fls H vs xs := by
  obtain ⟨v, h1, h2⟩ := N.slot h
  obtain ⟨o, r, n, d⟩ := h2
  obtain ⟨l, vs, rfl, k, hl, rs⟩ := ro_odic.mp r
  exact ⟨l, vs, h1, k, hl, rs, ⟨o, r, n, d⟩, fl_odic k (by rw [rs.len]; exact hl)⟩
theorem fls_at {H : Hp} {a : Addr} {x : Val} {v : V} : ∀ {xs : List Val} {vs : List V} {n : Nat}, xs[n]? = some x → vs[n]? = some v → a ∈ fl H v x → a ∈ fls H vs xs
  | [], _, _, h, _, _ => by simp at h
  | _ :: _, [], _, _, h, _ => by simp at h
  | z :: zs, w :: ws, n, hx, hv, ha => by
    rw [fls_cons]
    cases n with
    | zero => simp at hx hv; subst hx hv; exact List.mem_append_left _ ha
    | succ n => exact List.mem_append_right _ (fls_at (by simpa using hx) (by simpa using hv) ha)
theorem fls_nd {H : Hp} {x : Val} {v : V} : ∀ {xs : List Val} {vs : List V} {n : Nat}, xs[n]? = some x → vs[n]? = some v → (fls H vs xs).Nodup → (fl H v x).Nodup
  | [], _, _, h, _, _ => by simp at h
  | _ :: _, [], _, _, h, _ => by simp at h
  | z :: zs, w :: ws, n, hx, hv, nd => by
    rw [fls_cons] at nd
    obtain ⟨n1, n2, _⟩ := List.nodup_append.mp nd
    cases n with
    | zero => simp at hx hv; subst hx hv; exact n1
    | succ n => exact fls_nd (by simpa using hx) (by simpa using hv) n2
theorem ys_app2 {i c o v : Nat} {st : Stmt} (h : PS X st (tDrop (tBM C.K "list" rAppend (tOp (rIx C.K) (tDGet (tVar i) (tVar c)) (tVar o)) (tCons (tVar v) tNil)))) : PS X st (SS C E (app2S i c o v)) := PS.imp h fun D σ H ⟨B, A, ρ, N, hm⟩ => by
  unfold app2S at hm
  split at hm
  · rename_i p ks xs x j y h0 h1 h2 h3
    obtain ⟨l1, vs, hσ, ha, hl, rs, s0, fl1⟩ := N.odic h0
    obtain ⟨u1, e1, r1⟩ := N.slot h1
    obtain ⟨u2, e2, r2⟩ := N.slot h2
    obtain ⟨u3, e3, r3⟩ := N.slot h3
    have r1 : rep C A H u1 x := r1
    have r2 : rep C A H u2 (.int j) := r2
    have r3 : rep C A H u3 y := r3
    split at hm
    · rename_i k hk
      split at hm
      · rename_i n hn
        split at hm
        · rename_i ys hys
          split at hm
          · rename_i m hm'
            split at hm
            · rename_i zs hzs
              obtain ⟨hz, hm⟩ := ite_bad hm
              have lv : ks.length = vs.length := by rw [rs.len]; exact hl
              obtain ⟨w2, hv2, rw2⟩ := rs.at hys
              obtain ⟨l2, vs2, rfl, hl2, rs2⟩ := ro_olst.mp rw2
              obtain ⟨w3, hv3, rw3⟩ := rs2.at hzs
              obtain ⟨l3, vs3, rfl, hl3, rs3⟩ := ro_olst.mp rw3
              have f2 : fl H (.ref l2) (.olst ys) = l2 :: fls H vs2 ys := fl_olst hl2
              have f3 : fl H (.ref l3) (.olst zs) = l3 :: fls H vs3 zs := fl_olst hl3
              obtain ⟨io, r0, nd, dj⟩ := s0
              have nd : (fl H (.ref l1) (.odic ks xs)).Nodup := nd
              have dj : ∀ a' ∈ fl H (.ref l1) (.odic ks xs), ¬ A a' := dj
              rw [fl1] at nd dj
              have nd1 := (List.nodup_cons.mp nd).2
              have nd2 : (l2 :: fls H vs2 ys).Nodup := by rw [← f2]; exact fls_nd hys hv2 nd1
              have nd3 : (l3 :: fls H vs3 zs).Nodup := by rw [← f3]; exact fls_nd hzs hv3 (List.nodup_cons.mp nd2).2
              have in3 : l3 ∈ fls H vs2 ys := fls_at hzs hv3 (by rw [f3]; exact .head _)
              have in3' : l3 ∈ fls H vs xs := fls_at hys hv2 (by rw [f2]; exact List.mem_cons_of_mem _ in3)
              have n13 : l1 ≠ l3 := fun z => (List.nodup_cons.mp nd).1 (by rw [z]; exact in3')
              have n23 : l2 ≠ l3 := fun z => (List.nodup_cons.mp nd2).1 (by rw [z]; exact in3)
              have nA3 : ¬ A l3 := dj l3 (List.mem_cons_of_mem _ in3')
              have ek := keyV_rep hk r1
              have dg : DGet H l1 u1 (some (.ref l2)) := by
                have := DGet.k (k := k) ha
                rw [kix_val lv, hn, Option.bind_some, hv2] at this
                rw [ek]; exact this
              have at3 : L2.atI vs2 j = some (.ref l3) := by
                unfold L2.atI
                rw [rs2.len, hm']
                exact hv3
              have tl : tyV C.K "list" (.ref l3) H := .inl ⟨rfl, vs3, SqL.of hl3⟩
              refine ⟨_, hσ, u1, e1, l1, .ref l2, rfl, dg, u2, e2, .inl ⟨l2, vs2, j, .ref l3, rfl, rep_int.mp r2, SqL.of hl2, at3, tl, u3, e3, l3, vs3, u3, rfl, rfl, hl3, by rw [rs3.len]; exact Nat.lt_trans hz (by decide), ?_⟩⟩
              generalize eH : upd H l3 (.lst (vs3 ++ [u3])) = H'
              have H'o : ∀ c, c ≠ l3 → H' c = H c := fun c n => by rw [← eH, upd_ne n]
              have H'3 : H' l3 = some (.lst (vs3 ++ [u3])) := by rw [← eH]; exact upd_same
              have g : Gr A H A H' := fun c o _ hc h => ⟨hc, by rw [H'o c (fun z => nA3 (by rw [← z]; exact hc))]; exact h⟩
              obtain ⟨q3, q3'⟩ := ros.frame g rs3 fun c hc => H'o c (fun z => (List.nodup_cons.mp nd3).1 (by rw [← z]; exact hc))
              have r3' := rep.gr g r3
              have R3 : ro C A H' (.ref l3) (.olst (zs ++ [y])) := ro_olst.mpr ⟨l3, _, rfl, H'3, q3.append (ros_cons r3'.ro ros_nil)⟩
              have F3 : fl H' (.ref l3) (.olst (zs ++ [y])) = fl H (.ref l3) (.olst zs) := by
                rw [fl_olst H'3, f3, fls_append rs3.len, q3', fls_fz (reps_cons r3' reps_nil), List.append_nil]
              obtain ⟨q2, q2'⟩ := ros.upd g R3 F3 (fun c hc _ => H'o c (fun z => hc (by rw [f3, z]; exact .head _))) rs2 hzs hv3 (List.nodup_cons.mp nd2).2
              have R2 : ro C A H' (.ref l2) (.olst (ys.set m (.olst (zs ++ [y])))) := ro_olst.mpr ⟨l2, _, rfl, by rw [H'o l2 n23]; exact hl2, q2⟩
              have F2 : fl H' (.ref l2) (.olst (ys.set m (.olst (zs ++ [y])))) = fl H (.ref l2) (.olst ys) := by
                rw [fl_olst (vs := vs2) (by rw [H'o l2 n23]; exact hl2), f2, q2']
              obtain ⟨q1, q1'⟩ := ros.upd g R2 F2 (fun c hc _ => H'o c (fun z => hc (by rw [f2, z]; exact List.mem_cons_of_mem _ in3))) rs hys hv2 nd1
              have ha' : H' l1 = some (.dK (ks.zip vs)) := by rw [H'o l1 n13]; exact ha
              have F1 : fl H' (.ref l1) (.odic ks (xs.set n (.olst (ys.set m (.olst (zs ++ [y])))))) = fl H (.ref l1) (.odic ks xs) := by
                rw [fl_odic ha' lv, q1', fl1]
              obtain ⟨N2, g2⟩ := N.put (s := .ob p (.odic ks xs)) (s' := .ob p (.odic ks (xs.set n (.olst (ys.set m (.olst (zs ++ [y]))))))) (l := l3) (o := .lst (vs3 ++ [u3])) h0 hσ (by show l3 ∈ fl H (.ref l1) (.odic ks xs); rw [fl1]; exact List.mem_cons_of_mem _ in3') nt rfl rfl
                (by
                  rw [eH]
                  exact ⟨rfl, ro_odic.mpr ⟨l1, vs, rfl, ha', by rw [List.length_set]; exact hl, q1⟩, by rw [F1, fl1]; exact nd, by rw [F1, fl1]; exact dj⟩) (by rw [eH]; exact F1)
              rw [eH] at N2 g2
              exact hm A σ _ N2 g2.g
            · exact hm.elim
          · exact hm.elim
        · exact hm.elim
      · exact hm.elim
    · exact hm.elim
  · exact hm.elim
end
end Y

set_option Elab.async false
set_option linter.all false
set_option maxRecDepth 100000
set_option maxHeartbeats 4000000
set_option autoImplicit false
/-! WP: sorted(xs), xs a list of tuples of ints and texts. -/
namespace Y
open PySem PySem.Spec PyProof.Rows L2 Z
/-- what is compared -/
def kN : Key → Int ⊕ List Nat | .inl i => .inl i | .inr s => .inr s.cps.toList
def shOk (shape : Nat → Bool) : Nat → List Key → Bool
  | _, [] => true
  | i, .inl _ :: r => !shape i && shOk shape (i + 1) r
  | i, .inr _ :: r => shape i && shOk shape (i + 1) r
abbrev kO : KeyOrd := listOrd itemOrd
theorem items_key {shape : Nat → Bool} : ∀ {ks : List Key} {its : List Value} {i : Nat}, Vals (ks.map kV) its → shOk shape i ks = true → tupItems shape i its = some (ks.map kN)
  | [], its, i, r, _ => by cases r; rfl
  | .inl n :: ks, its, i, r, h => by
    cases r with
    | cons r1 r2 =>
      obtain ⟨t, rfl⟩ : ∃ t, _ = Value.int n t := r1
      unfold shOk at h
      rw [Bool.and_eq_true, Bool.not_eq_true'] at h
      unfold tupItems
      rw [if_neg (by rw [h.1]; exact fun z => nomatch z), items_key r2 h.2]
      rfl
  | .inr x :: ks, its, i, r, h => by
    cases r with
    | cons r1 r2 =>
      obtain ⟨t, rfl⟩ : ∃ t, _ = Value.str x t := r1
      unfold shOk at h
      rw [Bool.and_eq_true] at h
      unfold tupItems
      rw [if_pos h.1, items_key r2 h.2]
      rfl
theorem keys_same : ∀ {ks ls : List Key} {its : List Value}, Vals (ks.map kV) its → Vals (ls.map kV) its → ks.map kN = ls.map kN
  | [], [], _, _, _ => rfl
  | [], _ :: _, _, r, q => by cases r; cases q
  | _ :: _, [], _, r, q => by cases q; cases r
  | k :: ks, l :: ls, its, r, q => by
    cases r with
    | cons r1 r2 =>
      cases q with
      | cons q1 q2 =>
        have e : kN k = kN l := by
          cases k with
          | inl i =>
            obtain ⟨t, rfl⟩ : ∃ t, _ = Value.int i t := r1
            cases l with
            | inl j => obtain ⟨t', e⟩ : ∃ t', Value.int i t = Value.int j t' := q1; cases e; rfl
            | inr y => obtain ⟨t', e⟩ : ∃ t', Value.int i t = Value.str y t' := q1; cases e
          | inr x =>
            obtain ⟨t, rfl⟩ : ∃ t, _ = Value.str x t := r1
            cases l with
            | inl j => obtain ⟨t', e⟩ : ∃ t', Value.str x t = Value.int j t' := q1; cases e
            | inr y => obtain ⟨t', e⟩ : ∃ t', Value.str x t = Value.str y t' := q1; cases e; rfl
        rw [List.map_cons, List.map_cons, e, keys_same r2 q2]
def KeyAt (K : PySem.W.Frag) (H : Hp) (x : V) (ks : List Key) : Prop := ∃ t, x = .ref t ∧ SqT K H t (ks.map kV)
def rSort3 (K : PySem.W.Frag) (shape : Nat → Bool) : List V → Hp → VK → Prop := fun vs H Q => ∃ (a : Addr) (xs : List V), vs = [.ref a] ∧ SqL K H a xs ∧ (∀ x ∈ xs, ∃ ks, KeyAt K H x ks ∧ shOk shape 0 ks = true ∧ ks ≠ []) ∧
  ∀ ys p, ys.Perm xs → ys.Pairwise (fun x y => ∀ kx ky, KeyAt K H x kx → KeyAt K H y ky → kO.blt (ky.map kN) (kx.map kN) = false) → H p = none → Q (.ref p) (upd H p (.lst ys))
section
variable {X : Cx}
theorem tups_of {h : Heap} {shape : Nat → Bool} : ∀ {vs : List Value}, (∀ v ∈ vs, ∃ f, TupOf h shape v f) → ∃ fs, TupsOf h shape vs fs
  | [], _ => ⟨[], .nil⟩
  | v :: vs, q => by
    obtain ⟨f, hf⟩ := q v (.head _)
    obtain ⟨fs, hfs⟩ := tups_of fun u hu => q u (.tail _ hu)
    exact ⟨f :: fs, .cons hf hfs⟩
theorem cr_sort3 {shape : Nat → Bool} : CallR X (.builtin "sorted") (rSort3 X.K shape) := by
  intro pins s σ H vs us Q I r h
  obtain ⟨a, xs, rfl, hs, hx, q⟩ := h
  obtain ⟨its, rv, hl, hz⟩ := I.list hs
  obtain ⟨u, rfl, ru⟩ := vals1 r
  obtain rfl : u = Value.ref a := ru
  obtain ⟨e1, e2⟩ := refs_back rv fun x m => by
    obtain ⟨ks, ⟨t, e, _⟩, _⟩ := hx x m
    exact ⟨t, e⟩
  -- each item's key
  have at_ : ∀ v ∈ its, ∃ (t : Addr) (ks : List Key) (o : Obj) (its2 : List Value) (n : Nat), v = .ref t ∧ s.heap.get? t = some o ∧ o.cls = .type "tuple" ∧ o.data = .seq its2.toArray n ∧ Vals (ks.map kV) its2 ∧ shOk shape 0 ks = true ∧ ks ≠ [] := fun v hv => by
    obtain ⟨t, rfl⟩ := e2 v hv
    have hm : V.ref t ∈ xs := by rw [e1]; exact List.mem_map.mpr ⟨_, hv, rfl⟩
    obtain ⟨ks, ⟨t', e, ht⟩, sh, ne⟩ := hx _ hm
    cases e
    obtain ⟨its2, r2, pl, _⟩ := I.tuple ht
    obtain ⟨o, ho, hc, n, hd⟩ := (show s.heap.IsTuple t its2.toArray from pl)
    exact ⟨t, ks, o, its2, n, rfl, ho, hc, hd, r2, sh, ne⟩
  have key : ∀ v ∈ its, ∃ ks : List Key, G.tupKeyC s.heap shape v = some (ks.map kN) ∧ ∀ kx, KeyAt X.K H (backV v) kx → kx.map kN = ks.map kN := fun v hv => by
    obtain ⟨t, ks, o, its2, n, rfl, ho, hc, hd, r2, sh, ne⟩ := at_ v hv
    refine ⟨ks, ?_, fun kx ⟨t', e, ht'⟩ => ?_⟩
    · unfold G.tupKeyC
      have h1 : G.isTupObj s.heap (.ref t) = true := by simp [G.isTupObj, ho, hc]
      rw [if_pos h1]
      unfold tupKey
      dsimp only
      rw [ho]
      dsimp only
      rw [hd]
      exact items_key r2 sh
    · have e : V.ref t = V.ref t' := e
      cases e
      obtain ⟨its3, r3, pl, _⟩ := I.tuple ht'
      obtain ⟨o', ho', _, n', hd'⟩ := (show s.heap.IsTuple t its3.toArray from pl)
      rw [ho] at ho'; cases ho'
      rw [hd] at hd'
      have : its2 = its3 := by
        cases hd'; rfl
      subst this
      exact keys_same r3 r2
  obtain ⟨fs, hfs⟩ := tups_of (h := s.heap) (shape := shape) (vs := its) fun v hv => by
    obtain ⟨t, ks, o, its2, n, rfl, ho, hc, hd, r2, sh, ne⟩ := at_ v hv
    cases ks with
    | nil => exact absurd rfl ne
    | cons k ks =>
      cases r2 with
      | @cons _ f _ r' r1 r2 =>
        refine ⟨f, t, o, _, n, rfl, ho, hc, hd, rfl, fun h0 => ?_, fun h0 => ?_⟩
        · cases k with
          | inl i => obtain ⟨t, e⟩ : ∃ t, f = Value.int i t := r1; exact ⟨i, t, e⟩
          | inr x => unfold shOk at sh; rw [h0] at sh; simp at sh
        · cases k with
          | inl i => unfold shOk at sh; rw [h0] at sh; simp at sh
          | inr x => obtain ⟨t, e⟩ : ∃ t, f = Value.str x t := r1; exact ⟨x, t, e⟩
  refine G.sorted_tups hl.isList hfs (fun v hv => ?_) (by rw [← rv.length]; exact hz) fun st' hp hs' _ => ?_
  · obtain ⟨ks, hk, _⟩ := key v hv
    exact ⟨_, hk⟩
  generalize arrOf st' = arr at hp hs'
  have hpl : arr.toList.Perm (its.zip its) := by rw [← pairsOf_toList]; exact hp.toList
  have diag : ∀ p ∈ arr.toList, p.1 = p.2 ∧ p.2 ∈ its := fun p hp => by
    have hm := hpl.mem_iff.mp hp
    have hd : ∀ {l : List Value}, p ∈ l.zip l → p.1 = p.2 := by
      intro l
      induction l with
      | nil => intro h; cases h
      | cons x l ih =>
        intro h
        rcases List.mem_cons.mp h with rfl | h
        · rfl
        · exact ih h
    exact ⟨hd hm, (List.of_mem_zip hm).2⟩
  have hp2 : (arr.toList.map (·.2)).Perm its := by
    have := hpl.map (·.2)
    rw [List.map_snd_zip (Nat.le_refl _)] at this
    exact this
  have h3 : ∀ u ∈ arr.toList.map (·.2), ∃ a, u = Value.ref a := fun u hu => e2 u (hp2.mem_iff.mp hu)
  obtain ⟨n, hn⟩ := sortedAll_at s.heap its (arr.map (·.2))
  refine ⟨.ref (s.heap.objs.size + 1), upd H (s.heap.objs.size + 1) (.lst ((arr.toList.map (·.2)).map backV)), I.laid (t' := s.toks) (fun b o e => sortedAll_old e) (Nat.le_succ _) ⟨?_, arr.toList.map (·.2), n, vals_back h3, ?_⟩, rfl, q _ _ ?_ ?_ (I.hok.fresh (Nat.le_succ _))⟩
  · rw [List.length_map, hp2.length_eq, ← rv.length]; exact hz
  · rw [hn]
    congr 2
    apply Array.toList_inj.mp
    simp
  · rw [e1]; exact hp2.map backV
  · rw [List.map_map, List.pairwise_map]
    rw [List.pairwise_iff_getElem]
    intro i j hi hj hij kx ky hkx hky
    have sz : arr.size = (pairsOf its).size := by
      have := hpl.length_eq
      rw [← pairsOf_toList] at this
      simpa using this
    have hle := hs' i j (Nat.le_of_lt hij) (by rw [← sz]; simpa using hj)
    have kk : ∀ (m : Nat) (hm : m < arr.toList.length) (kz : List Key), KeyAt X.K H (backV arr.toList[m].2) kz → KK (G.tupKindC s.heap shape) arr m = kz.map kN := fun m hm kz hkz => by
      obtain ⟨d1, d2⟩ := diag _ (List.getElem_mem hm)
      obtain ⟨ks, hk, un⟩ := key _ d2
      unfold KK
      have hg : arr[m]? = some arr.toList[m] := by simp [Array.getElem?_eq_getElem (show m < arr.size by simpa using hm)]
      rw [hg]
      dsimp only
      rw [d1]
      show (G.tupKeyC s.heap shape arr.toList[m].2).getD [] = _
      rw [hk, Option.getD_some, un kz hkz]
    have := hle
    unfold KeyOrd.kle at this
    rw [kk i hi kx hkx, kk j hj ky hky] at this
    exact this
end
end Y

set_option Elab.async false
set_option linter.all false
set_option maxRecDepth 100000
set_option maxHeartbeats 4000000
set_option autoImplicit false
/-! WQ: sorted(xs) as a function of values. -/
namespace Y
open PySem PySem.Spec PyProof.Rows L2 Z
def tkey : Val → Option (List Key) | .tup ys => keysL ys | _ => none
def kk (x : Val) : kO.α := ((tkey x).getD []).map kN
def insK (x : Val) : List Val → List Val
  | [] => [x]
  | y :: ys => if kO.blt (kk y) (kk x) = true then y :: insK x ys else x :: y :: ys
def sortK (xs : List Val) : List Val := xs.foldr insK []
def sorK (xs : List Val) : Prop := xs.Pairwise fun x y => kO.blt (kk y) (kk x) = false
theorem insK_perm (x : Val) : ∀ ys, (insK x ys).Perm (x :: ys)
  | [] => .refl _
  | y :: ys => by
    unfold insK
    split
    · exact ((insK_perm x ys).cons y).trans (.swap x y ys)
    · exact .refl _
theorem sortK_perm : ∀ xs, (sortK xs).Perm xs
  | [] => .refl _
  | x :: xs => (insK_perm x (sortK xs)).trans ((sortK_perm xs).cons x)
theorem insK_sor (x : Val) : ∀ ys, sorK ys → sorK (insK x ys)
  | [], _ => by unfold insK sorK; simp
  | y :: ys, h => by
    unfold sorK at h
    rw [List.pairwise_cons] at h
    unfold insK
    split
    · rename_i hlt
      unfold sorK
      rw [List.pairwise_cons]
      refine ⟨fun z hz => ?_, insK_sor x ys h.2⟩
      rcases List.mem_cons.mp ((insK_perm x ys).mem_iff.mp hz) with rfl | hz
      · cases e : kO.blt (kk z) (kk y) with
        | false => rfl
        | true =>
          have := kO.trans _ _ _ hlt e
          rw [kO.irrefl] at this; cases this
      · exact h.1 z hz
    · rename_i hlt
      have hlt : kO.blt (kk y) (kk x) = false := by simpa using hlt
      unfold sorK
      rw [List.pairwise_cons]
      refine ⟨fun z hz => ?_, List.pairwise_cons.mpr h⟩
      rcases List.mem_cons.mp hz with rfl | hz
      · exact hlt
      · cases e : kO.blt (kk z) (kk x) with
        | false => rfl
        | true =>
          rcases kO.negTrans (kk z) (kk y) (kk x) e with q | q
          · rw [h.1 z hz] at q; cases q
          · rw [hlt] at q; cases q
theorem sortK_sor : ∀ xs, sorK (sortK xs)
  | [] => .nil
  | x :: xs => insK_sor x _ (sortK_sor xs)
/-- the arrangement is one -/
theorem sor_one : ∀ {xs ys : List Val}, (∀ x ∈ xs, ∀ y ∈ xs, kk x = kk y → x = y) → xs.Perm ys → sorK xs → sorK ys → xs = ys
  | [], ys, _, p, _, _ => (List.nil_perm.mp p).symm
  | x :: xs, [], _, p, _, _ => (List.perm_nil.mp p)
  | x :: xs, y :: ys, inj, p, h, k => by
    unfold sorK at h k
    rw [List.pairwise_cons] at h k
    have exy : x = y := by
      have hx : x ∈ y :: ys := p.mem_iff.mp (.head _)
      have hy : y ∈ x :: xs := p.mem_iff.mpr (.head _)
      rcases List.mem_cons.mp hx with e | hx
      · exact e
      · rcases List.mem_cons.mp hy with e | hy'
        · exact e.symm
        · exact inj x (.head _) y hy (kO.total _ _ (k.1 x hx) (h.1 y hy'))
    subst exy
    rw [sor_one (fun a ha b hb => inj a (.tail _ ha) b (.tail _ hb)) (List.Perm.cons_inv p) h.2 k.2]
section
variable {X : Cx} {C : Cn} {E : XK}
theorem reps_perm {A : Rg} {H : Hp} {ys vs : List V} (p : ys.Perm vs) : ∀ {xs : List Val}, reps C A H vs xs → ∃ xs', xs'.Perm xs ∧ reps C A H ys xs' := by
  induction p with
  | nil => intro xs r; exact ⟨xs, .refl _, r⟩
  | cons v p ih =>
    intro xs r
    cases xs with
    | nil => unfold reps at r; cases r
    | cons x xs =>
      unfold reps at r
      obtain ⟨w, r', e, h1, h2⟩ := r
      cases e
      obtain ⟨xs', p', r2⟩ := ih h2
      exact ⟨x :: xs', p'.cons x, reps_cons h1 r2⟩
  | swap u v l =>
    intro xs r
    cases xs with
    | nil => unfold reps at r; cases r
    | cons x xs =>
      unfold reps at r
      obtain ⟨w, r', e, h1, h2⟩ := r
      cases e
      cases xs with
      | nil => unfold reps at h2; cases h2
      | cons y xs =>
        unfold reps at h2
        obtain ⟨w', r', e, h3, h4⟩ := h2
        cases e
        exact ⟨y :: x :: xs, .swap x y xs, reps_cons h3 (reps_cons h1 h4)⟩
  | trans _ _ ih1 ih2 =>
    intro xs r
    obtain ⟨x1, p1, r1⟩ := ih2 r
    obtain ⟨x2, p2, r2⟩ := ih1 r1
    exact ⟨x2, p2.trans p1, r2⟩
def sort3F (shape : Nat → Bool) : List Val → Option (List Val) := fun zs => match zs with
  | [.lst xs] => if (xs.all fun x => match tkey x with | some ks => shOk shape 0 ks && !ks.isEmpty | none => false) = true then some (sortK xs) else none
  | _ => none
theorem keyed_of {A : Rg} {H : Hp} {x : Val} {v : V} {ks : List Key} (h : tkey x = some ks) (r : rep C A H v x) : KeyAt C.K H v ks := by
  cases x with
  | tup ys =>
    obtain ⟨a, vs, rfl, ht, rs⟩ := rep_tup.mp r
    have := reps_keys rs h
    subst this
    exact ⟨a, rfl, ht.sq⟩
  | _ => cases h
theorem keysL_inj : ∀ {xs ys : List Val} {ks ls : List Key}, keysL xs = some ks → keysL ys = some ls → ks.map kN = ls.map kN → xs = ys
  | [], [], _, _, _, _, _ => rfl
  | [], y :: ys, ks, ls, h, k, e => by
    cases h
    cases y with
    | int i => obtain ⟨m, _, rfl⟩ := Option.map_eq_some_iff.mp (show (keysL ys).map (Sum.inl i :: ·) = some ls from k); cases e
    | str s => obtain ⟨m, _, rfl⟩ := Option.map_eq_some_iff.mp (show (keysL ys).map (Sum.inr s :: ·) = some ls from k); cases e
    | _ => cases k
  | x :: xs, [], ks, ls, h, k, e => by
    cases k
    cases x with
    | int i => obtain ⟨m, _, rfl⟩ := Option.map_eq_some_iff.mp (show (keysL xs).map (Sum.inl i :: ·) = some ks from h); cases e
    | str s => obtain ⟨m, _, rfl⟩ := Option.map_eq_some_iff.mp (show (keysL xs).map (Sum.inr s :: ·) = some ks from h); cases e
    | _ => cases h
  | x :: xs, y :: ys, ks, ls, h, k, e => by
    cases x with
    | int i =>
      obtain ⟨m, hm, rfl⟩ := Option.map_eq_some_iff.mp (show (keysL xs).map (Sum.inl i :: ·) = some ks from h)
      cases y with
      | int j =>
        obtain ⟨m', hm', rfl⟩ := Option.map_eq_some_iff.mp (show (keysL ys).map (Sum.inl j :: ·) = some ls from k)
        simp only [List.map_cons, List.cons.injEq] at e
        cases e.1
        rw [keysL_inj hm hm' e.2]
      | str s =>
        obtain ⟨m', hm', rfl⟩ := Option.map_eq_some_iff.mp (show (keysL ys).map (Sum.inr s :: ·) = some ls from k)
        simp only [List.map_cons, List.cons.injEq] at e
        cases e.1
      | _ => cases k
    | str s =>
      obtain ⟨m, hm, rfl⟩ := Option.map_eq_some_iff.mp (show (keysL xs).map (Sum.inr s :: ·) = some ks from h)
      cases y with
      | int j =>
        obtain ⟨m', hm', rfl⟩ := Option.map_eq_some_iff.mp (show (keysL ys).map (Sum.inl j :: ·) = some ls from k)
        simp only [List.map_cons, List.cons.injEq] at e
        cases e.1
      | str s' =>
        obtain ⟨m', hm', rfl⟩ := Option.map_eq_some_iff.mp (show (keysL ys).map (Sum.inr s' :: ·) = some ls from k)
        simp only [List.map_cons, List.cons.injEq] at e
        have es : s = s' := by
          obtain ⟨e1, _⟩ := e
          have e1 := Sum.inr.inj e1
          cases s; cases s'
          congr 1
          exact Array.toList_inj.mp e1
        subst es
        rw [keysL_inj hm hm' e.2]
      | _ => cases k
    | _ => cases h
theorem cf_sort3 {shape : Nat → Bool} : CfV C (rSort3 C.K shape) (sort3F shape) := fun A H us zs z fr r e Q q => by
  unfold sort3F at e
  split at e
  · rename_i xs
    split at e
    · rename_i hall
      cases e
      unfold reps at r
      obtain ⟨u, r', rfl, h1, h2⟩ := r
      unfold reps at h2
      subst h2
      obtain ⟨a, vs, rfl, na, ha, rs⟩ := rep_lst.mp h1
      rw [List.all_eq_true] at hall
      have tk : ∀ x ∈ xs, ∃ ks, tkey x = some ks ∧ shOk shape 0 ks = true ∧ ks ≠ [] := fun x hx => by
        have := hall x hx
        split at this
        · rename_i ks hks
          rw [Bool.and_eq_true] at this
          exact ⟨ks, hks, this.1, fun z => by rw [z] at this; simp at this⟩
        · cases this
      have inj : ∀ x ∈ xs, ∀ y ∈ xs, kk x = kk y → x = y := fun x hx y hy e => by
        obtain ⟨ks, k1, _⟩ := tk x hx
        obtain ⟨ls, k2, _⟩ := tk y hy
        unfold kk at e
        rw [k1, k2] at e
        cases x with
        | tup x' =>
          cases y with
          | tup y' => rw [keysL_inj (show keysL x' = some ks from k1) (show keysL y' = some ls from k2) e]
          | _ => cases k2
        | _ => cases k1
      refine ⟨a, vs, rfl, SqL.of ha, fun v hv => ?_, fun ys p hp hs hn => ?_⟩
      · obtain ⟨i, hi, rfl⟩ := List.mem_iff_getElem.mp hv
        have hx : i < xs.length := by rw [← rs.len]; exact hi
        obtain ⟨w, hw, rw'⟩ := wk_list.paired_at' rs.pair (List.getElem?_eq_getElem hx)
        rw [List.getElem?_eq_getElem hi] at hw
        cases hw
        obtain ⟨ks, k1, k2, k3⟩ := tk _ (List.getElem_mem hx)
        exact ⟨ks, keyed_of k1 rw', k2, k3⟩
      · obtain ⟨xs', p', r'⟩ := reps_perm hp rs
        have s' : sorK xs' := by
          unfold sorK
          rw [List.pairwise_iff_getElem]
          intro i j hi hj hij
          rw [List.pairwise_iff_getElem] at hs
          have hiy : i < ys.length := by rw [r'.len]; exact hi
          have hjy : j < ys.length := by rw [r'.len]; exact hj
          obtain ⟨w1, e1, q1⟩ := wk_list.paired_at' r'.pair (List.getElem?_eq_getElem hi)
          obtain ⟨w2, e2, q2⟩ := wk_list.paired_at' r'.pair (List.getElem?_eq_getElem hj)
          rw [List.getElem?_eq_getElem hiy] at e1
          rw [List.getElem?_eq_getElem hjy] at e2
          cases e1; cases e2
          obtain ⟨k1, t1, _⟩ := tk _ (p'.mem_iff.mp (List.getElem_mem hi))
          obtain ⟨k2, t2, _⟩ := tk _ (p'.mem_iff.mp (List.getElem_mem hj))
          have := hs i j hiy hjy hij k1 k2 (keyed_of t1 q1) (keyed_of t2 q2)
          unfold kk
          rw [t1, t2]
          exact this
        have : xs' = sortK xs := sor_one (fun x hx y hy e => inj x (p'.mem_iff.mp hx) y (p'.mem_iff.mp hy) e) (p'.trans (sortK_perm xs).symm) s' (sortK_sor xs)
        rw [this] at r'
        exact q p ys hn r'
    · cases e
  · cases e
end
end Y

set_option Elab.async false
set_option linter.all false
set_option maxRecDepth 100000
set_option maxHeartbeats 4000000
set_option autoImplicit false
/-! WR: min, max of two; sorted of ints; x in (..) of atoms; isinstance of an own class. -/
namespace Y
open PySem PySem.Spec PyProof.Rows L2 Z
section
variable {X : Cx} {C : Cn} {E : XK}
def minV2 : Val → Val → Option Val | .int i, .int j => some (.int (if j < i then j else i)) | _, _ => none
def maxV2 : Val → Val → Option Val | .int i, .int j => some (.int (if j > i then j else i)) | _, _ => none
theorem cv_min2 : CbV C (fun xs H Q => ∃ i j, xs = [V.int i, V.int j] ∧ Q (.int (if j < i then j else i)) H) (f2 minV2) := fun A H us xs z _ r e Q q => by
  obtain ⟨u, w, x, y, rfl, rfl, ru, rw', e⟩ := two_of r e
  unfold minV2 at e
  split at e
  · cases e
    exact ⟨_, _, by rw [rep_int.mp ru, rep_int.mp rw'], q _ H (Same.refl H) (rep_int.mpr rfl)⟩
  · cases e
theorem cv_max2 : CbV C (fun xs H Q => ∃ i j, xs = [V.int i, V.int j] ∧ Q (.int (if j > i then j else i)) H) (f2 maxV2) := fun A H us xs z _ r e Q q => by
  obtain ⟨u, w, x, y, rfl, rfl, ru, rw', e⟩ := two_of r e
  unfold maxV2 at e
  split at e
  · cases e
    exact ⟨_, _, by rw [rep_int.mp ru, rep_int.mp rw'], q _ H (Same.refl H) (rep_int.mpr rfl)⟩
  · cases e
/-! sorted of ints -/
def insI (x : Int) : List Int → List Int
  | [] => [x]
  | y :: ys => if y < x then y :: insI x ys else x :: y :: ys
def sortI (xs : List Int) : List Int := xs.foldr insI []
theorem insI_perm (x : Int) : ∀ ys, (insI x ys).Perm (x :: ys)
  | [] => .refl _
  | y :: ys => by
    unfold insI
    split
    · exact ((insI_perm x ys).cons y).trans (.swap x y ys)
    · exact .refl _
theorem sortI_perm : ∀ xs, (sortI xs).Perm xs
  | [] => .refl _
  | x :: xs => (insI_perm x (sortI xs)).trans ((sortI_perm xs).cons x)
theorem insI_sor (x : Int) : ∀ ys : List Int, ys.Pairwise (· ≤ ·) → (insI x ys).Pairwise (· ≤ ·)
  | [], _ => by unfold insI; simp
  | y :: ys, h => by
    rw [List.pairwise_cons] at h
    unfold insI
    split
    · rename_i hlt
      rw [List.pairwise_cons]
      refine ⟨fun z hz => ?_, insI_sor x ys h.2⟩
      rcases List.mem_cons.mp ((insI_perm x ys).mem_iff.mp hz) with rfl | hz
      · omega
      · exact h.1 z hz
    · rename_i hlt
      rw [List.pairwise_cons]
      refine ⟨fun z hz => ?_, List.pairwise_cons.mpr h⟩
      rcases List.mem_cons.mp hz with rfl | hz
      · omega
      · have := h.1 z hz; omega
theorem sortI_sor : ∀ xs, (sortI xs).Pairwise (· ≤ ·)
  | [] => .nil
  | x :: xs => insI_sor x _ (sortI_sor xs)
theorem sortI_one {xs ys : List Int} (p : ys.Perm xs) (h : ys.Pairwise (· ≤ ·)) : ys = sortI xs :=
  List.Perm.eq_of_pairwise (fun a b _ _ h1 h2 => by omega) h (sortI_sor xs) (p.trans (sortI_perm xs).symm)
def sortIF : List Val → Option (List Val) := fun zs => match zs with
  | [.lst xs] => (intsOf xs).map fun ns => (sortI ns).map .int
  | _ => none
theorem cf_sortI : CfV C (rSortedI C.K) sortIF := fun A H us zs z fr r e Q q => by
  unfold sortIF at e
  split at e
  · rename_i xs
    obtain ⟨ns, hn, rfl⟩ := Option.map_eq_some_iff.mp e
    unfold reps at r
    obtain ⟨u, r', rfl, h1, h2⟩ := r
    unfold reps at h2
    subst h2
    obtain ⟨a, vs, rfl, na, ha, rs⟩ := rep_lst.mp h1
    have ev := ints_rep rs hn
    subst ev
    refine ⟨a, ns, rfl, SqL.of ha, fun ns' p hp hs hq => ?_⟩
    rw [sortI_one hp hs]
    exact q p _ hq (reps_ints _)
  · cases e
/-! x in ys, all of it atoms -/
def atomV : Val → Option V | .non => some .non | .bl b => some (.bl b) | .int i => some (.int i) | .str s => some (.str s) | _ => none
def atomsV : List Val → Option (List V)
  | [] => some []
  | x :: xs => match atomV x, atomsV xs with | some v, some vs => some (v :: vs) | _, _ => none
theorem atomV_rep {A : Rg} {H : Hp} {x : Val} {v w : V} (h : atomV x = some w) (r : rep C A H v x) : v = w ∧ L2.flatV w = true := by
  cases x with
  | non => cases h; exact ⟨rep_non.mp r, rfl⟩
  | bl b => cases h; exact ⟨rep_bl.mp r, rfl⟩
  | int b => cases h; exact ⟨rep_int.mp r, rfl⟩
  | str b => cases h; exact ⟨rep_str.mp r, rfl⟩
  | _ => cases h
theorem atomsV_rep {A : Rg} {H : Hp} : ∀ {xs : List Val} {vs ws : List V}, atomsV xs = some ws → reps C A H vs xs → vs = ws ∧ ws.all L2.flatV = true
  | [], vs, ws, h, r => by unfold reps at r; cases h; exact ⟨r, rfl⟩
  | x :: xs, vs, ws, h, r => by
    unfold reps at r
    obtain ⟨v, r', rfl, h1, h2⟩ := r
    unfold atomsV at h
    split at h
    · rename_i w ws' e1 e2
      cases h
      obtain ⟨q1, q2⟩ := atomV_rep e1 h1
      obtain ⟨q3, q4⟩ := atomsV_rep e2 h2
      exact ⟨by rw [q1, q3], by rw [List.all_cons, q2, q4]; rfl⟩
    · cases h
def inQ (neg : Bool) : Val → Val → Option Val := fun x y => match atomV x, seqV y with
  | some u, some ys => (atomsV ys).map fun vs => .bl (if neg then !L2.inV u vs else L2.inV u vs)
  | _, _ => none
theorem ov_in {neg : Bool} : OpV C (rIn C.K neg) (inQ neg) := fun A H u v x y z _ hu hv e Q q => by
  unfold inQ at e
  split at e
  · rename_i w ys e1 e2
    obtain ⟨vs, e3, rfl⟩ := Option.map_eq_some_iff.mp e
    obtain ⟨q1, q2⟩ := atomV_rep e1 hu
    subst q1
    unfold seqV at e2
    split at e2
    · cases e2
      obtain ⟨a, us, rfl, _, ha, rs⟩ := rep_lst.mp hv
      obtain ⟨q3, q4⟩ := atomsV_rep e3 rs
      subst q3
      exact ⟨a, us, rfl, .inl (SqL.of ha), q2, q4, q _ H (Same.refl H) (rep_bl.mpr rfl)⟩
    · cases e2
      obtain ⟨a, us, rfl, ha, rs⟩ := rep_tup.mp hv
      obtain ⟨q3, q4⟩ := atomsV_rep e3 rs
      subst q3
      exact ⟨a, us, rfl, .inr ha.sq, q2, q4, q _ H (Same.refl H) (rep_bl.mpr rfl)⟩
    · cases e2
  · cases e
/-- isinstance(x, C) of an instance of C itself -/
def isiC (c0 : Nat) : Val → Val → Option Val := fun x y => match x, y with
  | .ins c _ _, .cl c' => if c = c0 ∧ c' = c0 then some (.bl true) else none
  | _, _ => none
theorem cv_isiC {c0 : Nat} : CbV C (fun xs H Q => ∃ a dx fs, xs = [V.ref a, V.ref (C.ca c0)] ∧ H a = some (.ins (C.ca c0) dx fs) ∧ Q (.bl true) H) (f2 (isiC c0)) := fun A H us xs z _ r e Q q => by
  obtain ⟨u, w, x, y, rfl, rfl, ru, rw', e⟩ := two_of r e
  unfold isiC at e
  split at e
  · rename_i c ns vs c'
    split at e
    · rename_i h
      obtain ⟨rfl, rfl⟩ := h
      cases e
      obtain ⟨a, dx, ws, rfl, _, _, h1, _⟩ := rep_ins.mp ru
      exact ⟨a, dx, _, by rw [rep_cl.mp rw'], h1, q _ H (Same.refl H) (rep_bl.mpr rfl)⟩
    · cases e
  · cases e
end
end Y

set_option Elab.async false
set_option linter.all false
set_option maxRecDepth 100000
set_option maxHeartbeats 4000000
set_option autoImplicit false
/-! WS: a def that is never reached. -/
namespace Y
open PySem PySem.Spec PyProof.Rows L2 Z
theorem room65 {k : Nat} {A : Around} (h : Room k A) : A.units + 65 < cLine := by have := h.un; omega
theorem room1 {k : Nat} {A : Around} (h : Room k A) : A.units + 1 < cLine := by have := h.un; omega
theorem fn_bad {C : Cn} {P : Program} {w : World} {K : PySem.W.Frag} {mg : Str → Option Value} {base : Heap} {CX : CXT} {k np n : Nat} {f : Addr} {fd : FuncData} {ps : List Str} (h : ps.length = np) : FnOk P w K mg base CX k f fd ps (spF C np n fun _ => .bad) :=
  ⟨fun vs H Q E h' => by rw [h]; exact h'.choose_spec.choose_spec.2.2.1, fun A outer s H args us vs Q E _ _ _ _ h' => by
    obtain ⟨_, _, _, _, _, _, _, _, hw⟩ := h'
    exact hw.elim⟩
section
variable {X : Cx} {C : Cn} {E : XK} {p : Pos}
theorem reps_strs {A : Rg} {H : Hp} : ∀ ss : List Str, reps C A H (ss.map V.str) (ss.map Val.str)
  | [] => reps_nil
  | s :: ss => reps_cons (rep_str.mpr rfl) (reps_strs ss)
/-- a module's tuple of texts -/
theorem y_gtxt {x : Str} {ss : List Str} (hg : Gl X x) (hm : ∃ a, X.mg x = some (.ref a) ∧ Z.KT C.K a (ss.map V.str)) (hdb : (x == ("__debug__" : Str)) = false := by decide) : PE X (.Name x p) (SE C E (cstM (.tup (ss.map .str)))) := by
  obtain ⟨a, hm, kt⟩ := hm
  exact y_cst (pe_glob (v := .ref a) hg hm rfl hdb) fun A H => rep_tup.mpr ⟨a, _, rfl, .inr kt, reps_strs ss⟩
/-- a class of the program, read -/
theorem y_gcls {x : Str} {c : Nat} (hg : Gl X x) (hm : X.mg x = some (.ref (C.ca c))) (hdb : (x == ("__debug__" : Str)) = false := by decide) : PE X (.Name x p) (SE C E (cstM (.cl c))) :=
  y_cst (pe_glob (v := .ref (C.ca c)) hg hm rfl hdb) fun A H => rep_cl.mpr rfl
/-- what is known of a class whose instances are made -/
structure ClsF (C : Cn) (mg : Str → Option Value) (x : Str) (c : Nat) (fs : List Str) : Prop where
  mgc : mg x = some (.ref (C.ca c))
  cl : Cls C.K (C.ca c)
  na : ∀ f ∈ fs, NoAttr C.K (C.ca c) f
  isc : C8.InsC C.K (C.ca c)
theorem cl_isC (hK : X.K = C.K) {mg : Str → Option Value} {x : Str} {c : Nat} {fs : List Str} (F : ClsF C mg x c fs) : CallR X (.builtin "isinstance") (fun xs H Q => ∃ a dx fs, xs = [V.ref a, V.ref (C.ca c)] ∧ H a = some (.ins (C.ca c) dx fs) ∧ Q (.bl true) H) := C8.call_isC (by rw [hK]; exact F.isc)
end
/-- the defs of a class -/
def mth (s : Stmt) (j : Nat) : Stmt := match s with
  | .ClassDef _ _ _ body _ _ _ _ _ _ _ => body.getD j (.Pass ⟨0, 0, 0, 0⟩)
  | _ => .Pass ⟨0, 0, 0, 0⟩
/-- what is known of a method -/
structure DfM (P : Program) (w : World) (C : Cn) (mg : Str → Option Value) (base : Heap) (c : Nat) (m : Str) (k : Nat) (ps : List Str) (sp : Sp) where
  f : Addr
  fd : FuncData
  ok : FnOk P w C.K mg base (L2.CX P w) k f fd ps sp
  b : Binds C.K fd ps []
  me : Meth C.K (C.ca c) m f
/-- .. of __init__ -/
structure DfI (P : Program) (w : World) (C : Cn) (mg : Str → Option Value) (base : Heap) (c : Nat) (k : Nat) (ps : List Str) (sp : Sp) where
  f : Addr
  fd : FuncData
  ok : FnOk P w C.K mg base (L2.CX P w) k f fd ps sp
  b : Binds C.K fd ps []
  mki : Mk C.K (C.ca c) f
end Y

set_option Elab.async false
set_option linter.all false
set_option maxRecDepth 100000
set_option maxHeartbeats 4000000
set_option autoImplicit false
/-! WT: list(range(n)); s.lower(), s.upper(). -/
namespace Y
open PySem PySem.Spec PyProof.Rows L2 Z
section
variable {X : Cx} {C : Cn} {E : XK} {e a : Expr} {ma : ME} {pos apos : Pos}
def lrgF (m : ME) : ML := fun ρ => m ρ >>= fun x => match x.1 with
  | .int n => if 0 ≤ n ∧ n ≤ 100000 then .ok ((List.range n.toNat).map fun i : Nat => Val.int ((0 : Int) + (i : Int)), x.2) else .bad
  | _ => .bad
theorem reps_rng {A : Rg} {H : Hp} : ∀ (ns : List Nat), reps C A H (ns.map fun i : Nat => V.int ((0 : Int) + (i : Int))) (ns.map fun i : Nat => Val.int ((0 : Int) + (i : Int)))
  | [] => reps_nil
  | n :: ns => reps_cons (rep_int.mpr rfl) (reps_rng ns)
theorem yf_lrg (h : PE X e (tLstRg (tRg1 (SE C E ma)))) : PE X e (SF C E (lrgF ma)) := PE.imp h fun σ H Q hs => by
  obtain ⟨B, A, ρ, N, hm⟩ := sf_of hs
  exact ⟨B, A, ρ, N, Rs.wp_mono (Rs.wp_bind hm) (fun x hx v H1 N1 g1 r1 => by
    split at hx
    · rename_i n q
      obtain ⟨hn, hx⟩ := ite_bad hx
      rw [q] at r1
      refine ⟨n, rep_int.mp r1, ⟨by omega, by omega, by omega, by omega, ?_⟩, fun p hp => ?_⟩
      · have : (2 : Nat) ^ 24 = 16777216 := by decide
        omega
      · refine new_rd N1 g1 hx p _ hp ?_
        unfold rgV
        rw [show (n - 0).toNat = n.toNat by omega]
        exact reps_rng _
    · exact hx.elim) fun _ _ _ _ h => h⟩
/-! texts -/
def lowV : Val → Option Val | .str s => if s.length ≤ 5592405 then some (.str (Txt.lower s)) else none | _ => none
def upV : Val → Option Val | .str s => if s.length ≤ 5592405 then some (.str (Txt.upper s)) else none | _ => none
theorem y_lower (ha : PE X a (SE C E ma)) (hb : attributeBase a "lower" X.env (eval a X.env) = eval a X.env := by rfl) (hl : (apos.endLine == pos.line) = true := by rfl) : PE X (.Call (.Attribute a "lower" apos) [] [] pos) (SE C E (unM lowV ma)) := PE.imp (pe_lower ha hb hl) fun σ H Q ⟨B, A, ρ, N, hm⟩ =>
  ⟨B, A, ρ, N, Rs.wp_mono (Rs.wp_bind hm) (fun x hx v H1 N1 g1 r1 => by
    obtain ⟨z, ez, hz⟩ := Rs.wp_opt (Rs.wp_bind hx)
    unfold lowV at ez
    split at ez
    · rename_i s q
      split at ez
      · rename_i hs
        cases ez
        rw [q] at r1
        have := rep_str.mp r1
        subst this
        exact ⟨⟨s, rfl⟩, s, rfl, rfl, hs, hz _ H1 N1 g1 (rep_str.mpr rfl)⟩
      · cases ez
    · cases ez) fun _ _ _ _ h => h⟩
theorem y_upper (ha : PE X a (SE C E ma)) (hb : attributeBase a "upper" X.env (eval a X.env) = eval a X.env := by rfl) (hl : (apos.endLine == pos.line) = true := by rfl) : PE X (.Call (.Attribute a "upper" apos) [] [] pos) (SE C E (unM upV ma)) := PE.imp (pe_upper ha hb hl) fun σ H Q ⟨B, A, ρ, N, hm⟩ =>
  ⟨B, A, ρ, N, Rs.wp_mono (Rs.wp_bind hm) (fun x hx v H1 N1 g1 r1 => by
    obtain ⟨z, ez, hz⟩ := Rs.wp_opt (Rs.wp_bind hx)
    unfold upV at ez
    split at ez
    · rename_i s q
      split at ez
      · rename_i hs
        cases ez
        rw [q] at r1
        have := rep_str.mp r1
        subst this
        exact ⟨⟨s, rfl⟩, s, rfl, rfl, hs, hz _ H1 N1 g1 (rep_str.mpr rfl)⟩
      · cases ez
    · cases ez) fun _ _ _ _ h => h⟩
end
end Y

set_option Elab.async false
set_option linter.all false
set_option maxRecDepth 100000
set_option maxHeartbeats 4000000
set_option autoImplicit false
/-! WU: set(xs) of a list of ints; sorted(set(xs)). -/
namespace Y
open PySem PySem.Spec PyProof.Rows L2 Z
/-- an empty set -/
abbrev set0 (w : World) : Obj := { cls := .type "set", dict := none, data := .set #[] 0 (.fresh 0 0 (!w.params.followText "set-order")) }
/-- s with an empty set more -/
abbrev more0 (w : World) (s : Shared) : Shared := { s with heap := s.heap.push (set0 w) }
section
variable {P : Program} {w : World} {A : Around} {E : Value → Shared → Prop} {s : Shared}
set_option maxHeartbeats 8000000 in
theorem set_of_ints {l : Addr} {items : Array Value} (ns : List Int) {Q : Value → Shared → Prop} (hh : A.handled = none) (pl : s.heap.IsList l items) (hit : IntsAre items.toList ns) (hb : ns.length + 1 < scanBound)
    (h : ∀ (h' : Heap) (tk c : Nat), SetR w h' s.heap.objs.size (fun j => decide (j ∈ ns)) c → c ≤ ns.length → (∀ b o, s.heap.get? b = some o → h'.get? b = some o) → Q (.ref s.heap.objs.size) { s with heap := h', toks := tk }) : wpAny (model P w) A (call (.type "set") [.ref l]) Q E s := by
  have sz : items.size = ns.length := by have q := IntsAre.length hit; rwa [Array.length_toList] at q
  obtain ⟨c, tl, m1⟩ := F.called_set.mro; have m2 := F.called_set.made; have m3 := F.called_set.sub
  refine wpAny_call (codeAny_of_tree (show wpAny _ _ (callAny (.type "set") _) _ _ _ from wpAny_pure ⟨Code.quiet_builtin _ (by decide +kernel), codeAny_builtin F.entry_type_call ?_⟩))
  rw [Around.under_plain (weight_type_call_type "set" [.ref l] []) rfl]; have m4 := F.called_set.notType; have m5 := F.called_set.canCreate; have m6 := F.typeCall_set_1 (.ref l)
  repeat (any_goals (first | assumption | wp_step))
  refine codeAny_mono (code_set_led1 (.ref l) (E := E) (Q₁ := fun y t => y = .ref s.heap.objs.size ∧ t = more0 w s) ⟨rfl, rfl⟩) fun r t hr => ?_
  match r, hr with
  | .error e, hr => exact hr
  | .ok (.ret y), hr =>
    obtain ⟨rfl, rfl⟩ := hr
    have g0 : (s.heap.push (set0 w)).get? s.heap.objs.size = some (set0 w) := Heap.get?_push_size _ rfl
    have ty : Shared.TypeIs (more0 w s) (.ref s.heap.objs.size) "set" := ⟨_, g0, rfl⟩
    have n1 := F.called_set.init.lookup; have n2 := F.called_set.init.bind (.ref s.heap.objs.size)
    repeat (any_goals (first | assumption | wp_step))
    refine codeAny_mono (codeAny_call_builtin (R := wants (fun z u => z = .none ∧ ∃ h' tk c, u = { s with heap := h', toks := tk } ∧ SetR w h' s.heap.objs.size (fun j => decide (j ∈ ns)) c ∧ c ≤ ns.length ∧ (∀ b o, s.heap.get? b = some o → h'.get? b = some o)) E) F.called_set.init.plain F.entry_set_init (check_set_init_1 ty ?_)) fun z u hu => ?_
    · obtain ⟨⟨k1, k2, k3, k4⟩, ol, e1, nl, e2⟩ := pl
      dsimp only at e1 e2; subst e1 e2
      have ol2 : (s.heap.push (set0 w)).get? l = some { cls := .type "list", dict := k2, data := .seq items nl, slots := k4 } := Heap.get?_push_of_some _ ol
      have p1 := F.sub_list_set; have p2 := F.sub_list_frozenset; have p3 : (Value.type "list" == Value.type "dict") = false := by decide
      have pl2 : (s.heap.push (set0 w)).IsList l items := ⟨_, ol2, rfl, nl, rfl⟩
      have lt0 : l < s.heap.objs.size := Heap.lt_size ol; have hn3 : A.in1.in1.in1.handled = none := by simp [hh]
      have sz0 : (s.heap.push (set0 w)).objs.size = s.heap.objs.size + 1 := Heap.size_push ..
      unfold Builtin.«set.__init__» noKeywords Builtin.Frozenset.updateFrom; generalize hPI : pyIter = PI
      wp_walk; subst hPI
      refine wpAny_pyIter_list pl2 (wpAny_bind (wpAny_runValue ?_))
      have ne1 : l ≠ (s.heap.push (set0 w)).objs.size := by rw [sz0]; exact Nat.ne_of_lt (Nat.lt_succ_of_lt lt0)
      have nin : s.heap.objs.size ∉ [(s.heap.push (set0 w)).objs.size, l] := by rw [sz0]; simp only [List.mem_cons, List.not_mem_nil, or_false, not_or]; exact ⟨Nat.ne_of_lt (Nat.lt_succ_self _), Nat.ne_of_gt lt0⟩
      have val : ∀ (i : Nat) (v : Value), items[i]? = some v → ∃ k t, ns[i]? = some k ∧ v = .int k t := fun i v hv => by
        have hi : i < ns.length := by rw [← sz]; exact (Array.getElem?_eq_some_iff.mp hv).1
        obtain ⟨t, e⟩ := PyProof.Rows.IntsAre.int_at hit i v (by rw [Array.getElem?_toList]; exact hv)
        exact ⟨ns[i], t, List.getElem?_eq_getElem hi, by rw [e, List.getD_eq_getElem?_getD, List.getElem?_eq_getElem hi] <;> rfl⟩
      refine set_update_ints ((Walks.list hn3 _ l ne1 items).toS) s.heap.objs.size nin ns sz hb val (items.size - 0) 0 _ (by omega) (Nat.zero_le _) ⟨⟨_, Heap.get?_push_size _ rfl, rfl, rfl⟩, (pl2.push _)⟩ ⟨0, Nat.le_refl 0, setR_new_at (Heap.get?_push_of_some _ g0)⟩ fun s' c' hm hc' hS' => ?_
      obtain ⟨h', g2, d', tk', os'⟩ := s'
      obtain rfl : g2 = s.gens := hm.gens; obtain rfl : d' = s.drawn := hm.drawn; obtain rfl : os' = s.os := hm.os
      show wpAny _ _ _ _ _ _
      refine wpAny_pure (show wpAny _ _ (ret Value.none) _ _ _ from wpAny_pure ⟨rfl, h', tk', c', rfl, hS', by rw [← sz]; exact hc', fun b o e => ?_⟩)
      have lb := Heap.lt_size e
      exact hm.heap b o (by rw [sz0]; simp only [List.mem_cons, List.not_mem_nil, or_false, not_or]; exact ⟨Nat.ne_of_lt lb, Nat.ne_of_lt (Nat.lt_succ_of_lt lb)⟩) (Heap.get?_push_of_some _ (Heap.get?_push_of_some _ e))
    · match z, hu with
      | .error e, hu => exact hu
      | .ok (.ret y), hu =>
        obtain ⟨rfl, h', tk, c', rfl, q1, q2, q3⟩ := hu
        repeat (any_goals (first | assumption | wp_step))
        exact h _ _ _ q1 q2 q3
end
/-- set(xs), xs a list of ints -/
def rSetI (K : PySem.W.Frag) (w : World) : List V → Hp → VK → Prop := fun xs H Q => ∃ (l : Addr) (ns : List Int), xs = [V.ref l] ∧ SqL K H l (ns.map V.int) ∧ ns.length + 1 < scanBound ∧ ∀ p c, H p = none → c ≤ ns.length → Q (.ref p) (upd H p (SetO w p (fun j => decide (j ∈ ns)) c))
theorem cr_setI {X : Cx} (hc : X.calm = true) : CallR X (.type "set") (rSetI X.K X.w) := by
  intro pins s σ H xs us Q I r ⟨l, ns, ex, hl, hb, q⟩
  subst ex
  rw [Vals.ref1 r]
  obtain ⟨its, rv, pl, _⟩ := I.list hl
  exact set_of_ints (P := X.prog) (w := X.w) ns (I.ok.hd hc) pl.isList (by simpa using ints_of_vals rv) hb fun h' tk c R hc' k => ⟨.ref s.heap.objs.size, upd H s.heap.objs.size (SetO X.w s.heap.objs.size _ c), I.laid (t' := tk) k (Nat.le_refl _) (setO_new R), rfl, q _ c (I.hok.fresh (Nat.le_refl _)) hc'⟩
/-! sorted(set(xs)) -/
def insU (x : Int) : List Int → List Int
  | [] => [x]
  | y :: ys => if y < x then y :: insU x ys else if x = y then y :: ys else x :: y :: ys
def setI (xs : List Int) : List Int := xs.foldr insU []
theorem insU_mem (x : Int) : ∀ (ys : List Int) (k : Int), k ∈ insU x ys ↔ k = x ∨ k ∈ ys
  | [], k => by unfold insU; simp
  | y :: ys, k => by
    unfold insU
    split
    · rw [List.mem_cons, insU_mem x ys k, List.mem_cons]
      constructor
      · rintro (h | h | h)
        · exact .inr (.inl h)
        · exact .inl h
        · exact .inr (.inr h)
      · rintro (h | h | h)
        · exact .inr (.inl h)
        · exact .inl h
        · exact .inr (.inr h)
    · split
      · rename_i h; subst h; simp
      · simp
theorem insU_sor (x : Int) : ∀ ys : List Int, ys.Pairwise (· < ·) → (insU x ys).Pairwise (· < ·)
  | [], _ => by unfold insU; simp
  | y :: ys, h => by
    have h' := h
    rw [List.pairwise_cons] at h
    unfold insU
    split
    · rw [List.pairwise_cons]
      refine ⟨fun z hz => ?_, insU_sor x ys h.2⟩
      rcases (insU_mem x ys z).mp hz with rfl | hz
      · omega
      · exact h.1 z hz
    · split
      · exact h'
      · rw [List.pairwise_cons]
        refine ⟨fun z hz => ?_, h'⟩
        rcases List.mem_cons.mp hz with rfl | hz
        · omega
        · have := h.1 z hz; omega
theorem setI_mem : ∀ (xs : List Int) (k : Int), k ∈ setI xs ↔ k ∈ xs
  | [], k => by simp [setI]
  | x :: xs, k => by
    show k ∈ insU x (setI xs) ↔ _
    rw [insU_mem, setI_mem xs k, List.mem_cons]
theorem setI_sor : ∀ xs, (setI xs).Pairwise (· < ·)
  | [] => .nil
  | x :: xs => insU_sor x _ (setI_sor xs)
theorem lt_nodup {xs : List Int} (h : xs.Pairwise (· < ·)) : xs.Nodup := h.imp fun {a b} z => by omega
theorem setI_one {xs ys : List Int} (h : ys.Pairwise (· < ·)) (m : ∀ k, k ∈ ys ↔ k ∈ xs) : ys = setI xs :=
  List.Perm.eq_of_pairwise (fun a b _ _ (h1 : a < b) (h2 : b < a) => by omega) h (setI_sor xs) ((List.perm_ext_iff_of_nodup (lt_nodup h) (lt_nodup (setI_sor xs))).mpr fun k => by rw [m, setI_mem])
section
variable {X : Cx} {C : Cn} {E : XK} {e : Expr} {ma : ME}
def ssetF (m : ME) : ML := fun ρ => m ρ >>= fun x => match x.1 with
  | .lst xs => if xs.length < 63 then Rs.opt (intsOf xs) >>= fun ns => .ok ((setI ns).map .int, x.2) else .bad
  | _ => .bad
theorem yf_sset (hK : X.K = C.K) (h : PE X e (tCB (rSortedSet X.w) (tCons (tCB (rSetI X.K X.w) (tCons (SE C E ma) tNil)) tNil))) : PE X e (SF C E (ssetF ma)) := PE.imp h fun σ H Q hs => by
  obtain ⟨B, A, ρ, N, hm⟩ := sf_of hs
  refine ⟨B, A, ρ, N, Rs.wp_mono (Rs.wp_bind hm) (fun x hx v H1 N1 g1 r1 => ?_) fun _ _ _ _ h => h⟩
  split at hx
  · rename_i xs q
    obtain ⟨hl, hx⟩ := ite_bad hx
    obtain ⟨ns, hn, hx⟩ := Rs.wp_opt (Rs.wp_bind hx)
    rw [q] at r1
    obtain ⟨a, vs, rfl, _, ha, rs⟩ := rep_lst.mp r1
    have ev := ints_rep rs hn
    subst ev
    have ll : ns.length = xs.length := by have := rs.len; simpa using this
    rw [hK]
    refine ⟨a, ns, rfl, SqL.of ha, Nat.lt_trans (show ns.length + 1 < 64 by omega) (by decide), fun p c hp hc => ?_⟩
    refine ⟨p, _, c, rfl, upd_same, by omega, fun ms q' hs hm' _ hq => ?_⟩
    have em : ms = setI ns := setI_one hs fun k => by rw [hm']; simp
    rw [em]
    exact new_rd (N1.new hp) (g1.trans (.same N1 (same_new hp))) hx q' _ hq (reps_ints _)
  · exact hx.elim
end
end Y

set_option Elab.async false
set_option linter.all false
set_option maxRecDepth 100000
set_option maxHeartbeats 4000000
set_option autoImplicit false
/-! WW: x, y = e, a new value. -/
namespace Y
open PySem PySem.Spec PyProof.Rows L2 Z
section
variable {X : Cx} {C : Cn} {E : XK} {ρ ρ1 ρ2 ρ3 : En}
/-- x, y = e, a new value -/
def parSN (i j : Nat) (m1 : ME) (m2 : MN) : MS := fun ρ => m1 ρ >>= fun x => m2 x.2 >>= fun y => if (freeS y.2 j = true ∧ y.1.isO = true) ∧ i ≠ j ∧ freeS (y.2.set j (some (.ob false y.1))) i = true then .ok (.nx ((y.2.set j (some (.ob false y.1))).set i (some (.fz x.1)))) else .bad
theorem ys_parSN {i j : Nat} {m1 : ME} {m2 : MN} {st : Stmt} (h : PS X st (tPar i j (tCons (SE C E m1) (tCons (SN C E m2) tNil)))) : PS X st (SS C E (parSN i j m1 m2)) := PS.imp h fun D σ H ⟨B, A, ρ, N, hm⟩ =>
  ⟨B, A, ρ, N, Rs.wp_mono (Rs.wp_bind hm) (fun x hx v H1 N1 g1 r1 => ⟨B, _, x.2, N1, Rs.wp_mono (Rs.wp_bind hx) (fun y hy w H2 N2 n2 => by
    obtain ⟨⟨⟨hf, ho⟩, hne, hf2⟩, hy⟩ := ite_bad hy
    have g2 := n2.g N1
    have N3 := N2.own' (x := y.1) (v := w) hf ⟨ho, n2.r, n2.n, fun a ha z => z.2 ha⟩ (fun a ha => N1.fe a (n2.d a ha).1) fun a ha => (n2.d a ha).2
    have N4 := N3.set hf2 (rep.gr g2 r1)
    rw [show (σ.set j (some w)).set i (some v) = (σ.set i (some v)).set j (some w) from (List.set_comm _ _ hne).symm] at N4
    exact ⟨v, w, rfl, hy _ _ H2 N4 (g1.g.trans g2)⟩) EXe.of⟩) EXe.of⟩
theorem e_parSN {i j : Nat} {u v : Val} {m1 : ME} {m2 : MN} {ρ4 : En} (h0 : m1 ρ = .ok (u, ρ1)) (h1 : m2 ρ1 = .ok (v, ρ2)) (h2 : freeS ρ2 j = true) (ho : v.isO = true) (hn : i ≠ j) (h4 : ρ2.set j (some (.ob false v)) = ρ3) (h3 : freeS ρ3 i = true) (h5 : ρ3.set i (some (.fz u)) = ρ4) : parSN i j m1 m2 ρ = .ok (.nx ρ4) := by
  subst h4 h5; unfold parSN; rw [h0, Rs.ok_bind]; dsimp only; rw [h1, Rs.ok_bind]; exact if_pos ⟨⟨h2, ho⟩, hn, h3⟩
end
end Y

set_option Elab.async false
set_option linter.all false
set_option maxRecDepth 100000
set_option maxHeartbeats 4000000
set_option autoImplicit false
/-! XB: a range as a value, and walked. -/
namespace Y
open PySem PySem.Spec PyProof.Rows L2 Z
section
variable {X : Cx} {C : Cn} {E : XK} {e a tg : Expr} {ma : ME}
/-- range(j) as a value -/
theorem cr_rg1 : CallR X (.type "range") (fun vs H Q => ∃ j, vs = [V.int j] ∧ ∀ p, H p = none → Q (.ref p) (upd H p (.rng 0 j))) := by
  intro pins s σ H vs us Q I r h
  obtain ⟨j, rfl, q⟩ := h
  obtain ⟨u1, rfl, ri⟩ := vals1 r
  obtain ⟨t, rfl⟩ := ri
  refine call_range_1 ⟨.ref s.heap.objs.size, upd H s.heap.objs.size (.rng 0 j), I.laid (t' := s.toks + 1 + 1) (fun b o e => Heap.get?_push_of_some _ e) (Nat.le_refl _) ?_, rfl, q _ (I.hok.fresh (Nat.le_refl _))⟩
  exact ⟨s.toks, t, s.toks + 1, Heap.get?_push_size _ rfl⟩
def rg1V : Val → Option Val | .int j => some (.rng 0 j) | _ => none
theorem cv_rg1 : CbV C (fun vs H Q => ∃ j, vs = [V.int j] ∧ ∀ p, H p = none → Q (.ref p) (upd H p (.rng 0 j))) (f1 rg1V) := fun A H us xs z fr r e0 Q q => by
  obtain ⟨u, x, rfl, rfl, ru, e⟩ := one_of r e0
  unfold rg1V at e
  split at e
  · cases e
    exact ⟨_, by rw [rep_int.mp ru], fun l hl => q _ _ (same_new hl) (rep_rng.mpr ⟨l, rfl, fr l (.of hl), upd_same⟩)⟩
  · cases e
/-- a range walked -/
def iRgV (tl : TE) : TI := fun σ H R => tl σ H fun x H1 => ∃ a lo hi, x = .ref a ∧ H1 a = some (.rng lo hi) ∧ (-(2 ^ 62) ≤ lo ∧ lo < 2 ^ 62 ∧ -(2 ^ 62) ≤ hi ∧ hi < 2 ^ 62) ∧ R (Itr lo (hi - lo).toNat) H1
theorem pi_rgV {l : Expr} {tl : TE} (hl : PE X l tl) : PI X tg l (iRgV tl) := by
  refine ⟨fun pins s σ H R I h => ?_⟩
  refine thn (hl.run pins s σ H _ I h) fun v s1 ⟨x, H1, I1, r1, q1⟩ => ?_
  obtain ⟨a, lo, hi, e, hq, ⟨h1, h2, h3, h4⟩, q⟩ := q1
  subst e
  cases r1
  obtain ⟨t, u, w, ho⟩ := I1.hok a _ hq
  refine wpAny_pyIter_range (t := t) (u := u) (v := w) ho (small_one h1 h2 h3 h4) ?_
  refine ⟨s1.heap.objs.size, [s1.heap.objs.size], _, _, H1, rfl, I1.kept (t' := s1.toks) fun b o e => Heap.get?_push_of_some _ e, turn_range _ lo (hi - lo).toNat, ?_, fun b hb => ?_, q⟩
  · have e1 : lo + ((0 : Nat) : Int) * 1 = lo := by simp
    have e2 : (((hi - lo).toNat : Nat) : Int) - ((0 : Nat) : Int) = Builtin.Range.rangeSize lo hi 1 := by rw [rangeSize_one]; split <;> omega
    show IsRangeIter _ _ (lo + ((0 : Nat) : Int) * 1) ((((hi - lo).toNat : Nat) : Int) - ((0 : Nat) : Int)) 1
    rw [e1, e2]
    exact Heap.get?_push_size _ rfl
  · have e : b = s1.heap.objs.size := by simpa using hb
    subst e
    exact I1.fpOk (Nat.le_refl _) (I1.hok.fresh (Nat.le_refl _))
def rgpV : Val → Option (List Val) | .rng lo hi => if -(2 ^ 62) ≤ lo ∧ lo < 2 ^ 62 ∧ -(2 ^ 62) ≤ hi ∧ hi < 2 ^ 62 then some (iota lo (hi - lo).toNat) else none | _ => none
theorem yi_rgV (h : PE X e (SE C E ma)) : PI X tg e (SI C E (walkM rgpV ma)) := PI.imp (pi_rgV h) fun σ H R ⟨B, A, ρ, N, hm⟩ =>
  ⟨B, A, ρ, N, Rs.wp_mono (Rs.wp_bind hm) (fun x hx v H1 N1 g1 r1 => by
    obtain ⟨xs, e, hz⟩ := Rs.wp_opt (Rs.wp_bind hx)
    unfold rgpV at e
    split at e
    · rename_i lo hi q
      split at e
      · rename_i hb
        cases e
        rw [q] at r1
        obtain ⟨a, rfl, ha, h⟩ := rep_rng.mp r1
        exact ⟨a, lo, hi, rfl, h, hb, hz _ H1 N1 g1 (wk_rng lo _)⟩
      · cases e
    · cases e) fun _ _ _ _ h => h⟩
theorem e_rgp {hi : Int} (h : -(2 ^ 62) ≤ hi ∧ hi < 2 ^ 62) : rgpV (.rng 0 hi) = some (iota 0 hi.toNat) := by
  unfold rgpV; dsimp only; rw [if_pos ⟨by decide, by decide, h⟩, Int.sub_zero]
end
end Y

set_option Elab.async false
set_option linter.all false
set_option maxRecDepth 100000
set_option maxHeartbeats 4000000
set_option autoImplicit false
/-! XC: a list, a tuple, a range or a text walked. -/
namespace Y
open PySem PySem.Spec PyProof.Rows L2 Z
section
variable {X : Cx} {C : Cn} {E : XK} {e a tg : Expr} {ma : ME}
/-- what is walked: one of four -/
def iWlk (K : PySem.W.Frag) (tl : TE) : TI := fun σ H R => tl σ H fun x H1 =>
  (∃ a, x = .ref a ∧ (((∃ xs, SqL K H1 a xs) ∧ R (Itl K a) H1) ∨ ((∃ xs, SqT K H1 a xs) ∧ R (Itt K a) H1) ∨ ∃ lo hi, H1 a = some (.rng lo hi) ∧ (-(2 ^ 62) ≤ lo ∧ lo < 2 ^ 62 ∧ -(2 ^ 62) ≤ hi ∧ hi < 2 ^ 62) ∧ R (Itr lo (hi - lo).toNat) H1)) ∨ ∃ s, x = V.str s ∧ R (Its s) H1
theorem pi_wlk {l : Expr} {tl : TE} (hl : PE X l tl) : PI X tg l (iWlk X.K tl) := by
  refine ⟨fun pins s σ H R I h => thn (hl.run pins s σ H _ I h) fun v s1 hq => ?_⟩
  obtain ⟨x, H1, I1, r1, q1⟩ := hq
  have fp : ∀ b ∈ [s1.heap.objs.size], FpOk X pins H1 b := fun b hb => by rw [List.mem_singleton.mp hb]; exact I1.fpOk (Nat.le_refl _) (I1.hok.fresh (Nat.le_refl _))
  rcases q1 with ⟨a, rfl, q1⟩ | ⟨x, rfl, q⟩
  · cases r1
    rcases q1 with ⟨⟨xs, hs⟩, q⟩ | ⟨⟨xs, hs⟩, q⟩ | ⟨lo, hi, hq, ⟨h1, h2, h3, h4⟩, q⟩
    · obtain ⟨its, _, pl, _⟩ := I1.list hs
      exact wpAny_pyIter_list pl.isList ⟨_, [_], _, _, H1, rfl, I1.kept (t' := s1.toks) (fun b o e => Heap.get?_push_of_some _ e), turn_list a _, ⟨_, Heap.get?_push_size _ rfl, rfl, rfl⟩, fp, q⟩
    · obtain ⟨its, _, pl, _⟩ := I1.tuple hs
      exact wpAny_pyIter_tuple (show s1.heap.IsTuple a its.toArray from pl) ⟨_, [_], _, _, H1, rfl, I1.kept (t' := s1.toks) (fun b o e => Heap.get?_push_of_some _ e), turn_tuple a _, ⟨_, Heap.get?_push_size _ rfl, rfl, rfl⟩, fp, q⟩
    · obtain ⟨t, u, w, ho⟩ := I1.hok a _ hq
      refine wpAny_pyIter_range (t := t) (u := u) (v := w) ho (small_one h1 h2 h3 h4) ?_
      refine ⟨s1.heap.objs.size, [s1.heap.objs.size], _, _, H1, rfl, I1.kept (t' := s1.toks) fun b o e => Heap.get?_push_of_some _ e, turn_range _ lo (hi - lo).toNat, ?_, fp, q⟩
      have e1 : lo + ((0 : Nat) : Int) * 1 = lo := by simp
      have e2 : (((hi - lo).toNat : Nat) : Int) - ((0 : Nat) : Int) = Builtin.Range.rangeSize lo hi 1 := by rw [rangeSize_one]; split <;> omega
      show IsRangeIter _ _ (lo + ((0 : Nat) : Int) * 1) ((((hi - lo).toNat : Nat) : Int) - ((0 : Nat) : Int)) 1
      rw [e1, e2]
      exact Heap.get?_push_size _ rfl
  · obtain ⟨t, rfl⟩ := r1
    cases ha : x.cps.all (· < 128)
    · exact wpAny_pyIter_wide ha (pi_one (tk := s1.toks) I1 _ (turn_str _ x t "str_iterator" (.inr rfl)) ⟨_, Heap.get?_push_size _ rfl, rfl, rfl⟩ q)
    · exact wpAny_pyIter_ascii ha (pi_one (tk := s1.toks) I1 _ (turn_str _ x t "str_ascii_iterator" (.inl rfl)) ⟨_, Heap.get?_push_size _ rfl, rfl, rfl⟩ q)
def letS (s : Str) : List Val := s.cps.toList.map fun c => .str ⟨#[c]⟩
theorem wk_str {A : Rg} {H : Hp} (x : Str) : Wk C A (Its x) H (letS x) := fun A' H' g _ => by
  refine ⟨fun i y hy => ?_, by show x.cps.size ≤ _; unfold letS; simp⟩
  unfold letS at hy
  rw [List.getElem?_map, Array.getElem?_toList] at hy
  cases hc : x.cps[i]? with
  | none => rw [hc] at hy; cases hy
  | some c =>
    rw [hc] at hy
    cases hy
    refine ⟨(Array.getElem?_eq_some_iff.mp hc).1, fun v2 H2 ⟨e2, c2, h2, ev⟩ => ?_⟩
    subst e2 ev
    rw [hc] at h2
    cases h2
    exact ⟨Same.refl _, rep_str.mpr rfl⟩
def wlkV : Val → Option (List Val)
  | .lst xs => some xs | .tup xs => some xs | .str s => some (letS s)
  | .rng lo hi => if -(2 ^ 62) ≤ lo ∧ lo < 2 ^ 62 ∧ -(2 ^ 62) ≤ hi ∧ hi < 2 ^ 62 then some (iota lo (hi - lo).toNat) else none
  | _ => none
theorem yi_wlk (hK : X.K = C.K) (h : PE X e (SE C E ma)) : PI X tg e (SI C E (walkM wlkV ma)) := PI.imp (pi_wlk h) fun σ H R ⟨B, A, ρ, N, hm⟩ =>
  ⟨B, A, ρ, N, Rs.wp_mono (Rs.wp_bind hm) (fun x hx v H1 N1 g1 r1 => by
    obtain ⟨xs, e, hz⟩ := Rs.wp_opt (Rs.wp_bind hx)
    rw [hK]
    unfold wlkV at e
    split at e
    · rename_i q
      cases e
      rw [q] at r1
      obtain ⟨a, vs, rfl, n, h, r⟩ := rep_lst.mp r1
      exact .inl ⟨a, rfl, .inl ⟨⟨vs, SqL.of h⟩, hz _ H1 N1 g1 (wk_list n h r)⟩⟩
    · rename_i q
      cases e
      rw [q] at r1
      obtain ⟨a, vs, rfl, h, r⟩ := rep_tup.mp r1
      exact .inl ⟨a, rfl, .inr (.inl ⟨⟨vs, h.sq⟩, hz _ H1 N1 g1 (wk_tup h r)⟩)⟩
    · rename_i s q
      cases e
      rw [q] at r1
      exact .inr ⟨s, rep_str.mp r1, hz _ H1 N1 g1 (wk_str s)⟩
    · rename_i lo hi q
      split at e
      · rename_i hb
        cases e
        rw [q] at r1
        obtain ⟨a, rfl, ha, h⟩ := rep_rng.mp r1
        exact .inl ⟨a, rfl, .inr (.inr ⟨lo, hi, h, hb, hz _ H1 N1 g1 (wk_rng lo _)⟩)⟩
      · cases e
    · cases e) fun _ _ _ _ h => h⟩
end
end Y

set_option Elab.async false
set_option linter.all false
set_option maxRecDepth 100000
set_option maxHeartbeats 4000000
set_option autoImplicit false
/-! XD: s.join(list or tuple of texts). -/
namespace Y
open PySem PySem.Spec PyProof.Rows L2 Z
section
variable {X : Cx} {C : Cn} {E : XK} {e a b : Expr} {ma mb : ME} {pos apos : Pos}
def strsV : List Val → Option (List Str)
  | [] => some []
  | .str s :: xs => (strsV xs).map (s :: ·)
  | _ => none
theorem strsV_of : ∀ {xs : List Val} {ys : List Str}, strsV xs = some ys → xs = ys.map Val.str
  | [], ys, h => by unfold strsV at h; cases h; rfl
  | x :: xs, ys, h => by
    cases x with
    | str s =>
      unfold strsV at h
      cases h1 : strsV xs with
      | none => rw [h1] at h; cases h
      | some zs => rw [h1] at h; cases h; rw [strsV_of h1]; rfl
    | _ => unfold strsV at h; cases h
theorem strsV_map : ∀ ys : List Str, strsV (ys.map Val.str) = some ys
  | [] => rfl
  | y :: ys => by show (strsV (ys.map Val.str)).map (y :: ·) = _; rw [strsV_map ys]; rfl
theorem reps_str {A : Rg} {H : Hp} : ∀ {ys : List Str} {vs : List V}, reps C A H vs (ys.map Val.str) → vs = ys.map V.str
  | [], vs, h => by
    have h : reps C A H vs [] := h
    unfold reps at h; exact h
  | y :: ys, vs, h => by
    have h : reps C A H vs (.str y :: ys.map Val.str) := h
    unfold reps at h
    obtain ⟨v, r, rfl, h1, h2⟩ := h
    rw [rep_str.mp h1, reps_str h2]; rfl
def joinV (x y : Val) : Option Val := match x with
  | .str a => (seqV y).bind fun xs => (strsV xs).bind fun ys => if (ys.map (·.length)).sum + ys.length * a.length ≤ 16777216 then some (.str (Txt.join a ys)) else none
  | _ => none
def joinM (ma mb : ME) : ME := fun ρ => ma ρ >>= fun x => match x.1 with
  | .str a => mb x.2 >>= fun y => Rs.opt (joinV (.str a) y.1) >>= fun z => .ok (z, y.2)
  | _ => .bad
theorem y_join (ha : PE X a (SE C E ma)) (hb : PE X b (SE C E mb)) (hK : X.K = C.K) (hs : starEach [b] X.env = [(false, eval b X.env)] := by rfl) (hbase : attributeBase a "join" X.env (eval a X.env) = eval a X.env := by rfl) (hl : (apos.endLine == pos.line) = true := by rfl) : PE X (.Call (.Attribute a "join" apos) [b] [] pos) (SE C E (joinM ma mb)) := PE.imp (pe_join ha hb hs hbase hl) fun σ H Q ⟨B, A, ρ, N, hm⟩ =>
  ⟨B, A, ρ, N, Rs.wp_mono (Rs.wp_bind hm) (fun x hx v H1 N1 g1 r1 => by
    split at hx
    · rename_i s q
      rw [q] at r1
      have e1 := rep_str.mp r1
      subst e1
      refine ⟨⟨s, rfl⟩, ⟨B, A, x.2, N1, Rs.wp_mono (Rs.wp_bind hx) (fun y hy w H2 N2 g2 r2 => ?_) (EXe.tr g1)⟩⟩
      obtain ⟨z, ez, hz⟩ := Rs.wp_opt (Rs.wp_bind hy)
      unfold joinV at ez
      dsimp only at ez
      cases e3 : seqV y.1 with
      | none => rw [e3] at ez; cases ez
      | some xs =>
        rw [e3] at ez
        cases e4 : strsV xs with
        | none => dsimp only [Option.bind] at ez; rw [e4] at ez; cases ez
        | some ys =>
          dsimp only [Option.bind] at ez
          rw [e4] at ez
          dsimp only at ez
          split at ez
          · rename_i hbd
            cases ez
            have exs := strsV_of e4
            subst exs
            have fin := hz _ H2 N2 (g1.trans g2) (rep_str.mpr rfl)
            rw [hK]
            unfold seqV at e3
            split at e3
            · rename_i q3
              cases e3
              rw [q3] at r2
              obtain ⟨p, vs, rfl, n, h, rs⟩ := rep_lst.mp r2
              have := reps_str rs
              subst this
              exact ⟨s, p, ys, rfl, rfl, .inl (SqL.of h), hbd, fin⟩
            · rename_i q3
              cases e3
              rw [q3] at r2
              obtain ⟨p, vs, rfl, h, rs⟩ := rep_tup.mp r2
              have := reps_str rs
              subst this
              exact ⟨s, p, ys, rfl, rfl, .inr h.sq, hbd, fin⟩
            · cases e3
          · cases ez
    · exact hx.elim) fun _ _ _ _ h => h⟩
end
end Y

set_option Elab.async false
set_option linter.all false
set_option maxRecDepth 100000
set_option maxHeartbeats 4000000
set_option autoImplicit false
/-! XE: d[k] = e, d an own dict, k new. -/
namespace Y
open PySem PySem.Spec PyProof.Rows L2 Z
section
variable {X : Cx} {C : Cn} {E : XK} {ma : ME}
def dstS (i : Nat) (mk : ME) (m : ME) : MS := fun ρ => m ρ >>= fun x => match x.2[i]? with
  | some (some (.ob _ (.odic _ _))) => mk x.2 >>= fun k => match k.2[i]? with
    | some (some (.ob p (.odic ks xs))) => Rs.opt (keyV k.1) >>= fun kk => if newK ks kk = true ∧ ks.length < sizeLine then .ok (.nx (k.2.set i (some (.ob p (.odic (ks ++ [kk]) (xs ++ [x.1])))))) else .bad
    | _ => .bad
  | _ => .bad
theorem ys_dst {i : Nat} {mk' : ME} {st : Stmt} (h : PS X st (sDPut (tVar i) (SE C E mk') (SE C E ma))) : PS X st (SS C E (dstS i mk' ma)) := PS.imp h fun D σ H ⟨B, A, ρ, N, hm⟩ =>
  ⟨B, A, ρ, N, Rs.wp_mono (Rs.wp_bind hm) (fun x hx v H1 N1 g1 r1 => by
    split at hx
    · rename_i p0 ks0 xs0 h0
      obtain ⟨l, vs, hσ, hl, _⟩ := N1.odic h0
      refine ⟨_, hσ, B, A, x.2, N1, Rs.wp_mono (Rs.wp_bind hx) (fun k hk u H2 N2 g2 r2 => ?_) (EXe.of)⟩
      split at hk
      · rename_i p ks xs h1
        obtain ⟨kk, ek, hk⟩ := Rs.wp_opt (Rs.wp_bind hk)
        obtain ⟨⟨hn, hs⟩, hk⟩ := ite_bad hk
        obtain ⟨l', ws, hσ', hl', lks, rs, s0, e0⟩ := N2.odic h1
        rw [hσ] at hσ'; cases hσ'
        have lkw : ks.length = ws.length := by rw [rs.len]; exact lks
        obtain ⟨_, _, n, d⟩ := s0
        have nA : ¬ A l := d l (by rw [e0]; exact .head _)
        have nl : l ∉ fls H2 ws xs := by rw [e0] at n; exact (List.nodup_cons.mp n).1
        have hlz : (ks.zip ws).length < sizeLine := by rw [List.length_zip]; omega
        refine ⟨l, _, rfl, .inl ⟨ks.zip ws, kk, hl', keyV_rep ek r2, hlz, rfl⟩, ?_⟩
        rw [putK_new lkw hn]
        have kp : ∀ a, a ≠ l → (upd H2 l (.dK ((ks ++ [kk]).zip (ws ++ [v])))) a = H2 a := fun a n => upd_ne n
        obtain ⟨q1, q2⟩ := rs.keep nA nl kp
        have r3 := rep.keep nA kp (rep.gr g2.g r1)
        have q3 := ros.append q1 (ros_cons r3.ro ros_nil)
        have q4 : fls (upd H2 l (.dK ((ks ++ [kk]).zip (ws ++ [v])))) (ws ++ [v]) (xs ++ [x.1]) = fls H2 ws xs := by rw [fls_append rs.len, q2, fls_fz (reps_cons r3 reps_nil), List.append_nil]
        have e1 : fl (upd H2 l (.dK ((ks ++ [kk]).zip (ws ++ [v])))) (.ref l) (.odic (ks ++ [kk]) (xs ++ [x.1])) = fl H2 (.ref l) (.odic ks xs) := by
          rw [fl_odic upd_same (by simp [lkw]), q4, e0]
        obtain ⟨N3, g3⟩ := N2.put (s := .ob p (.odic ks xs)) (s' := .ob p (.odic (ks ++ [kk]) (xs ++ [x.1]))) (l := l) h1 hσ (by show l ∈ fl H2 (.ref l) (.odic ks xs); rw [e0]; exact .head _) nt rfl rfl ⟨rfl, ro_odic.mpr ⟨l, _, rfl, upd_same, by simp [lks], q3⟩, by rw [e1]; exact n, by rw [e1]; exact d⟩ e1
        exact hk A σ _ N3 ((g1.trans g2).g.trans g3.g)
      · exact hk.elim
    · exact hx.elim) EXe.of⟩
end
end Y

set_option Elab.async false
set_option linter.all false
set_option maxRecDepth 100000
set_option maxHeartbeats 4000000
set_option autoImplicit false
/-! XF: s[::-1] of a text. -/
namespace Y
open PySem PySem.Spec PyProof.Rows L2 Z
section
variable {X : Cx} {C : Cn} {E : XK} {e : Expr} {ma : ME}
def revS (z : Str) : Str := ⟨((Builtin.Str.strSliceIndices none none (-1) z.length).filterMap (z.cps[·]?)).toArray⟩
def revSV : Val → Option Val | .str s => if (revS s).length ≤ sizeLine then some (.str (revS s)) else none | _ => none
def tRevS (te : TE) : TE := fun σ H Q => te σ H fun x H1 => ∃ z, x = .str z ∧ (revS z).length ≤ sizeLine ∧ Q (.str (revS z)) H1
theorem pe_revS {te : TE} {k : Nat} {p1 p2 p3 pos : Pos} (he : PE X e te) : PE X (.Subscript e (.Slice none none (some (.UnaryOp .USub (.Constant (.int 1) k p1) p2)) p3) pos) (tRevS te) := by
  refine ⟨fun pins s σ H Q I h => ?_⟩
  refine Subscript_ (thn (he.run pins s σ H _ I h) fun v s1 ⟨x, H1, I1, r1, q1⟩ => ?_)
  obtain ⟨z, ex, hz, q⟩ := q1
  subst ex
  obtain ⟨t, rfl⟩ := r1
  have hst : PO X (some (.UnaryOp .USub (.Constant (.int 1) k p1) p2)) (tPart (tUn (rU fun i => .int (-i)) (tC (.int 1)))) := po_some (pe_un un_neg pe_int)
  refine wpAny_Slice (thn (po_none.run pins s1 σ H1 (fun o H2 => o = none ∧ H2 = H1) I1 ⟨rfl, rfl⟩) fun vl s2 ⟨l, H2, I2, pl, el, e2⟩ => ?_)
  subst el e2
  refine thn (po_none.run pins s2 σ H2 (fun o H3 => o = none ∧ H3 = H2) I2 ⟨rfl, rfl⟩) fun vu s3 ⟨u, H3, I3, pu, eu, e3⟩ => ?_
  subst eu e3
  refine thn (hst.run pins s3 σ H3 (fun o H4 => o = some (-1) ∧ H4 = H3) I3 ⟨1, rfl, -1, rfl, rfl, rfl⟩) fun vs s4 ⟨o, H4, I4, ps, eo, e4⟩ => ?_
  subst eo e4
  have I5 : Inv X pins σ H4 { s4 with heap := s4.heap.push { cls := .type "slice", data := .fields #[vl, vu, vs] } } := I4.kept (t' := s4.toks) fun b ob q => Heap.get?_push_of_some _ q
  obtain ⟨l', rfl, el'⟩ := IsPart.raw pl
  obtain ⟨u', rfl, eu'⟩ := IsPart.raw pu
  obtain ⟨st', rfl, es'⟩ := IsPart.raw ps
  show wpAny (model X.prog X.w) X.A (subscriptTail e (.Slice none none (some (.UnaryOp .USub (.Constant (.int 1) k p1) p2)) p3) (.str z t) (.ref s4.heap.objs.size)) (EP X pins σ Q) X.xe { s4 with heap := s4.heap.push { cls := .type "slice", data := .fields #[partValue l', partValue u', partValue st'] } }
  refine tail_any (ops := [.str z t, .ref s4.heap.objs.size]) (typeIs_str _ _ _) (F.slot_str_getitem.lookup) ?_ (by with_unfolding_all rfl)
  refine wpAny_getItem_str_slice (l := l') (u := u') (st := st') ⟨_, Heap.get?_push_size _ rfl, rfl, rfl⟩ (by rw [es']; rfl) ?_
  unfold sliceMade slicePicked
  rw [el', eu', es']
  show Made.post (Made.str (revS z)) (EP X pins σ Q) _
  exact ⟨hz, .str _, H4, I5.tok _, ⟨_, rfl⟩, q⟩
theorem y_revS (h : PE X e (tRevS (SE C E ma))) : PE X e (SE C E (unM revSV ma)) := PE.imp h fun σ H Q ⟨B, A, ρ, N, hm⟩ =>
  ⟨B, A, ρ, N, Rs.wp_mono (Rs.wp_bind hm) (fun x hx v H1 N1 g1 r1 => by
    obtain ⟨z, ez, hz⟩ := Rs.wp_opt (Rs.wp_bind hx)
    unfold revSV at ez
    split at ez
    · rename_i s q
      split at ez
      · rename_i hs
        cases ez
        rw [q] at r1
        exact ⟨s, rep_str.mp r1, hs, hz _ H1 N1 g1 (rep_str.mpr rfl)⟩
      · cases ez
    · cases ez) fun _ _ _ _ h => h⟩
end
end Y

set_option Elab.async false
set_option linter.all false
set_option maxRecDepth 100000
set_option maxHeartbeats 4000000
set_option autoImplicit false
/-! XG: a text walked from its end. -/
namespace RS
open PySem PySem.Spec PyProof.Rows L2
theorem norev_str : typeLookup (.type "str") "__reversed__" = pure none := by rw [typeLookup_type, builtinLookup_eq_fast]; kernel_rfl
theorem get_str : typeLookup (.type "str") "__getitem__" = pure (some (.builtin "str.__getitem__")) := by rw [typeLookup_type, builtinLookup_eq_fast]; kernel_rfl
theorem sub_str_dict : isSubtype (.type "str") (.type "dict") = pure false := by rw [isSubtype_type]; kernel_rfl
def rsObj (x : Str) (t : Tok) (i : Int) : Obj := { cls := .type "reversed", data := .fields #[.str x t, rawInt i] }
/-- reversed(a text), the next place i -/
def IsRs (h : Heap) (a : Addr) (x : Str) (t : Tok) (i : Int) : Prop := ∃ o, h.get? a = some o ∧ o.cls = .type "reversed" ∧ o.data = .fields #[.str x t, rawInt i]
section
variable {prog : Program} {w : World} {A : Around} {E : Value → Shared → Prop} {s : Shared}
theorem IsRs.typeIs {a : Addr} {x : Str} {t : Tok} {i : Int} (h : IsRs s.heap a x t i) : s.TypeIs (.ref a) "reversed" := let ⟨o, ho, hc, _⟩ := h; ⟨o, ho, hc⟩
theorem code_reversed_str {x : Str} {t : Tok} {Q₁ : Value → Shared → Prop} (hx : x.length ≤ sizeLine)
    (h : Q₁ (.ref s.heap.objs.size) { s with heap := s.heap.push (rsObj x t ((x.length : Int) - 1)), toks := s.toks + 1 + 1 }) :
    codeAny (model prog w) A (.call (.builtin "reversed.__new__") ⟨[.type "reversed", .str x t], []⟩) (wants Q₁ E) s := by
  have hT : s.TypeIs (.str x t) "str" := rfl
  have l63 := line63
  refine codeAny_of_tree ?_
  show wpAny _ A.in1 (do checkBuiltinCall "reversed.__new__" ⟨[.type "reversed", .str x t], []⟩; again (.builtin "reversed.__new__" ⟨[.type "reversed", .str x t], []⟩)) _ _ s
  refine wpAny_bind (wpAny_of_eq (F.newCall_reversed_1 _) (wpAny_pure ⟨plainId_quiet F.plain_reversed_new _, codeAny_builtin F.entry_reversed_new ?_⟩))
  rw [Around.under_plainId F.plain_reversed_new _]
  unfold Builtin.«reversed.__new__»
  refine wpAny_bind (wpAny_of_eq (newClass_reversed _) ?_)
  try dsimp only
  refine wpAny_bind (wpAny_of_eq (a := ()) (by first | rfl | kernel_rfl) ?_)
  try dsimp only
  refine wpAny_bind (wpAny_of_eq (a := ()) (by first | rfl | kernel_rfl) ?_)
  try dsimp only
  refine wpAny_bind (wpAny_specialOf hT norev_str ?_)
  try dsimp only
  refine wpAny_bind ?_
  wp_delta
  refine wpAny_bind (wpAny_isInstance (T := "str") (U := "dict") (b := false) hT sub_str_dict ?_)
  try dsimp only
  try rw [if_neg Bool.false_ne_true]
  try dsimp only
  refine wpAny_bind (wpAny_specialOf hT get_str ?_)
  try dsimp only
  try rw [if_pos (by decide +kernel)]
  refine wpAny_pure ?_
  try dsimp only
  try rw [if_neg (by decide)]
  try dsimp only
  refine wpAny_bind (PyProof.Rows.len_str (by omega) ?_)
  refine wpAny_bind (wpAny_of_eq (a := some ((x.length : Nat) : Int)) rfl ?_)
  try dsimp only
  refine wpAny_bind ?_
  show wpAny _ _ (newObj (.type "reversed") (.fields #[.str x t, rawInt ((x.length : Int) - 1)])) _ _ _
  refine wpAny_newObj_type ?_
  exact wpAny_pure h
theorem call_reversed_str {x : Str} {t : Tok} {Q : Value → Shared → Prop} (hx : x.length ≤ sizeLine)
    (h : Q (.ref s.heap.objs.size) { s with heap := s.heap.push (rsObj x t ((x.length : Int) - 1)), toks := s.toks + 1 + 1 }) : wpAny (model prog w) A (call (.type "reversed") [.str x t]) Q E s := by
  refine callType_codes (Q₁ := fun obj s₁ => s₁.TypeIs obj "reversed" ∧ Q obj s₁) RT.called_rt (F.typeCall_reversed_1 _) F.entry_object_init
    (code_reversed_str (A := A.in1) hx ⟨⟨_, Heap.get?_push_size _ rfl, rfl⟩, h⟩) fun obj s₁ h₁ => ?_
  exact ⟨h₁.1, F.args_object_init_2 obj _, object_init_meets RT.called_rt.init.lookup RT.called_rt.made (by decide) prog w A.in1 _ s₁ ⟨h₁.1, rfl, h₁.2⟩⟩
theorem next_rs_item {it : Addr} {x : Str} {t : Tok} {i c : Nat} {Q : Option Value → Shared → Prop} (hit : IsRs s.heap it x t (i : Int)) (hx : x.cps[i]? = some c) (hsz : x.length ≤ sizeLine)
    (hQ : ∀ h', IsRs h' it x t ((i : Int) - 1) → Heap.SameBut it s.heap h' → Q (some (.str ⟨#[c]⟩ (s.toks + 1))) { s with heap := h', toks := s.toks + 1 + 1 }) : wpAny (model prog w) A (pyNext (.ref it)) Q E s := by
  obtain ⟨o, ho, hc, hd⟩ := id hit
  have hi : i < x.cps.size := (Array.getElem?_eq_some_iff.mp hx).1
  have hi' : i < x.length := hi
  have hT : s.TypeIs (.str x t) "str" := rfl
  rw [sizeLine_eq] at hsz
  unfold pyNext
  refine wpAny_bind (wpAny_attempt (wpAny_callSpecial?_slot (name := Str.ofString "__next__") hit.typeIs RT.slot_rt_next
    (wpAny_call_entry RT.slot_rt_next hit.typeIs RT.entry_rt_next ?_ (RT.args_rt_next _))))
  unfold Builtin.«reversed.__next__»
  refine wpAny_bind (wpAny_of_eq (a := (Value.ref it, [])) rfl ?_)
  try dsimp only
  refine wpAny_bind (wpAny_field ho hd (x := .str x t) rfl ?_)
  try dsimp only
  refine wpAny_bind (wpAny_field ho hd (x := rawInt (i : Int)) rfl ?_)
  show wpAny _ _ (if (i : Int) < 0 then _ else _) _ _ s
  rw [if_neg (by omega)]
  try dsimp only
  refine wpAny_bind (wpAny_specialOf hT get_str ?_)
  try dsimp only
  try rw [if_neg (by decide)]
  try dsimp only
  refine wpAny_bind (wpAny_mkInt ?_)
  refine wpAny_bind (wpAny_attempt ?_)
  have fin : seqIndex? (i : Int) x.length = some i := seqIndex_of (by omega) (by omega)
  refine PyProof.Rows.getItem_str (s := { s with toks := s.toks + 1 }) (c := c) (by rw [decide_eq_false (by omega), decide_eq_false (by omega)]; rfl) (by rw [fin]; exact hx) ?_
  try dsimp only
  refine wpAny_bind (wpAny_field (s := { s with toks := s.toks + 1 + 1 }) ho hd (x := rawInt (i : Int)) rfl ?_)
  try dsimp only
  refine wpAny_bind (wpAny_setField (s := { s with toks := s.toks + 1 + 1 }) ho hd (by simp) ?_)
  first
  | refine wpAny_pure ⟨_, rfl, wpAny_pure (hQ _ ?_ (Heap.SameBut.update ..))⟩
  | refine wpAny_bind (wpAny_pure (wpAny_pure ⟨_, rfl, wpAny_pure (hQ _ ?_ (Heap.SameBut.update ..))⟩))
  exact ⟨_, Heap.get?_update_self _ ho (Obj.isFreed_of_fields (Obj.data_mapFields hd _)), (Obj.cls_mapFields ..).trans hc, by
    rw [Obj.data_mapFields hd]; simp⟩
theorem next_rs_end {it : Addr} {x : Str} {t : Tok} {Q : Option Value → Shared → Prop} (hh : A.handled = none) (hit : IsRs s.heap it x t (-1))
    (hQ : ∀ h', Heap.ExtBut it s.heap h' → Q none { s with heap := h' }) : wpAny (model prog w) A (pyNext (.ref it)) Q E s := by
  obtain ⟨o, ho, hc, hd⟩ := id hit
  unfold pyNext
  refine wpAny_bind (wpAny_attempt (wpAny_callSpecial?_slot (name := Str.ofString "__next__") hit.typeIs RT.slot_rt_next
    (wpAny_call_entry RT.slot_rt_next hit.typeIs RT.entry_rt_next ?_ (RT.args_rt_next _))))
  unfold Builtin.«reversed.__next__»
  refine wpAny_bind (wpAny_of_eq (a := (Value.ref it, [])) rfl ?_)
  try dsimp only
  refine wpAny_bind (wpAny_field ho hd (x := .str x t) rfl ?_)
  try dsimp only
  refine wpAny_bind (wpAny_field ho hd (x := rawInt (-1)) rfl ?_)
  show wpAny _ _ (if (-1 : Int) < 0 then _ else _) _ _ s
  rw [if_pos (by decide)]
  try dsimp only
  refine wpAny_bind (wpAny_rule ?_)
  refine wpAny_bind ?_
  wp_delta
  refine wpAny_bind (wpAny_setField ho hd (by simp) ?_)
  have ho2 := Heap.get?_update_self (Obj.mapFields (·.setIfInBounds 1 (rawInt (-1)))) ho (Obj.isFreed_of_fields (Obj.data_mapFields hd _))
  refine wpAny_setField (s := { s with heap := s.heap.update it (Obj.mapFields (·.setIfInBounds 1 (rawInt (-1)))) }) ho2 (Obj.data_mapFields hd _) (by simp) ?_
  try dsimp only
  first
  | show wpAny _ _ (newExc (.type "StopIteration") [] >>= _) _ _ _
  | (refine wpAny_bind ?_; show wpAny _ _ (newExc (.type "StopIteration") [] >>= _) _ _ _)
  | (refine wpAny_bind ?_; wp_delta; show wpAny _ _ (newExc (.type "StopIteration") [] >>= _) _ _ _)
  refine wpAny_bind ?_
  simp only [newExc, newTuple]
  refine wpAny_bind (wpAny_newObj_type ?_ (by size_fits))
  refine wpAny_bind (m := firstArgMember _ _) (wpAny_of_eq (a := Value.none) (by first | rfl | (simp only [firstArgMember]; rfl)) ?_)
  refine wpAny_newObj_type ?_ (by size_fits)
  simp only [raiseNew]
  refine wpAny_bind (wpAny_handled ?_)
  first | rw [show A.in1.handled = none from hh] | rw [hh]
  refine wpAny_bind (wpAny_pure (wpAny_throw ?_))
  refine wpAny_bind (wpAny_isInstance (T := "StopIteration") (b := true) ⟨_, Heap.get?_push_size _ rfl, rfl⟩ isSubtype_stop ?_)
  refine wpAny_pure (hQ _ ?_)
  refine ((?_ : Heap.ExtBut it s.heap _).push _).push _
  exact fun b ob hb e => (Heap.get?_update_other _ _ (Ne.symm hb)).trans ((Heap.get?_update_other _ _ (Ne.symm hb)).trans e)
theorem iter_rs {it : Addr} {x : Str} {t : Tok} {i : Int} {Q : Value → Shared → Prop} (hit : IsRs s.heap it x t i) (h : Q (.ref it) s) : wpAny (model prog w) A (pyIter (.ref it)) Q E s := by
  refine wpAny_pyIter_slot hit.typeIs RT.slot_rt_iter (wpAny_call_entry RT.slot_rt_iter hit.typeIs RT.entry_rt_iter ?_ (RT.args_rt_iter _))
  show wpAny _ _ (ret (.ref it)) _ _ s
  exact wpAny_pure ⟨_, rfl, "reversed", _, hit.typeIs, RT.slot_rt_next.lookup, h⟩
end
end RS
namespace Y
open PySem PySem.Spec PyProof.Rows L2 Z
def Itsr (x : Str) : It := ⟨fun i _ => i < x.cps.size, fun i H v H' => H' = H ∧ ∃ c, x.cps[x.cps.size - 1 - i]? = some c ∧ v = .str ⟨#[c]⟩, fun i _ => x.cps.size ≤ i⟩
theorem turn_rs {P : Program} {w : World} {K : PySem.W.Frag} {tg : Expr} (it : Addr) (x : Str) (t : Tok) (hx : x.length ≤ sizeLine) :
    L2.Turn P w K tg (Itsr x) [it] it (fun i h => i ≤ x.cps.size ∧ RS.IsRs h it x t ((x.cps.size : Int) - 1 - (i : Nat))) where
  mem := by simp
  obj := fun i h st b hb => by
    have e : b = it := by simpa using hb
    subst e
    obtain ⟨_, o, e, c, d⟩ := st
    exact ⟨o, e, fun v z => by rw [d] at z; cases z⟩
  keep := fun i h h' st k => ⟨st.1, let ⟨o, ho, r⟩ := st.2; ⟨o, k it (by simp) o ho, r⟩⟩
  item := by
    intro X hP hw hK hc i pins s σ H E I hf st hg
    subst hP hw hK
    obtain ⟨f0, f1, f2, f3, f4, f5⟩ := hf it (by simp)
    obtain ⟨_, hit⟩ := st
    have hin : i < x.cps.size := hg
    have e1 : (x.cps.size : Int) - 1 - ((i : Nat) : Int) = ((x.cps.size - 1 - i : Nat) : Int) := by omega
    rw [e1] at hit
    have hcx : x.cps[x.cps.size - 1 - i]? = some (x.cps[x.cps.size - 1 - i]'(by omega)) := Array.getElem?_eq_getElem (by omega)
    refine RS.next_rs_item hit hcx hx fun h' st' sb => ?_
    have e2 : ((x.cps.size - 1 - i : Nat) : Int) - 1 = (x.cps.size : Int) - 1 - ((i + 1 : Nat) : Int) := by omega
    rw [e2] at st'
    have I1 : L2.Inv X pins σ H { s with heap := h', toks := s.toks + 1 + 1 } := I.turned (t' := s.toks + 1 + 1) (fun b o hb e => (sb.2 b hb).trans e) f0 f1 f3 f4 f5
    obtain ⟨o, e, c, d⟩ := id st'
    exact ⟨_, rfl, go_of (s := { s with heap := h', toks := s.toks + 1 + 1 }) e c d (by decide) ⟨.str ⟨#[_]⟩, H, I1, ⟨_, rfl⟩, ⟨rfl, _, hcx, rfl⟩, ⟨hin, st'⟩, fun b hb => (hf b hb).1⟩⟩
  done := by
    intro X hP hw hK hc i pins s σ H E I hf st hg
    subst hP hw hK
    obtain ⟨f0, f1, f2, f3, f4, f5⟩ := hf it (by simp)
    obtain ⟨hin, hit⟩ := st
    have hge : x.cps.size ≤ i := hg
    have e1 : (x.cps.size : Int) - 1 - ((i : Nat) : Int) = -1 := by omega
    rw [e1] at hit
    exact RS.next_rs_end (I.ok.hd hc) hit fun h' eb => ⟨rfl, I.turned (t' := s.toks) (fun b o hb e => eb b o hb e) f0 f1 f3 f4 f5⟩
  self := fun A i s Q E st h => RS.iter_rs st.2 h
/-- for .. in reversed(text) -/
def iRevS (te : TE) : TI := fun σ H R => te σ H fun v H1 => ∃ x, v = .str x ∧ x.length ≤ sizeLine ∧ R (Itsr x) H1
theorem pi_revS {X : Cx} {tg e : Expr} {te : TE} {p pos : Pos} (hg : Gl X "reversed") (hm : X.mg "reversed" = none) (he : PE X e te) (hs : starEach [e] X.env = (false, eval e X.env) :: starEach [] X.env := by rfl) : PI X tg (.Call (.Name "reversed" p) [e] [] pos) (iRevS te) := by
  refine ⟨fun pins s σ H R I h => ?_⟩
  refine Call_ (ld_blt I hg hm PyProof.Rows.boot_reversed (PyProof.Rows.callWith_type1 (args_cons (thn (he.run pins s σ H _ I h) fun u s1 ⟨v, H1, I1, r1, x, ex, hx, q1⟩ => args_nil ?_) hs) hs rfl))
  subst ex
  obtain ⟨t, rfl⟩ := r1
  refine RS.call_reversed_str hx (RS.iter_rs (x := x) (t := t) (i := (x.length : Int) - 1) ⟨_, Heap.get?_push_size _ rfl, rfl, rfl⟩ ?_)
  refine pi_one (tk := s1.toks + 1 + 1) I1 _ (turn_rs _ x t hx) ⟨Nat.zero_le _, ?_⟩ q1
  have e1 : (x.cps.size : Int) - 1 - ((0 : Nat) : Int) = (x.length : Int) - 1 := by show (x.cps.size : Int) - 1 - ((0 : Nat) : Int) = (x.cps.size : Int) - 1; omega
  rw [e1]
  exact ⟨_, Heap.get?_push_size _ rfl, rfl, rfl⟩
section
variable {X : Cx} {C : Cn} {E : XK} {e tg : Expr} {ma : ME}
theorem wk_rs {A : Rg} {H : Hp} (x : Str) : Wk C A (Itsr x) H (letS x).reverse := fun A' H' g _ => by
  refine ⟨fun i y hy => ?_, by show x.cps.size ≤ _; unfold letS; simp⟩
  unfold letS at hy
  have hi : i < x.cps.size := by
    have := (List.getElem?_eq_some_iff.mp hy).1
    simpa using this
  rw [List.getElem?_reverse (by simpa using hi), List.getElem?_map, Array.getElem?_toList] at hy
  rw [List.length_map, Array.length_toList] at hy
  cases hc : x.cps[x.cps.size - 1 - i]? with
  | none => rw [hc] at hy; cases hy
  | some c =>
    rw [hc] at hy
    cases hy
    refine ⟨hi, fun v2 H2 ⟨e2, c2, h2, ev⟩ => ?_⟩
    subst e2 ev
    rw [hc] at h2
    cases h2
    exact ⟨Same.refl _, rep_str.mpr rfl⟩
def rstV : Val → Option (List Val) | .str s => if s.length ≤ sizeLine then some (letS s).reverse else none | _ => none
theorem yi_revS (h : PI X tg e (iRevS (SE C E ma))) : PI X tg e (SI C E (walkM rstV ma)) := PI.imp h fun σ H R ⟨B, A, ρ, N, hm⟩ =>
  ⟨B, A, ρ, N, Rs.wp_mono (Rs.wp_bind hm) (fun x hx v H1 N1 g1 r1 => by
    obtain ⟨xs, e, hz⟩ := Rs.wp_opt (Rs.wp_bind hx)
    unfold rstV at e
    split at e
    · rename_i s q
      split at e
      · rename_i hl
        cases e
        rw [q] at r1
        exact ⟨s, rep_str.mp r1, hl, hz _ H1 N1 g1 (wk_rs s)⟩
      · cases e
    · cases e) fun _ _ _ _ h => h⟩
end
end Y
namespace Y
open PySem PySem.Spec PyProof.Rows L2 Z
section
variable {X : Cx} {C : Cn} {E : XK} {e : Expr} {ma : ME}
/-- x[::-1] of a list: a new list -/
def lrvF (m : ME) : ML := fun ρ => m ρ >>= fun x => match x.1 with | .lst xs => .ok (xs.reverse, x.2) | _ => .bad
theorem reps_rev {A : Rg} {H : Hp} {xs : List Val} {vs : List V} (h : reps C A H vs xs) : reps C A H vs.reverse xs.reverse := by
  have k : ∀ {xs : List Val} {vs : List V}, reps C A H vs xs → ∀ {ys : List Val} {us : List V}, reps C A H us ys → reps C A H (vs.reverse ++ us) (xs.reverse ++ ys) := by
    intro xs
    induction xs with
    | nil => intro vs h ys us k; unfold reps at h; subst h; exact k
    | cons x xs ih =>
      intro vs h ys us k
      unfold reps at h
      obtain ⟨v, r, rfl, h1, h2⟩ := h
      rw [List.reverse_cons, List.reverse_cons, List.append_assoc, List.append_assoc]
      exact ih h2 (reps_cons h1 k)
  have := k h (reps_nil (C := C) (A := A) (H := H))
  simpa using this
theorem yf_revL (hK : X.K = C.K) (h : PE X e (tRevL X.K (SE C E ma))) : PE X e (SF C E (lrvF ma)) := PE.imp h fun σ H Q hs => by
  obtain ⟨B, A, ρ, N, hm⟩ := sf_of hs
  unfold lrvF at hm
  exact ⟨B, A, ρ, N, Rs.wp_mono (Rs.wp_bind hm) (fun x hx v H1 N1 g1 r1 => by
    split at hx
    · rename_i xs q
      rw [q] at r1
      obtain ⟨a, vs, rfl, n, h, rs⟩ := rep_lst.mp r1
      exact ⟨a, vs, rfl, by rw [hK]; exact SqL.of h, fun p hp => new_rd N1 g1 hx p vs.reverse hp (reps_rev rs)⟩
    · exact hx.elim) fun _ _ _ _ h => h⟩
end
end Y
namespace Y
open PySem PySem.Spec PyProof.Rows L2 Z
section
variable {X : Cx} {C : Cn}
def repS (x : Str) (n : Nat) : Str := ⟨(List.replicate n x.cps).foldl (· ++ ·) #[]⟩
abbrev rRepS : R2 := fun x y H Q => ∃ (z : Str) (n : Nat), x = .str z ∧ y = .int n ∧ n ≤ 1000 ∧ z.length ≤ 1000 ∧ Q (.str (repS z n)) H
theorem op_repS : OpR X (binaryOp .Mult) rRepS := by
  intro pins s σ H x y v u Q I rx ry h
  obtain ⟨z, n, rfl, rfl, hn, hz, q⟩ := h
  obtain ⟨t, rfl⟩ := rx
  obtain ⟨t', rfl⟩ := ry
  have hs : sizeLine = 16777216 := by decide
  have hle : z.length * n ≤ 1000000 := Nat.le_trans (Nat.mul_le_mul hz hn) (by decide)
  refine P.mul_str (by rw [decide_eq_false (by omega), decide_eq_false (by omega)]; rfl) (fun h1 h2 => ?_) (fun h1 h2 => ?_) ?_
  · have h3 : ((z.length : Nat) : Int) * ((n : Nat) : Int) ≤ 1000000 := by rw [← Int.natCast_mul]; exact Int.ofNat_le.mpr hle
    have h4 : ((z.length : Nat) : Int) ≤ (2 ^ 63 - 1) / ((n : Nat) : Int) := (Int.le_ediv_iff_mul_le (by omega)).mpr (Int.le_trans h3 (by decide))
    exact Int.not_lt.mpr h4
  · rw [Int.toNat_natCast]
    unfold Builtin.Str.tooLong
    exact decide_eq_false (by omega)
  · by_cases h0 : n = 0
    · subst h0
      rw [if_pos (by decide)]
      exact ⟨by decide, .str Str.empty, H, I.tok _, ⟨_, rfl⟩, q⟩
    · rw [if_neg (by omega)]
      by_cases h1 : (((n : Nat) : Int) == 1 || z.length == 0) = true
      · rw [if_pos h1]
        have e : repS z n = z := by
          rcases Bool.or_eq_true_iff.mp h1 with h | h
          · have : n = 1 := by have := beq_iff_eq.mp h; omega
            subst this
            obtain ⟨c⟩ := z
            unfold repS
            simp
          · have hz0 : z.cps = #[] := Array.size_eq_zero_iff.mp (beq_iff_eq.mp h)
            obtain ⟨c⟩ := z
            dsimp only at hz0
            subst hz0
            unfold repS
            congr 1
            clear h1 h0 hle hn h q
            induction n with
            | zero => rfl
            | succ n ih => rw [List.replicate_succ, List.foldl_cons]; exact ih
        rw [e] at q
        exact ⟨.str z, H, I.tok _, ⟨_, rfl⟩, q⟩
      · rw [if_neg h1]
        refine ⟨?_, .str (repS z n), H, I.tok _, ⟨_, by rw [Int.toNat_natCast]; rfl⟩, q⟩
        rw [Int.toNat_natCast]
        show (repS z n).cps.size ≤ sizeLine
        have : ∀ (n : Nat) (a b : Array Nat), ((List.replicate n a).foldl (· ++ ·) b).size = b.size + a.size * n := by
          intro n
          induction n with
          | zero => intro a b; simp
          | succ n ih => intro a b; rw [List.replicate_succ, List.foldl_cons, ih, Array.size_append, Nat.mul_succ]; omega
        unfold repS
        rw [this]
        show #[].size + z.length * n ≤ sizeLine
        have : (#[] : Array Nat).size = 0 := rfl
        omega
def mulV2 : Val → Val → Option Val := fun x y => match x, y with
  | .str z, .int n => if 0 ≤ n ∧ n ≤ 1000 ∧ z.length ≤ 1000 then some (.str (repS z n.toNat)) else none
  | x, y => mulV x y
abbrev rMul2 : R2 := fun x y H Q => rRepS x y H Q ∨ rI CMulA (fun i j => .int (i * j)) x y H Q
theorem oy_mul2 : OpR X (binaryOp .Mult) rMul2 := op_repS.or op_mulA
theorem ov_mul2 : OpV C rMul2 mulV2 := fun A H u v x y z fr hu hv e Q q => by
  unfold mulV2 at e
  split at e
  · rename_i z n
    split at e
    · rename_i h
      cases e
      refine .inl ⟨z, n.toNat, rep_str.mp hu, by rw [rep_int.mp hv, Int.toNat_of_nonneg h.1], by omega, h.2.2, q _ H (Same.refl H) (rep_str.mpr rfl)⟩
    · cases e
  · exact .inr (ov_mul A H u v _ _ z fr hu hv e Q q)
end
end Y
namespace Y
open PySem PySem.Spec PyProof.Rows L2 Z
section
variable {X : Cx} {C : Cn} {E : XK} {st : Stmt} {e : Expr}
/-- what is never reached -/
def badS : MS := fun _ => .bad
def badE : ME := fun _ => .bad
theorem ys_bad : PS X st (SS C E badS) := ⟨fun pins s σ H D I h => by obtain ⟨_, _, _, _, h⟩ := h; exact h.elim⟩
theorem y_bad : PE X e (SE C E badE) := ⟨fun pins s σ H D I h => by obtain ⟨_, _, _, _, h⟩ := h; exact h.elim⟩
end
end Y
namespace Y
open PySem PySem.Spec PyProof.Rows L2 Z
section
variable {X : Cx} {C : Cn} {es : List Expr} {pos : Pos}
/-- (a, b, ..) = a tuple or a list of that length -/
def seqT (n : Nat) (u : MTs) : MT := fun x ρ => match x with | .tup xs => if xs.length = n then u xs ρ else none | .lst xs => if xs.length = n then u xs ρ else none | _ => none
def gSq (K : PySem.W.Frag) (n : Nat) (t : TGs) : TG := fun v σ H Q => gTup K n t v σ H Q ∨ gUnl K n t v σ H Q
theorem pg_sq {k : Nat} {t : TGs} {n : Nat} (hc : X.calm = true) (h : PGs X es t) (hn : (assignEach es X.env).length = n := by rfl) (hst : (assignEach es X.env).findIdx? (·.1) = none := by rfl) : PG X (.Tuple es k pos) (gSq X.K n t) :=
  ⟨fun pins s σ H v u Q I r hw => hw.elim ((pg_tup hc h hn hst).run pins s σ H v u Q I r) ((pg_unl hc h hn hst).run pins s σ H v u Q I r)⟩
theorem yg_seq {tg : Expr} {n : Nat} {u : MTs} {is : List Nat} (hK : X.K = C.K) (h : PG X tg (gSq X.K n (SGs C is u))) : PG X tg (SG C is (seqT n u)) := PG.imp h fun v σ H Q ⟨B, A, ρ, x, ρ', N, r, e, k⟩ => by
  unfold seqT at e
  split at e
  · rename_i xs
    split at e
    · rename_i hl
      obtain ⟨a, vs, rfl, h, rs⟩ := rep_tup.mp r
      exact .inl ⟨a, vs, rfl, by rw [hK]; exact h.sq, by rw [rs.len]; exact hl, B, A, ρ, xs, ρ', N, rs, e, k⟩
    · cases e
  · rename_i xs
    split at e
    · rename_i hl
      obtain ⟨a, vs, rfl, n, h, rs⟩ := rep_lst.mp r
      exact .inr ⟨a, vs, rfl, by rw [hK]; exact SqL.of h, by rw [rs.len]; exact hl, B, A, ρ, xs, ρ', N, rs, e, k⟩
    · cases e
  · cases e
end
end Y

set_option Elab.async false
set_option linter.all false
set_option maxRecDepth 100000
set_option maxHeartbeats 4000000
set_option autoImplicit false
/-! XH: x.count(k) of a list of ints. -/
namespace Y
open PySem PySem.Spec PyProof.Rows L2 Z
section
variable {X : Cx} {C : Cn} {E : XK} {a b : Expr} {ma mb : ME} {apos cpos : Pos}
def rCount (K : PySem.W.Frag) : V → List V → Hp → VK → Prop := fun x xs H Q => ∃ (l : Addr) (ns : List Int) (k : Int), x = .ref l ∧ xs = [.int k] ∧ SqL K H l (ns.map V.int) ∧ Q (.int (ns.count k : Nat)) H
theorem mt_count : MtR X "list.count" (rCount X.K) := by
  intro pins s σ H x xs v us Q I rx rxs h
  obtain ⟨l, ns, k, rfl, rfl, hl, q⟩ := h
  cases rx
  obtain ⟨u, rfl, ru⟩ := rxs.one
  obtain ⟨t, rfl⟩ := ru
  obtain ⟨its, rv, p, hz⟩ := I.list hl
  refine PyProof.Rows.count_list_ints (ns := ns) p.isList (intsAre_of rv) ?_
  exact ⟨.int (ns.count k : Nat), H, I.tok _, ⟨_, rfl⟩, q⟩
def cntM (ma mb : ME) : ME := fun ρ => ma ρ >>= fun x => match x.1 with
  | .lst xs => mb x.2 >>= fun y => match y.1 with
    | .int k => Rs.opt (intsOf xs) >>= fun ns => .ok (.int (ns.count k : Nat), y.2)
    | _ => .bad
  | _ => .bad
theorem y_count (h : PE X a (tBM C.K "list" (rCount C.K) (SE C E ma) (tCons (SE C E mb) tNil))) : PE X a (SE C E (cntM ma mb)) := PE.imp h fun σ H Q ⟨B, A, ρ, N, hm⟩ =>
  ⟨B, A, ρ, N, Rs.wp_mono (Rs.wp_bind hm) (fun x hx v H1 N1 g1 r1 => by
    split at hx
    · rename_i xs q
      rw [q] at r1
      obtain ⟨l, vs, rfl, n, hl, rs⟩ := rep_lst.mp r1
      refine ⟨.inl ⟨rfl, vs, SqL.of hl⟩, B, A, x.2, N1, Rs.wp_mono (Rs.wp_bind hx) (fun y hy u H2 N2 g2 r2 => ?_) (EXe.tr g1)⟩
      split at hy
      · rename_i k q2
        obtain ⟨ns, e, hz⟩ := Rs.wp_opt (Rs.wp_bind hy)
        rw [q2] at r2
        have gl := g2.g l _ nt n hl
        have ev := ints_rep (reps.gr g2.g rs) e
        subst ev
        exact ⟨l, ns, k, rfl, by rw [rep_int.mp r2], SqL.of gl.2, hz _ H2 N2 (g1.trans g2) (rep_int.mpr rfl)⟩
      · exact hy.elim
    · exact hx.elim) fun _ _ _ _ h => h⟩
end
section
variable {X : Cx} {C : Cn} {E : XK} {e a b c : Expr} {ma mb mc : ME}
theorem y_chn2 {r r' : R2} {f g : Val → Val → Option Val} (h : ∀ {ta tb tc : TE}, PE X a ta → PE X b tb → PE X c tc → PE X e (tChain r r' ta tb tc)) (hv : OpV C r f) (hv' : OpV C r' g) (ha : PE X a (SE C E ma)) (hb : PE X b (SE C E mb)) (hc : PE X c (SE C E mc)) : PE X e (SE C E (chnM f g ma mb mc)) := PE.imp (h ha hb hc) (chn_rd hv hv')
end
end Y

set_option Elab.async false
set_option linter.all false
set_option maxRecDepth 100000
set_option maxHeartbeats 4000000
set_option autoImplicit false
/-! XI: more of how mirrors are computed: comprehensions, dicts, instances, methods. -/
namespace Y
open PySem PySem.Spec PyProof.Rows L2 Z
abbrev zi (n : Int) : Option SV := some (.fz (.int n))
abbrev zv (x : Val) : Option SV := some (.fz x)
abbrev zs (s : Str) : Option SV := some (.fz (.str s))
section
variable {ρ ρ0 ρ1 ρ2 ρ3 : En} {x y z : Val} {i : Nat} {a b m : ME} {c d : MB} {al : MA} {xs ys : List Val} {s t : MS} {R : Rs Out} {vs : List Nat} {mi : MI} {tg : MT} {e : MN} {α : Type}
theorem szl {n : Nat} (h : n < 100000) : n < sizeLine := sz_lt (by omega)
/-- a comprehension whose turns leave the slots as they were -/
theorem e_comp (F G : α → Val) (ρt : α → En) (xs : List α) (h1 : mi ρ = .ok (xs.map F, ρ)) (h2 : xs.length < 100000) (h3 : vs.all (freeS ρ) = true) (hw : wipeE ρ vs = ρ0) (hw0 : wipeE ρ0 vs = ρ0)
    (h : ∀ x ∈ xs, tg (F x) ρ0 = some (ρt x) ∧ e (ρt x) = .ok (G x, ρt x) ∧ vs.all (freeS (ρt x)) = true ∧ wipeE (ρt x) vs = ρ0) : compF vs mi tg yesB e ρ = .ok (xs.map G, ρ0) :=
  e_compF h1 (by rw [List.length_map]; exact szl h2) h3 (by rw [hw]; exact e_cLs F G ρt hw0 xs h)
theorem e_cLp (F G : α → Val) (p : α → Bool) (ρt : α → En) (hw : wipeE ρ vs = ρ) : ∀ xs : List α, (∀ x ∈ xs, tg (F x) ρ = some (ρt x) ∧ c (ρt x) = .ok (p x, ρt x) ∧ (p x = true → e (ρt x) = .ok (G x, ρt x)) ∧ vs.all (freeS (ρt x)) = true ∧ wipeE (ρt x) vs = ρ) → compL vs tg c e (xs.map F) ρ = .ok ((xs.filter p).map G, ρ)
  | [], _ => rfl
  | x :: xs, h => by
    obtain ⟨h1, h2, h3, h4, h5⟩ := h x (.head _)
    have ih := e_cLp F G p ρt hw xs fun y hy => h y (.tail _ hy)
    rw [List.map_cons]
    unfold compL
    rw [hw, h1, Rs.opt_some, Rs.ok_bind, h2]
    cases hp : p x with
    | true =>
      simp only [noX, Rs.ok_bind, if_true, h3 hp, h4, h5, ih, List.filter_cons, hp]
      rfl
    | false =>
      simp only [noX, Rs.ok_bind, h4, h5, ih, List.filter_cons, hp, if_true]
      simp
/-- .. with a test -/
theorem e_compP (F G : α → Val) (p : α → Bool) (ρt : α → En) (xs : List α) (h1 : mi ρ = .ok (xs.map F, ρ)) (h2 : xs.length < 100000) (h3 : vs.all (freeS ρ) = true) (hw : wipeE ρ vs = ρ0) (hw0 : wipeE ρ0 vs = ρ0)
    (h : ∀ x ∈ xs, tg (F x) ρ0 = some (ρt x) ∧ c (ρt x) = .ok (p x, ρt x) ∧ (p x = true → e (ρt x) = .ok (G x, ρt x)) ∧ vs.all (freeS (ρt x)) = true ∧ wipeE (ρt x) vs = ρ0) : compF vs mi tg c e ρ = .ok ((xs.filter p).map G, ρ0) :=
  e_compF h1 (by rw [List.length_map]; exact szl h2) h3 (by rw [hw]; exact e_cLp F G p ρt hw0 xs h)
/-! turns that change own values: an invariant -/
inductive All2 {α β : Type} (J : α → β → Prop) : List α → List β → Prop where
  | nil : All2 J [] []
  | cons {a b as bs} (h : J a b) (t : All2 J as bs) : All2 J (a :: as) (b :: bs)
theorem All2.len {β : Type} {J : α → β → Prop} : ∀ {as : List α} {bs : List β}, All2 J as bs → as.length = bs.length
  | _, _, .nil => rfl
  | _, _, .cons _ t => by simp [t.len]
theorem All2.imp {β : Type} {J J' : α → β → Prop} (k : ∀ a b, J a b → J' a b) : ∀ {as : List α} {bs : List β}, All2 J as bs → All2 J' as bs
  | _, _, .nil => .nil
  | _, _, .cons h t => .cons (k _ _ h) (t.imp k)
/-- what is told of each: a list of them -/
theorem All2.ex {β γ : Type} {J : α → β → Prop} {G : γ → β} {q : α → γ → Prop} (k : ∀ a b, J a b → ∃ g, b = G g ∧ q a g) : ∀ {as : List α} {bs : List β}, All2 J as bs → ∃ gs : List γ, bs = gs.map G ∧ All2 q as gs
  | _, _, .nil => ⟨[], rfl, .nil⟩
  | _, _, .cons h t => by
    obtain ⟨g, rfl, hq⟩ := k _ _ h
    obtain ⟨gs, rfl, hs⟩ := All2.ex k t
    exact ⟨g :: gs, rfl, .cons hq hs⟩
theorem All2.all {β : Type} {q : β → Prop} : ∀ {as : List α} {bs : List β}, All2 (fun _ b => q b) as bs → ∀ b ∈ bs, q b
  | _, _, .nil, _, h => nomatch h
  | _, _, .cons h t, b, hb => by
    rcases List.mem_cons.mp hb with rfl | hb
    · exact h
    · exact t.all b hb
theorem e_cLI (F : α → Val) (J : α → Val → Prop) (I : Nat → En → Prop) : ∀ (xs : List α) (k : Nat) (ρ : En), I k ρ → (∀ x ∈ xs, ∀ j ρ, k ≤ j → j < k + xs.length → I j ρ → ∃ ρ1 y ρ2, wipeE ρ vs = ρ ∧ tg (F x) ρ = some ρ1 ∧ e ρ1 = .ok (y, ρ2) ∧ vs.all (freeS ρ2) = true ∧ J x y ∧ I (j + 1) (wipeE ρ2 vs)) →
    ∃ ys ρ', compL vs tg yesB e (xs.map F) ρ = .ok (ys, ρ') ∧ I (k + xs.length) ρ' ∧ All2 J xs ys
  | [], k, ρ, h0, _ => ⟨[], ρ, rfl, h0, .nil⟩
  | x :: xs, k, ρ, h0, h => by
    obtain ⟨ρ1, y, ρ2, h1, h2, h3, h4, h5, h6⟩ := h x (.head _) k ρ (Nat.le_refl _) (by simp) h0
    obtain ⟨ys, ρ', k1, k2, k3⟩ := e_cLI F J I xs (k + 1) _ h6 fun y hy j ρ hj hj2 hi => h y (.tail _ hy) j ρ (by omega) (by simp only [List.length_cons]; omega) hi
    refine ⟨y :: ys, ρ', ?_, by rw [List.length_cons, show k + (xs.length + 1) = k + 1 + xs.length by omega]; exact k2, .cons h5 k3⟩
    exact e_cL h1 h2 h3 h4 rfl k1
theorem e_compI (F : α → Val) (J : α → Val → Prop) (I : Nat → En → Prop) (xs : List α) (k : Nat) (h1 : mi ρ = .ok (xs.map F, ρ)) (h2 : xs.length < 100000) (h3 : vs.all (freeS ρ) = true) (hi : I k (wipeE ρ vs))
    (h : ∀ x ∈ xs, ∀ j ρ, k ≤ j → j < k + xs.length → I j ρ → ∃ ρ1 y ρ2, wipeE ρ vs = ρ ∧ tg (F x) ρ = some ρ1 ∧ e ρ1 = .ok (y, ρ2) ∧ vs.all (freeS ρ2) = true ∧ J x y ∧ I (j + 1) (wipeE ρ2 vs)) :
    ∃ ys ρ', compF vs mi tg yesB e ρ = .ok (ys, ρ') ∧ I (k + xs.length) ρ' ∧ All2 J xs ys := by
  obtain ⟨ys, ρ', k1, k2, k3⟩ := e_cLI F J I xs k _ hi h
  exact ⟨ys, ρ', e_compF h1 (by rw [List.length_map]; exact szl h2) h3 k1, k2, k3⟩
/-! dict comprehensions over what leaves the slots as they were -/
theorem newK_nd {ks : List Key} {k : Key} (h : k ∉ ks) : newK ks k = true := by
  unfold newK
  rw [Bool.not_eq_true', List.any_eq_false]
  intro q hq z
  exact h (by rw [← of_decide_eq_true z]; exact hq)
theorem e_dcL {mk : ME} (F : α → Val) (K : α → Key) (KV : α → Val) (G : α → Val) (ρt : α → En) (hw : wipeE ρ vs = ρ) : ∀ (xs : List α) (ks : List Key), (ks ++ xs.map K).Nodup → (∀ x ∈ xs, tg (F x) ρ = some (ρt x) ∧ mk (ρt x) = .ok (KV x, ρt x) ∧ keyV (KV x) = some (K x) ∧ e (ρt x) = .ok (G x, ρt x) ∧ vs.all (freeS (ρt x)) = true ∧ wipeE (ρt x) vs = ρ) → dcompL vs tg yesB mk e (xs.map F) ks ρ = .ok ((xs.map K, xs.map G), ρ)
  | [], _, _, _ => rfl
  | x :: xs, ks, nd, h => by
    obtain ⟨h1, h2, h3, h4, h5, h6⟩ := h x (.head _)
    have nd' : ((ks ++ [K x]) ++ xs.map K).Nodup := by rw [List.append_assoc]; exact nd
    have ih := e_dcL F K KV G ρt hw xs (ks ++ [K x]) nd' fun y hy => h y (.tail _ hy)
    have nk : K x ∉ ks := fun z => by
      rw [List.map_cons] at nd
      exact (List.nodup_append.mp nd).2.2 _ z _ (.head _) rfl
    rw [List.map_cons]
    unfold dcompL
    rw [hw, h1, Rs.opt_some, Rs.ok_bind]
    simp only [yesB, noX, Rs.ok_bind, if_true, h2, h3, Rs.opt_some, newK_nd nk, h4, h5, h6, ih]
    rfl
theorem e_ownD {md : MD} {ks : List Key} (h : md ρ = .ok ((ks, xs), ρ1)) : ownD md ρ = .ok (.odic ks xs, ρ1) := by unfold ownD; rw [h]; rfl
theorem e_dcomp {mk : ME} (F : α → Val) (K : α → Key) (KV : α → Val) (G : α → Val) (ρt : α → En) (xs : List α) (nd : (xs.map K).Nodup) (h1 : mi ρ = .ok (xs.map F, ρ)) (h2 : xs.length < 100000) (h3 : vs.all (freeS ρ) = true) (hw : wipeE ρ vs = ρ0) (hw0 : wipeE ρ0 vs = ρ0)
    (h : ∀ x ∈ xs, tg (F x) ρ0 = some (ρt x) ∧ mk (ρt x) = .ok (KV x, ρt x) ∧ keyV (KV x) = some (K x) ∧ e (ρt x) = .ok (G x, ρt x) ∧ vs.all (freeS (ρt x)) = true ∧ wipeE (ρt x) vs = ρ0) : ownD (dcompF vs mi tg yesB mk e) ρ = .ok (.odic (xs.map K) (xs.map G), ρ0) := by
  refine e_ownD ?_
  unfold dcompF
  rw [h1, Rs.ok_bind]
  dsimp only
  rw [if_pos ⟨by rw [List.length_map]; exact szl h2, h3⟩, hw]
  exact e_dcL F K KV G ρt hw0 xs [] nd h
/-! own values given away -/
theorem e_meltG (h0 : ρ[i]? = some (some (.ob false x))) (h1 : x.melt = y) (h2 : ρ.set i (some (.fz y)) = ρ1) (h : s ρ1 = R) : meltS i s ρ = R := by
  subst h1 h2
  unfold meltS; rw [h0]; exact h
theorem e_meltM {mn : MN} (h : mn ρ = .ok (x, ρ1)) (h1 : x.melt = y) : meltM mn ρ = .ok (y, ρ1) := by subst h1; unfold meltM; rw [h]; rfl
/-! instances -/
theorem e_meth {c0 np n : Nat} {f : Str} {body : MS} {ns : List Str} {us : List Val} (h1 : a ρ = .ok (.ins c0 ns us, ρ1)) (hf : f ∉ ns) (h2 : al ρ1 = .ok (xs, ρ2)) (h3 : runV n body (.ins c0 ns us :: xs) = .ok y) (hl : xs.length + 1 = np) (hn : np ≤ n) : methM c0 f np n body a al ρ = .ok (y, ρ2) := by
  unfold methM
  rw [h1, Rs.ok_bind]
  dsimp only
  rw [if_pos ⟨rfl, hf⟩, h2, Rs.ok_bind]
  dsimp only
  rw [if_pos ⟨by rw [List.length_cons]; exact hl, hn⟩]
  unfold runV at h3
  cases e : runF n body (.ins c0 ns us :: xs) with
  | ok r => rw [e] at h3; cases h3; rfl
  | exc c ns vs ρ => rw [e] at h3; cases h3
  | bad => rw [e] at h3; cases h3
theorem e_make {c0 np n : Nat} {body : MS} {p : Bool} (h1 : al ρ = .ok (xs, ρ1)) (h2 : runO n body (.ob false (.oins c0 [] [])) xs = .ok (.non, .ob p y)) (hl : xs.length + 1 = np) (hn : np ≤ n) : makeM c0 np n body al ρ = .ok (y, ρ1) := by
  unfold makeM
  rw [h1, Rs.ok_bind]
  dsimp only
  rw [if_pos ⟨hl, hn⟩, h2]
theorem e_setF {c0 : Nat} {f : Str} {p : Bool} {ns : List Str} {us : List Val} (h1 : m ρ = .ok (x, ρ1)) (h2 : ρ1[i]? = some (some (.ob p (.oins c0 ns us)))) (hf : f ∉ ns) (hl : us.length < 1000) (h3 : ρ1.set i (some (.ob p (.oins c0 (ns ++ [f]) (us ++ [x])))) = ρ2) : setFS i c0 f m ρ = .ok (.nx ρ2) := by
  subst h3
  unfold setFS; rw [h1, Rs.ok_bind]; dsimp only; rw [h2]; exact if_pos ⟨rfl, hf, hl⟩
theorem e_fldO {c0 : Nat} {f : Str} {p : Bool} {ns : List Str} {us : List Val} (h2 : ρ[i]? = some (some (.ob p (.oins c0 ns us)))) (h3 : (ns.zip us).lookup f = some z) (h4 : z.isO = false) : fldO i c0 f ρ = .ok (z, ρ) := by
  unfold fldO; rw [h2]; dsimp only; rw [if_pos rfl, h3, Rs.opt_some, Rs.ok_bind]; exact if_pos h4
theorem e_runON {n : Nat} {body : MS} {s0 s1 s2 : SV} (ρ0 : En) (h0 : padE (some (s0.setPin true) :: xs.map fun x => some (.fz x)) n = ρ0) (h : body ρ0 = .ok (.nx ρ1)) (h2 : ρ1[0]? = some (some s1)) (h3 : s1.flat = true) (h4 : s1.setPin s0.pin = s2) : runO n body s0 xs = .ok (.non, s2) := by
  subst h0 h4
  unfold runO finM; rw [h, Rs.ok_bind]; dsimp only; rw [h2]; exact if_pos h3
theorem e_walkL {ys : List Val} (h1 : a ρ = .ok (.lst ys, ρ1)) : walkM wlkV a ρ = .ok (ys, ρ1) := e_walkM h1 rfl
theorem e_walkT {ys : List Val} (h1 : a ρ = .ok (.tup ys, ρ1)) : walkM wlkV a ρ = .ok (ys, ρ1) := e_walkM h1 rfl
theorem e_walkR {hi : Int} (h1 : a ρ = .ok (.rng 0 hi, ρ1)) (h : 0 ≤ hi ∧ hi < 100000) : walkM wlkV a ρ = .ok (iota 0 hi.toNat, ρ1) := e_walkM h1 (by
  unfold wlkV; dsimp only; rw [if_pos (by omega), show (hi - 0).toNat = hi.toNat by omega])
theorem mulV2_bd {i j : Int} (hi : Bd 8000 i) (hj : Bd 8000 j) : mulV2 (.int i) (.int j) = some (.int (i * j)) := mulV_bd hi hj
end
theorem all1 {ρ : En} {i : Nat} (h : freeS ρ i = true) : [i].all (freeS ρ) = true := by simp [h]
theorem all2 {ρ : En} {i j : Nat} (h : freeS ρ i = true) (h2 : freeS ρ j = true) : [i, j].all (freeS ρ) = true := by simp [h, h2]
theorem all3 {ρ : En} {i j k : Nat} (h : freeS ρ i = true) (h2 : freeS ρ j = true) (h3 : freeS ρ k = true) : [i, j, k].all (freeS ρ) = true := by simp [h, h2, h3]
theorem q_tup2 {i j : MT} {x y : Val} {ρ ρ1 ρ2 : En} (h1 : i x ρ = some ρ1) (h2 : j y ρ1 = some ρ2) : seqT 2 (consT i (consT j nilT)) (.tup [x, y]) ρ = some ρ2 := t_tup2 h1 h2
theorem q_lst2 {i j : MT} {x y : Val} {ρ ρ1 ρ2 : En} (h1 : i x ρ = some ρ1) (h2 : j y ρ1 = some ρ2) : seqT 2 (consT i (consT j nilT)) (.lst [x, y]) ρ = some ρ2 := t_tup2 h1 h2
theorem q_tup3 {i j k : MT} {x y z : Val} {ρ ρ1 ρ2 ρ3 : En} (h1 : i x ρ = some ρ1) (h2 : j y ρ1 = some ρ2) (h3 : k z ρ2 = some ρ3) : seqT 3 (consT i (consT j (consT k nilT))) (.tup [x, y, z]) ρ = some ρ3 := t_tup3 h1 h2 h3
theorem q_lst3 {i j k : MT} {x y z : Val} {ρ ρ1 ρ2 ρ3 : En} (h1 : i x ρ = some ρ1) (h2 : j y ρ1 = some ρ2) (h3 : k z ρ2 = some ρ3) : seqT 3 (consT i (consT j (consT k nilT))) (.lst [x, y, z]) ρ = some ρ3 := t_tup3 h1 h2 h3
/-- what follows a statement that ended so -/
def seqK (t : MS) (R1 R : Rs Out) : Prop := match R1 with
  | .ok (.nx ρ) => t ρ = R
  | .ok (.rt x ρ) => R = .ok (.rt x ρ)
  | .exc c ns vs ρ => R = .exc c ns vs ρ
  | _ => False
theorem seqK_nx {t : MS} {ρ : En} {R : Rs Out} (h : t ρ = R) : seqK t (.ok (.nx ρ)) R := h
theorem seqK_rt {t : MS} {x : Val} {ρ : En} : seqK t (.ok (.rt x ρ)) (.ok (.rt x ρ)) := rfl
theorem seqK_exc {t : MS} {c : Nat} {ns : List Str} {vs : List Val} {ρ : En} : seqK t (.exc c ns vs ρ) (.exc c ns vs ρ) := rfl
theorem e_seqG {s t : MS} {ρ : En} {R1 R : Rs Out} (h1 : s ρ = R1) (h2 : seqK t R1 R) : seqS s t ρ = R := by
  unfold seqS
  rw [h1]
  cases R1 with
  | ok o =>
    cases o with
    | nx ρ1 => exact h2
    | rt x ρ1 => exact h2.symm
    | bk ρ1 => exact h2.elim
    | ct ρ1 => exact h2.elim
  | exc c ns vs ρ1 => exact h2.symm
  | bad => exact h2.elim
theorem iota_map (n : Nat) : iota 0 n = (List.range n).map fun i : Nat => Val.int (i : Int) := by
  apply List.ext_getElem?
  intro i
  by_cases h : i < n
  · rw [iota_get n 0 i h, List.getElem?_map, List.getElem?_range h]; simp
  · rw [List.getElem?_eq_none (by rw [iota_length]; omega), List.getElem?_eq_none (by simp; omega)]
end Y

set_option Elab.async false
set_option linter.all false
set_option maxRecDepth 100000
set_option maxHeartbeats 1000000
set_option autoImplicit false
/-! N1: ties, neighbours, walks: mathematics. -/
namespace Y
open PySem PySem.Spec
abbrev Lt := Fin 4 × Bool
def cp (l : Lt) : Nat := (if l.2 then 65 else 97) + l.1.val
def ltr (l : Lt) : Str := ⟨#[cp l]⟩
def co (c : Fin 4) : Str := ltr (c, false)
theorem cols_eq : [("a" : Str), ("b" : Str), ("c" : Str), ("d" : Str)] = (List.finRange 4).map co := rfl
theorem lower_ltr : ∀ c : Fin 4, ∀ b : Bool, Txt.lower (ltr (c, b)) = co c := by decide +kernel
theorem upper_ltr : ∀ c : Fin 4, ∀ b : Bool, Txt.upper (ltr (c, b)) = ltr (c, true) := by decide +kernel
theorem inQ_co (c : Fin 4) : inQ false (.str (co c)) (.tup ([("a" : Str), ("b" : Str), ("c" : Str), ("d" : Str)].map .str)) = some (.bl true) := by
  match c with
  | 0 => rfl
  | 1 => rfl
  | 2 => rfl
  | 3 => rfl
theorem inQ_ltr (c : Fin 4) (b : Bool) : inQ false (.str (ltr (c, b))) (.tup ([("a" : Str), ("b" : Str), ("c" : Str), ("d" : Str), ("A" : Str), ("B" : Str), ("C" : Str), ("D" : Str)].map .str)) = some (.bl true) := by
  match c, b with
  | 0, true => rfl
  | 1, true => rfl
  | 2, true => rfl
  | 3, true => rfl
  | 0, false => rfl
  | 1, false => rfl
  | 2, false => rfl
  | 3, false => rfl
abbrev Tie := Nat × Nat × Fin 4
/-- the places that are tied to one in a colour, as a list of ties tells them -/
def nb (ts : List Tie) (c : Fin 4) (p : Nat) : List Nat := (ts.filter fun t => t.1 == p && t.2.2 == c).map (·.2.1) ++ (ts.filter fun t => t.2.1 == p && t.2.2 == c).map (·.1)
/-- .. tie by tie -/
def ac (ts : List Tie) (c : Fin 4) (p : Nat) : List Nat := ts.flatMap fun t => (if t.1 == p && t.2.2 == c then [t.2.1] else []) ++ (if t.2.1 == p && t.2.2 == c then [t.1] else [])
theorem perm_mid {α : Type} (a b c : List α) : (a ++ (b ++ c)).Perm (b ++ (a ++ c)) := by
  rw [← List.append_assoc, ← List.append_assoc]
  exact List.perm_append_comm.append_right c
theorem ac_nb : ∀ (ts : List Tie) (c : Fin 4) (p : Nat), (ac ts c p).Perm (nb ts c p)
  | [], _, _ => .refl _
  | t :: ts, c, p => by
    have ih := ac_nb ts c p
    have e : ac (t :: ts) c p = ((if t.1 == p && t.2.2 == c then [t.2.1] else []) ++ (if t.2.1 == p && t.2.2 == c then [t.1] else [])) ++ ac ts c p := rfl
    have e2 : nb (t :: ts) c p = ((if t.1 == p && t.2.2 == c then [t.2.1] else []) ++ (ts.filter fun t => t.1 == p && t.2.2 == c).map (·.2.1)) ++ ((if t.2.1 == p && t.2.2 == c then [t.1] else []) ++ (ts.filter fun t => t.2.1 == p && t.2.2 == c).map (·.1)) := by
      unfold nb
      simp only [List.filter_cons]
      cases h1 : (t.1 == p && t.2.2 == c) <;> cases h2 : (t.2.1 == p && t.2.2 == c) <;> simp
    rw [e, e2, List.append_assoc, List.append_assoc]
    refine List.Perm.append_left _ ?_
    refine (ih.append_left _).trans ?_
    unfold nb
    exact perm_mid _ _ _
theorem nb_perm {ts us : List Tie} (h : ts.Perm us) (c : Fin 4) (p : Nat) : (nb ts c p).Perm (nb us c p) :=
  ((h.filter _).map _).append ((h.filter _).map _)
theorem mem_nb {ts : List Tie} {c : Fin 4} {p q : Nat} : q ∈ nb ts c p ↔ (p, q, c) ∈ ts ∨ (q, p, c) ∈ ts := by
  unfold nb
  simp only [List.mem_append, List.mem_map, List.mem_filter, Bool.and_eq_true, beq_iff_eq]
  constructor
  · rintro (⟨t, ⟨h, h1, h2⟩, h3⟩ | ⟨t, ⟨h, h1, h2⟩, h3⟩)
    · exact .inl (by rw [← h1, ← h2, ← h3]; exact h)
    · exact .inr (by rw [← h1, ← h2, ← h3]; exact h)
  · rintro (h | h)
    · exact .inl ⟨_, ⟨h, rfl, rfl⟩, rfl⟩
    · exact .inr ⟨_, ⟨h, rfl, rfl⟩, rfl⟩
/-! sorted lists of numbers -/
def insN (x : Nat) : List Nat → List Nat
  | [] => [x]
  | y :: ys => if y < x then y :: insN x ys else x :: y :: ys
def sortN (xs : List Nat) : List Nat := xs.foldr insN []
theorem insN_perm (x : Nat) : ∀ ys, (insN x ys).Perm (x :: ys)
  | [] => .refl _
  | y :: ys => by
    unfold insN
    split
    · exact ((insN_perm x ys).cons y).trans (.swap x y ys)
    · exact .refl _
theorem sortN_perm : ∀ xs, (sortN xs).Perm xs
  | [] => .refl _
  | x :: xs => (insN_perm x (sortN xs)).trans ((sortN_perm xs).cons x)
theorem insI_cast (x : Nat) : ∀ ys : List Nat, insI (x : Int) (ys.map Nat.cast) = (insN x ys).map Nat.cast
  | [] => rfl
  | y :: ys => by
    rw [List.map_cons]
    unfold insI insN
    by_cases h : y < x
    · rw [if_pos (by omega), if_pos h, insI_cast x ys]; rfl
    · rw [if_neg (by omega), if_neg h]; rfl
theorem sortI_cast : ∀ xs : List Nat, sortI (xs.map Nat.cast) = (sortN xs).map Nat.cast
  | [] => rfl
  | x :: xs => by
    show insI (x : Int) (sortI (xs.map Nat.cast)) = _
    rw [sortI_cast xs, insI_cast]; rfl
/-! walks -/
theorem sum_perm {xs ys : List Nat} (h : xs.Perm ys) : xs.sum = ys.sum := by
  induction h with
  | nil => rfl
  | cons x _ ih => simp only [List.sum_cons, ih]
  | swap x y l => simp only [List.sum_cons]; omega
  | trans _ _ h1 h2 => exact h1.trans h2
abbrev Near := Fin 4 → Nat → List Nat
def putN (N : Near) (l : Lt) (v : Nat → Nat) (p : Nat) : Nat := if l.2 then (N l.1 p).length * v p else ((N l.1 p).map v).sum
/-- for each place the numbers at the ends of all ways to do a word from there, added up -/
def colN (N : Near) : List Lt → (Nat → Nat) → Nat → Nat
  | [], v => v
  | l :: w, v => putN N l (colN N w v)
def stepE (N : Near) (l : Lt) (a : Nat) : List Nat := if l.2 then List.replicate (N l.1 a).length a else N l.1 a
def endsN (N : Near) : List Lt → List Nat → List Nat
  | [], f => f
  | l :: w, f => endsN N w (f.flatMap (stepE N l))
theorem endsN_app (N : Near) (l : Lt) : ∀ (w : List Lt) (f : List Nat), endsN N (w ++ [l]) f = (endsN N w f).flatMap (stepE N l)
  | [], f => rfl
  | m :: w, f => endsN_app N l w (f.flatMap (stepE N m))
theorem flat_len {D : Nat} (g : Nat → List Nat) (h : ∀ a, (g a).length ≤ D) : ∀ f : List Nat, (f.flatMap g).length ≤ f.length * D
  | [] => by simp
  | a :: f => by
    have h1 := h a
    have h2 := flat_len g h f
    rw [List.flatMap_cons, List.length_append, List.length_cons, Nat.succ_mul]
    omega
theorem stepE_len {N : Near} {D : Nat} (h : ∀ c p, (N c p).length ≤ D) (l : Lt) (a : Nat) : (stepE N l a).length ≤ D := by
  unfold stepE
  split
  · rw [List.length_replicate]; exact h _ _
  · exact h _ _
theorem ends_len_le {N : Near} {D : Nat} (h : ∀ c p, (N c p).length ≤ D) : ∀ (w : List Lt) (f : List Nat), (endsN N w f).length ≤ f.length * D ^ w.length
  | [], f => by simp [endsN]
  | l :: w, f => by
    have h1 := ends_len_le h w (f.flatMap (stepE N l))
    have h2 := flat_len (stepE N l) (stepE_len h l) f
    rw [List.length_cons, Nat.pow_succ, Nat.mul_comm (D ^ _) D, ← Nat.mul_assoc]
    exact Nat.le_trans h1 (Nat.mul_le_mul_right _ h2)
theorem sum_flat (f : Nat → List Nat) (v : Nat → Nat) : ∀ l : List Nat, ((l.flatMap f).map v).sum = (l.map fun a => ((f a).map v).sum).sum
  | [] => rfl
  | a :: l => by simp only [List.flatMap_cons, List.map_append, List.sum_append, List.map_cons, List.sum_cons, sum_flat f v l]
theorem sum_rep (n a : Nat) (v : Nat → Nat) : ((List.replicate n a).map v).sum = n * v a := by
  induction n with
  | zero => simp
  | succ n ih => rw [List.replicate_succ, List.map_cons, List.sum_cons, ih, Nat.succ_mul]; omega
theorem ends_sum (N : Near) (v : Nat → Nat) : ∀ (w : List Lt) (f : List Nat), ((endsN N w f).map v).sum = (f.map (colN N w v)).sum
  | [], f => rfl
  | l :: w, f => by
    show ((endsN N w (f.flatMap _)).map v).sum = _
    rw [ends_sum N v w, sum_flat]
    congr 1
    refine List.map_congr_left fun a _ => ?_
    show _ = putN N l (colN N w v) a
    unfold putN stepE
    cases l.2 with
    | true => simp only [if_true]; exact sum_rep _ _ _
    | false => rfl
theorem ends_len (N : Near) (w : List Lt) (p : Nat) : (endsN N w [p]).length = colN N w (fun _ => 1) p := by
  have := ends_sum N (fun _ => 1) w [p]
  simp only [List.map_cons, List.map_nil, List.sum_cons, List.sum_nil, Nat.add_zero] at this
  rw [← this]
  generalize endsN N w [p] = l
  induction l with
  | nil => rfl
  | cons a l ih => rw [List.length_cons, List.map_cons, List.sum_cons, ih]; omega
theorem putN_perm {N M : Near} (h : ∀ c p, (N c p).Perm (M c p)) (l : Lt) (v : Nat → Nat) (p : Nat) : putN N l v p = putN M l v p := by
  unfold putN
  rw [(h l.1 p).length_eq, sum_perm ((h l.1 p).map v)]
theorem colN_perm {N M : Near} (h : ∀ c p, (N c p).Perm (M c p)) (v : Nat → Nat) : ∀ (w : List Lt), colN N w v = colN M w v
  | [] => rfl
  | l :: w => by funext p; show putN N l (colN N w v) p = putN M l (colN M w v) p; rw [colN_perm h v w, putN_perm h]
theorem sum_le {v : Nat → Nat} {M : Nat} : ∀ l : List Nat, (∀ a ∈ l, v a ≤ M) → (l.map v).sum ≤ l.length * M
  | [], _ => by simp
  | a :: l, h => by
    have h1 := h a (.head _)
    have h2 := sum_le l fun b hb => h b (.tail _ hb)
    rw [List.map_cons, List.sum_cons, List.length_cons, Nat.succ_mul]
    omega
theorem putN_le {N : Near} {v : Nat → Nat} {D M : Nat} (hd : ∀ c p, (N c p).length ≤ D) (hv : ∀ p, v p ≤ M) (l : Lt) (p : Nat) : putN N l v p ≤ D * M := by
  unfold putN
  split
  · exact Nat.mul_le_mul (hd _ _) (hv _)
  · exact Nat.le_trans (sum_le _ fun a _ => hv a) (Nat.mul_le_mul_right _ (hd _ _))
theorem colN_le {N : Near} {v : Nat → Nat} {D : Nat} (hd : ∀ c p, (N c p).length ≤ D) (hv : ∀ p, v p ≤ 1) : ∀ (w : List Lt) (p : Nat), colN N w v p ≤ D ^ w.length
  | [], p => hv p
  | l :: w, p => by
    rw [List.length_cons, Nat.pow_succ, Nat.mul_comm]
    exact putN_le hd (colN_le hd hv w) l p
/-- the numbers at places of the web alone -/
theorem putN_congr {N : Near} {u v : Nat → Nat} {n : Nat} (hN : ∀ c p, p < n → ∀ q ∈ N c p, q < n) (h : ∀ p, p < n → u p = v p) (l : Lt) (p : Nat) (hp : p < n) : putN N l u p = putN N l v p := by
  unfold putN
  rw [h p hp]
  split
  · rfl
  · congr 1
    exact List.map_congr_left fun q hq => h q (hN _ _ hp q hq)
/-! sets of numbers, sorted -/
def insUN (x : Nat) : List Nat → List Nat
  | [] => [x]
  | y :: ys => if y < x then y :: insUN x ys else if x = y then y :: ys else x :: y :: ys
def setN (xs : List Nat) : List Nat := xs.foldr insUN []
theorem insUN_len (x : Nat) : ∀ ys, (insUN x ys).length ≤ ys.length + 1
  | [] => Nat.le_refl _
  | y :: ys => by
    unfold insUN
    have := insUN_len x ys
    split
    · simp only [List.length_cons]; omega
    · split <;> simp only [List.length_cons] <;> omega
theorem setN_len : ∀ xs, (setN xs).length ≤ xs.length
  | [] => Nat.le_refl _
  | x :: xs => by
    have h1 := insUN_len x (setN xs)
    have h2 := setN_len xs
    show (insUN x (setN xs)).length ≤ xs.length + 1
    omega
/-! parts -/
def gN (L : List Nat) (i : Nat) : Nat := L.getD i 0
def stepL (L : List Nat) (t : Tie) : List Nat := L.map fun l => if l = max (gN L t.1) (gN L t.2.1) then min (gN L t.1) (gN L t.2.1) else l
def leastsF (n : Nat) (ts : List Tie) : List Nat := ts.foldl stepL (List.range n)
def partsF (n : Nat) (ts : List Tie) : List (List Nat) := (setN (leastsF n ts)).map fun least => (List.range n).filter fun p => decide (gN (leastsF n ts) p = least)
theorem foldl_len : ∀ (ts : List Tie) (L : List Nat), (ts.foldl stepL L).length = L.length
  | [], _ => rfl
  | t :: ts, L => by rw [List.foldl_cons, foldl_len ts]; unfold stepL; rw [List.length_map]
theorem leastsF_len (n : Nat) (ts : List Tie) : (leastsF n ts).length = n := by unfold leastsF; rw [foldl_len, List.length_range]
/-- pairs of places -/
def tri : Nat → Nat
  | 0 => 0
  | j + 1 => tri j + j
theorem tri_le : ∀ {i j : Nat}, i ≤ j → tri i ≤ tri j
  | i, 0, h => by rw [Nat.le_zero.mp h]; exact Nat.le_refl _
  | i, j + 1, h => by
    by_cases e : i = j + 1
    · rw [e]; exact Nat.le_refl _
    · have := tri_le (i := i) (j := j) (by omega)
      show tri i ≤ tri j + j
      omega
end Y

set_option Elab.async false
set_option linter.all false
set_option maxRecDepth 100000
set_option maxHeartbeats 1000000
set_option autoImplicit false
/-! N2: texts: of numbers, joined, read from the end; more of how mirrors are computed. -/
namespace Y
open PySem PySem.Spec PyProof.Rows L2 Z
/-! repr -/
theorem ok_of (s : String) : PyData.strOk (Str.ofString s) = true := by
  unfold PyData.strOk
  rw [Str.ofString_eq_toList]
  simp only [List.all_toArray, List.all_map, List.all_eq_true, Function.comp_apply, decide_eq_true_iff]
  intro c _
  rcases c.valid with h | h
  · exact Nat.lt_trans (show c.toNat < 0xd800 from h) (by decide)
  · exact h.2
theorem ok_app {a b : Str} (ha : PyData.strOk a = true) (hb : PyData.strOk b = true) : PyData.strOk (a ++ b) = true := by
  show (a.cps ++ b.cps).all _ = true
  rw [Array.all_append, Bool.and_eq_true]
  exact ⟨ha, hb⟩
theorem ok_join {p : Str} (hp : PyData.strOk p = true) : ∀ ts : List Str, (∀ t ∈ ts, PyData.strOk t = true) → PyData.strOk (Str.join p ts) = true
  | [], _ => by simp [Str.join, Str.empty, PyData.strOk]
  | [x], h => h x (.head _)
  | x :: y :: r, h => ok_app (ok_app (h x (.head _)) hp) (ok_join hp (y :: r) fun t ht => h t (.tail _ ht))
theorem ok_shown : ∀ ns : List Int, ∀ t ∈ PyData.shownAll (ns.map .int), PyData.strOk t = true
  | [], t, h => by simp [PyData.shownAll] at h
  | n :: ns, t, h => by
    simp only [List.map_cons, PyData.shownAll, List.mem_cons] at h
    rcases h with rfl | h
    · simp only [PyData.shown]; exact ok_of _
    · exact ok_shown ns t h
theorem weight_ints : ∀ ns : List Int, (∀ n ∈ ns, n.natAbs < 10 ^ 12) → PyData.weightAll (ns.map .int) ≤ 62 * ns.length
  | [], _ => by simp [PyData.weightAll]
  | n :: ns, h => by
    have := weight_ints ns fun m hm => h m (.tail _ hm)
    have h1 : n.natAbs.log2 < 60 := PySem.Flt.log2_lt_of (by decide) (Nat.lt_trans (h n (.head _)) (by decide))
    simp only [List.map_cons, PyData.weightAll, PyData.weight, List.length_cons]
    split <;> omega
theorem show_ints : ∀ ns : List Int, (∀ n ∈ ns, n.natAbs < 10 ^ 12) → PyData.showableAll (ns.map .int) = true
  | [], _ => by simp [PyData.showableAll]
  | n :: ns, h => by
    have h1 : n.natAbs.log2 < 60 := PySem.Flt.log2_lt_of (by decide) (Nat.lt_trans (h n (.head _)) (by decide))
    simp only [List.map_cons, PyData.showableAll, PyData.showable, Bool.and_eq_true, decide_eq_true_iff]
    exact ⟨by omega, show_ints ns fun m hm => h m (.tail _ hm)⟩
theorem dict_ints : ∀ ns : List Int, PyData.hasDictAll (ns.map .int) = false
  | [] => by simp [PyData.hasDictAll]
  | n :: ns => by simp only [List.map_cons, PyData.hasDictAll, PyData.hasDict, Bool.false_or]; exact dict_ints ns
theorem reprV_lst {ns : List Int} (h : ∀ n ∈ ns, n.natAbs < 10 ^ 12) (hl : ns.length ≤ 1000) : ∃ s, PyData.strOk s = true ∧ reprV (.lst (ns.map .int)) = some (.str s) := by
  refine ⟨PyData.shown (.list (ns.map .int)), ?_, ?_⟩
  · rw [PyData.shown_list]
    exact ok_app (ok_app (ok_of "[") (ok_join (ok_of ", ") _ (ok_shown ns))) (ok_of "]")
  · unfold reprV
    simp only [dat, dats_ints, Option.map_some]
    rw [if_pos]
    refine ⟨by simp only [PyData.showable]; exact show_ints ns h, by simp only [PyData.hasDict]; exact dict_ints ns, by simp only [PyData.depth, dep_ints]; decide, PyData.shown_fits_of_layable0 (B := 13) (by decide) (by decide) ?_ ?_⟩
    · unfold PyData.layable0
      simp only [PyData.canLay0, lay_ints, PyData.depth, dep_ints, PyData.weight, Bool.and_eq_true, decide_eq_true_iff, Bool.true_and]
      have := weight_ints ns h
      exact ⟨by decide, decide_eq_true (Nat.le_trans (show _ ≤ 62000 by omega) (by decide))⟩
    · simp only [PyData.intsShort]
      exact PyData.intsShortAll_ints ns h
theorem reprV_int {i : Int} (h : Bd 1900 i) : ∃ s, PyData.strOk s = true ∧ reprV (.int i) = some (.str s) := by
  have hl : i.natAbs.log2 < 1920 := by have := h.log (by decide); omega
  refine ⟨PyData.shown (.int i), ?_, ?_⟩
  · rw [PyData.shown_int]; exact ok_of _
  · unfold reprV
    simp only [dat]
    rw [if_pos]
    refine ⟨by simp only [PyData.showable]; exact decide_eq_true hl, rfl, by simp only [PyData.depth]; decide, ?_⟩
    rw [PyData.shown_int]
    exact int_text_fits hl
theorem shp_str {s : Str} (h : PyData.strOk s = true) : SeqAt.shaped (.str s) = true := by simp [SeqAt.shaped, PyData.canLay0, PyData.depth, h]
theorem eqV_str {s t : Str} (hs : PyData.strOk s = true) (ht : PyData.strOk t = true) : eqV (.str s) (.str t) = some (.bl (decide (s = t))) := by
  unfold eqV
  simp only [dat]
  rw [if_pos ⟨shp_str hs, shp_str ht⟩]
  simp only [PyData.eqv]
  by_cases h : s = t
  · subst h; simp
  · have : ¬ s.cps = t.cps := fun z => h (by cases s; cases t; simp_all)
    simp [h, this]
theorem neV_same {s : Str} (h : PyData.strOk s = true) : neV (.str s) (.str s) = some (.bl false) := by
  unfold neV
  simp only [dat]
  rw [if_pos ⟨shp_str h, shp_str h⟩]
  simp [PyData.eqv]
theorem eqV_same {s : Str} (h : PyData.strOk s = true) : eqV (.str s) (.str s) = some (.bl true) := by
  rw [eqV_str h h, decide_eq_true rfl]
theorem low_dec : ∀ c : Fin 4, ∀ b : Bool, decide (ltr (c, b) = co c) = !b := by decide
theorem ltr_ok' : ∀ c : Fin 4, ∀ b : Bool, PyData.strOk (ltr (c, b)) = true := by decide +kernel
theorem ltr_ok (l : Lt) : PyData.strOk (ltr l) = true := ltr_ok' l.1 l.2
theorem eqV_low (l : Lt) : eqV (.str (ltr l)) (.str (co l.1)) = some (.bl (!l.2)) := by
  rw [eqV_str (ltr_ok l) (show PyData.strOk (co l.1) = true from ltr_ok (l.1, false)), show l = (l.1, l.2) from rfl, low_dec]
theorem co_dec : ∀ c d : Fin 4, decide (co c = co d) = (c == d) := by decide
theorem eqV_co (c d : Fin 4) : eqV (.str (co c)) (.str (co d)) = some (.bl (c == d)) := by
  rw [eqV_str (show PyData.strOk (co c) = true from ltr_ok (c, false)) (show PyData.strOk (co d) = true from ltr_ok (d, false)), co_dec]
theorem lowV_ltr (l : Lt) : lowV (.str (ltr l)) = some (.str (co l.1)) := by
  unfold lowV
  dsimp only
  rw [if_pos (show (ltr l).length ≤ 5592405 by show 1 ≤ 5592405; decide), show l = (l.1, l.2) from rfl, lower_ltr]
theorem upV_ltr (l : Lt) : upV (.str (ltr l)) = some (.str (ltr (l.1, true))) := by
  unfold upV
  dsimp only
  rw [if_pos (show (ltr l).length ≤ 5592405 by show 1 ≤ 5592405; decide), show l = (l.1, l.2) from rfl, upper_ltr]
/-! texts of letters -/
def strOf (w : List Lt) : Str := ⟨(w.map cp).toArray⟩
theorem letS_of (w : List Lt) : letS (strOf w) = w.map fun l => .str (ltr l) := by
  unfold letS strOf
  simp only [List.map_map]
  rfl
theorem len_strOf (w : List Lt) : (strOf w).length = w.length := by
  show (w.map cp).toArray.size = w.length
  simp
theorem rstV_of (w : List Lt) (h : w.length ≤ 1000) : rstV (.str (strOf w)) = some (w.reverse.map fun l => .str (ltr l)) := by
  unfold rstV
  dsimp only
  rw [if_pos (by rw [len_strOf]; exact sz_le (by omega)), letS_of, List.map_reverse]
theorem wlkV_of (w : List Lt) : wlkV (.str (strOf w)) = some (w.map fun l => .str (ltr l)) := by
  show some (letS _) = _
  rw [letS_of]
theorem lenV_of (w : List Lt) (h : w.length ≤ 1000) : lenV (.str (strOf w)) = some (.int (w.length : Nat)) := by
  unfold lenV
  dsimp only
  rw [if_pos (by rw [len_strOf]; exact sz_le (by omega)), len_strOf]
theorem join_ltr : ∀ w : List Lt, Str.join ("" : Str) (w.map ltr) = strOf w
  | [] => rfl
  | [l] => rfl
  | l :: m :: w => by
    show ltr l ++ ("" : Str) ++ Str.join ("" : Str) ((m :: w).map ltr) = _
    rw [join_ltr (m :: w)]
    unfold strOf
    show (⟨#[cp l] ++ (("" : Str)).cps ++ ((m :: w).map cp).toArray⟩ : Str) = _
    congr 1
    have e : (("" : Str)).cps = #[] := rfl
    rw [e]
    simp
theorem joinV_of (w : List Lt) (h : w.length ≤ 1000) : joinV (.str ("" : Str)) (.lst (w.map fun l => .str (ltr l))) = some (.str (strOf w)) := by
  have e : (w.map fun l => Val.str (ltr l)) = (w.map ltr).map Val.str := by rw [List.map_map]; rfl
  unfold joinV
  dsimp only
  rw [e]
  show (strsV ((w.map ltr).map Val.str)).bind _ = _
  rw [strsV_map, Option.bind_some]
  have s1 : ((w.map ltr).map (·.length)).sum = w.length := by
    rw [List.map_map]
    clear h e
    induction w with
    | nil => rfl
    | cons l w ih => rw [List.map_cons, List.sum_cons, ih, List.length_cons]; show 1 + _ = _; omega
  have l0 : ("" : Str).length = 0 := rfl
  rw [if_pos (by rw [s1, l0]; omega)]
  have e2 : Txt.join ("" : Str) (w.map ltr) = Str.join ("" : Str) (w.map ltr) := StrLaws.glued_eq_join _ _
  rw [e2, join_ltr]
/-- a text from its end -/
theorem revS_of (w : List Lt) : revS (strOf w) = strOf w.reverse := by
  unfold revS
  rw [len_strOf]
  have e : Builtin.Str.strSliceIndices none none (-1) w.length = (List.range w.length).map fun k => w.length - 1 - k := by
    unfold Builtin.Str.strSliceIndices
    show sliceRange (if (-1 : Int) > 0 then 0 else (w.length : Int) - 1) (if (-1 : Int) > 0 then (w.length : Int) else -1) (-1) = _
    rw [if_neg (by decide), if_neg (by decide)]
    unfold sliceRange
    dsimp only
    rw [if_neg (by decide)]
    have c : (if (w.length : Int) - 1 > -1 then ((w.length : Int) - 1 - -1 - -1 - 1) / - -1 else 0).toNat = w.length := by
      split
      · have : ((w.length : Int) - 1 - -1 - -1 - 1) / - -1 = w.length := by
          rw [show (- -1 : Int) = 1 by decide, Int.ediv_one]; omega
        rw [this]; simp
      · have : w.length = 0 := by omega
        rw [this]; rfl
    rw [c]
    refine List.map_congr_left fun k _ => ?_
    omega
  rw [e]
  unfold strOf
  congr 2
  rw [List.filterMap_map]
  have f : (List.range w.length).filterMap ((fun x => (w.map cp).toArray[x]?) ∘ fun k => w.length - 1 - k) = (w.reverse.map cp) := by
    apply List.ext_getElem?
    intro i
    have h1 : ∀ n (h : n ≤ w.length), (List.range n).filterMap ((fun x => (w.map cp).toArray[x]?) ∘ fun k => w.length - 1 - k) = (w.reverse.map cp).take n := by
      intro n
      induction n with
      | zero => intro _; simp
      | succ n ih =>
        intro h
        rw [List.range_succ, List.filterMap_append, ih (by omega), List.take_succ]
        congr 1
        have hn : w.length - 1 - n < w.length := by omega
        simp only [List.filterMap_cons, List.filterMap_nil, Function.comp]
        rw [List.getElem?_map, List.getElem?_reverse (by omega)]
        simp [hn]
    rw [h1 _ (Nat.le_refl _), List.take_of_length_le (by simp)]
  rw [f]
theorem revSV_of (w : List Lt) (h : w.length ≤ 1000) : revSV (.str (strOf w)) = some (.str (strOf w.reverse)) := by
  unfold revSV
  dsimp only
  rw [revS_of, if_pos (by rw [len_strOf, List.length_reverse]; exact sz_le (by omega))]
/-! loops over a range, by numbers -/
theorem e_loopN {tg : MT} {s : MS} (n : Nat) (I : Nat → En → Prop) (ρ : En) (h0 : I 0 ρ) (h : ∀ i ρ, i < n → I i ρ → ∃ ρ1 ρ2, tg (.int i) ρ = some ρ1 ∧ s ρ1 = .ok (.nx ρ2) ∧ I (i + 1) ρ2) : ∃ ρ', forL tg s (iota 0 n) ρ = .ok (.nx ρ') ∧ I n ρ' := by
  obtain ⟨ρ', k1, k2⟩ := e_loop (tg := tg) (s := s) (fun i : Nat => .int i) I (List.range n) 0 ρ h0 fun j i ρ hj hi => by
    obtain ⟨h1, h2⟩ := List.getElem?_eq_some_iff.mp hj
    rw [List.length_range] at h1
    rw [List.getElem_range] at h2
    subst h2
    rw [Nat.zero_add] at hi ⊢
    exact h j ρ h1 hi
  rw [← iota_map] at k1
  rw [List.length_range, Nat.zero_add] at k2
  exact ⟨ρ', k1, k2⟩
theorem e_rngN {al : MA} {ρ ρ1 : En} {n : Nat} (h : al ρ = .ok ([.int n], ρ1)) (hn : n < 100000) : rng1M al ρ = .ok (iota 0 n, ρ1) := by
  have := e_rng1 h (by omega)
  rw [Int.toNat_natCast] at this
  exact this
theorem e_rngL {al : MA} {ρ ρ1 : En} {n : Nat} (h : al ρ = .ok ([.int n], ρ1)) (hn : n < 100000) : rng1M al ρ = .ok ((List.range n).map fun i : Nat => .int i, ρ1) := by
  rw [← iota_map]; exact e_rngN h hn
theorem e_ext {i : Nat} {m : ME} {ρ ρ1 ρ2 : En} {p p' : Bool} {us us' ys : List Val} (h0 : ρ[i]? = some (some (.ow p us))) (h1 : m ρ = .ok (.lst ys, ρ1)) (h2 : ρ1[i]? = some (some (.ow p' us'))) (h3 : us'.length + ys.length ≤ sizeLine) (h4 : ρ1.set i (some (.ow p' (us' ++ ys))) = ρ2) : extS i m ρ = .ok (.nx ρ2) := by
  subst h4
  unfold extS; rw [h0]; dsimp only; rw [h1, Rs.ok_bind]; dsimp only; rw [h2]; exact if_pos h3
theorem e_join {a b : ME} {ρ ρ1 ρ2 : En} {s : Str} {y z : Val} (h1 : a ρ = .ok (.str s, ρ1)) (h2 : b ρ1 = .ok (y, ρ2)) (h3 : joinV (.str s) y = some z) : joinM a b ρ = .ok (z, ρ2) := by
  unfold joinM; rw [h1, Rs.ok_bind]; dsimp only; rw [h2, Rs.ok_bind]; dsimp only; rw [h3]; rfl
theorem e_dst {i : Nat} {mk m : ME} {ρ ρ1 ρ2 ρ3 : En} {p p' : Bool} {ks ks' : List Key} {us us' : List Val} {x y : Val} {k : Key} (h1 : m ρ = .ok (x, ρ1)) (h2 : ρ1[i]? = some (some (.ob p (.odic ks us)))) (h3 : mk ρ1 = .ok (y, ρ2)) (h4 : ρ2[i]? = some (some (.ob p' (.odic ks' us')))) (hk : keyV y = some k) (hn : k ∉ ks') (hl : ks'.length < 1000) (h5 : ρ2.set i (some (.ob p' (.odic (ks' ++ [k]) (us' ++ [x])))) = ρ3) : dstS i mk m ρ = .ok (.nx ρ3) := by
  subst h5
  unfold dstS; rw [h1, Rs.ok_bind]; dsimp only; rw [h2]; dsimp only; rw [h3, Rs.ok_bind]; dsimp only; rw [h4]; dsimp only; rw [hk, Rs.opt_some, Rs.ok_bind]; exact if_pos ⟨newK_nd hn, sz_lt (by omega)⟩
end Y

set_option Elab.async false
set_option linter.all false
set_option maxRecDepth 100000
set_option maxHeartbeats 1000000
set_option autoImplicit false
/-! N3: traces: mathematics; texts in capitals. -/
namespace Y
open PySem PySem.Spec PyProof.Rows L2 Z
def dl (p : Nat) : Nat → Nat := fun q => if q = p then 1 else 0
theorem dl_le (p q : Nat) : dl p q ≤ 1 := by unfold dl; split <;> omega
def traceN (N : Near) (n : Nat) (w : List Lt) : Nat := ((List.range n).map fun p => colN N w (dl p) p).sum
def sumN (N : Near) (n : Nat) (w : List Lt) : Nat := ((List.range n).map (colN N w fun _ => 1)).sum
theorem traceN_perm {N M : Near} (h : ∀ c p, (N c p).Perm (M c p)) (n : Nat) (w : List Lt) : traceN N n w = traceN M n w := by
  unfold traceN
  refine congrArg List.sum (List.map_congr_left fun p _ => ?_)
  rw [colN_perm h]
theorem count_dl (p : Nat) : ∀ L : List Nat, L.count p = (L.map (dl p)).sum
  | [] => rfl
  | a :: L => by
    rw [List.count_cons, List.map_cons, List.sum_cons, count_dl p L]
    unfold dl
    by_cases h : a = p
    · simp [h]; omega
    · simp [h]
theorem ends_count (N : Near) (w : List Lt) (p : Nat) : (endsN N w [p]).count p = colN N w (dl p) p := by
  rw [count_dl, ends_sum]; simp
/-- of capitals alone -/
theorem caps_mul {N : Near} (v : Nat → Nat) : ∀ w : List Lt, (∀ l ∈ w, l.2 = true) → ∀ p, colN N w v p = colN N w (fun _ => 1) p * v p
  | [], _, p => by show v p = 1 * v p; omega
  | l :: w, h, p => by
    have ih := caps_mul (N := N) v w (fun m hm => h m (.tail _ hm)) p
    show putN N l (colN N w v) p = putN N l (colN N w fun _ => 1) p * v p
    unfold putN
    rw [if_pos (h l (.head _)), if_pos (h l (.head _)), ih, Nat.mul_assoc]
theorem caps_trace (N : Near) (n : Nat) {w : List Lt} (h : ∀ l ∈ w, l.2 = true) : traceN N n w = sumN N n w := by
  unfold traceN sumN
  refine congrArg List.sum (List.map_congr_left fun p _ => ?_)
  rw [caps_mul _ w h]
  unfold dl
  simp
theorem sum_mono {u v : Nat → Nat} : ∀ l : List Nat, (∀ a, u a ≤ v a) → (l.map u).sum ≤ (l.map v).sum
  | [], _ => Nat.le_refl _
  | a :: l, h => by
    have := sum_mono l h
    have := h a
    simp only [List.map_cons, List.sum_cons]
    omega
theorem colN_mono {N : Near} {u v : Nat → Nat} (h : ∀ p, u p ≤ v p) : ∀ (w : List Lt) (p : Nat), colN N w u p ≤ colN N w v p
  | [], p => h p
  | l :: w, p => by
    show putN N l (colN N w u) p ≤ putN N l (colN N w v) p
    unfold putN
    split
    · exact Nat.mul_le_mul_left _ (colN_mono h w p)
    · exact sum_mono _ (colN_mono h w)
theorem trace_le (N : Near) (n : Nat) (w : List Lt) : traceN N n w ≤ sumN N n w := by
  unfold traceN sumN
  exact sum_mono _ fun p => colN_mono (dl_le p) w p
theorem sum_zero {v : Nat → Nat} : ∀ l : List Nat, (∀ a ∈ l, v a = 0) → (l.map v).sum = 0
  | [], _ => rfl
  | a :: l, h => by
    rw [List.map_cons, List.sum_cons, h a (.head _), sum_zero l fun b hb => h b (.tail _ hb)]
theorem trace_one {N : Near} (n : Nat) (c : Fin 4) (h : ∀ p, p ∉ N c p) : traceN N n [(c, false)] = 0 := by
  unfold traceN
  refine sum_zero _ fun p _ => ?_
  show putN N (c, false) (dl p) p = 0
  unfold putN
  rw [if_neg (fun z => nomatch z)]
  refine sum_zero _ fun q hq => ?_
  unfold dl
  refine if_neg fun z => ?_
  subst z
  exact h _ hq
theorem sum_one {v : Nat → Nat} : ∀ l : List Nat, (∀ a ∈ l, v a = 1) → (l.map v).sum = l.length
  | [], _ => rfl
  | a :: l, h => by
    rw [List.map_cons, List.sum_cons, h a (.head _), sum_one l fun b hb => h b (.tail _ hb), List.length_cons]; omega
theorem trace_two {N : Near} (n : Nat) (c : Fin 4) (nd : ∀ p, (N c p).Nodup) (sy : ∀ p q, q ∈ N c p → p ∈ N c q) : traceN N n [(c, false), (c, false)] = sumN N n [(c, false)] := by
  unfold traceN sumN
  refine congrArg List.sum (List.map_congr_left fun p _ => ?_)
  show putN N (c, false) (putN N (c, false) (dl p)) p = putN N (c, false) (fun _ => 1) p
  unfold putN
  simp only [Bool.false_eq_true, if_false]
  rw [sum_one _ fun q hq => ?_, sum_one _ fun _ _ => rfl]
  rw [← count_dl]
  rw [(nd q).count, if_pos (sy p q hq)]
/-- neighbours stand once, and both ways -/
theorem nb_nodup {ts : List Tie} (lt : ∀ t ∈ ts, t.1 < t.2.1) (nd : (ts.map fun t => (t.1, t.2.1)).Nodup) (c : Fin 4) (p : Nat) : (nb ts c p).Nodup := by
  have inj : ∀ (g : Tie → Nat) (f : Tie → Bool), (∀ t ∈ ts, ∀ u ∈ ts, f t = true → f u = true → g t = g u → (t.1, t.2.1) = (u.1, u.2.1)) → ((ts.filter f).map g).Nodup := by
    intro g f h
    rw [List.nodup_iff_pairwise_ne, List.pairwise_map]
    have p0 : ts.Pairwise fun t u => (t.1, t.2.1) ≠ (u.1, u.2.1) := by
      have := List.nodup_iff_pairwise_ne.mp nd
      rw [List.pairwise_map] at this
      exact this
    have p1 := p0.filter f
    exact p1.imp_of_mem fun {a b} ha hb ne e => ne (h a (List.mem_filter.mp ha).1 b (List.mem_filter.mp hb).1 (List.mem_filter.mp ha).2 (List.mem_filter.mp hb).2 e)
  unfold nb
  rw [List.nodup_append]
  refine ⟨inj _ _ fun t _ u _ ht hu e => ?_, inj _ _ fun t _ u _ ht hu e => ?_, fun a ha b hb e => ?_⟩
  · simp only [Bool.and_eq_true, beq_iff_eq] at ht hu
    exact Prod.ext (ht.1.trans hu.1.symm) e
  · simp only [Bool.and_eq_true, beq_iff_eq] at ht hu
    exact Prod.ext e (ht.1.trans hu.1.symm)
  · obtain ⟨t, ht, rfl⟩ := List.mem_map.mp ha
    obtain ⟨u, hu, rfl⟩ := List.mem_map.mp hb
    have h1 := lt t (List.mem_filter.mp ht).1
    have h2 := lt u (List.mem_filter.mp hu).1
    have h3 := (List.mem_filter.mp ht).2
    have h4 := (List.mem_filter.mp hu).2
    simp only [Bool.and_eq_true, beq_iff_eq] at h3 h4
    omega
theorem nb_sym {ts : List Tie} {c : Fin 4} {p q : Nat} (h : q ∈ nb ts c p) : p ∈ nb ts c q := by
  rw [mem_nb] at *
  exact h.symm
theorem nb_off {ts : List Tie} (lt : ∀ t ∈ ts, t.1 < t.2.1) (c : Fin 4) (p : Nat) : p ∉ nb ts c p := fun h => by
  rw [mem_nb] at h
  rcases h with h | h
  · have := lt _ h; dsimp only at this; omega
  · have := lt _ h; dsimp only at this; omega
theorem nil_trace (N : Near) (n : Nat) : traceN N n [] = n := by
  unfold traceN
  rw [sum_one _ fun p _ => by show dl p p = 1; unfold dl; simp, List.length_range]
theorem nil_sum (N : Near) (n : Nat) : sumN N n [] = n := by
  unfold sumN
  rw [sum_one (v := colN N [] fun _ => 1) _ fun p _ => rfl, List.length_range]
/-- columns as lists -/
def colL (N : Near) (n : Nat) (w : List Lt) (L : List Nat) : List Nat := w.reverse.foldl (fun L l => (List.range n).map (putN N l (gN L))) L
theorem gN_map' {v : Nat → Nat} {n q : Nat} (h : q < n) : gN ((List.range n).map v) q = v q := by unfold gN; simp [h]
theorem colL_ok {N : Near} {n : Nat} (hN : ∀ c p, p < n → ∀ q ∈ N c p, q < n) (v : Nat → Nat) : ∀ (w : List Lt), colL N n w ((List.range n).map v) = (List.range n).map (colN N w v) := by
  intro w
  unfold colL
  rw [List.foldl_reverse]
  induction w with
  | nil => rfl
  | cons l w ih =>
    rw [List.foldr_cons, ih]
    refine List.map_congr_left fun p hp => ?_
    exact putN_congr hN (fun q hq => gN_map' hq) l p (List.mem_range.mp hp)
theorem traceN_L {N : Near} {n : Nat} (hN : ∀ c p, p < n → ∀ q ∈ N c p, q < n) (w : List Lt) : traceN N n w = ((List.range n).map fun p => gN (colL N n w ((List.range n).map (dl p))) p).sum := by
  unfold traceN
  refine congrArg List.sum (List.map_congr_left fun p hp => ?_)
  rw [colL_ok hN, gN_map' (List.mem_range.mp hp)]
/-! capitals -/
theorem upperOf_ltr : ∀ c : Fin 4, ∀ b : Bool, Unicode.upperOf (cp (c, b)) = [cp (c, true)] := by decide +kernel
theorem upper_of (w : List Lt) : Txt.upper (strOf w) = strOf (w.map fun l => (l.1, true)) := by
  unfold Txt.upper placed strOf
  congr 1
  apply Array.ext'
  rw [Array.toList_flatten, List.mapIdx_toArray, List.map_map, List.toList_toArray]
  have e : ∀ L : List Nat, L.mapIdx (fun i c => (Unicode.upperOf c).toArray) = L.map fun c => (Unicode.upperOf c).toArray := fun L => by
    apply List.ext_getElem?
    intro i
    simp
  rw [e]
  clear e
  induction w with
  | nil => rfl
  | cons l w ih =>
    have u := upperOf_ltr l.1 l.2
    simp only [List.map_cons, List.flatten_cons] at ih ⊢
    rw [show cp l = cp (l.1, l.2) from rfl, u, ih]
    rfl
end Y

set_option Elab.async false
set_option linter.all false
set_option maxRecDepth 100000
set_option maxHeartbeats 4000000
set_option autoImplicit false
namespace Y
open PySem PySem.Spec PyProof.Rows L2 Z
def top (i : Nat) : Stmt := PySem.Challenge.pw_littlewebs_k15_traces_of_words.main.body.getD i (.Pass ⟨0, 0, 0, 0⟩)
variable {P : Program} {w : World} {C : Cn} {mg : Str → Option Value} {base : Heap}
def b_is_integer : MS := (retS (andM (cbM (f2 isiV) (consA (varM 0) (consA (cstM (.ty "int")) nilA))) (unM notV (cbM (f2 isiV) (consA (varM 0) (consA (cstM (.ty "bool")) nilA))))))
abbrev s_is_integer : Stmt := top 21
theorem sc_is_integer : FnScope ["value"] ["value"] (defScope s_is_integer) := ⟨rfl, rfl, rfl, by decide +kernel, rfl, by decide +kernel, by decide +kernel⟩
def b_is_within : MS := (seqS (ifS (notB (tstM truV (callM 1 1 b_is_integer (consA (varM 0) nilA)))) (retS (cstM (.bl false))) nextS) (retS (andM (orM (binM isNV (varM 1) (cstM .non)) (binM leV (varM 1) (varM 0))) (orM (binM isNV (varM 2) (cstM .non)) (binM leV (varM 0) (varM 2))))))
abbrev s_is_within : Stmt := top 22
theorem sc_is_within : FnScope ["value", "least", "most"] ["value", "least", "most"] (defScope s_is_within) := ⟨rfl, rfl, rfl, by decide +kernel, rfl, by decide +kernel, by decide +kernel⟩
def t_fixed (m : MS) : MS := (seqS (ifS (tstM truV (cbM (f2 isiV) (consA (varM 0) (consA (tupM (consA (cstM (.ty "list")) (consA (cstM (.ty "tuple")) nilA))) nilA)))) (retS (cbM (f1 tupOfV) (consA (listM (compF [1] (walkM wlkV (varM 0)) (nameT 1) yesB (callM 1 2 m (consA (varM 1) nilA)))) nilA))) nextS) (retS (varM 0)))
def r_fixed : Nat → MS
  | 0 => fun _ => .bad
  | d + 1 => t_fixed (r_fixed d)
def b_fixed : MS := r_fixed 4
abbrev s_fixed : Stmt := top 19
theorem sc_fixed : FnScope ["value", "item"] ["value"] (defScope s_fixed) := ⟨rfl, rfl, rfl, by decide +kernel, rfl, by decide +kernel, by decide +kernel⟩
def c1__key : ML := (compF [1] (walkM seqV (varM 0)) (nameT 1) (tstM truV (cbM (f2 isiV) (consA (varM 1) (consA (tupM (consA (cstM (.ty "int")) (consA (cstM (.ty "str")) nilA))) nilA)))) (varM 1))
def b__key : MS := (seqS (ifS (tstM truV (cbM (f2 isiV) (consA (varM 0) (consA (tupM (consA (cstM (.ty "int")) (consA (cstM (.ty "str")) nilA))) nilA)))) (retS (varM 0)) nextS) (seqS (ifS (tstM truV (cbM (f2 isiV) (consA (varM 0) (consA (cstM (.ty "tuple")) nilA)))) (retS (cbM (f1 tupOfV) (consA (listM c1__key) nilA))) nextS) (retS (cstM .non))))
abbrev s__key : Stmt := top 24
theorem sc__key : FnScope ["value", "item"] ["value"] (defScope s__key) := ⟨rfl, rfl, rfl, by decide +kernel, rfl, by decide +kernel, by decide +kernel⟩
def b_first_twice : MS := (seqS (newT 1 (cstM (.odit [] []))) (seqS (forS (walkM seqV (callM 1 2 b_fixed (consA (varM 0) nilA))) (nameT 2) (firstS 1 3 2 (keyM (varM 2)))) (retS (cstM .non))))
abbrev s_first_twice : Stmt := top 23
theorem sc_first_twice : FnScope ["values", "ahead", "value", "alike"] ["values"] (defScope s_first_twice) := ⟨rfl, rfl, rfl, by decide +kernel, rfl, by decide +kernel, by decide +kernel⟩
def b_is_colour : MS := (retS (andM (cbM (f2 isiV) (consA (varM 0) (consA (cstM (.ty "str")) nilA))) (binM (inQ false) (varM 0) (cstM (.tup ([("a" : Str), ("b" : Str), ("c" : Str), ("d" : Str)].map .str))))))
abbrev s_is_colour : Stmt := top 27
theorem sc_is_colour : FnScope ["value"] ["value"] (defScope s_is_colour) := ⟨rfl, rfl, rfl, by decide +kernel, rfl, by decide +kernel, by decide +kernel⟩
def b_need_colour : MS := (ifS (notB (tstM truV (callM 1 1 b_is_colour (consA (varM 0) nilA)))) badS nextS)
abbrev s_need_colour : Stmt := top 28
theorem sc_need_colour : FnScope ["value", "part"] ["value", "part"] (defScope s_need_colour) := ⟨rfl, rfl, rfl, by decide +kernel, rfl, by decide +kernel, by decide +kernel⟩
def b_need_place : MS := (ifS (notB (tstM truV (callM 3 3 b_is_within (consA (varM 0) (consA (cstM (.int 0)) (consA (binM subV (varM 1) (cstM (.int 1))) nilA)))))) badS nextS)
abbrev s_need_place : Stmt := top 29
theorem sc_need_place : FnScope ["value", "places"] ["value", "places"] (defScope s_need_place) := ⟨rfl, rfl, rfl, by decide +kernel, rfl, by decide +kernel, by decide +kernel⟩
def b__is_triple : MS := (seqS (ifS (orB (notB (tstM truV (cbM (f2 isiV) (consA (varM 0) (consA (tupM (consA (cstM (.ty "list")) (consA (cstM (.ty "tuple")) nilA))) nilA))))) (tstM blV (binM neV (cbM (f1 lenV) (consA (varM 0) nilA)) (cstM (.int 3))))) (retS (cstM (.bl false))) nextS) (retS (andM (callM 1 1 b_is_integer (consA (binM ixV (varM 0) (cstM (.int 0))) nilA)) (andM (callM 1 1 b_is_integer (consA (binM ixV (varM 0) (cstM (.int 1))) nilA)) (callM 1 1 b_is_colour (consA (binM ixV (varM 0) (cstM (.int 2))) nilA))))))
abbrev s__is_triple : Stmt := top 43
theorem sc__is_triple : FnScope ["value"] ["value"] (defScope s__is_triple) := ⟨rfl, rfl, rfl, by decide +kernel, rfl, by decide +kernel, by decide +kernel⟩
def c1__need_ties : ML := (compF [2] (walkM wlkV (varM 1)) (nameT 2) yesB (callM 1 1 b__is_triple (consA (varM 2) nilA)))
def l1__need_ties : MS := (seqS (dropS (callM 2 2 b_need_place (consA (varM 3) (consA (varM 0) nilA)))) (dropS (callM 2 2 b_need_place (consA (varM 4) (consA (varM 0) nilA)))))
def l2__need_ties : MS := (ifS (tstM blV (binM eqV (varM 3) (varM 4))) badS nextS)
def c2__need_ties : ML := (compF [3, 4, 5] (walkM wlkV (varM 1)) (seqT 3 (consT (nameT 3) (consT (nameT 4) (consT (nameT 5) nilT)))) yesB (tupM (consA (cbM (f2 minV2) (consA (varM 3) (consA (varM 4) nilA))) (consA (cbM (f2 maxV2) (consA (varM 3) (consA (varM 4) nilA))) nilA))))
def b__need_ties : MS := (seqS (ifS (orB (notB (tstM truV (cbM (f2 isiV) (consA (varM 1) (consA (tupM (consA (cstM (.ty "list")) (consA (cstM (.ty "tuple")) nilA))) nilA))))) (notB (tstM truV (cbM (f1 allV) (consA (listM c1__need_ties) nilA))))) badS nextS) (seqS (forS (walkM wlkV (varM 1)) (seqT 3 (consT (nameT 3) (consT (nameT 4) (consT (nameT 5) nilT)))) l1__need_ties) (seqS (forS (walkM wlkV (varM 1)) (seqT 3 (consT (nameT 3) (consT (nameT 4) (consT (nameT 5) nilT)))) l2__need_ties) (seqS (asgS 6 (callM 1 4 b_first_twice (consA (listM c2__need_ties) nilA))) (ifS (tstM blV (binM isnotNV (varM 6) (cstM .non))) badS nextS)))))
abbrev s__need_ties : Stmt := top 42
theorem sc__need_ties : FnScope ["places", "ties", "tie", "one", "other", "_", "twice"] ["places", "ties"] (defScope s__need_ties) := ⟨rfl, rfl, rfl, by decide +kernel, rfl, by decide +kernel, by decide +kernel⟩
def c1__neighbours : ML := (compF [3] (rng1M (consA (varM 0) nilA)) (nameT 3) yesB (ownL (dispF nilA)))
def d1__neighbours : MN := (ownD (dcompF [4] (walkM wlkV (cstM (.tup ([("a" : Str), ("b" : Str), ("c" : Str), ("d" : Str)].map .str)))) (nameT 4) yesB (varM 4) (ownL c1__neighbours)))
def l1__neighbours : MS := (seqS (app2S 2 4 5 6) (app2S 2 4 6 5))
def c2__neighbours : ML := (compF [7] (walkM wlkV (binM dgetV (varM 2) (varM 4))) (nameT 7) yesB (cbM (f1 tupOfV) (consA (listM (cfM sortIF (consA (varM 7) nilA))) nilA)))
def d2__neighbours : MN := (ownD (dcompF [4] (walkM wlkV (cstM (.tup ([("a" : Str), ("b" : Str), ("c" : Str), ("d" : Str)].map .str)))) (nameT 4) yesB (varM 4) (listM c2__neighbours)))
def b__neighbours : MS := (seqS (newT 2 d1__neighbours) (seqS (forS (walkM wlkV (varM 1)) (seqT 3 (consT (nameT 5) (consT (nameT 6) (consT (nameT 4) nilT)))) l1__neighbours) (meltS 2 (retS (meltM d2__neighbours)))))
abbrev s__neighbours : Stmt := top 45
theorem sc__neighbours : FnScope ["places", "ties", "near", "_", "colour", "one", "other", "lot"] ["places", "ties"] (defScope s__neighbours) := ⟨rfl, rfl, rfl, by decide +kernel, rfl, by decide +kernel, by decide +kernel⟩
def c1__parts : ML := (compF [8] (walkM wlkV (varM 2)) (nameT 8) yesB (ifM (tstM blV (binM eqV (varM 8) (varM 7))) (varM 6) (varM 8)))
def l1__parts : MS := (seqS (asgT (seqT 2 (consT (nameT 6) (consT (nameT 7) nilT))) (tupM (consA (cbM (f2 minV2) (consA (binM ixV (varM 2) (varM 3)) (consA (binM ixV (varM 2) (varM 4)) nilA))) (consA (cbM (f2 maxV2) (consA (binM ixV (varM 2) (varM 3)) (consA (binM ixV (varM 2) (varM 4)) nilA))) nilA)))) (asgS 2 (listM c1__parts)))
def c2__parts : ML := (compF [9] (rng1M (consA (varM 0) nilA)) (nameT 9) (tstM blV (binM eqV (binM ixV (varM 2) (varM 9)) (varM 8))) (varM 9))
def c3__parts : ML := (compF [8] (walkM wlkV (listM (ssetF (varM 2)))) (nameT 8) yesB (cbM (f1 tupOfV) (consA (listM c2__parts) nilA)))
def b__parts : MS := (seqS (asgS 2 (listM (lrgF (varM 0)))) (seqS (forS (walkM wlkV (varM 1)) (seqT 3 (consT (nameT 3) (consT (nameT 4) (consT (nameT 5) nilT)))) l1__parts) (retS (cbM (f1 tupOfV) (consA (listM c3__parts) nilA)))))
abbrev s__parts : Stmt := top 44
theorem sc__parts : FnScope ["places", "ties", "leasts", "one", "other", "_", "low", "high", "least", "place"] ["places", "ties"] (defScope s__parts) := ⟨rfl, rfl, rfl, by decide +kernel, rfl, by decide +kernel, by decide +kernel⟩
def c1_Web___init__ : ML := (compF [3, 4, 5] (walkM wlkV (varM 2)) (seqT 3 (consT (nameT 3) (consT (nameT 4) (consT (nameT 5) nilT)))) yesB (tupM (consA (cbM (f2 minV2) (consA (varM 3) (consA (varM 4) nilA))) (consA (cbM (f2 maxV2) (consA (varM 3) (consA (varM 4) nilA))) (consA (varM 5) nilA)))))
def b_Web___init__ : MS := (seqS (ifS (notB (tstM truV (callM 3 3 b_is_within (consA (varM 1) (consA (cstM (.int 1)) (consA (cstM (.int 24)) nilA)))))) badS nextS) (seqS (dropS (callM 2 7 b__need_ties (consA (varM 1) (consA (varM 2) nilA)))) (seqS (setFS 0 10 "places" (varM 1)) (seqS (setFS 0 10 "ties" (cbM (f1 tupOfV) (consA (listM (cfM (sort3F (fun i => i == 2)) (consA (listM c1_Web___init__) nilA))) nilA))) (seqS (setFS 0 10 "parts" (callM 2 10 b__parts (consA (varM 1) (consA (fldO 0 10 "ties") nilA)))) (setFS 0 10 "_near" (callM 2 8 b__neighbours (consA (varM 1) (consA (fldO 0 10 "ties") nilA)))))))))
abbrev s_Web___init__ : Stmt := mth (top 41) 0
theorem sc_Web___init__ : FnScope ["self", "places", "ties", "one", "other", "colour"] ["self", "places", "ties"] (defScope s_Web___init__) := ⟨rfl, rfl, rfl, by decide +kernel, rfl, by decide +kernel, by decide +kernel⟩
def b_Web_neighbours : MS := (seqS (dropS (callM 2 2 b_need_place (consA (varM 1) (consA (unM (fldV 10 "places") (varM 0)) nilA)))) (seqS (dropS (callM 2 2 b_need_colour (consA (varM 2) (consA (cstM (.str ("colour" : Str))) nilA)))) (retS (binM ixV (binM dgetV (unM (fldV 10 "_near") (varM 0)) (varM 2)) (varM 1)))))
abbrev s_Web_neighbours : Stmt := mth (top 41) 5
theorem sc_Web_neighbours : FnScope ["self", "place", "colour"] ["self", "place", "colour"] (defScope s_Web_neighbours) := ⟨rfl, rfl, rfl, by decide +kernel, rfl, by decide +kernel, by decide +kernel⟩
def b_Web_degree : MS := (retS (cbM (f1 lenV) (consA (methM 10 "neighbours" 3 3 b_Web_neighbours (varM 0) (consA (varM 1) (consA (varM 2) nilA))) nilA)))
abbrev s_Web_degree : Stmt := mth (top 41) 6
theorem sc_Web_degree : FnScope ["self", "place", "colour"] ["self", "place", "colour"] (defScope s_Web_degree) := ⟨rfl, rfl, rfl, by decide +kernel, rfl, by decide +kernel, by decide +kernel⟩
def c1_put_ahead : ML := (compF [5] (walkM wlkV (methM 10 "neighbours" 3 3 b_Web_neighbours (varM 0) (consA (varM 6) (consA (varM 3) nilA)))) (nameT 5) yesB (binM ixV (varM 2) (varM 5)))
def c2_put_ahead : ML := (compF [6] (walkM wlkV (varM 4)) (nameT 6) yesB (cbM (f1 sumV) (consA (listM c1_put_ahead) nilA)))
def c3_put_ahead : ML := (compF [6] (walkM wlkV (varM 4)) (nameT 6) yesB (binM mulV2 (methM 10 "degree" 3 3 b_Web_degree (varM 0) (consA (varM 6) (consA (varM 3) nilA))) (binM ixV (varM 2) (varM 6))))
def b_put_ahead : MS := (seqS (asgS 3 (unM lowV (varM 1))) (seqS (asgS 4 (cbM (f1 rg1V) (consA (unM (fldV 10 "places") (varM 0)) nilA))) (seqS (ifS (tstM blV (binM eqV (varM 1) (varM 3))) (retS (listM c2_put_ahead)) nextS) (retS (listM c3_put_ahead)))))
abbrev s_put_ahead : Stmt := top 2
theorem sc_put_ahead : FnScope ["web", "letter", "column", "colour", "places", "near", "place"] ["web", "letter", "column"] (defScope s_put_ahead) := ⟨rfl, rfl, rfl, by decide +kernel, rfl, by decide +kernel, by decide +kernel⟩
def l1_word_ahead : MS := (asgS 2 (callM 3 7 b_put_ahead (consA (varM 0) (consA (varM 3) (consA (varM 2) nilA)))))
def b_word_ahead : MS := (seqS (forS (walkM rstV (varM 1)) (nameT 3) l1_word_ahead) (retS (varM 2)))
abbrev s_word_ahead : Stmt := top 3
theorem sc_word_ahead : FnScope ["web", "word", "column", "letter"] ["web", "word", "column"] (defScope s_word_ahead) := ⟨rfl, rfl, rfl, by decide +kernel, rfl, by decide +kernel, by decide +kernel⟩
def b_column_of : MS := (retS (callM 3 4 b_word_ahead (consA (varM 0) (consA (varM 1) (consA (listM (bfM mulF (lstM (consA (cstM (.int 1)) nilA)) (unM (fldV 10 "places") (varM 0)))) nilA)))))
abbrev s_column_of : Stmt := top 4
theorem sc_column_of : FnScope ["web", "word"] ["web", "word"] (defScope s_column_of) := ⟨rfl, rfl, rfl, by decide +kernel, rfl, by decide +kernel, by decide +kernel⟩
def c1_unit_columns : ML := (compF [1] (rng1M (consA (varM 0) nilA)) (nameT 1) yesB (cbM (f1 intV) (consA (binM eqV (varM 1) (varM 2)) nilA)))
def c2_unit_columns : ML := (compF [2] (rng1M (consA (varM 0) nilA)) (nameT 2) yesB (listM c1_unit_columns))
def b_unit_columns : MS := (retS (listM c2_unit_columns))
abbrev s_unit_columns : Stmt := top 5
theorem sc_unit_columns : FnScope ["places", "place", "at"] ["places"] (defScope s_unit_columns) := ⟨rfl, rfl, rfl, by decide +kernel, rfl, by decide +kernel, by decide +kernel⟩
def c1_diagonal_of : ML := (compF [1, 2] (enumM (consA (varM 0) nilA)) (seqT 2 (consT (nameT 1) (consT (nameT 2) nilT))) yesB (binM ixV (varM 2) (varM 1)))
def b_diagonal_of : MS := (retS (cbM (f1 sumV) (consA (listM c1_diagonal_of) nilA)))
abbrev s_diagonal_of : Stmt := top 6
theorem sc_diagonal_of : FnScope ["columns", "at", "column"] ["columns"] (defScope s_diagonal_of) := ⟨rfl, rfl, rfl, by decide +kernel, rfl, by decide +kernel, by decide +kernel⟩
def b_need_web : MS := (ifS (notB (tstM truV (cbM (f2 (isiC 10)) (consA (varM 0) (consA (cstM (.cl 10)) nilA))))) badS nextS)
abbrev s_need_web : Stmt := top 48
theorem sc_need_web : FnScope ["value", "part"] ["value", "part"] (defScope s_need_web) := ⟨rfl, rfl, rfl, by decide +kernel, rfl, by decide +kernel, by decide +kernel⟩
def c1_is_word : ML := (compF [1] (walkM wlkV (varM 0)) (nameT 1) yesB (binM (inQ false) (varM 1) (cstM (.tup ([("a" : Str), ("b" : Str), ("c" : Str), ("d" : Str), ("A" : Str), ("B" : Str), ("C" : Str), ("D" : Str)].map .str)))))
def b_is_word : MS := (retS (andM (cbM (f2 isiV) (consA (varM 0) (consA (cstM (.ty "str")) nilA))) (andM (binM leV (cbM (f1 lenV) (consA (varM 0) nilA)) (cstM (.int 80))) (cbM (f1 allV) (consA (listM c1_is_word) nilA)))))
abbrev s_is_word : Stmt := top 52
theorem sc_is_word : FnScope ["value", "letter"] ["value"] (defScope s_is_word) := ⟨rfl, rfl, rfl, by decide +kernel, rfl, by decide +kernel, by decide +kernel⟩
def b_need_word : MS := (ifS (notB (tstM truV (callM 1 2 b_is_word (consA (varM 0) nilA)))) badS nextS)
abbrev s_need_word : Stmt := top 56
theorem sc_need_word : FnScope ["value"] ["value"] (defScope s_need_word) := ⟨rfl, rfl, rfl, by decide +kernel, rfl, by decide +kernel, by decide +kernel⟩
def b__need_web_and_word : MS := (seqS (dropS (callM 2 2 b_need_web (consA (varM 0) (consA (cstM (.str ("web" : Str))) nilA)))) (dropS (callM 1 1 b_need_word (consA (varM 1) nilA))))
abbrev s__need_web_and_word : Stmt := top 57
theorem sc__need_web_and_word : FnScope ["web", "word"] ["web", "word"] (defScope s__need_web_and_word) := ⟨rfl, rfl, rfl, by decide +kernel, rfl, by decide +kernel, by decide +kernel⟩
def b_sum_of : MS := (seqS (dropS (callM 2 2 b__need_web_and_word (consA (varM 0) (consA (varM 1) nilA)))) (retS (cbM (f1 sumV) (consA (callM 2 2 b_column_of (consA (varM 0) (consA (varM 1) nilA))) nilA))))
abbrev s_sum_of : Stmt := top 53
theorem sc_sum_of : FnScope ["web", "word"] ["web", "word"] (defScope s_sum_of) := ⟨rfl, rfl, rfl, by decide +kernel, rfl, by decide +kernel, by decide +kernel⟩
def c1_trace_of : ML := (compF [2] (walkM wlkV (callM 1 3 b_unit_columns (consA (unM (fldV 10 "places") (varM 0)) nilA))) (nameT 2) yesB (callM 3 4 b_word_ahead (consA (varM 0) (consA (varM 1) (consA (varM 2) nilA)))))
def b_trace_of : MS := (seqS (dropS (callM 2 2 b__need_web_and_word (consA (varM 0) (consA (varM 1) nilA)))) (retS (callM 1 3 b_diagonal_of (consA (listM c1_trace_of) nilA))))
abbrev s_trace_of : Stmt := top 54
theorem sc_trace_of : FnScope ["web", "word", "unit"] ["web", "word"] (defScope s_trace_of) := ⟨rfl, rfl, rfl, by decide +kernel, rfl, by decide +kernel, by decide +kernel⟩
def b_walks : MS := (seqS (dropS (callM 2 2 b__need_web_and_word (consA (varM 0) (consA (varM 1) nilA)))) (seqS (dropS (callM 2 2 b_need_place (consA (varM 2) (consA (unM (fldV 10 "places") (varM 0)) nilA)))) (retS (binM ixV (callM 2 2 b_column_of (consA (varM 0) (consA (varM 1) nilA))) (varM 2)))))
abbrev s_walks : Stmt := top 55
theorem sc_walks : FnScope ["web", "word", "place"] ["web", "word", "place"] (defScope s_walks) := ⟨rfl, rfl, rfl, by decide +kernel, rfl, by decide +kernel, by decide +kernel⟩
def c1__law_pen : ML := (compF [1] (walkM wlkV (listM (scrF 58 (varM 0)))) (nameT 1) yesB (cbM (f1 intV) (consA (varM 1) nilA)))
def n__law_pen : MN := ownL (dispF (consA (listM c1__law_pen) (consA (cstM (.int 0)) (consA (cstM (.int 0)) nilA))))
abbrev s__law_pen : Stmt := top 59
theorem sc__law_pen : FnScope ["script", "cell"] ["script"] (defScope s__law_pen) := ⟨rfl, rfl, rfl, by decide +kernel, rfl, by decide +kernel, by decide +kernel⟩
def b__law_draw : MS := (seqS (ifS (tstM blV (binM gtV (ixO 0 (cstM (.int 2))) (cstM (.int 0)))) (seqS (asgS 2 (binM modV (cbM (f1 intV) (consA (ixO 0 (cstM (.int 2))) nilA)) (varM 1))) (seqS (setS 0 (cstM (.int 2)) (binM divV (cbM (f1 intV) (consA (ixO 0 (cstM (.int 2))) nilA)) (varM 1))) (retS (varM 2)))) nextS) (seqS (asgS 3 (ixO 0 (cstM (.int 1)))) (seqS (setS 0 (cstM (.int 1)) (binM addV2 (varM 3) (cstM (.int 1)))) (seqS (asgS 4 (binM addV2 (binM mulV2 (cstM (.int 32009)) (varM 3)) (cstM (.int 1187)))) (seqS (ifS (tstM blV (binM neV (ixO 0 (cstM (.int 0))) (lstM nilA))) (asgS 4 (binM ixV (ixO 0 (cstM (.int 0))) (binM modV (cbM (f1 intV) (consA (varM 3) nilA)) (cbM (f1 lenV) (consA (ixO 0 (cstM (.int 0))) nilA))))) nextS) (seqS (ifS (andB (tstM blV (binM ltV (varM 3) (cbM (f1 lenV) (consA (ixO 0 (cstM (.int 0))) nilA)))) (tstM blV (binM geV (cbM (f1 absVl) (consA (varM 4) nilA)) (binM powV (cstM (.int 10)) (cstM (.int 18)))))) (seqS (asgS 5 (binM addV2 (binM mulV2 (cstM (.int 2)) (binM subV (cbM (f1 absVl) (consA (varM 4) nilA)) (binM powV (cstM (.int 10)) (cstM (.int 18))))) (cbM (f1 intV) (consA (binM ltV (varM 4) (cstM (.int 0))) nilA)))) (seqS (setS 0 (cstM (.int 2)) (binM divV (cbM (f1 intV) (consA (varM 5) nilA)) (varM 1))) (retS (binM modV (cbM (f1 intV) (consA (varM 5) nilA)) (varM 1))))) nextS) (seqS (asgS 6 (binM modV (cbM (f1 intV) (consA (binM powV (binM addV2 (binM addV2 (binM modV (cbM (f1 intV) (consA (varM 4) nilA)) (cstM (.int 2147483587))) (binM mulV2 (cstM (.int 42017)) (varM 3))) (cstM (.int 1187))) (cstM (.int 5))) nilA)) (cstM (.int 2147483563)))) (seqS (asgS 6 (binM modV (cbM (f1 intV) (consA (binM powV (binM addV2 (binM addV2 (binM mulV2 (varM 6) (binM addV2 (binM mulV2 (cstM (.int 2)) (varM 3)) (cstM (.int 1663)))) (binM mulV2 (binM mulV2 (cstM (.int 32009)) (varM 3)) (varM 3))) (cstM (.int 52021))) (cstM (.int 3))) nilA)) (cstM (.int 2147483549)))) (retS (binM modV (cbM (f1 intV) (consA (binM divV (varM 6) (cstM (.int 64))) nilA)) (varM 1)))))))))))
abbrev s__law_draw : Stmt := top 60
theorem sc__law_draw : FnScope ["pen", "many", "digit", "at", "cell", "great", "mixed"] ["pen", "many"] (defScope s__law_draw) := ⟨rfl, rfl, rfl, by decide +kernel, rfl, by decide +kernel, by decide +kernel⟩
def b__law_pick : MS := (retS (binM ixV (varM 1) (callO 0 2 7 b__law_draw (consA (cbM (f1 lenV) (consA (varM 1) nilA)) nilA))))
abbrev s__law_pick : Stmt := top 61
theorem sc__law_pick : FnScope ["pen", "some"] ["pen", "some"] (defScope s__law_pick) := ⟨rfl, rfl, rfl, by decide +kernel, rfl, by decide +kernel, by decide +kernel⟩
def l1__law_web : MS := (ifS (tstM blV (binM eqV (callO 0 2 7 b__law_draw (consA (varM 2) nilA)) (cstM (.int 0)))) (appS 4 (tupM (consA (varM 6) (consA (varM 5) (consA (callO 0 2 2 b__law_pick (consA (varM 3) nilA)) nilA))))) nextS)
def l2__law_web : MS := (forS (rng1M (consA (varM 5) nilA)) (nameT 6) l1__law_web)
def b__law_web : MS := (seqS (parSN 3 4 (callO 0 2 2 b__law_pick (consA (lstM (consA (cstM (.str ("a" : Str))) (consA (cstM (.str ("ab" : Str))) (consA (cstM (.str ("aab" : Str))) (consA (cstM (.str ("abcd" : Str))) (consA (cstM (.str ("bd" : Str))) (consA (cstM (.str ("a" : Str))) nilA))))))) nilA)) (ownL (dispF nilA))) (seqS (forS (rng1M (consA (varM 1) nilA)) (nameT 5) l2__law_web) (meltS 4 (retS (tupM (consA (varM 1) (consA (varM 4) nilA)))))))
abbrev s__law_web : Stmt := top 62
theorem sc__law_web : FnScope ["pen", "places", "share", "colours", "ties", "other", "one"] ["pen", "places", "share"] (defScope s__law_web) := ⟨rfl, rfl, rfl, by decide +kernel, rfl, by decide +kernel, by decide +kernel⟩
def c1__law_word : ML := (compF [4, 5, 6] (walkM wlkV (binM ixV (varM 1) (cstM (.int 1)))) (seqT 3 (consT (nameT 4) (consT (nameT 5) (consT (nameT 6) nilT)))) yesB (varM 6))
def c2__law_word : ML := (compF [8] (rng1M (consA (varM 2) nilA)) (nameT 8) yesB (callO 0 2 2 b__law_pick (consA (varM 3) nilA)))
def c3__law_word : ML := (compF [9] (walkM wlkV (varM 7)) (nameT 9) yesB (ifM (tstM blV (binM eqV (callO 0 2 7 b__law_draw (consA (cstM (.int 3)) nilA)) (cstM (.int 0)))) (unM upV (varM 9)) (varM 9)))
def b__law_word : MS := (seqS (asgS 3 (binM addV2 (slM (listM c1__law_word) noP (parP (cstM (.int 6)))) (lstM (consA (cstM (.str ("a" : Str))) (consA (callO 0 2 2 b__law_pick (consA (cstM (.str ("abcd" : Str))) nilA)) nilA))))) (seqS (asgS 7 (listM c2__law_word)) (retS (joinM (cstM (.str ("" : Str))) (listM c3__law_word)))))
abbrev s__law_word : Stmt := top 63
theorem sc__law_word : FnScope ["pen", "web", "letters", "colours", "one", "other", "colour", "told", "turn", "letter"] ["pen", "web", "letters"] (defScope s__law_word) := ⟨rfl, rfl, rfl, by decide +kernel, rfl, by decide +kernel, by decide +kernel⟩
def c1__law_near : ML := (compF [4, 5, 6] (walkM wlkV (binM ixV (varM 0) (cstM (.int 1)))) (seqT 3 (consT (nameT 4) (consT (nameT 5) (consT (nameT 6) nilT)))) (andB (tstM blV (binM eqV (varM 4) (varM 1))) (tstM blV (binM eqV (varM 6) (varM 2)))) (varM 5))
def c2__law_near : ML := (compF [4, 5, 6] (walkM wlkV (binM ixV (varM 0) (cstM (.int 1)))) (seqT 3 (consT (nameT 4) (consT (nameT 5) (consT (nameT 6) nilT)))) (andB (tstM blV (binM eqV (varM 5) (varM 1))) (tstM blV (binM eqV (varM 6) (varM 2)))) (varM 4))
def b__law_near : MS := (seqS (asgS 3 (listM c1__law_near)) (retS (binM addV2 (varM 3) (listM c2__law_near))))
abbrev s__law_near : Stmt := top 64
theorem sc__law_near : FnScope ["web", "place", "colour", "found", "one", "other", "its"] ["web", "place", "colour"] (defScope s__law_near) := ⟨rfl, rfl, rfl, by decide +kernel, rfl, by decide +kernel, by decide +kernel⟩
def l1__law_ends : MS := (seqS (asgS 7 (callM 3 7 b__law_near (consA (varM 0) (consA (varM 6) (consA (unM lowV (varM 4)) nilA))))) (extS 5 (ifM (tstM blV (binM eqV (varM 4) (unM lowV (varM 4)))) (varM 7) (listM (bfM mulF (lstM (consA (varM 6) nilA)) (cbM (f1 lenV) (consA (varM 7) nilA)))))))
def l2__law_ends : MS := (seqS (newS 5 (dispF nilA)) (seqS (forS (walkM wlkV (varM 3)) (nameT 6) l1__law_ends) (meltS 5 (asgS 3 (varM 5)))))
def b__law_ends : MS := (seqS (asgS 3 (lstM (consA (varM 2) nilA))) (seqS (forS (walkM wlkV (varM 1)) (nameT 4) l2__law_ends) (retS (varM 3))))
abbrev s__law_ends : Stmt := top 65
theorem sc__law_ends : FnScope ["web", "word", "place", "found", "letter", "longer", "at", "near"] ["web", "word", "place"] (defScope s__law_ends) := ⟨rfl, rfl, rfl, by decide +kernel, rfl, by decide +kernel, by decide +kernel⟩
def c1__law_nears : ML := (compF [3] (rng1M (consA (binM ixV (varM 0) (cstM (.int 0))) nilA)) (nameT 3) yesB (callM 3 7 b__law_near (consA (varM 0) (consA (varM 3) (consA (varM 2) nilA)))))
def l1__law_nears : MS := (dstS 1 (varM 2) (listM c1__law_nears))
def b__law_nears : MS := (seqS (newT 1 (cstM (.odic [] []))) (seqS (forS (walkM wlkV (cstM (.str ("abcd" : Str)))) (nameT 2) l1__law_nears) (meltS 1 (retS (varM 1)))))
abbrev s__law_nears : Stmt := top 66
theorem sc__law_nears : FnScope ["web", "found", "colour", "place"] ["web"] (defScope s__law_nears) := ⟨rfl, rfl, rfl, by decide +kernel, rfl, by decide +kernel, by decide +kernel⟩
def c1__law_column : ML := (compF [6] (walkM wlkV (varM 7)) (nameT 6) yesB (binM ixV (varM 3) (varM 6)))
def c2__law_column : ML := (compF [7] (walkM wlkV (varM 5)) (nameT 7) yesB (cbM (f1 sumV) (consA (listM c1__law_column) nilA)))
def c3__law_column : ML := (compF [8, 7] (zipM (consA (varM 3) (consA (varM 5) nilA))) (seqT 2 (consT (nameT 8) (consT (nameT 7) nilT))) yesB (binM mulV2 (varM 8) (cbM (f1 lenV) (consA (varM 7) nilA))))
def l1__law_column : MS := (seqS (asgS 5 (binM dgetV (varM 0) (unM lowV (varM 4)))) (ifS (tstM blV (binM eqV (varM 4) (unM lowV (varM 4)))) (asgS 3 (listM c2__law_column)) (asgS 3 (listM c3__law_column))))
def b__law_column : MS := (seqS (asgS 3 (listM (cfM listV (consA (varM 2) nilA)))) (seqS (forS (walkM wlkV (unM revSV (varM 1))) (nameT 4) l1__law_column) (retS (varM 3))))
abbrev s__law_column : Stmt := top 67
theorem sc__law_column : FnScope ["nears", "word", "numbers", "found", "letter", "near", "other", "some", "number"] ["nears", "word", "numbers"] (defScope s__law_column) := ⟨rfl, rfl, rfl, by decide +kernel, rfl, by decide +kernel, by decide +kernel⟩
def l1__law_made : MS := (appS 2 (callO 0 2 2 b__law_pick (consA (lstM (consA (tupM (consA (varM 3) (consA (varM 4) (consA (varM 5) nilA)))) (consA (lstM (consA (varM 4) (consA (varM 3) (consA (varM 5) nilA)))) (consA (tupM (consA (varM 4) (consA (varM 3) (consA (varM 5) nilA)))) nilA)))) nilA)))
def b__law_made : MS := (seqS (newS 2 (dispF nilA)) (seqS (forS (walkM wlkV (binM ixV (varM 1) (cstM (.int 1)))) (seqT 3 (consT (nameT 3) (consT (nameT 4) (consT (nameT 5) nilT)))) l1__law_made) (meltS 2 (retS (meltM (makeM 10 3 6 b_Web___init__ (consA (binM ixV (varM 1) (cstM (.int 0))) (consA (callO 0 2 2 b__law_pick (consA (lstM (consA (varM 2) (consA (cbM (f1 tupOfV) (consA (varM 2) nilA)) (consA (listM (lrvF (varM 2))) nilA)))) nilA)) nilA))))))))
abbrev s__law_made : Stmt := top 68
theorem sc__law_made : FnScope ["pen", "web", "ties", "one", "other", "colour"] ["pen", "web"] (defScope s__law_made) := ⟨rfl, rfl, rfl, by decide +kernel, rfl, by decide +kernel, by decide +kernel⟩
def c1__law_trace : ML := (compF [6] (rng1M (consA (binM ixV (varM 0) (cstM (.int 0))) nilA)) (nameT 6) yesB (cbM (f1 intV) (consA (binM eqV (varM 6) (varM 4)) nilA)))
def l1__law_trace : MS := (seqS (asgS 5 (listM c1__law_trace)) (asgS 2 (binM addV2 (varM 2) (binM ixV (callM 3 9 b__law_column (consA (varM 3) (consA (varM 1) (consA (varM 5) nilA)))) (varM 4)))))
def b__law_trace : MS := (seqS (parS 2 3 (consA (cstM (.int 0)) (consA (callM 1 4 b__law_nears (consA (varM 0) nilA)) nilA))) (seqS (forS (rng1M (consA (binM ixV (varM 0) (cstM (.int 0))) nilA)) (nameT 4) l1__law_trace) (retS (varM 2))))
abbrev s__law_trace : Stmt := top 69
theorem sc__law_trace : FnScope ["web", "word", "found", "nears", "place", "numbers", "at"] ["web", "word"] (defScope s__law_trace) := ⟨rfl, rfl, rfl, by decide +kernel, rfl, by decide +kernel, by decide +kernel⟩
def c1__law_listed_right : ML := (compF [5] (rng1M (consA (binM ixV (varM 1) (cstM (.int 0))) nilA)) (nameT 5) yesB (cntM (callM 3 8 b__law_ends (consA (varM 1) (consA (varM 2) (consA (varM 5) nilA)))) (varM 5)))
def l1__law_listed_right : MS := (ifS (orB (tstM blV (binM neV (callM 2 3 b_trace_of (consA (varM 3) (consA (varM 7) nilA))) (cstM (.int 0)))) (tstM blV (binM neV (callM 2 3 b_trace_of (consA (varM 3) (consA (binM addV2 (varM 7) (varM 7)) nilA))) (callM 2 2 b_sum_of (consA (varM 3) (consA (varM 7) nilA)))))) (retS (cstM (.bl false))) nextS)
def c2__law_listed_right : ML := (compF [5] (rng1M (consA (binM ixV (varM 1) (cstM (.int 0))) nilA)) (nameT 5) yesB (callM 3 3 b_walks (consA (varM 3) (consA (cstM (.str ("" : Str))) (consA (varM 5) nilA)))))
def b__law_listed_right : MS := (seqS (asgS 3 (callO 0 2 6 b__law_made (consA (varM 1) nilA))) (seqS (asgS 4 (cbM (f1 sumV) (consA (listM c1__law_listed_right) nilA))) (seqS (ifS (orB (tstM blV (binM neV (cbM (f1 reprV) (consA (callM 2 3 b_trace_of (pickM 2 [1, 0] (consA (varM 2) (consA (varM 3) nilA)))) nilA)) (cbM (f1 reprV) (consA (varM 4) nilA)))) (tstM blV (binM neV (varM 4) (callM 2 7 b__law_trace (consA (varM 1) (consA (varM 2) nilA)))))) (retS (cstM (.bl false))) nextS) (seqS (asgS 6 (unM upV (varM 2))) (seqS (ifS (orB (tstM blV (binM neV (callM 2 3 b_trace_of (consA (varM 3) (consA (varM 6) nilA))) (callM 2 2 b_sum_of (consA (varM 3) (consA (varM 6) nilA))))) (tstM blV (binM gtV (callM 2 3 b_trace_of (consA (varM 3) (consA (varM 2) nilA))) (callM 2 2 b_sum_of (consA (varM 3) (consA (varM 2) nilA)))))) (retS (cstM (.bl false))) nextS) (seqS (forS (walkM wlkV (cstM (.str ("abcd" : Str)))) (nameT 7) l1__law_listed_right) (retS (chnM eqV eqV (callM 2 3 b_trace_of (consA (varM 3) (consA (cstM (.str ("" : Str))) nilA))) (binM ixV (varM 1) (cstM (.int 0))) (cbM (f1 sumV) (consA (listM c2__law_listed_right) nilA))))))))))
abbrev s__law_listed_right : Stmt := top 70
theorem sc__law_listed_right : FnScope ["pen", "web", "word", "made", "due", "place", "capitals", "colour"] ["pen", "web", "word"] (defScope s__law_listed_right) := ⟨rfl, rfl, rfl, by decide +kernel, rfl, by decide +kernel, by decide +kernel⟩
def l1_law : MS := (ifS (notB (tstM truV (callO 1 3 8 b__law_listed_right (consA (varM 3) (consA (callO 1 3 10 b__law_word (consA (varM 3) (consA (varM 4) nilA))) nilA))))) (retS (cstM (.bl false))) nextS)
def l2_law : MS := (seqS (asgS 3 (callO 1 3 7 b__law_web (consA (binM addV2 (cstM (.int 1)) (callO 1 2 7 b__law_draw (consA (cstM (.int 6)) nilA))) (consA (callO 1 2 2 b__law_pick (consA (lstM (consA (cstM (.int 2)) (consA (cstM (.int 1)) (consA (cstM (.int 2)) (consA (cstM (.int 3)) nilA))))) nilA)) nilA)))) (forS (walkM wlkV (tupM (consA (binM addV2 (cstM (.int 2)) (callO 1 2 7 b__law_draw (consA (cstM (.int 2)) nilA))) (consA (binM addV2 (cstM (.int 3)) (callO 1 2 7 b__law_draw (consA (cstM (.int 2)) nilA))) (consA (callO 1 2 7 b__law_draw (consA (cstM (.int 3)) nilA)) nilA))))) (nameT 4) l1_law))
def c1_law : ML := (compF [8] (walkM wlkV (tupM (consA (cstM (.int 0)) (consA (cstM (.int 1)) (consA (cstM (.int 3)) (consA (cstM (.int 4)) (consA (cstM (.int 20)) (consA (cstM (.int 80)) nilA)))))))) (nameT 8) yesB (callM 2 3 b_trace_of (consA (varM 7) (consA (binM mulV2 (cstM (.str ("a" : Str))) (varM 8)) nilA))))
def b_law : MS := (seqS (newT 1 (callN 1 2 n__law_pen (consA (varM 0) nilA))) (seqS (forS (rng1M (consA (cstM (.int 4)) nilA)) (nameT 2) l2_law) (seqS (asgS 3 (callO 1 3 7 b__law_web (consA (callO 1 2 2 b__law_pick (consA (lstM (consA (cstM (.int 12)) (consA (cstM (.int 9)) (consA (cstM (.int 24)) (consA (cstM (.int 7)) nilA))))) nilA)) (consA (callO 1 2 2 b__law_pick (consA (lstM (consA (cstM (.int 3)) (consA (cstM (.int 6)) (consA (cstM (.int 4)) nilA)))) nilA)) nilA)))) (seqS (asgS 5 (callO 1 3 10 b__law_word (consA (varM 3) (consA (binM addV2 (cstM (.int 6)) (callO 1 2 7 b__law_draw (consA (ifM (tstM blV (binM ltV (binM ixV (varM 3) (cstM (.int 0))) (cstM (.int 10)))) (cstM (.int 30)) (cstM (.int 9))) nilA))) nilA)))) (seqS (asgS 6 (callO 1 2 6 b__law_made (consA (varM 3) nilA))) (seqS (ifS (tstM blV (binM neV (cbM (f1 reprV) (consA (callM 2 3 b_trace_of (consA (varM 6) (consA (varM 5) nilA))) nilA)) (cbM (f1 reprV) (consA (callM 2 7 b__law_trace (consA (varM 3) (consA (varM 5) nilA))) nilA)))) (retS (cstM (.bl false))) nextS) (seqS (asgS 7 (meltM (makeM 10 3 6 b_Web___init__ (consA (cstM (.int 3)) (consA (lstM (consA (tupM (consA (cstM (.int 0)) (consA (cstM (.int 1)) (consA (cstM (.str ("a" : Str))) nilA)))) (consA (tupM (consA (cstM (.int 1)) (consA (cstM (.int 2)) (consA (cstM (.str ("a" : Str))) nilA)))) (consA (tupM (consA (cstM (.int 0)) (consA (cstM (.int 2)) (consA (cstM (.str ("a" : Str))) nilA)))) nilA)))) nilA))))) (retS (binM eqV (listM c1_law) (lstM (consA (cstM (.int 3)) (consA (cstM (.int 0)) (consA (cstM (.int 6)) (consA (cstM (.int 18)) (consA (cstM (.int 1048578)) (consA (cstM (.int 1208925819614629174706178)) nilA))))))))))))))))
abbrev s_law : Stmt := top 71
theorem sc_law : FnScope ["script", "pen", "turn", "web", "letters", "word", "made", "triangle", "many"] ["script"] (defScope s_law) := ⟨rfl, rfl, rfl, by decide +kernel, rfl, by decide +kernel, by decide +kernel⟩
theorem ok_is_integer {f : Addr} {fd : FuncData} (F : Fun C.K "is_integer" "is_integer" s_is_integer f fd) (g_int : mg "int" = none) (g_isinstance : mg "isinstance" = none) (g_bool : mg "bool" = none) : FnOk P w C.K mg base (L2.CX P w) 3 f fd ["value"] (spF C 1 1 b_is_integer) :=
  y_fn (C := C) (k := 2) F sc_is_integer (by decide) fun cdv A outer s H E hr => (ys_one (ys_ret (y_and (PE.imp (pe_callB cy_isi (by rfl) g_isinstance (by decide +kernel) (ya_cons (y_var (pv 0)) (ya_cons (y_cst (pe_bltn (v := .ty "int") (u := .type "int") (by rfl) g_int (by decide +kernel) rfl) fun _ _ => rep_ty.mpr rfl) ya_nil))) (cb_rd cv_isi)) (y_one (y_not (PE.imp (pe_callB cy_isi (by rfl) g_isinstance (by decide +kernel) (ya_cons (y_var (pv 0)) (ya_cons (y_cst (pe_bltn (v := .ty "bool") (u := .type "bool") (by rfl) g_bool (by decide +kernel) rfl) fun _ _ => rep_ty.mpr rfl) ya_nil))) (cb_rd cv_isi)))))))
theorem ok_is_within {f : Addr} {fd : FuncData} (F : Fun C.K "is_within" "is_within" s_is_within f fd) (d_is_integer : Df P w C mg base "is_integer" 3 ["value"] [] (spF C 1 1 b_is_integer)) : FnOk P w C.K mg base (L2.CX P w) 4 f fd ["value", "least", "most"] (spF C 3 3 b_is_within) :=
  y_fn (C := C) (k := 3) F sc_is_within (by decide) fun cdv A outer s H E hr => (ys_cons (ys_if (yt_not (yt_val rfl (PE.imp (pe_call d_is_integer.ok (hr.mono (by decide)) (by rfl) d_is_integer.mgf d_is_integer.kp d_is_integer.b .nil (passes_call (takes_of rfl rfl rfl rfl) fun _ _ _ _ h => h) (ya_cons (y_var (pv 0)) ya_nil)) call_rd) fun _ => rfl)) (ys_one (ys_ret y_bl)) ys_nil) (ys_one (ys_ret (y_and (y_or (y_cmp op_isN ov_isN (y_var (pv 1)) y_non (nomark _)) (y_one (y_cmp op_le ov_le (y_var (pv 1)) (y_var (pv 0)) (nomark _)))) (y_one (y_or (y_cmp op_isN ov_isN (y_var (pv 2)) y_non (nomark _)) (y_one (y_cmp op_le ov_le (y_var (pv 0)) (y_var (pv 2)) (nomark _)))))))))
theorem ok_fixed {f : Addr} {fd : FuncData} (F : Fun C.K "fixed" "fixed" s_fixed f fd) (g_list : mg "list" = none) (g_tuple : mg "tuple" = none) (g_isinstance : mg "isinstance" = none) (mgf : mg "fixed" = some (.ref f)) (kp : PySem.W.keepIn C.K (.ref f) = true) (bd : Binds C.K fd ["value"] []) : ∀ d, FnOk P w C.K mg base (L2.CX P w) (2 + d) f fd ["value"] (spF C 1 2 (r_fixed d))
  | 0 => fn_bad rfl
  | d + 1 => by
    have ih := ok_fixed F g_list g_tuple g_isinstance mgf kp bd d
    exact y_fn (C := C) (k := 2 + d) F sc_fixed (by decide) fun cdv A outer s H E hr => (ys_cons (ys_if (yt_val rfl (PE.imp (pe_callB cy_isi (by rfl) g_isinstance (by decide +kernel) (ya_cons (y_var (pv 0)) (ya_cons (y_tup (ya_cons (y_cst (pe_bltn (v := .ty "list") (u := .type "list") (by rfl) g_list (by decide +kernel) rfl) fun _ _ => rep_ty.mpr rfl) (ya_cons (y_cst (pe_bltn (v := .ty "tuple") (u := .type "tuple") (by rfl) g_tuple (by decide +kernel) rfl) fun _ _ => rep_ty.mpr rfl) ya_nil))) ya_nil))) (cb_rd cv_isi)) fun _ => rfl) (ys_one (ys_ret (PE.imp (pe_callTy call_tuple_of (by rfl) g_tuple (by decide +kernel) (ya_cons (y_new (y_lc (E0 := fun _ _ _ => False) (own := [("item", 1)]) rfl sc_fixed.nd (yi_wlk rfl (y_var (pv 0))) (blkOk_by (N := ["value", "item"]) (sc := defScope s_fixed) (by decide +kernel)) (by decide) sb_yes (fun _ _ _ _ _ => (yg_name (pg_name (i := 1) sc_fixed.nd rfl (Or.inl rfl)))) (fun _ _ _ _ _ => pts_nil) (fun _ _ _ _ _ => (yn_fz (PE.imp (pe_call ih (hr.mono (by omega)) (by rfl) mgf kp bd .nil passL (ya_cons (y_var (pv 1)) ya_nil)) call_rd))))) ya_nil)) (cb_rd cv_tuple)))) ys_nil) (ys_one (ys_ret (y_var (pv 0)))))
theorem ok__key {f : Addr} {fd : FuncData} (F : Fun C.K "_key" "_key" s__key f fd) (g_int : mg "int" = none) (g_str : mg "str" = none) (g_isinstance : mg "isinstance" = none) (g_tuple : mg "tuple" = none) : FnOk P w C.K mg base (L2.CX P w) 3 f fd ["value"] (spKey C) :=
  F.okX sc__key (fun vs H Q E h => by obtain ⟨_, _, _, _, rfl, _⟩ := h; rfl) fun cdv A0 outer s H vs Q E hr h => ⟨_, pss_cons (ps_if (tc := SB C E kM1) (yt_val rfl (PE.imp (pe_callB cy_isi (by rfl) g_isinstance (by decide +kernel) (ya_cons (y_var (pv 0)) (ya_cons (y_tup (ya_cons (y_cst (pe_bltn (v := .ty "int") (u := .type "int") (by rfl) g_int (by decide +kernel) rfl) fun _ _ => rep_ty.mpr rfl) (ya_cons (y_cst (pe_bltn (v := .ty "str") (u := .type "str") (by rfl) g_str (by decide +kernel) rfl) fun _ _ => rep_ty.mpr rfl) ya_nil))) ya_nil))) (cb_rd cv_isi)) fun _ => rfl) (pss_one (ys_ret (C := C) (E := E) (y_var (pv 0)))) pss_nil) (pss_cons (ps_if (tc := SB C E kM2) (yt_val rfl (PE.imp (pe_callB cy_isi (by rfl) g_isinstance (by decide +kernel) (ya_cons (y_var (pv 0)) (ya_cons (y_cst (pe_bltn (v := .ty "tuple") (u := .type "tuple") (by rfl) g_tuple (by decide +kernel) rfl) fun _ _ => rep_ty.mpr rfl) ya_nil))) (cb_rd cv_isi)) fun _ => rfl) (pss_one (ps_ret (pe_callTy call_tuple_of (by rfl) g_tuple (by decide +kernel) (pa_cons (te := SE C E kML) (y_new (y_lc (E0 := fun _ _ _ => False) (own := [("item", 1)]) rfl sc__key.nd (yi_seq rfl (y_var (pv 0))) (blkOk_by (N := ["value", "item"]) (sc := defScope s__key) (by decide +kernel)) (by decide) (fun _ _ _ h => h) (fun _ _ _ _ _ => (yg_name (pg_name (i := 1) sc__key.nd rfl (Or.inl rfl)))) (fun _ _ _ _ _ => pts_one (yt_val rfl (PE.imp (pe_callB cy_isi (by rfl) g_isinstance (by decide +kernel) (ya_cons (y_var (pv 1)) (ya_cons (y_tup (ya_cons (y_cst (pe_bltn (v := .ty "int") (u := .type "int") (by rfl) g_int (by decide +kernel) rfl) fun _ _ => rep_ty.mpr rfl) (ya_cons (y_cst (pe_bltn (v := .ty "str") (u := .type "str") (by rfl) g_str (by decide +kernel) rfl) fun _ _ => rep_ty.mpr rfl) ya_nil))) ya_nil))) (cb_rd cv_isi)) fun _ => rfl)) (fun _ _ _ _ _ => (yn_fz (y_var (pv 1)))))) pa_nil)))) pss_nil) (pss_one (ys_ret (C := C) (E := E) y_non))), key_rd rfl h⟩
theorem ok_first_twice {f : Addr} {fd : FuncData} (F : Fun C.K "first_twice" "first_twice" s_first_twice f fd) (d_fixed : Df P w C mg base "fixed" 6 ["value"] [] (spF C 1 2 b_fixed)) (d__key : Df P w C mg base "_key" 3 ["value"] [] (spKey C)) : FnOk P w C.K mg base (L2.CX P w) 7 f fd ["values"] (spF C 1 4 b_first_twice) :=
  y_fn (C := C) (k := 6) F sc_first_twice (by decide) fun cdv A outer s H E hr => (ys_cons (ys_newT (ps_set (i := 1) sc_first_twice.nd rfl (Or.inl rfl) yn_dit0)) (ys_cons (ys_for (ps_for (passes_of rfl) rfl (yi_seq rfl (PE.imp (pe_call d_fixed.ok (hr.mono (by decide)) (by rfl) d_fixed.mgf d_fixed.kp d_fixed.b .nil (passes_call (takes_of rfl rfl rfl rfl) fun _ _ _ _ h => h) (ya_cons (y_var (pv 0)) ya_nil)) call_rd)) (yg_name (pg_name (i := 2) sc_first_twice.nd rfl (Or.inl rfl))) (ys_first (pss_cons (ps_set (i := 3) sc_first_twice.nd rfl (Or.inl rfl) (pe_dsetd2 (room1 hr) (pv 1) (PE.imp (pe_call d__key.ok (hr.mono (by decide)) (by rfl) d__key.mgf d__key.kp d__key.b .nil (passes_call (takes_of rfl rfl rfl rfl) fun _ _ _ _ h => h) (ya_cons (y_var (pv 2)) ya_nil)) key_call) (pe_lst pa_nil) ⟨rfl, rfl, rfl, rfl⟩)) (pss_cons (ps_if (pt_cmpR (op_inD (room65 hr)) (pv 2) (pv 3) rfl) (pss_one (ps_ret (pv 2))) pss_nil) (pss_one (ps_expr (pe_bm PySem.F.plainAttrs_list PySem.F.slot_list_append PySem.F.type_list_append mt_append (pv 3) (pa_cons (pv 2) pa_nil))))))))) (ys_one (ys_ret y_non))))
theorem ok_is_colour {f : Addr} {fd : FuncData} (F : Fun C.K "is_colour" "is_colour" s_is_colour f fd) (g_str : mg "str" = none) (g_isinstance : mg "isinstance" = none) (n_COLOURS : ∃ a, mg "COLOURS" = some (.ref a) ∧ Z.KT C.K a (([("a" : Str), ("b" : Str), ("c" : Str), ("d" : Str)] : List Str).map V.str)) : FnOk P w C.K mg base (L2.CX P w) 3 f fd ["value"] (spF C 1 1 b_is_colour) :=
  y_fn (C := C) (k := 2) F sc_is_colour (by decide) fun cdv A outer s H E hr => (ys_one (ys_ret (y_and (PE.imp (pe_callB cy_isi (by rfl) g_isinstance (by decide +kernel) (ya_cons (y_var (pv 0)) (ya_cons (y_cst (pe_bltn (v := .ty "str") (u := .type "str") (by rfl) g_str (by decide +kernel) rfl) fun _ _ => rep_ty.mpr rfl) ya_nil))) (cb_rd cv_isi)) (y_one (y_cmp op_in_seq ov_in (y_var (pv 0)) (y_gtxt (by rfl) n_COLOURS) rfl)))))
theorem ok_need_colour {f : Addr} {fd : FuncData} (F : Fun C.K "need_colour" "need_colour" s_need_colour f fd) (d_is_colour : Df P w C mg base "is_colour" 3 ["value"] [] (spF C 1 1 b_is_colour)) : FnOk P w C.K mg base (L2.CX P w) 4 f fd ["value", "part"] (spF C 2 2 b_need_colour) :=
  y_fn (C := C) (k := 3) F sc_need_colour (by decide) fun cdv A outer s H E hr => (ys_one (ys_if (yt_not (yt_val rfl (PE.imp (pe_call d_is_colour.ok (hr.mono (by decide)) (by rfl) d_is_colour.mgf d_is_colour.kp d_is_colour.b .nil (passes_call (takes_of rfl rfl rfl rfl) fun _ _ _ _ h => h) (ya_cons (y_var (pv 0)) ya_nil)) call_rd) fun _ => rfl)) (ys_one ys_bad) ys_nil))
theorem ok_need_place {f : Addr} {fd : FuncData} (F : Fun C.K "need_place" "need_place" s_need_place f fd) (d_is_within : Df P w C mg base "is_within" 4 ["value", "least", "most"] [] (spF C 3 3 b_is_within)) : FnOk P w C.K mg base (L2.CX P w) 5 f fd ["value", "places"] (spF C 2 2 b_need_place) :=
  y_fn (C := C) (k := 4) F sc_need_place (by decide) fun cdv A outer s H E hr => (ys_one (ys_if (yt_not (yt_val rfl (PE.imp (pe_call d_is_within.ok (hr.mono (by decide)) (by rfl) d_is_within.mgf d_is_within.kp d_is_within.b .nil (passes_call (takes_of rfl rfl rfl rfl) fun _ _ _ _ h => h) (ya_cons (y_var (pv 0)) (ya_cons y_int (ya_cons (y_op op_sub ov_sub (y_var (pv 1)) y_int) ya_nil)))) call_rd) fun _ => rfl)) (ys_one ys_bad) ys_nil))
theorem ok__is_triple {f : Addr} {fd : FuncData} (F : Fun C.K "_is_triple" "_is_triple" s__is_triple f fd) (g_list : mg "list" = none) (g_tuple : mg "tuple" = none) (g_isinstance : mg "isinstance" = none) (g_len : mg "len" = none) (d_is_integer : Df P w C mg base "is_integer" 3 ["value"] [] (spF C 1 1 b_is_integer)) (d_is_colour : Df P w C mg base "is_colour" 3 ["value"] [] (spF C 1 1 b_is_colour)) : FnOk P w C.K mg base (L2.CX P w) 4 f fd ["value"] (spF C 1 1 b__is_triple) :=
  y_fn (C := C) (k := 3) F sc__is_triple (by decide) fun cdv A outer s H E hr => (ys_cons (ys_if (PW.pt (yw_or (yt_not (yt_val rfl (PE.imp (pe_callB cy_isi (by rfl) g_isinstance (by decide +kernel) (ya_cons (y_var (pv 0)) (ya_cons (y_tup (ya_cons (y_cst (pe_bltn (v := .ty "list") (u := .type "list") (by rfl) g_list (by decide +kernel) rfl) fun _ _ => rep_ty.mpr rfl) (ya_cons (y_cst (pe_bltn (v := .ty "tuple") (u := .type "tuple") (by rfl) g_tuple (by decide +kernel) rfl) fun _ _ => rep_ty.mpr rfl) ya_nil))) ya_nil))) (cb_rd cv_isi)) fun _ => rfl)) (yw_or1 (yt_cmp (op_neD hr.units) ov_ne (PE.imp (pe_callB cy_len (by rfl) g_len (by decide +kernel) (ya_cons (y_var (pv 0)) ya_nil)) (cb_rd cv_len)) y_int (nomark _))))) (ys_one (ys_ret y_bl)) ys_nil) (ys_one (ys_ret (y_and (PE.imp (pe_call d_is_integer.ok (hr.mono (by decide)) (by rfl) d_is_integer.mgf d_is_integer.kp d_is_integer.b .nil (passes_call (takes_of rfl rfl rfl rfl) fun _ _ _ _ h => h) (ya_cons (y_ix ix_seq ov_ix (y_var (pv 0)) y_int (fun _ _ => rfl)) ya_nil)) call_rd) (y_and (PE.imp (pe_call d_is_integer.ok (hr.mono (by decide)) (by rfl) d_is_integer.mgf d_is_integer.kp d_is_integer.b .nil (passes_call (takes_of rfl rfl rfl rfl) fun _ _ _ _ h => h) (ya_cons (y_ix ix_seq ov_ix (y_var (pv 0)) y_int (fun _ _ => rfl)) ya_nil)) call_rd) (y_one (PE.imp (pe_call d_is_colour.ok (hr.mono (by decide)) (by rfl) d_is_colour.mgf d_is_colour.kp d_is_colour.b .nil (passes_call (takes_of rfl rfl rfl rfl) fun _ _ _ _ h => h) (ya_cons (y_ix ix_seq ov_ix (y_var (pv 0)) y_int (fun _ _ => rfl)) ya_nil)) call_rd)))))))
theorem ok__need_ties {f : Addr} {fd : FuncData} (F : Fun C.K "_need_ties" "_need_ties" s__need_ties f fd) (g_list : mg "list" = none) (g_tuple : mg "tuple" = none) (g_isinstance : mg "isinstance" = none) (g_all : mg "all" = none) (g_min : mg "min" = none) (g_max : mg "max" = none) (d__is_triple : Df P w C mg base "_is_triple" 4 ["value"] [] (spF C 1 1 b__is_triple)) (d_need_place : Df P w C mg base "need_place" 5 ["value", "places"] [] (spF C 2 2 b_need_place)) (d_first_twice : Df P w C mg base "first_twice" 7 ["values"] [] (spF C 1 4 b_first_twice)) : FnOk P w C.K mg base (L2.CX P w) 8 f fd ["places", "ties"] (spF C 2 7 b__need_ties) :=
  y_fn (C := C) (k := 7) F sc__need_ties (by decide) fun cdv A outer s H E hr => (ys_cons (ys_if (PW.pt (yw_or (yt_not (yt_val rfl (PE.imp (pe_callB cy_isi (by rfl) g_isinstance (by decide +kernel) (ya_cons (y_var (pv 1)) (ya_cons (y_tup (ya_cons (y_cst (pe_bltn (v := .ty "list") (u := .type "list") (by rfl) g_list (by decide +kernel) rfl) fun _ _ => rep_ty.mpr rfl) (ya_cons (y_cst (pe_bltn (v := .ty "tuple") (u := .type "tuple") (by rfl) g_tuple (by decide +kernel) rfl) fun _ _ => rep_ty.mpr rfl) ya_nil))) ya_nil))) (cb_rd cv_isi)) fun _ => rfl)) (yw_or1 (yt_not (yt_val rfl (PE.imp (pe_callB (cr_all rfl) (by rfl) g_all (by decide +kernel) (ya_cons (y_new (y_lc (E0 := fun _ _ _ => False) (own := [("tie", 2)]) rfl sc__need_ties.nd (yi_wlk rfl (y_var (pv 1))) (blkOk_by (N := ["places", "ties", "tie", "one", "other", "_", "twice"]) (sc := defScope s__need_ties) (by decide +kernel)) (by decide) sb_yes (fun _ _ _ _ _ => (yg_name (pg_name (i := 2) sc__need_ties.nd rfl (Or.inl rfl)))) (fun _ _ _ _ _ => pts_nil) (fun _ _ _ _ _ => (yn_fz (PE.imp (pe_call d__is_triple.ok (hr.mono (by decide)) (by rfl) d__is_triple.mgf d__is_triple.kp d__is_triple.b .nil passL (ya_cons (y_var (pv 2)) ya_nil)) call_rd))))) ya_nil)) (cb_rd cv_all)) fun _ => rfl))))) (ys_one ys_bad) ys_nil) (ys_cons (ys_for (ps_for (passes_of rfl) rfl (yi_wlk rfl (y_var (pv 1))) (yg_seq rfl (pg_sq rfl (ygs_cons (yg_name (pg_name (i := 3) sc__need_ties.nd rfl (Or.inl rfl))) (ygs_cons (yg_name (pg_name (i := 4) sc__need_ties.nd rfl (Or.inl rfl))) (ygs_cons (yg_name (pg_name (i := 5) sc__need_ties.nd rfl (Or.inl rfl))) ygs_nil (fun a b => pgs_cons a b)) (fun a b => pgs_cons a b)) (fun a b => pgs_cons a b)))) (ys_cons (ys_drop (ps_expr (PE.imp (pe_call d_need_place.ok (hr.mono (by decide)) (by rfl) d_need_place.mgf d_need_place.kp d_need_place.b .nil (passes_call (takes_of rfl rfl rfl rfl) fun _ _ _ _ h => h) (ya_cons (y_var (pv 3)) (ya_cons (y_var (pv 0)) ya_nil))) call_rd))) (ys_one (ys_drop (ps_expr (PE.imp (pe_call d_need_place.ok (hr.mono (by decide)) (by rfl) d_need_place.mgf d_need_place.kp d_need_place.b .nil (passes_call (takes_of rfl rfl rfl rfl) fun _ _ _ _ h => h) (ya_cons (y_var (pv 4)) (ya_cons (y_var (pv 0)) ya_nil))) call_rd))))))) (ys_cons (ys_for (ps_for (passes_of rfl) rfl (yi_wlk rfl (y_var (pv 1))) (yg_seq rfl (pg_sq rfl (ygs_cons (yg_name (pg_name (i := 3) sc__need_ties.nd rfl (Or.inl rfl))) (ygs_cons (yg_name (pg_name (i := 4) sc__need_ties.nd rfl (Or.inl rfl))) (ygs_cons (yg_name (pg_name (i := 5) sc__need_ties.nd rfl (Or.inl rfl))) ygs_nil (fun a b => pgs_cons a b)) (fun a b => pgs_cons a b)) (fun a b => pgs_cons a b)))) (ys_one (ys_if (yt_cmp (op_eqD hr.units) ov_eq (y_var (pv 3)) (y_var (pv 4)) (nomark _)) (ys_one ys_bad) ys_nil)))) (ys_cons (ys_asg (ps_set (i := 6) sc__need_ties.nd rfl (Or.inl rfl) (PE.imp (pe_call d_first_twice.ok (hr.mono (by decide)) (by rfl) d_first_twice.mgf d_first_twice.kp d_first_twice.b .nil (passes_call (takes_of rfl rfl rfl rfl) fun _ _ _ _ h => h) (ya_cons (y_new (y_lc (E0 := fun _ _ _ => False) (own := [("one", 3), ("other", 4), ("_", 5)]) rfl sc__need_ties.nd (yi_wlk rfl (y_var (pv 1))) (blkOk_by (N := ["places", "ties", "tie", "one", "other", "_", "twice"]) (sc := defScope s__need_ties) (by decide +kernel)) (by decide) sb_yes (fun _ _ _ _ _ => (yg_seq rfl (pg_sq rfl (ygs_cons (yg_name (pg_name (i := 3) sc__need_ties.nd rfl (Or.inl rfl))) (ygs_cons (yg_name (pg_name (i := 4) sc__need_ties.nd rfl (Or.inl rfl))) (ygs_cons (yg_name (pg_name (i := 5) sc__need_ties.nd rfl (Or.inl rfl))) ygs_nil (fun a b => pgs_cons a b)) (fun a b => pgs_cons a b)) (fun a b => pgs_cons a b))))) (fun _ _ _ _ _ => pts_nil) (fun _ _ _ _ _ => (yn_fz (y_tup (ya_cons (PE.imp (pe_callB (call_min2 rfl) (by rfl) g_min (by decide +kernel) (ya_cons (y_var (pv 3)) (ya_cons (y_var (pv 4)) ya_nil))) (cb_rd cv_min2)) (ya_cons (PE.imp (pe_callB (call_max2 rfl) (by rfl) g_max (by decide +kernel) (ya_cons (y_var (pv 3)) (ya_cons (y_var (pv 4)) ya_nil))) (cb_rd cv_max2)) ya_nil))))))) ya_nil)) call_rd))) (ys_one (ys_if (yt_cmp op_notN1 ov_isnotN (y_var (pv 6)) y_non (nomark _)) (ys_one ys_bad) ys_nil))))))
theorem ok__neighbours {f : Addr} {fd : FuncData} (F : Fun C.K "_neighbours" "_neighbours" s__neighbours f fd) (g_range : mg "range" = none) (g_sorted : mg "sorted" = none) (g_tuple : mg "tuple" = none) (n_COLOURS : ∃ a, mg "COLOURS" = some (.ref a) ∧ Z.KT C.K a (([("a" : Str), ("b" : Str), ("c" : Str), ("d" : Str)] : List Str).map V.str)) : FnOk P w C.K mg base (L2.CX P w) 3 f fd ["places", "ties"] (spF C 2 8 b__neighbours) :=
  y_fn (C := C) (k := 2) F sc__neighbours (by decide) fun cdv A outer s H E hr => (ys_cons (ys_newT (ps_set (i := 2) sc__neighbours.nd rfl (Or.inr rfl) (y_dc (E0 := fun _ _ _ => False) (own := [("colour", 4)]) rfl sc__neighbours.nd (yi_wlk rfl (y_gtxt (by rfl) n_COLOURS)) (blkOk_by (N := ["places", "ties", "near", "_", "colour", "one", "other", "lot"]) (sc := defScope s__neighbours) (by decide +kernel)) (by decide) sb_yes (fun _ _ _ _ _ => (yg_name (pg_name (i := 4) sc__neighbours.nd rfl (Or.inl rfl)))) (fun _ _ _ _ _ => pts_nil) (fun _ _ _ _ _ => (y_var (pv 4))) (fun _ _ _ _ _ => (y_lc (E0 := fun _ _ _ => False) (own := [("_", 3)]) rfl sc__neighbours.nd (yi_rng1 (pi_range1 (by rfl) g_range (ya_cons (y_var (pv 0)) ya_nil))) (blkOk_by (N := ["places", "ties", "near", "_", "colour", "one", "other", "lot"]) (by rfl)) (by decide) sb_yes (fun _ _ _ _ _ => (yg_name (pg_name (i := 3) sc__neighbours.nd rfl (Or.inl rfl)))) (fun _ _ _ _ _ => pts_nil) (fun _ _ _ _ _ => (yf_lst ya_nil))))))) (ys_cons (ys_for (ps_for (passes_of rfl) rfl (yi_wlk rfl (y_var (pv 1))) (yg_seq rfl (pg_sq rfl (ygs_cons (yg_name (pg_name (i := 5) sc__neighbours.nd rfl (Or.inl rfl))) (ygs_cons (yg_name (pg_name (i := 6) sc__neighbours.nd rfl (Or.inl rfl))) (ygs_cons (yg_name (pg_name (i := 4) sc__neighbours.nd rfl (Or.inl rfl))) ygs_nil (fun a b => pgs_cons a b)) (fun a b => pgs_cons a b)) (fun a b => pgs_cons a b)))) (ys_cons (ys_app2 (ps_expr (pe_bm PySem.F.plainAttrs_list PySem.F.slot_list_append PySem.F.type_list_append mt_append (pe_ix ix_seq (pe_dget (room1 hr) (pv 2) (pv 4) (fun _ _ => rfl)) (pv 5) (fun _ _ => rfl)) (pa_cons (pv 6) pa_nil)))) (ys_one (ys_app2 (ps_expr (pe_bm PySem.F.plainAttrs_list PySem.F.slot_list_append PySem.F.type_list_append mt_append (pe_ix ix_seq (pe_dget (room1 hr) (pv 2) (pv 4) (fun _ _ => rfl)) (pv 6) (fun _ _ => rfl)) (pa_cons (pv 5) pa_nil)))))))) (ys_melt (ys_one (ys_ret (y_newN (y_dc (E0 := fun _ _ _ => False) (own := [("colour", 4)]) rfl sc__neighbours.nd (yi_wlk rfl (y_gtxt (by rfl) n_COLOURS)) (blkOk_by (N := ["places", "ties", "near", "_", "colour", "one", "other", "lot"]) (sc := defScope s__neighbours) (by decide +kernel)) (by decide) sb_yes (fun _ _ _ _ _ => (yg_name (pg_name (i := 4) sc__neighbours.nd rfl (Or.inl rfl)))) (fun _ _ _ _ _ => pts_nil) (fun _ _ _ _ _ => (y_var (pv 4))) (fun _ _ _ _ _ => (yn_fz (y_new (y_lc (E0 := fun _ _ _ => False) (own := [("lot", 7)]) rfl sc__neighbours.nd (yi_wlk rfl (y_dget (room1 hr) (y_var (pv 2)) (y_var (pv 4)) (fun _ _ => rfl))) (blkOk_by (N := ["places", "ties", "near", "_", "colour", "one", "other", "lot"]) (by rfl)) (by decide) sb_yes (fun _ _ _ _ _ => (yg_name (pg_name (i := 7) sc__neighbours.nd rfl (Or.inl rfl)))) (fun _ _ _ _ _ => pts_nil) (fun _ _ _ _ _ => (yn_fz (PE.imp (pe_callTy call_tuple_of (by rfl) g_tuple (by decide +kernel) (ya_cons (y_new (PE.imp (pe_callB cr_sortedI (by rfl) g_sorted (by decide +kernel) (ya_cons (y_var (pv 7)) ya_nil)) (cf_rd cf_sortI))) ya_nil)) (cb_rd cv_tuple)))))))))))))))
theorem ok__parts {f : Addr} {fd : FuncData} (F : Fun C.K "_parts" "_parts" s__parts f fd) (g_list : mg "list" = none) (g_range : mg "range" = none) (g_min : mg "min" = none) (g_max : mg "max" = none) (g_sorted : mg "sorted" = none) (g_set : mg "set" = none) (g_tuple : mg "tuple" = none) : FnOk P w C.K mg base (L2.CX P w) 3 f fd ["places", "ties"] (spF C 2 10 b__parts) :=
  y_fn (C := C) (k := 2) F sc__parts (by decide) fun cdv A outer s H E hr => (ys_cons (ys_asg (ps_set (i := 2) sc__parts.nd rfl (Or.inr rfl) (y_new (yf_lrg (pe_listRg rfl (by rfl) g_list (prg_1 (by rfl) g_range (y_var (pv 0)))))))) (ys_cons (ys_for (ps_for (passes_of rfl) rfl (yi_wlk rfl (y_var (pv 1))) (yg_seq rfl (pg_sq rfl (ygs_cons (yg_name (pg_name (i := 3) sc__parts.nd rfl (Or.inl rfl))) (ygs_cons (yg_name (pg_name (i := 4) sc__parts.nd rfl (Or.inl rfl))) (ygs_cons (yg_name (pg_name (i := 5) sc__parts.nd rfl (Or.inl rfl))) ygs_nil (fun a b => pgs_cons a b)) (fun a b => pgs_cons a b)) (fun a b => pgs_cons a b)))) (ys_cons (ys_asgT (ps_asg (y_tup (ya_cons (PE.imp (pe_callB (call_min2 rfl) (by rfl) g_min (by decide +kernel) (ya_cons (y_ix ix_seq ov_ix (y_var (pv 2)) (y_var (pv 3)) (fun _ _ => rfl)) (ya_cons (y_ix ix_seq ov_ix (y_var (pv 2)) (y_var (pv 4)) (fun _ _ => rfl)) ya_nil))) (cb_rd cv_min2)) (ya_cons (PE.imp (pe_callB (call_max2 rfl) (by rfl) g_max (by decide +kernel) (ya_cons (y_ix ix_seq ov_ix (y_var (pv 2)) (y_var (pv 3)) (fun _ _ => rfl)) (ya_cons (y_ix ix_seq ov_ix (y_var (pv 2)) (y_var (pv 4)) (fun _ _ => rfl)) ya_nil))) (cb_rd cv_max2)) ya_nil))) (yg_seq rfl (pg_sq rfl (ygs_cons (yg_name (pg_name (i := 6) sc__parts.nd rfl (Or.inr rfl))) (ygs_cons (yg_name (pg_name (i := 7) sc__parts.nd rfl (Or.inr rfl))) ygs_nil (fun a b => pgs_cons a b)) (fun a b => pgs_cons a b)))))) (ys_one (ys_asg (ps_set (i := 2) sc__parts.nd rfl (Or.inr rfl) (y_new (y_lc (E0 := fun _ _ _ => False) (own := [("least", 8)]) rfl sc__parts.nd (yi_wlk rfl (y_var (pv 2))) (blkOk_by (N := ["places", "ties", "leasts", "one", "other", "_", "low", "high", "least", "place"]) (sc := defScope s__parts) (by decide +kernel)) (by decide) sb_yes (fun _ _ _ _ _ => (yg_name (pg_name (i := 8) sc__parts.nd rfl (Or.inl rfl)))) (fun _ _ _ _ _ => pts_nil) (fun _ _ _ _ _ => (yn_fz (y_if (yt_cmp (op_eqD hr.units) ov_eq (y_var (pv 8)) (y_var (pv 7)) (nomark _)) (y_var (pv 6)) (y_var (pv 8))))))))))))) (ys_one (ys_ret (PE.imp (pe_callTy call_tuple_of (by rfl) g_tuple (by decide +kernel) (ya_cons (y_new (y_lc (E0 := fun _ _ _ => False) (own := [("least", 8)]) rfl sc__parts.nd (yi_wlk rfl (y_new (yf_sset rfl (pe_callB (cr_sortedSet rfl) (by rfl) g_sorted (by decide +kernel) (pa_cons (pe_callTy (cr_setI rfl) (by rfl) g_set (by decide +kernel) (pa_cons (y_var (pv 2)) pa_nil)) pa_nil))))) (blkOk_by (N := ["places", "ties", "leasts", "one", "other", "_", "low", "high", "least", "place"]) (sc := defScope s__parts) (by decide +kernel)) (by decide) sb_yes (fun _ _ _ _ _ => (yg_name (pg_name (i := 8) sc__parts.nd rfl (Or.inr rfl)))) (fun _ _ _ _ _ => pts_nil) (fun _ _ _ _ _ => (yn_fz (PE.imp (pe_callTy call_tuple_of (by rfl) g_tuple (by decide +kernel) (ya_cons (y_new (y_lc (E0 := fun _ _ _ => False) (own := [("place", 9)]) rfl sc__parts.nd (yi_rng1 (pi_range1 (by rfl) g_range (ya_cons (y_var (pv 0)) ya_nil))) (blkOk_by (N := ["places", "ties", "leasts", "one", "other", "_", "low", "high", "least", "place"]) (by rfl)) (by decide) (fun _ _ _ h => h) (fun _ _ _ _ _ => (yg_name (pg_name (i := 9) sc__parts.nd rfl (Or.inl rfl)))) (fun _ _ _ _ _ => pts_one (yt_cmp (op_eqD hr.units) ov_eq (y_ix ix_seq ov_ix (y_var (pv 2)) (y_var (pv 9)) (fun _ _ => rfl)) (y_var (pv 8)) (nomark _))) (fun _ _ _ _ _ => (yn_fz (y_var (pv 9)))))) ya_nil)) (cb_rd cv_tuple)))))) ya_nil)) (cb_rd cv_tuple))))))
theorem ok_Web___init__ {f : Addr} {fd : FuncData} (F : Fun C.K "__init__" "Web.__init__" s_Web___init__ f fd) (g_min : mg "min" = none) (g_max : mg "max" = none) (g_sorted : mg "sorted" = none) (g_tuple : mg "tuple" = none) (k_Web : ClsF C mg "Web" 10 ["places", "ties", "parts", "_near"]) (d_is_within : Df P w C mg base "is_within" 4 ["value", "least", "most"] [] (spF C 3 3 b_is_within)) (d__need_ties : Df P w C mg base "_need_ties" 8 ["places", "ties"] [] (spF C 2 7 b__need_ties)) (d__parts : Df P w C mg base "_parts" 3 ["places", "ties"] [] (spF C 2 10 b__parts)) (d__neighbours : Df P w C mg base "_neighbours" 3 ["places", "ties"] [] (spF C 2 8 b__neighbours)) (n_MOST_PLACES : ∃ t, mg "MOST_PLACES" = some (.int 24 t)) : FnOk P w C.K mg base (L2.CX P w) 9 f fd ["self", "places", "ties"] (spF C 3 6 b_Web___init__) :=
  y_fn (C := C) (k := 8) F sc_Web___init__ (by decide) fun cdv A outer s H E hr => (ys_cons (ys_if (yt_not (yt_val rfl (PE.imp (pe_call d_is_within.ok (hr.mono (by decide)) (by rfl) d_is_within.mgf d_is_within.kp d_is_within.b .nil (passes_call (takes_of rfl rfl rfl rfl) fun _ _ _ _ h => h) (ya_cons (y_var (pv 1)) (ya_cons y_int (ya_cons (y_gint (by rfl) n_MOST_PLACES) ya_nil)))) call_rd) fun _ => rfl)) (ys_one ys_bad) ys_nil) (ys_cons (ys_drop (ps_expr (PE.imp (pe_call d__need_ties.ok (hr.mono (by decide)) (by rfl) d__need_ties.mgf d__need_ties.kp d__need_ties.b .nil (passes_call (takes_of rfl rfl rfl rfl) fun _ _ _ _ h => h) (ya_cons (y_var (pv 1)) (ya_cons (y_var (pv 2)) ya_nil))) call_rd))) (ys_cons (ys_setF rfl k_Web.cl (k_Web.na _ (by decide)) (ps_fld (pv 0) (y_var (pv 1)) (by first | rfl | exact sw2_local rfl rfl rfl))) (ys_cons (ys_setF rfl k_Web.cl (k_Web.na _ (by decide)) (ps_fld (pv 0) (PE.imp (pe_callTy call_tuple_of (by rfl) g_tuple (by decide +kernel) (ya_cons (y_new (PE.imp (pe_callB (cr_sort3 (shape := (fun i => i == 2))) (by rfl) g_sorted (by decide +kernel) (ya_cons (y_new (y_lc (E0 := fun _ _ _ => False) (own := [("one", 3), ("other", 4), ("colour", 5)]) rfl sc_Web___init__.nd (yi_wlk rfl (y_var (pv 2))) (blkOk_by (N := ["self", "places", "ties", "one", "other", "colour"]) (sc := defScope s_Web___init__) (by decide +kernel)) (by decide) sb_yes (fun _ _ _ _ _ => (yg_seq rfl (pg_sq rfl (ygs_cons (yg_name (pg_name (i := 3) sc_Web___init__.nd rfl (Or.inl rfl))) (ygs_cons (yg_name (pg_name (i := 4) sc_Web___init__.nd rfl (Or.inl rfl))) (ygs_cons (yg_name (pg_name (i := 5) sc_Web___init__.nd rfl (Or.inl rfl))) ygs_nil (fun a b => pgs_cons a b)) (fun a b => pgs_cons a b)) (fun a b => pgs_cons a b))))) (fun _ _ _ _ _ => pts_nil) (fun _ _ _ _ _ => (yn_fz (y_tup (ya_cons (PE.imp (pe_callB (call_min2 rfl) (by rfl) g_min (by decide +kernel) (ya_cons (y_var (pv 3)) (ya_cons (y_var (pv 4)) ya_nil))) (cb_rd cv_min2)) (ya_cons (PE.imp (pe_callB (call_max2 rfl) (by rfl) g_max (by decide +kernel) (ya_cons (y_var (pv 3)) (ya_cons (y_var (pv 4)) ya_nil))) (cb_rd cv_max2)) (ya_cons (y_var (pv 5)) ya_nil)))))))) ya_nil)) (cf_rd cf_sort3))) ya_nil)) (cb_rd cv_tuple)) (by first | rfl | exact sw2_local rfl rfl rfl))) (ys_cons (ys_setF rfl k_Web.cl (k_Web.na _ (by decide)) (ps_fld (pv 0) (PE.imp (pe_call d__parts.ok (hr.mono (by decide)) (by rfl) d__parts.mgf d__parts.kp d__parts.b .nil (passes_call (takes_of rfl rfl rfl rfl) fun _ _ _ _ h => h) (ya_cons (y_var (pv 1)) (ya_cons (y_fldO rfl k_Web.cl (k_Web.na _ (by decide)) (pv 0)) ya_nil))) call_rd) (by first | rfl | exact sw2_local rfl rfl rfl))) (ys_one (ys_setF rfl k_Web.cl (k_Web.na _ (by decide)) (ps_fld (pv 0) (PE.imp (pe_call d__neighbours.ok (hr.mono (by decide)) (by rfl) d__neighbours.mgf d__neighbours.kp d__neighbours.b .nil (passes_call (takes_of rfl rfl rfl rfl) fun _ _ _ _ h => h) (ya_cons (y_var (pv 1)) (ya_cons (y_fldO rfl k_Web.cl (k_Web.na _ (by decide)) (pv 0)) ya_nil))) call_rd) (by first | rfl | exact sw2_local rfl rfl rfl)))))))))
theorem ok_Web_neighbours {f : Addr} {fd : FuncData} (F : Fun C.K "neighbours" "Web.neighbours" s_Web_neighbours f fd) (k_Web : ClsF C mg "Web" 10 ["places", "ties", "parts", "_near"]) (d_need_place : Df P w C mg base "need_place" 5 ["value", "places"] [] (spF C 2 2 b_need_place)) (d_need_colour : Df P w C mg base "need_colour" 4 ["value", "part"] [] (spF C 2 2 b_need_colour)) : FnOk P w C.K mg base (L2.CX P w) 6 f fd ["self", "place", "colour"] (spF C 3 3 b_Web_neighbours) :=
  y_fn (C := C) (k := 5) F sc_Web_neighbours (by decide) fun cdv A outer s H E hr => (ys_cons (ys_drop (ps_expr (PE.imp (pe_call d_need_place.ok (hr.mono (by decide)) (by rfl) d_need_place.mgf d_need_place.kp d_need_place.b .nil (passes_call (takes_of rfl rfl rfl rfl) fun _ _ _ _ h => h) (ya_cons (y_var (pv 1)) (ya_cons (y_fld rfl k_Web.cl (k_Web.na _ (by decide)) (y_var (pv 0))) ya_nil))) call_rd))) (ys_cons (ys_drop (ps_expr (PE.imp (pe_call d_need_colour.ok (hr.mono (by decide)) (by rfl) d_need_colour.mgf d_need_colour.kp d_need_colour.b .nil (passes_call (takes_of rfl rfl rfl rfl) fun _ _ _ _ h => h) (ya_cons (y_var (pv 2)) (ya_cons y_str ya_nil))) call_rd))) (ys_one (ys_ret (y_ix ix_seq ov_ix (y_dget (room1 hr) (y_fld rfl k_Web.cl (k_Web.na _ (by decide)) (y_var (pv 0))) (y_var (pv 2)) (fun _ _ => rfl)) (y_var (pv 1)) (fun _ _ => rfl))))))
theorem ok_Web_degree {f : Addr} {fd : FuncData} (F : Fun C.K "degree" "Web.degree" s_Web_degree f fd) (g_len : mg "len" = none) (k_Web : ClsF C mg "Web" 10 ["places", "ties", "parts", "_near"]) (d_Web_neighbours : DfM P w C mg base 10 "neighbours" 6 ["self", "place", "colour"] (spF C 3 3 b_Web_neighbours)) : FnOk P w C.K mg base (L2.CX P w) 7 f fd ["self", "place", "colour"] (spF C 3 3 b_Web_degree) :=
  y_fn (C := C) (k := 6) F sc_Web_degree (by decide) fun cdv A outer s H E hr => (ys_one (ys_ret (PE.imp (pe_callB cy_len (by rfl) g_len (by decide +kernel) (ya_cons (PE.imp (pe_meth (y_var (pv 0)) k_Web.cl d_Web_neighbours.me d_Web_neighbours.ok (hr.mono (by decide)) d_Web_neighbours.b .nil (passes_call (takes_of rfl rfl rfl rfl) fun _ _ _ _ h => h) (ya_cons (y_var (pv 1)) (ya_cons (y_var (pv 2)) ya_nil))) meth_rd) ya_nil)) (cb_rd cv_len))))
theorem ok_put_ahead {f : Addr} {fd : FuncData} (F : Fun C.K "put_ahead" "put_ahead" s_put_ahead f fd) (g_range : mg "range" = none) (g_sum : mg "sum" = none) (k_Web : ClsF C mg "Web" 10 ["places", "ties", "parts", "_near"]) (d_Web_neighbours : DfM P w C mg base 10 "neighbours" 6 ["self", "place", "colour"] (spF C 3 3 b_Web_neighbours)) (d_Web_degree : DfM P w C mg base 10 "degree" 7 ["self", "place", "colour"] (spF C 3 3 b_Web_degree)) : FnOk P w C.K mg base (L2.CX P w) 8 f fd ["web", "letter", "column"] (spF C 3 7 b_put_ahead) :=
  y_fn (C := C) (k := 7) F sc_put_ahead (by decide) fun cdv A outer s H E hr => (ys_cons (ys_asg (ps_set (i := 3) sc_put_ahead.nd rfl (Or.inr rfl) (y_lower (y_var (pv 1))))) (ys_cons (ys_asg (ps_set (i := 4) sc_put_ahead.nd rfl (Or.inl rfl) (PE.imp (pe_callTy cr_rg1 (by rfl) g_range (by decide +kernel) (ya_cons (y_fld rfl k_Web.cl (k_Web.na _ (by decide)) (y_var (pv 0))) ya_nil)) (cb_rd cv_rg1)))) (ys_cons (ys_if (yt_cmp (op_eqD hr.units) ov_eq (y_var (pv 1)) (y_var (pv 3)) (nomark _)) (ys_one (ys_ret (y_new (y_lc (E0 := fun _ _ _ => False) (own := [("place", 6)]) rfl sc_put_ahead.nd (yi_wlk rfl (y_var (pv 4))) (blkOk_by (N := ["web", "letter", "column", "colour", "places", "near", "place"]) (sc := defScope s_put_ahead) (by decide +kernel)) (by decide) sb_yes (fun _ _ _ _ _ => (yg_name (pg_name (i := 6) sc_put_ahead.nd rfl (Or.inl rfl)))) (fun _ _ _ _ _ => pts_nil) (fun _ _ _ _ _ => (yn_fz (PE.imp (pe_callB (cr_sum rfl) (by rfl) g_sum (by decide +kernel) (ya_cons (y_new (y_lc (E0 := fun _ _ _ => False) (own := [("near", 5)]) rfl sc_put_ahead.nd (yi_wlk rfl (PE.imp (pe_meth (y_var (pv 0)) k_Web.cl d_Web_neighbours.me d_Web_neighbours.ok (hr.mono (by decide)) d_Web_neighbours.b .nil passL (ya_cons (y_var (pv 6)) (ya_cons (y_var (pv 3)) ya_nil))) meth_rd)) (blkOk_by (N := ["web", "letter", "column", "colour", "places", "near", "place"]) (by rfl)) (by decide) sb_yes (fun _ _ _ _ _ => (yg_name (pg_name (i := 5) sc_put_ahead.nd rfl (Or.inl rfl)))) (fun _ _ _ _ _ => pts_nil) (fun _ _ _ _ _ => (yn_fz (y_ix ix_seq ov_ix (y_var (pv 2)) (y_var (pv 5)) (fun _ _ => rfl)))))) ya_nil)) (cb_rd cv_sum)))))))) ys_nil) (ys_one (ys_ret (y_new (y_lc (E0 := fun _ _ _ => False) (own := [("place", 6)]) rfl sc_put_ahead.nd (yi_wlk rfl (y_var (pv 4))) (blkOk_by (N := ["web", "letter", "column", "colour", "places", "near", "place"]) (sc := defScope s_put_ahead) (by decide +kernel)) (by decide) sb_yes (fun _ _ _ _ _ => (yg_name (pg_name (i := 6) sc_put_ahead.nd rfl (Or.inl rfl)))) (fun _ _ _ _ _ => pts_nil) (fun _ _ _ _ _ => (yn_fz (y_op oy_mul2 ov_mul2 (PE.imp (pe_meth (y_var (pv 0)) k_Web.cl d_Web_degree.me d_Web_degree.ok (hr.mono (by decide)) d_Web_degree.b .nil passL (ya_cons (y_var (pv 6)) (ya_cons (y_var (pv 3)) ya_nil))) meth_rd) (y_ix ix_seq ov_ix (y_var (pv 2)) (y_var (pv 6)) (fun _ _ => rfl))))))))))))
theorem ok_word_ahead {f : Addr} {fd : FuncData} (F : Fun C.K "word_ahead" "word_ahead" s_word_ahead f fd) (g_reversed : mg "reversed" = none) (d_put_ahead : Df P w C mg base "put_ahead" 8 ["web", "letter", "column"] [] (spF C 3 7 b_put_ahead)) : FnOk P w C.K mg base (L2.CX P w) 9 f fd ["web", "word", "column"] (spF C 3 4 b_word_ahead) :=
  y_fn (C := C) (k := 8) F sc_word_ahead (by decide) fun cdv A outer s H E hr => (ys_cons (ys_for (ps_for (passes_of rfl) rfl (yi_revS (pi_revS (by rfl) g_reversed (y_var (pv 1)))) (yg_name (pg_name (i := 3) sc_word_ahead.nd rfl (Or.inl rfl))) (ys_one (ys_asg (ps_set (i := 2) sc_word_ahead.nd rfl (Or.inl rfl) (PE.imp (pe_call d_put_ahead.ok (hr.mono (by decide)) (by rfl) d_put_ahead.mgf d_put_ahead.kp d_put_ahead.b .nil (passes_call (takes_of rfl rfl rfl rfl) fun _ _ _ _ h => h) (ya_cons (y_var (pv 0)) (ya_cons (y_var (pv 3)) (ya_cons (y_var (pv 2)) ya_nil)))) call_rd)))))) (ys_one (ys_ret (y_var (pv 2)))))
theorem ok_column_of {f : Addr} {fd : FuncData} (F : Fun C.K "column_of" "column_of" s_column_of f fd) (k_Web : ClsF C mg "Web" 10 ["places", "ties", "parts", "_near"]) (d_word_ahead : Df P w C mg base "word_ahead" 9 ["web", "word", "column"] [] (spF C 3 4 b_word_ahead)) : FnOk P w C.K mg base (L2.CX P w) 10 f fd ["web", "word"] (spF C 2 2 b_column_of) :=
  y_fn (C := C) (k := 9) F sc_column_of (by decide) fun cdv A outer s H E hr => (ys_one (ys_ret (PE.imp (pe_call d_word_ahead.ok (hr.mono (by decide)) (by rfl) d_word_ahead.mgf d_word_ahead.kp d_word_ahead.b .nil (passes_call (takes_of rfl rfl rfl rfl) fun _ _ _ _ h => h) (ya_cons (y_var (pv 0)) (ya_cons (y_var (pv 1)) (ya_cons (y_new (PE.imp (pe_op op_mulL (y_lst (ya_cons y_int ya_nil)) (y_fld rfl k_Web.cl (k_Web.na _ (by decide)) (y_var (pv 0)))) (bf_rd of_mulL))) ya_nil)))) call_rd)))
theorem ok_unit_columns {f : Addr} {fd : FuncData} (F : Fun C.K "unit_columns" "unit_columns" s_unit_columns f fd) (g_range : mg "range" = none) (g_int : mg "int" = none) : FnOk P w C.K mg base (L2.CX P w) 3 f fd ["places"] (spF C 1 3 b_unit_columns) :=
  y_fn (C := C) (k := 2) F sc_unit_columns (by decide) fun cdv A outer s H E hr => (ys_one (ys_ret (y_new (y_lc (E0 := fun _ _ _ => False) (own := [("at", 2)]) rfl sc_unit_columns.nd (yi_rng1 (pi_range1 (by rfl) g_range (ya_cons (y_var (pv 0)) ya_nil))) (blkOk_by (N := ["places", "place", "at"]) (sc := defScope s_unit_columns) (by decide +kernel)) (by decide) sb_yes (fun _ _ _ _ _ => (yg_name (pg_name (i := 2) sc_unit_columns.nd rfl (Or.inr rfl)))) (fun _ _ _ _ _ => pts_nil) (fun _ _ _ _ _ => (yn_fz (y_new (y_lc (E0 := fun _ _ _ => False) (own := [("place", 1)]) rfl sc_unit_columns.nd (yi_rng1 (pi_range1 (by rfl) g_range (ya_cons (y_var (pv 0)) ya_nil))) (blkOk_by (N := ["places", "place", "at"]) (by rfl)) (by decide) sb_yes (fun _ _ _ _ _ => (yg_name (pg_name (i := 1) sc_unit_columns.nd rfl (Or.inl rfl)))) (fun _ _ _ _ _ => pts_nil) (fun _ _ _ _ _ => (yn_fz (PE.imp (pe_callTy call_int1 (by rfl) g_int (by decide +kernel) (ya_cons (y_cmp (op_eqD hr.units) ov_eq (y_var (pv 1)) (y_var (pv 2)) (nomark _)) ya_nil)) (cb_rd cv_int))))))))))))
theorem ok_diagonal_of {f : Addr} {fd : FuncData} (F : Fun C.K "diagonal_of" "diagonal_of" s_diagonal_of f fd) (g_enumerate : mg "enumerate" = none) (g_sum : mg "sum" = none) : FnOk P w C.K mg base (L2.CX P w) 3 f fd ["columns"] (spF C 1 3 b_diagonal_of) :=
  y_fn (C := C) (k := 2) F sc_diagonal_of (by decide) fun cdv A outer s H E hr => (ys_one (ys_ret (PE.imp (pe_callB (cr_sum rfl) (by rfl) g_sum (by decide +kernel) (ya_cons (y_new (y_lc (E0 := fun _ _ _ => False) (own := [("at", 1), ("column", 2)]) rfl sc_diagonal_of.nd (yi_enum rfl (pi_enum (by rfl) g_enumerate (ya_cons (y_var (pv 0)) ya_nil))) (blkOk_by (N := ["columns", "at", "column"]) (sc := defScope s_diagonal_of) (by decide +kernel)) (by decide) sb_yes (fun _ _ _ _ _ => (yg_seq rfl (pg_sq rfl (ygs_cons (yg_name (pg_name (i := 1) sc_diagonal_of.nd rfl (Or.inl rfl))) (ygs_cons (yg_name (pg_name (i := 2) sc_diagonal_of.nd rfl (Or.inl rfl))) ygs_nil (fun a b => pgs_cons a b)) (fun a b => pgs_cons a b))))) (fun _ _ _ _ _ => pts_nil) (fun _ _ _ _ _ => (yn_fz (y_ix ix_seq ov_ix (y_var (pv 2)) (y_var (pv 1)) (fun _ _ => rfl)))))) ya_nil)) (cb_rd cv_sum))))
theorem ok_need_web {f : Addr} {fd : FuncData} (F : Fun C.K "need_web" "need_web" s_need_web f fd) (g_isinstance : mg "isinstance" = none) (k_Web : ClsF C mg "Web" 10 ["places", "ties", "parts", "_near"]) : FnOk P w C.K mg base (L2.CX P w) 3 f fd ["value", "part"] (spF C 2 2 b_need_web) :=
  y_fn (C := C) (k := 2) F sc_need_web (by decide) fun cdv A outer s H E hr => (ys_one (ys_if (yt_not (yt_val rfl (PE.imp (pe_callB (cl_isC rfl k_Web) (by rfl) g_isinstance (by decide +kernel) (ya_cons (y_var (pv 0)) (ya_cons (y_gcls (by rfl) k_Web.mgc) ya_nil))) (cb_rd cv_isiC)) fun _ => rfl)) (ys_one ys_bad) ys_nil))
theorem ok_is_word {f : Addr} {fd : FuncData} (F : Fun C.K "is_word" "is_word" s_is_word f fd) (g_str : mg "str" = none) (g_isinstance : mg "isinstance" = none) (g_len : mg "len" = none) (g_all : mg "all" = none) (n_LETTERS : ∃ a, mg "LETTERS" = some (.ref a) ∧ Z.KT C.K a (([("a" : Str), ("b" : Str), ("c" : Str), ("d" : Str), ("A" : Str), ("B" : Str), ("C" : Str), ("D" : Str)] : List Str).map V.str)) (n_MOST_LETTERS : ∃ t, mg "MOST_LETTERS" = some (.int 80 t)) : FnOk P w C.K mg base (L2.CX P w) 3 f fd ["value"] (spF C 1 2 b_is_word) :=
  y_fn (C := C) (k := 2) F sc_is_word (by decide) fun cdv A outer s H E hr => (ys_one (ys_ret (y_and (PE.imp (pe_callB cy_isi (by rfl) g_isinstance (by decide +kernel) (ya_cons (y_var (pv 0)) (ya_cons (y_cst (pe_bltn (v := .ty "str") (u := .type "str") (by rfl) g_str (by decide +kernel) rfl) fun _ _ => rep_ty.mpr rfl) ya_nil))) (cb_rd cv_isi)) (y_and (y_cmp op_le ov_le (PE.imp (pe_callB cy_len (by rfl) g_len (by decide +kernel) (ya_cons (y_var (pv 0)) ya_nil)) (cb_rd cv_len)) (y_gint (by rfl) n_MOST_LETTERS) (nomark _)) (y_one (PE.imp (pe_callB (cr_all rfl) (by rfl) g_all (by decide +kernel) (ya_cons (y_new (y_lc (E0 := fun _ _ _ => False) (own := [("letter", 1)]) rfl sc_is_word.nd (yi_wlk rfl (y_var (pv 0))) (blkOk_by (N := ["value", "letter"]) (sc := defScope s_is_word) (by decide +kernel)) (by decide) sb_yes (fun _ _ _ _ _ => (yg_name (pg_name (i := 1) sc_is_word.nd rfl (Or.inl rfl)))) (fun _ _ _ _ _ => pts_nil) (fun _ _ _ _ _ => (yn_fz (y_cmp op_in_seq ov_in (y_var (pv 1)) (y_gtxt (by rfl) n_LETTERS) rfl))))) ya_nil)) (cb_rd cv_all)))))))
theorem ok_need_word {f : Addr} {fd : FuncData} (F : Fun C.K "need_word" "need_word" s_need_word f fd) (d_is_word : Df P w C mg base "is_word" 3 ["value"] [] (spF C 1 2 b_is_word)) : FnOk P w C.K mg base (L2.CX P w) 4 f fd ["value"] (spF C 1 1 b_need_word) :=
  y_fn (C := C) (k := 3) F sc_need_word (by decide) fun cdv A outer s H E hr => (ys_one (ys_if (yt_not (yt_val rfl (PE.imp (pe_call d_is_word.ok (hr.mono (by decide)) (by rfl) d_is_word.mgf d_is_word.kp d_is_word.b .nil (passes_call (takes_of rfl rfl rfl rfl) fun _ _ _ _ h => h) (ya_cons (y_var (pv 0)) ya_nil)) call_rd) fun _ => rfl)) (ys_one ys_bad) ys_nil))
theorem ok__need_web_and_word {f : Addr} {fd : FuncData} (F : Fun C.K "_need_web_and_word" "_need_web_and_word" s__need_web_and_word f fd) (d_need_web : Df P w C mg base "need_web" 3 ["value", "part"] [] (spF C 2 2 b_need_web)) (d_need_word : Df P w C mg base "need_word" 4 ["value"] [] (spF C 1 1 b_need_word)) : FnOk P w C.K mg base (L2.CX P w) 5 f fd ["web", "word"] (spF C 2 2 b__need_web_and_word) :=
  y_fn (C := C) (k := 4) F sc__need_web_and_word (by decide) fun cdv A outer s H E hr => (ys_cons (ys_drop (ps_expr (PE.imp (pe_call d_need_web.ok (hr.mono (by decide)) (by rfl) d_need_web.mgf d_need_web.kp d_need_web.b .nil (passes_call (takes_of rfl rfl rfl rfl) fun _ _ _ _ h => h) (ya_cons (y_var (pv 0)) (ya_cons y_str ya_nil))) call_rd))) (ys_one (ys_drop (ps_expr (PE.imp (pe_call d_need_word.ok (hr.mono (by decide)) (by rfl) d_need_word.mgf d_need_word.kp d_need_word.b .nil (passes_call (takes_of rfl rfl rfl rfl) fun _ _ _ _ h => h) (ya_cons (y_var (pv 1)) ya_nil)) call_rd)))))
theorem ok_sum_of {f : Addr} {fd : FuncData} (F : Fun C.K "sum_of" "sum_of" s_sum_of f fd) (g_sum : mg "sum" = none) (d__need_web_and_word : Df P w C mg base "_need_web_and_word" 5 ["web", "word"] [] (spF C 2 2 b__need_web_and_word)) (d_column_of : Df P w C mg base "column_of" 10 ["web", "word"] [] (spF C 2 2 b_column_of)) : FnOk P w C.K mg base (L2.CX P w) 11 f fd ["web", "word"] (spF C 2 2 b_sum_of) :=
  y_fn (C := C) (k := 10) F sc_sum_of (by decide) fun cdv A outer s H E hr => (ys_cons (ys_drop (ps_expr (PE.imp (pe_call d__need_web_and_word.ok (hr.mono (by decide)) (by rfl) d__need_web_and_word.mgf d__need_web_and_word.kp d__need_web_and_word.b .nil (passes_call (takes_of rfl rfl rfl rfl) fun _ _ _ _ h => h) (ya_cons (y_var (pv 0)) (ya_cons (y_var (pv 1)) ya_nil))) call_rd))) (ys_one (ys_ret (PE.imp (pe_callB (cr_sum rfl) (by rfl) g_sum (by decide +kernel) (ya_cons (PE.imp (pe_call d_column_of.ok (hr.mono (by decide)) (by rfl) d_column_of.mgf d_column_of.kp d_column_of.b .nil (passes_call (takes_of rfl rfl rfl rfl) fun _ _ _ _ h => h) (ya_cons (y_var (pv 0)) (ya_cons (y_var (pv 1)) ya_nil))) call_rd) ya_nil)) (cb_rd cv_sum)))))
theorem ok_trace_of {f : Addr} {fd : FuncData} (F : Fun C.K "trace_of" "trace_of" s_trace_of f fd) (k_Web : ClsF C mg "Web" 10 ["places", "ties", "parts", "_near"]) (d__need_web_and_word : Df P w C mg base "_need_web_and_word" 5 ["web", "word"] [] (spF C 2 2 b__need_web_and_word)) (d_diagonal_of : Df P w C mg base "diagonal_of" 3 ["columns"] [] (spF C 1 3 b_diagonal_of)) (d_unit_columns : Df P w C mg base "unit_columns" 3 ["places"] [] (spF C 1 3 b_unit_columns)) (d_word_ahead : Df P w C mg base "word_ahead" 9 ["web", "word", "column"] [] (spF C 3 4 b_word_ahead)) : FnOk P w C.K mg base (L2.CX P w) 10 f fd ["web", "word"] (spF C 2 3 b_trace_of) :=
  y_fn (C := C) (k := 9) F sc_trace_of (by decide) fun cdv A outer s H E hr => (ys_cons (ys_drop (ps_expr (PE.imp (pe_call d__need_web_and_word.ok (hr.mono (by decide)) (by rfl) d__need_web_and_word.mgf d__need_web_and_word.kp d__need_web_and_word.b .nil (passes_call (takes_of rfl rfl rfl rfl) fun _ _ _ _ h => h) (ya_cons (y_var (pv 0)) (ya_cons (y_var (pv 1)) ya_nil))) call_rd))) (ys_one (ys_ret (PE.imp (pe_call d_diagonal_of.ok (hr.mono (by decide)) (by rfl) d_diagonal_of.mgf d_diagonal_of.kp d_diagonal_of.b .nil (passes_call (takes_of rfl rfl rfl rfl) fun _ _ _ _ h => h) (ya_cons (y_new (y_lc (E0 := fun _ _ _ => False) (own := [("unit", 2)]) rfl sc_trace_of.nd (yi_wlk rfl (PE.imp (pe_call d_unit_columns.ok (hr.mono (by decide)) (by rfl) d_unit_columns.mgf d_unit_columns.kp d_unit_columns.b .nil (passes_call (takes_of rfl rfl rfl rfl) fun _ _ _ _ h => h) (ya_cons (y_fld rfl k_Web.cl (k_Web.na _ (by decide)) (y_var (pv 0))) ya_nil)) call_rd)) (blkOk_by (N := ["web", "word", "unit"]) (sc := defScope s_trace_of) (by decide +kernel)) (by decide) sb_yes (fun _ _ _ _ _ => (yg_name (pg_name (i := 2) sc_trace_of.nd rfl (Or.inl rfl)))) (fun _ _ _ _ _ => pts_nil) (fun _ _ _ _ _ => (yn_fz (PE.imp (pe_call d_word_ahead.ok (hr.mono (by decide)) (by rfl) d_word_ahead.mgf d_word_ahead.kp d_word_ahead.b .nil passL (ya_cons (y_var (pv 0)) (ya_cons (y_var (pv 1)) (ya_cons (y_var (pv 2)) ya_nil)))) call_rd))))) ya_nil)) call_rd))))
theorem ok_walks {f : Addr} {fd : FuncData} (F : Fun C.K "walks" "walks" s_walks f fd) (k_Web : ClsF C mg "Web" 10 ["places", "ties", "parts", "_near"]) (d__need_web_and_word : Df P w C mg base "_need_web_and_word" 5 ["web", "word"] [] (spF C 2 2 b__need_web_and_word)) (d_need_place : Df P w C mg base "need_place" 5 ["value", "places"] [] (spF C 2 2 b_need_place)) (d_column_of : Df P w C mg base "column_of" 10 ["web", "word"] [] (spF C 2 2 b_column_of)) : FnOk P w C.K mg base (L2.CX P w) 11 f fd ["web", "word", "place"] (spF C 3 3 b_walks) :=
  y_fn (C := C) (k := 10) F sc_walks (by decide) fun cdv A outer s H E hr => (ys_cons (ys_drop (ps_expr (PE.imp (pe_call d__need_web_and_word.ok (hr.mono (by decide)) (by rfl) d__need_web_and_word.mgf d__need_web_and_word.kp d__need_web_and_word.b .nil (passes_call (takes_of rfl rfl rfl rfl) fun _ _ _ _ h => h) (ya_cons (y_var (pv 0)) (ya_cons (y_var (pv 1)) ya_nil))) call_rd))) (ys_cons (ys_drop (ps_expr (PE.imp (pe_call d_need_place.ok (hr.mono (by decide)) (by rfl) d_need_place.mgf d_need_place.kp d_need_place.b .nil (passes_call (takes_of rfl rfl rfl rfl) fun _ _ _ _ h => h) (ya_cons (y_var (pv 2)) (ya_cons (y_fld rfl k_Web.cl (k_Web.na _ (by decide)) (y_var (pv 0))) ya_nil))) call_rd))) (ys_one (ys_ret (y_ix ix_seq ov_ix (PE.imp (pe_call d_column_of.ok (hr.mono (by decide)) (by rfl) d_column_of.mgf d_column_of.kp d_column_of.b .nil (passes_call (takes_of rfl rfl rfl rfl) fun _ _ _ _ h => h) (ya_cons (y_var (pv 0)) (ya_cons (y_var (pv 1)) ya_nil))) call_rd) (y_var (pv 2)) (fun _ _ => rfl))))))
theorem ok__law_pen {f : Addr} {fd : FuncData} (F : Fun C.K "_law_pen" "_law_pen" s__law_pen f fd) (g_int : mg "int" = none) : FnOk P w C.K mg base (L2.CX P w) 3 f fd ["script"] (spN C 1 2 n__law_pen) :=
  y_fnN (C := C) (k := 2) F sc__law_pen rfl fun cdv A outer s H E hr => (yf_lst (ya_cons (y_new (y_lc (E0 := fun _ _ _ => False) (own := [("cell", 1)]) rfl sc__law_pen.nd (yi_wlk rfl (y_new (yf_scr (k := 58) rfl (pe_slice sl_list (y_var (pv 0)) po_none (po_some pe_int))))) (blkOk_by (N := ["script", "cell"]) (sc := defScope s__law_pen) (by decide +kernel)) (by decide) sb_yes (fun _ _ _ _ _ => (yg_name (pg_name (i := 1) sc__law_pen.nd rfl (Or.inl rfl)))) (fun _ _ _ _ _ => pts_nil) (fun _ _ _ _ _ => (yn_fz (PE.imp (pe_callTy call_int1 (by rfl) g_int (by decide +kernel) (ya_cons (y_var (pv 1)) ya_nil)) (cb_rd cv_int)))))) (ya_cons y_int (ya_cons y_int ya_nil))))
theorem ok__law_draw {f : Addr} {fd : FuncData} (F : Fun C.K "_law_draw" "_law_draw" s__law_draw f fd) (g_int : mg "int" = none) (g_len : mg "len" = none) (g_abs : mg "abs" = none) : FnOk P w C.K mg base (L2.CX P w) 3 f fd ["pen", "many"] (spF C 2 7 b__law_draw) :=
  y_fn (C := C) (k := 2) F sc__law_draw (by decide) fun cdv A outer s H E hr => (ys_cons (ys_if (yt_cmp op_gt ov_gt (y_ixO (pe_ix ix_seq (pv 0) y_int (fun _ _ => rfl))) y_int (nomark _)) (ys_cons (ys_asg (ps_set (i := 2) sc__law_draw.nd rfl (Or.inl rfl) (y_op op_modN ov_mod (PE.imp (pe_callTy call_int1 (by rfl) g_int (by decide +kernel) (ya_cons (y_ixO (pe_ix ix_seq (pv 0) y_int (fun _ _ => rfl))) ya_nil)) (cb_rd cv_int)) (y_var (pv 1))))) (ys_cons (ys_set (ps_asg (y_op oy_div ov_div (PE.imp (pe_callTy call_int1 (by rfl) g_int (by decide +kernel) (ya_cons (y_ixO (pe_ix ix_seq (pv 0) y_int (fun _ _ => rfl))) ya_nil)) (cb_rd cv_int)) (y_var (pv 1))) (pg_sub (pv 0) y_int set_list))) (ys_one (ys_ret (y_var (pv 2)))))) ys_nil) (ys_cons (ys_asg (ps_set (i := 3) sc__law_draw.nd rfl (Or.inl rfl) (y_ixO (pe_ix ix_seq (pv 0) y_int (fun _ _ => rfl))))) (ys_cons (ys_set (ps_asg (y_op oy_add2 ov_add2 (y_var (pv 3)) y_int) (pg_sub (pv 0) y_int set_list))) (ys_cons (ys_asg (ps_set (i := 4) sc__law_draw.nd rfl (Or.inl rfl) (y_op oy_add2 ov_add2 (y_op oy_mul2 ov_mul2 y_int (y_var (pv 3))) y_int))) (ys_cons (ys_if (yt_cmp (op_neD hr.units) ov_ne (y_ixO (pe_ix ix_seq (pv 0) y_int (fun _ _ => rfl))) (y_lst ya_nil) (nomark _)) (ys_one (ys_asg (ps_set (i := 4) sc__law_draw.nd rfl (Or.inl rfl) (y_ix ix_seq ov_ix (y_ixO (pe_ix ix_seq (pv 0) y_int (fun _ _ => rfl))) (y_op op_modN ov_mod (PE.imp (pe_callTy call_int1 (by rfl) g_int (by decide +kernel) (ya_cons (y_var (pv 3)) ya_nil)) (cb_rd cv_int)) (PE.imp (pe_callB cy_len (by rfl) g_len (by decide +kernel) (ya_cons (y_ixO (pe_ix ix_seq (pv 0) y_int (fun _ _ => rfl))) ya_nil)) (cb_rd cv_len))) (fun _ _ => rfl))))) ys_nil) (ys_cons (ys_if (PW.pt (yw_and (yt_cmp op_lt ov_lt (y_var (pv 3)) (PE.imp (pe_callB cy_len (by rfl) g_len (by decide +kernel) (ya_cons (y_ixO (pe_ix ix_seq (pv 0) y_int (fun _ _ => rfl))) ya_nil)) (cb_rd cv_len)) (nomark _)) (yw_and1 (yt_cmp op_ge ov_ge (PE.imp (pe_callB call_abs (by rfl) g_abs (by decide +kernel) (ya_cons (y_var (pv 4)) ya_nil)) (cb_rd cv_abs)) (y_op op_pow ov_pow y_int y_int) (nomark _))))) (ys_cons (ys_asg (ps_set (i := 5) sc__law_draw.nd rfl (Or.inl rfl) (y_op oy_add2 ov_add2 (y_op oy_mul2 ov_mul2 y_int (y_op op_sub ov_sub (PE.imp (pe_callB call_abs (by rfl) g_abs (by decide +kernel) (ya_cons (y_var (pv 4)) ya_nil)) (cb_rd cv_abs)) (y_op op_pow ov_pow y_int y_int))) (PE.imp (pe_callTy call_int1 (by rfl) g_int (by decide +kernel) (ya_cons (y_cmp op_lt ov_lt (y_var (pv 4)) y_int (nomark _)) ya_nil)) (cb_rd cv_int))))) (ys_cons (ys_set (ps_asg (y_op oy_div ov_div (PE.imp (pe_callTy call_int1 (by rfl) g_int (by decide +kernel) (ya_cons (y_var (pv 5)) ya_nil)) (cb_rd cv_int)) (y_var (pv 1))) (pg_sub (pv 0) y_int set_list))) (ys_one (ys_ret (y_op op_modN ov_mod (PE.imp (pe_callTy call_int1 (by rfl) g_int (by decide +kernel) (ya_cons (y_var (pv 5)) ya_nil)) (cb_rd cv_int)) (y_var (pv 1))))))) ys_nil) (ys_cons (ys_asg (ps_set (i := 6) sc__law_draw.nd rfl (Or.inl rfl) (y_op op_modN ov_mod (PE.imp (pe_callTy call_int1 (by rfl) g_int (by decide +kernel) (ya_cons (y_op op_pow ov_pow (y_op oy_add2 ov_add2 (y_op oy_add2 ov_add2 (y_op op_modN ov_mod (PE.imp (pe_callTy call_int1 (by rfl) g_int (by decide +kernel) (ya_cons (y_var (pv 4)) ya_nil)) (cb_rd cv_int)) y_int) (y_op oy_mul2 ov_mul2 y_int (y_var (pv 3)))) y_int) y_int) ya_nil)) (cb_rd cv_int)) y_int))) (ys_cons (ys_asg (ps_set (i := 6) sc__law_draw.nd rfl (Or.inl rfl) (y_op op_modN ov_mod (PE.imp (pe_callTy call_int1 (by rfl) g_int (by decide +kernel) (ya_cons (y_op op_pow ov_pow (y_op oy_add2 ov_add2 (y_op oy_add2 ov_add2 (y_op oy_mul2 ov_mul2 (y_var (pv 6)) (y_op oy_add2 ov_add2 (y_op oy_mul2 ov_mul2 y_int (y_var (pv 3))) y_int)) (y_op oy_mul2 ov_mul2 (y_op oy_mul2 ov_mul2 y_int (y_var (pv 3))) (y_var (pv 3)))) y_int) y_int) ya_nil)) (cb_rd cv_int)) y_int))) (ys_one (ys_ret (y_op op_modN ov_mod (PE.imp (pe_callTy call_int1 (by rfl) g_int (by decide +kernel) (ya_cons (y_op oy_div ov_div (y_var (pv 6)) y_int) ya_nil)) (cb_rd cv_int)) (y_var (pv 1)))))))))))))
theorem ok__law_pick {f : Addr} {fd : FuncData} (F : Fun C.K "_law_pick" "_law_pick" s__law_pick f fd) (g_len : mg "len" = none) (d__law_draw : Df P w C mg base "_law_draw" 3 ["pen", "many"] [] (spF C 2 7 b__law_draw)) : FnOk P w C.K mg base (L2.CX P w) 4 f fd ["pen", "some"] (spF C 2 2 b__law_pick) :=
  y_fn (C := C) (k := 3) F sc__law_pick (by decide) fun cdv A outer s H E hr => (ys_one (ys_ret (y_ix ix_seq ov_ix (y_var (pv 1)) (PE.imp (pe_call d__law_draw.ok (hr.mono (by decide)) (by rfl) d__law_draw.mgf d__law_draw.kp d__law_draw.b .nil (passes_call (takes_of rfl rfl rfl rfl) fun _ _ _ _ h => h) (pa_cons (pv 0) (ya_cons (PE.imp (pe_callB cy_len (by rfl) g_len (by decide +kernel) (ya_cons (y_var (pv 1)) ya_nil)) (cb_rd cv_len)) ya_nil))) callO_rd) (fun _ _ => rfl))))
theorem ok__law_web {f : Addr} {fd : FuncData} (F : Fun C.K "_law_web" "_law_web" s__law_web f fd) (g_range : mg "range" = none) (d__law_pick : Df P w C mg base "_law_pick" 4 ["pen", "some"] [] (spF C 2 2 b__law_pick)) (d__law_draw : Df P w C mg base "_law_draw" 3 ["pen", "many"] [] (spF C 2 7 b__law_draw)) : FnOk P w C.K mg base (L2.CX P w) 5 f fd ["pen", "places", "share"] (spF C 3 7 b__law_web) :=
  y_fn (C := C) (k := 4) F sc__law_web (by decide) fun cdv A outer s H E hr => (ys_cons (ys_parSN (i := 3) (j := 4) (ps_par rfl sc__law_web.nd rfl rfl (by decide) rfl rfl (pa_cons (PE.imp (pe_call d__law_pick.ok (hr.mono (by decide)) (by rfl) d__law_pick.mgf d__law_pick.kp d__law_pick.b .nil (passes_call (takes_of rfl rfl rfl rfl) fun _ _ _ _ h => h) (pa_cons (pv 0) (ya_cons (y_lst (ya_cons y_str (ya_cons y_str (ya_cons y_str (ya_cons y_str (ya_cons y_str (ya_cons y_str ya_nil))))))) ya_nil))) callO_rd) (pa_cons (yf_lst ya_nil) pa_nil)) (by first | rfl | exact sw2_local rfl rfl rfl))) (ys_cons (ys_for (ps_for (passes_of rfl) rfl (yi_rng1 (pi_range1 (by rfl) g_range (ya_cons (y_var (pv 1)) ya_nil))) (yg_name (pg_name (i := 5) sc__law_web.nd rfl (Or.inl rfl))) (ys_one (ys_for (ps_for (passes_of rfl) rfl (yi_rng1 (pi_range1 (by rfl) g_range (ya_cons (y_var (pv 5)) ya_nil))) (yg_name (pg_name (i := 6) sc__law_web.nd rfl (Or.inl rfl))) (ys_one (ys_if (yt_cmp (op_eqD hr.units) ov_eq (PE.imp (pe_call d__law_draw.ok (hr.mono (by decide)) (by rfl) d__law_draw.mgf d__law_draw.kp d__law_draw.b .nil (passes_call (takes_of rfl rfl rfl rfl) fun _ _ _ _ h => h) (pa_cons (pv 0) (ya_cons (y_var (pv 2)) ya_nil))) callO_rd) y_int (nomark _)) (ys_one (ys_app rfl (ps_expr (pe_bm PySem.F.plainAttrs_list PySem.F.slot_list_append PySem.F.type_list_append mt_append (pv 4) (pa_cons (y_tup (ya_cons (y_var (pv 6)) (ya_cons (y_var (pv 5)) (ya_cons (PE.imp (pe_call d__law_pick.ok (hr.mono (by decide)) (by rfl) d__law_pick.mgf d__law_pick.kp d__law_pick.b .nil (passes_call (takes_of rfl rfl rfl rfl) fun _ _ _ _ h => h) (pa_cons (pv 0) (ya_cons (y_var (pv 3)) ya_nil))) callO_rd) ya_nil)))) pa_nil))))) ys_nil))))))) (ys_melt (ys_one (ys_ret (y_tup (ya_cons (y_var (pv 1)) (ya_cons (y_var (pv 4)) ya_nil))))))))
theorem ok__law_word {f : Addr} {fd : FuncData} (F : Fun C.K "_law_word" "_law_word" s__law_word f fd) (g_range : mg "range" = none) (d__law_pick : Df P w C mg base "_law_pick" 4 ["pen", "some"] [] (spF C 2 2 b__law_pick)) (d__law_draw : Df P w C mg base "_law_draw" 3 ["pen", "many"] [] (spF C 2 7 b__law_draw)) : FnOk P w C.K mg base (L2.CX P w) 5 f fd ["pen", "web", "letters"] (spF C 3 10 b__law_word) :=
  y_fn (C := C) (k := 4) F sc__law_word (by decide) fun cdv A outer s H E hr => (ys_cons (ys_asg (ps_set (i := 3) sc__law_word.nd rfl (Or.inr rfl) (y_op oy_add2 ov_add2 (y_sl rfl (y_new (y_lc (E0 := fun _ _ _ => False) (own := [("one", 4), ("other", 5), ("colour", 6)]) rfl sc__law_word.nd (yi_wlk rfl (y_ix ix_seq ov_ix (y_var (pv 1)) y_int (fun _ _ => rfl))) (blkOk_by (N := ["pen", "web", "letters", "colours", "one", "other", "colour", "told", "turn", "letter"]) (sc := defScope s__law_word) (by decide +kernel)) (by decide) sb_yes (fun _ _ _ _ _ => (yg_seq rfl (pg_sq rfl (ygs_cons (yg_name (pg_name (i := 4) sc__law_word.nd rfl (Or.inl rfl))) (ygs_cons (yg_name (pg_name (i := 5) sc__law_word.nd rfl (Or.inl rfl))) (ygs_cons (yg_name (pg_name (i := 6) sc__law_word.nd rfl (Or.inl rfl))) ygs_nil (fun a b => pgs_cons a b)) (fun a b => pgs_cons a b)) (fun a b => pgs_cons a b))))) (fun _ _ _ _ _ => pts_nil) (fun _ _ _ _ _ => (yn_fz (y_var (pv 6)))))) yp_no (yp_of y_int)) (y_lst (ya_cons y_str (ya_cons (PE.imp (pe_call d__law_pick.ok (hr.mono (by decide)) (by rfl) d__law_pick.mgf d__law_pick.kp d__law_pick.b .nil (passes_call (takes_of rfl rfl rfl rfl) fun _ _ _ _ h => h) (pa_cons (pv 0) (ya_cons y_str ya_nil))) callO_rd) ya_nil)))))) (ys_cons (ys_asgF (ps_lcW (i := 7) (E0 := fun _ _ _ => False) (own := [("turn", 8)]) rfl sc__law_word.nd rfl rfl (sw_true rfl rfl rfl rfl) (yi_rng1 (pi_range1 (by rfl) g_range (ya_cons (y_var (pv 2)) ya_nil))) (blkOk_by (N := ["pen", "web", "letters", "colours", "one", "other", "colour", "told", "turn", "letter"]) (sc := defScope s__law_word) (by decide +kernel)) (by decide) sb_yes (fun _ _ _ _ _ => (yg_name (pg_name (i := 8) sc__law_word.nd rfl (Or.inl rfl)))) (fun _ _ _ _ _ => pts_nil) (fun _ _ _ _ _ => (yn_fz (PE.imp (pe_call d__law_pick.ok (hr.mono (by decide)) (by rfl) d__law_pick.mgf d__law_pick.kp d__law_pick.b .nil passL (pa_cons (pv 0) (ya_cons (y_var (pv 3)) ya_nil))) callO_rd))))) (ys_one (ys_ret (y_join y_str (y_new (y_lc (E0 := fun _ _ _ => False) (own := [("letter", 9)]) rfl sc__law_word.nd (yi_wlk rfl (y_var (pv 7))) (blkOk_by (N := ["pen", "web", "letters", "colours", "one", "other", "colour", "told", "turn", "letter"]) (sc := defScope s__law_word) (by decide +kernel)) (by decide) sb_yes (fun _ _ _ _ _ => (yg_name (pg_name (i := 9) sc__law_word.nd rfl (Or.inl rfl)))) (fun _ _ _ _ _ => pts_nil) (fun _ _ _ _ _ => (yn_fz (y_if (yt_cmp (op_eqD hr.units) ov_eq (PE.imp (pe_call d__law_draw.ok (hr.mono (by decide)) (by rfl) d__law_draw.mgf d__law_draw.kp d__law_draw.b .nil passL (pa_cons (pv 0) (ya_cons y_int ya_nil))) callO_rd) y_int (nomark _)) (y_upper (y_var (pv 9))) (y_var (pv 9))))))) rfl)))))
theorem ok__law_near {f : Addr} {fd : FuncData} (F : Fun C.K "_law_near" "_law_near" s__law_near f fd) : FnOk P w C.K mg base (L2.CX P w) 3 f fd ["web", "place", "colour"] (spF C 3 7 b__law_near) :=
  y_fn (C := C) (k := 2) F sc__law_near (by decide) fun cdv A outer s H E hr => (ys_cons (ys_asgF (ps_lcW (i := 3) (E0 := fun _ _ _ => False) (own := [("one", 4), ("other", 5), ("its", 6)]) rfl sc__law_near.nd rfl rfl (sw_true rfl rfl rfl rfl) (yi_wlk rfl (y_ix ix_seq ov_ix (y_var (pv 0)) y_int (fun _ _ => rfl))) (blkOk_by (N := ["web", "place", "colour", "found", "one", "other", "its"]) (sc := defScope s__law_near) (by decide +kernel)) (by decide) (fun _ _ _ h => h) (fun _ _ _ _ _ => (yg_seq rfl (pg_sq rfl (ygs_cons (yg_name (pg_name (i := 4) sc__law_near.nd rfl (Or.inl rfl))) (ygs_cons (yg_name (pg_name (i := 5) sc__law_near.nd rfl (Or.inl rfl))) (ygs_cons (yg_name (pg_name (i := 6) sc__law_near.nd rfl (Or.inl rfl))) ygs_nil (fun a b => pgs_cons a b)) (fun a b => pgs_cons a b)) (fun a b => pgs_cons a b))))) (fun _ _ _ _ _ => pts_one (PW.pt (yw_and (yt_cmp (op_eqD hr.units) ov_eq (y_var (pv 4)) (y_var (pv 1)) (nomark _)) (yw_and1 (yt_cmp (op_eqD hr.units) ov_eq (y_var (pv 6)) (y_var (pv 2)) (nomark _)))))) (fun _ _ _ _ _ => (yn_fz (y_var (pv 5)))))) (ys_one (ys_ret (y_op oy_add2 ov_add2 (y_var (pv 3)) (y_new (y_lc (E0 := fun _ _ _ => False) (own := [("one", 4), ("other", 5), ("its", 6)]) rfl sc__law_near.nd (yi_wlk rfl (y_ix ix_seq ov_ix (y_var (pv 0)) y_int (fun _ _ => rfl))) (blkOk_by (N := ["web", "place", "colour", "found", "one", "other", "its"]) (sc := defScope s__law_near) (by decide +kernel)) (by decide) (fun _ _ _ h => h) (fun _ _ _ _ _ => (yg_seq rfl (pg_sq rfl (ygs_cons (yg_name (pg_name (i := 4) sc__law_near.nd rfl (Or.inl rfl))) (ygs_cons (yg_name (pg_name (i := 5) sc__law_near.nd rfl (Or.inl rfl))) (ygs_cons (yg_name (pg_name (i := 6) sc__law_near.nd rfl (Or.inl rfl))) ygs_nil (fun a b => pgs_cons a b)) (fun a b => pgs_cons a b)) (fun a b => pgs_cons a b))))) (fun _ _ _ _ _ => pts_one (PW.pt (yw_and (yt_cmp (op_eqD hr.units) ov_eq (y_var (pv 5)) (y_var (pv 1)) (nomark _)) (yw_and1 (yt_cmp (op_eqD hr.units) ov_eq (y_var (pv 6)) (y_var (pv 2)) (nomark _)))))) (fun _ _ _ _ _ => (yn_fz (y_var (pv 4))))))))))
theorem ok__law_ends {f : Addr} {fd : FuncData} (F : Fun C.K "_law_ends" "_law_ends" s__law_ends f fd) (g_len : mg "len" = none) (d__law_near : Df P w C mg base "_law_near" 3 ["web", "place", "colour"] [] (spF C 3 7 b__law_near)) : FnOk P w C.K mg base (L2.CX P w) 4 f fd ["web", "word", "place"] (spF C 3 8 b__law_ends) :=
  y_fn (C := C) (k := 3) F sc__law_ends (by decide) fun cdv A outer s H E hr => (ys_cons (ys_asg (ps_set (i := 3) sc__law_ends.nd rfl (Or.inl rfl) (y_lst (ya_cons (y_var (pv 2)) ya_nil)))) (ys_cons (ys_for (ps_for (passes_of rfl) rfl (yi_wlk rfl (y_var (pv 1))) (yg_name (pg_name (i := 4) sc__law_ends.nd rfl (Or.inl rfl))) (ys_cons (ys_new (ps_set (i := 5) sc__law_ends.nd rfl (Or.inl rfl) (yf_lst ya_nil))) (ys_cons (ys_for (ps_for (passes_of rfl) rfl (yi_wlk rfl (y_var (pv 3))) (yg_name (pg_name (i := 6) sc__law_ends.nd rfl (Or.inl rfl))) (ys_cons (ys_asg (ps_set (i := 7) sc__law_ends.nd rfl (Or.inl rfl) (PE.imp (pe_call d__law_near.ok (hr.mono (by decide)) (by rfl) d__law_near.mgf d__law_near.kp d__law_near.b .nil (passes_call (takes_of rfl rfl rfl rfl) fun _ _ _ _ h => h) (ya_cons (y_var (pv 0)) (ya_cons (y_var (pv 6)) (ya_cons (y_lower (y_var (pv 4))) ya_nil)))) call_rd))) (ys_one (ys_ext rfl (ps_expr (pe_bm PySem.F.plainAttrs_list PySem.F.slot_list_extend PySem.F.type_list_extend mt_extend (pv 5) (pa_cons (y_if (yt_cmp (op_eqD hr.units) ov_eq (y_var (pv 4)) (y_lower (y_var (pv 4))) (nomark _)) (y_var (pv 7)) (y_new (PE.imp (pe_op op_mulL (y_lst (ya_cons (y_var (pv 6)) ya_nil)) (PE.imp (pe_callB cy_len (by rfl) g_len (by decide +kernel) (ya_cons (y_var (pv 7)) ya_nil)) (cb_rd cv_len))) (bf_rd of_mulL)))) pa_nil)))))))) (ys_melt (ys_one (ys_asg (ps_set (i := 3) sc__law_ends.nd rfl (Or.inl rfl) (y_var (pv 5)))))))))) (ys_one (ys_ret (y_var (pv 3))))))
theorem ok__law_nears {f : Addr} {fd : FuncData} (F : Fun C.K "_law_nears" "_law_nears" s__law_nears f fd) (g_range : mg "range" = none) (d__law_near : Df P w C mg base "_law_near" 3 ["web", "place", "colour"] [] (spF C 3 7 b__law_near)) : FnOk P w C.K mg base (L2.CX P w) 4 f fd ["web"] (spF C 1 4 b__law_nears) :=
  y_fn (C := C) (k := 3) F sc__law_nears (by decide) fun cdv A outer s H E hr => (ys_cons (ys_newT (ps_set (i := 1) sc__law_nears.nd rfl (Or.inl rfl) yn_dic0)) (ys_cons (ys_for (ps_for (passes_of rfl) rfl (yi_wlk rfl y_str) (yg_name (pg_name (i := 2) sc__law_nears.nd rfl (Or.inr rfl))) (ys_one (ys_dst (ps_dput (room1 hr) (pv 1) (y_var (pv 2)) (y_new (y_lc (E0 := fun _ _ _ => False) (own := [("place", 3)]) rfl sc__law_nears.nd (yi_rng1 (pi_range1 (by rfl) g_range (ya_cons (y_ix ix_seq ov_ix (y_var (pv 0)) y_int (fun _ _ => rfl)) ya_nil))) (blkOk_by (N := ["web", "found", "colour", "place"]) (sc := defScope s__law_nears) (by decide +kernel)) (by decide) sb_yes (fun _ _ _ _ _ => (yg_name (pg_name (i := 3) sc__law_nears.nd rfl (Or.inl rfl)))) (fun _ _ _ _ _ => pts_nil) (fun _ _ _ _ _ => (yn_fz (PE.imp (pe_call d__law_near.ok (hr.mono (by decide)) (by rfl) d__law_near.mgf d__law_near.kp d__law_near.b .nil passL (ya_cons (y_var (pv 0)) (ya_cons (y_var (pv 3)) (ya_cons (y_var (pv 2)) ya_nil)))) call_rd))))) (by first | rfl | exact sw2_local rfl rfl rfl)))))) (ys_melt (ys_one (ys_ret (y_var (pv 1)))))))
theorem ok__law_column {f : Addr} {fd : FuncData} (F : Fun C.K "_law_column" "_law_column" s__law_column f fd) (g_list : mg "list" = none) (g_sum : mg "sum" = none) (g_zip : mg "zip" = none) (g_len : mg "len" = none) : FnOk P w C.K mg base (L2.CX P w) 3 f fd ["nears", "word", "numbers"] (spF C 3 9 b__law_column) :=
  y_fn (C := C) (k := 2) F sc__law_column (by decide) fun cdv A outer s H E hr => (ys_cons (ys_asg (ps_set (i := 3) sc__law_column.nd rfl (Or.inr rfl) (y_new (PE.imp (pe_callTy call_list_of (by rfl) g_list (by decide +kernel) (ya_cons (y_var (pv 2)) ya_nil)) (cf_rd cv_list))))) (ys_cons (ys_for (ps_for (passes_of rfl) rfl (yi_wlk rfl (y_revS (pe_revS (y_var (pv 1))))) (yg_name (pg_name (i := 4) sc__law_column.nd rfl (Or.inl rfl))) (ys_cons (ys_asg (ps_set (i := 5) sc__law_column.nd rfl (Or.inl rfl) (y_dget (room1 hr) (y_var (pv 0)) (y_lower (y_var (pv 4))) (fun _ _ => rfl)))) (ys_one (ys_if (yt_cmp (op_eqD hr.units) ov_eq (y_var (pv 4)) (y_lower (y_var (pv 4))) (nomark _)) (ys_one (ys_asg (ps_set (i := 3) sc__law_column.nd rfl (Or.inr rfl) (y_new (y_lc (E0 := fun _ _ _ => False) (own := [("some", 7)]) rfl sc__law_column.nd (yi_wlk rfl (y_var (pv 5))) (blkOk_by (N := ["nears", "word", "numbers", "found", "letter", "near", "other", "some", "number"]) (sc := defScope s__law_column) (by decide +kernel)) (by decide) sb_yes (fun _ _ _ _ _ => (yg_name (pg_name (i := 7) sc__law_column.nd rfl (Or.inl rfl)))) (fun _ _ _ _ _ => pts_nil) (fun _ _ _ _ _ => (yn_fz (PE.imp (pe_callB (cr_sum rfl) (by rfl) g_sum (by decide +kernel) (ya_cons (y_new (y_lc (E0 := fun _ _ _ => False) (own := [("other", 6)]) rfl sc__law_column.nd (yi_wlk rfl (y_var (pv 7))) (blkOk_by (N := ["nears", "word", "numbers", "found", "letter", "near", "other", "some", "number"]) (by rfl)) (by decide) sb_yes (fun _ _ _ _ _ => (yg_name (pg_name (i := 6) sc__law_column.nd rfl (Or.inl rfl)))) (fun _ _ _ _ _ => pts_nil) (fun _ _ _ _ _ => (yn_fz (y_ix ix_seq ov_ix (y_var (pv 3)) (y_var (pv 6)) (fun _ _ => rfl)))))) ya_nil)) (cb_rd cv_sum))))))))) (ys_one (ys_asg (ps_set (i := 3) sc__law_column.nd rfl (Or.inr rfl) (y_new (y_lc (E0 := fun _ _ _ => False) (own := [("number", 8), ("some", 7)]) rfl sc__law_column.nd (yi_zip rfl (RZ.pi_zipA (by rfl) g_zip (ya_cons (y_var (pv 3)) (ya_cons (y_var (pv 5)) ya_nil)))) (blkOk_by (N := ["nears", "word", "numbers", "found", "letter", "near", "other", "some", "number"]) (sc := defScope s__law_column) (by decide +kernel)) (by decide) sb_yes (fun _ _ _ _ _ => (yg_seq rfl (pg_sq rfl (ygs_cons (yg_name (pg_name (i := 8) sc__law_column.nd rfl (Or.inl rfl))) (ygs_cons (yg_name (pg_name (i := 7) sc__law_column.nd rfl (Or.inl rfl))) ygs_nil (fun a b => pgs_cons a b)) (fun a b => pgs_cons a b))))) (fun _ _ _ _ _ => pts_nil) (fun _ _ _ _ _ => (yn_fz (y_op oy_mul2 ov_mul2 (y_var (pv 8)) (PE.imp (pe_callB cy_len (by rfl) g_len (by decide +kernel) (ya_cons (y_var (pv 7)) ya_nil)) (cb_rd cv_len))))))))))))))) (ys_one (ys_ret (y_var (pv 3))))))
theorem ok__law_made {f : Addr} {fd : FuncData} (F : Fun C.K "_law_made" "_law_made" s__law_made f fd) (g_tuple : mg "tuple" = none) (k_Web : ClsF C mg "Web" 10 ["places", "ties", "parts", "_near"]) (d__law_pick : Df P w C mg base "_law_pick" 4 ["pen", "some"] [] (spF C 2 2 b__law_pick)) (d_Web___init__ : DfI P w C mg base 10 9 ["self", "places", "ties"] (spF C 3 6 b_Web___init__)) : FnOk P w C.K mg base (L2.CX P w) 11 f fd ["pen", "web"] (spF C 2 6 b__law_made) :=
  y_fn (C := C) (k := 10) F sc__law_made (by decide) fun cdv A outer s H E hr => (ys_cons (ys_new (ps_set (i := 2) sc__law_made.nd rfl (Or.inl rfl) (yf_lst ya_nil))) (ys_cons (ys_for (ps_for (passes_of rfl) rfl (yi_wlk rfl (y_ix ix_seq ov_ix (y_var (pv 1)) y_int (fun _ _ => rfl))) (yg_seq rfl (pg_sq rfl (ygs_cons (yg_name (pg_name (i := 3) sc__law_made.nd rfl (Or.inl rfl))) (ygs_cons (yg_name (pg_name (i := 4) sc__law_made.nd rfl (Or.inl rfl))) (ygs_cons (yg_name (pg_name (i := 5) sc__law_made.nd rfl (Or.inl rfl))) ygs_nil (fun a b => pgs_cons a b)) (fun a b => pgs_cons a b)) (fun a b => pgs_cons a b)))) (ys_one (ys_app rfl (ps_expr (pe_bm PySem.F.plainAttrs_list PySem.F.slot_list_append PySem.F.type_list_append mt_append (pv 2) (pa_cons (PE.imp (pe_call d__law_pick.ok (hr.mono (by decide)) (by rfl) d__law_pick.mgf d__law_pick.kp d__law_pick.b .nil (passes_call (takes_of rfl rfl rfl rfl) fun _ _ _ _ h => h) (pa_cons (pv 0) (ya_cons (y_lst (ya_cons (y_tup (ya_cons (y_var (pv 3)) (ya_cons (y_var (pv 4)) (ya_cons (y_var (pv 5)) ya_nil)))) (ya_cons (y_lst (ya_cons (y_var (pv 4)) (ya_cons (y_var (pv 3)) (ya_cons (y_var (pv 5)) ya_nil)))) (ya_cons (y_tup (ya_cons (y_var (pv 4)) (ya_cons (y_var (pv 3)) (ya_cons (y_var (pv 5)) ya_nil)))) ya_nil)))) ya_nil))) callO_rd) pa_nil))))))) (ys_melt (ys_one (ys_ret (y_newN (PE.imp (pe_make d_Web___init__.mki d_Web___init__.ok (hr.mono (by decide)) (by rfl) k_Web.mgc d_Web___init__.b .nil (passes_call (takes_of rfl rfl rfl rfl) fun _ _ _ _ h => h) (ya_cons (y_ix ix_seq ov_ix (y_var (pv 1)) y_int (fun _ _ => rfl)) (ya_cons (PE.imp (pe_call d__law_pick.ok (hr.mono (by decide)) (by rfl) d__law_pick.mgf d__law_pick.kp d__law_pick.b .nil (passes_call (takes_of rfl rfl rfl rfl) fun _ _ _ _ h => h) (pa_cons (pv 0) (ya_cons (y_lst (ya_cons (y_var (pv 2)) (ya_cons (PE.imp (pe_callTy call_tuple_of (by rfl) g_tuple (by decide +kernel) (ya_cons (y_var (pv 2)) ya_nil)) (cb_rd cv_tuple)) (ya_cons (y_new (yf_revL rfl (pe_revL (y_var (pv 2))))) ya_nil)))) ya_nil))) callO_rd) ya_nil))) make_rd)))))))
theorem ok__law_trace {f : Addr} {fd : FuncData} (F : Fun C.K "_law_trace" "_law_trace" s__law_trace f fd) (g_range : mg "range" = none) (g_int : mg "int" = none) (d__law_nears : Df P w C mg base "_law_nears" 4 ["web"] [] (spF C 1 4 b__law_nears)) (d__law_column : Df P w C mg base "_law_column" 3 ["nears", "word", "numbers"] [] (spF C 3 9 b__law_column)) : FnOk P w C.K mg base (L2.CX P w) 5 f fd ["web", "word"] (spF C 2 7 b__law_trace) :=
  y_fn (C := C) (k := 4) F sc__law_trace (by decide) fun cdv A outer s H E hr => (ys_cons (ys_par (i := 2) (j := 3) (ps_par rfl sc__law_trace.nd rfl rfl (by decide) rfl rfl (ya_cons y_int (ya_cons (PE.imp (pe_call d__law_nears.ok (hr.mono (by decide)) (by rfl) d__law_nears.mgf d__law_nears.kp d__law_nears.b .nil (passes_call (takes_of rfl rfl rfl rfl) fun _ _ _ _ h => h) (ya_cons (y_var (pv 0)) ya_nil)) call_rd) ya_nil)) (by first | rfl | exact sw2_local rfl rfl rfl))) (ys_cons (ys_for (ps_for (passes_of rfl) rfl (yi_rng1 (pi_range1 (by rfl) g_range (ya_cons (y_ix ix_seq ov_ix (y_var (pv 0)) y_int (fun _ _ => rfl)) ya_nil))) (yg_name (pg_name (i := 4) sc__law_trace.nd rfl (Or.inr rfl))) (ys_cons (ys_asgF (ps_lcW (i := 5) (E0 := fun _ _ _ => False) (own := [("at", 6)]) rfl sc__law_trace.nd rfl rfl (sw_true rfl rfl rfl rfl) (yi_rng1 (pi_range1 (by rfl) g_range (ya_cons (y_ix ix_seq ov_ix (y_var (pv 0)) y_int (fun _ _ => rfl)) ya_nil))) (blkOk_by (N := ["web", "word", "found", "nears", "place", "numbers", "at"]) (sc := defScope s__law_trace) (by decide +kernel)) (by decide) sb_yes (fun _ _ _ _ _ => (yg_name (pg_name (i := 6) sc__law_trace.nd rfl (Or.inl rfl)))) (fun _ _ _ _ _ => pts_nil) (fun _ _ _ _ _ => (yn_fz (PE.imp (pe_callTy call_int1 (by rfl) g_int (by decide +kernel) (ya_cons (y_cmp (op_eqD hr.units) ov_eq (y_var (pv 6)) (y_var (pv 4)) (nomark _)) ya_nil)) (cb_rd cv_int)))))) (ys_one (ys_asg (ps_set (i := 2) sc__law_trace.nd rfl (Or.inl rfl) (y_op oy_add2 ov_add2 (y_var (pv 2)) (y_ix ix_seq ov_ix (PE.imp (pe_call d__law_column.ok (hr.mono (by decide)) (by rfl) d__law_column.mgf d__law_column.kp d__law_column.b .nil (passes_call (takes_of rfl rfl rfl rfl) fun _ _ _ _ h => h) (ya_cons (y_var (pv 3)) (ya_cons (y_var (pv 1)) (ya_cons (y_var (pv 5)) ya_nil)))) call_rd) (y_var (pv 4)) (fun _ _ => rfl))))))))) (ys_one (ys_ret (y_var (pv 2))))))
theorem ok__law_listed_right {oc kV doc pm ct cdv : Value} {od an : Option Addr} {osl : Array (Option Value)} {f : Addr} (lk : C.K.lookup f = some ⟨oc, od, .func (PySem.W.fnOf "_law_listed_right" "_law_listed_right" (defArgs s__law_listed_right) (defBody s__law_listed_right) (defScope s__law_listed_right) .none kV doc pm an cdv ct), osl⟩) (hcd : PySem.W.codeIn C.K cdv "_law_listed_right" = true) (g_range : mg "range" = none) (g_sum : mg "sum" = none) (g_repr : mg "repr" = none) (d__law_made : Df P w C mg base "_law_made" 11 ["pen", "web"] [] (spF C 2 6 b__law_made)) (d__law_ends : Df P w C mg base "_law_ends" 4 ["web", "word", "place"] [] (spF C 3 8 b__law_ends)) (d_trace_of : Df P w C mg base "trace_of" 10 ["web", "word"] [(["word", "web"], [1, 0])] (spF C 2 3 b_trace_of)) (d__law_trace : Df P w C mg base "_law_trace" 5 ["web", "word"] [] (spF C 2 7 b__law_trace)) (d_sum_of : Df P w C mg base "sum_of" 11 ["web", "word"] [] (spF C 2 2 b_sum_of)) (d_walks : Df P w C mg base "walks" 11 ["web", "word", "place"] [] (spF C 3 3 b_walks)) : FnG P w C.K mg base 12 f (PySem.W.fnOf "_law_listed_right" "_law_listed_right" (defArgs s__law_listed_right) (defBody s__law_listed_right) (defScope s__law_listed_right) .none kV doc pm an cdv ct) ["pen", "web", "word"] (spF C 3 8 b__law_listed_right) :=
  y_fnG (C := C) (k := 11) lk hcd sc__law_listed_right (by decide) fun A outer s H E hA hr => (ys_cons (ys_asg (ps_set (i := 3) sc__law_listed_right.nd rfl (Or.inr rfl) (PE.imp (pe_call d__law_made.ok (hr.mono (by decide)) (by rfl) d__law_made.mgf d__law_made.kp d__law_made.b .nil (passes_call (takes_of rfl rfl rfl rfl) fun _ _ _ _ h => h) (pa_cons (pv 0) (ya_cons (y_var (pv 1)) ya_nil))) callO_rd))) (ys_cons (ys_asg (ps_set (i := 4) sc__law_listed_right.nd rfl (Or.inl rfl) (PE.imp (pe_callB (cr_sum rfl) (by rfl) g_sum (by decide +kernel) (ya_cons (y_new (y_lc (E0 := fun _ _ _ => False) (own := [("place", 5)]) rfl sc__law_listed_right.nd (yi_rng1 (pi_range1 (by rfl) g_range (ya_cons (y_ix ix_seq ov_ix (y_var (pv 1)) y_int (fun _ _ => rfl)) ya_nil))) (blkOk_by (N := ["pen", "web", "word", "made", "due", "place", "capitals", "colour"]) (sc := defScope s__law_listed_right) (by decide +kernel)) (by decide) sb_yes (fun _ _ _ _ _ => (yg_name (pg_name (i := 5) sc__law_listed_right.nd rfl (Or.inl rfl)))) (fun _ _ _ _ _ => pts_nil) (fun _ _ _ _ _ => (yn_fz (y_count (pe_bm PySem.F.plainAttrs_list PySem.F.slot_list_count PySem.F.type_list_count mt_count (PE.imp (pe_call d__law_ends.ok (hr.mono (by decide)) (by rfl) d__law_ends.mgf d__law_ends.kp d__law_ends.b .nil passL (ya_cons (y_var (pv 1)) (ya_cons (y_var (pv 2)) (ya_cons (y_var (pv 5)) ya_nil)))) call_rd) (pa_cons (y_var (pv 5)) pa_nil))))))) ya_nil)) (cb_rd cv_sum)))) (ys_cons (ys_if (PW.pt (yw_or (yt_cmp (op_neD hr.units) ov_ne (PE.imp (pe_callB (call_repr_data hA hr.units) (by rfl) g_repr (by decide +kernel) (ya_cons (PE.imp (pe_callK0 (ks := ["word", "web"]) (g := pick [1, 0]) (gV := pick [1, 0]) d_trace_of.ok (hr.mono (by decide)) (by rfl) d_trace_of.mgf d_trace_of.kp (d_trace_of.kw (["word", "web"], [1, 0]) (by decide)) (fun _ r => pick_pair r _) (passes_call (takes_of rfl rfl rfl rfl) fun _ _ _ _ h => h) (yk_cons (y_var (pv 2)) (yk_cons (y_var (pv 3)) yk_nil))) callK_rd) ya_nil)) (cb_rd cv_repr)) (PE.imp (pe_callB (call_repr_data hA hr.units) (by rfl) g_repr (by decide +kernel) (ya_cons (y_var (pv 4)) ya_nil)) (cb_rd cv_repr)) (nomark _)) (yw_or1 (yt_cmp (op_neD hr.units) ov_ne (y_var (pv 4)) (PE.imp (pe_call d__law_trace.ok (hr.mono (by decide)) (by rfl) d__law_trace.mgf d__law_trace.kp d__law_trace.b .nil (passes_call (takes_of rfl rfl rfl rfl) fun _ _ _ _ h => h) (ya_cons (y_var (pv 1)) (ya_cons (y_var (pv 2)) ya_nil))) call_rd) (nomark _))))) (ys_one (ys_ret y_bl)) ys_nil) (ys_cons (ys_asg (ps_set (i := 6) sc__law_listed_right.nd rfl (Or.inl rfl) (y_upper (y_var (pv 2))))) (ys_cons (ys_if (PW.pt (yw_or (yt_cmp (op_neD hr.units) ov_ne (PE.imp (pe_call d_trace_of.ok (hr.mono (by decide)) (by rfl) d_trace_of.mgf d_trace_of.kp d_trace_of.b .nil (passes_call (takes_of rfl rfl rfl rfl) fun _ _ _ _ h => h) (ya_cons (y_var (pv 3)) (ya_cons (y_var (pv 6)) ya_nil))) call_rd) (PE.imp (pe_call d_sum_of.ok (hr.mono (by decide)) (by rfl) d_sum_of.mgf d_sum_of.kp d_sum_of.b .nil (passes_call (takes_of rfl rfl rfl rfl) fun _ _ _ _ h => h) (ya_cons (y_var (pv 3)) (ya_cons (y_var (pv 6)) ya_nil))) call_rd) (nomark _)) (yw_or1 (yt_cmp op_gt ov_gt (PE.imp (pe_call d_trace_of.ok (hr.mono (by decide)) (by rfl) d_trace_of.mgf d_trace_of.kp d_trace_of.b .nil (passes_call (takes_of rfl rfl rfl rfl) fun _ _ _ _ h => h) (ya_cons (y_var (pv 3)) (ya_cons (y_var (pv 2)) ya_nil))) call_rd) (PE.imp (pe_call d_sum_of.ok (hr.mono (by decide)) (by rfl) d_sum_of.mgf d_sum_of.kp d_sum_of.b .nil (passes_call (takes_of rfl rfl rfl rfl) fun _ _ _ _ h => h) (ya_cons (y_var (pv 3)) (ya_cons (y_var (pv 2)) ya_nil))) call_rd) (nomark _))))) (ys_one (ys_ret y_bl)) ys_nil) (ys_cons (ys_for (ps_for (passes_of rfl) rfl (yi_wlk rfl y_str) (yg_name (pg_name (i := 7) sc__law_listed_right.nd rfl (Or.inl rfl))) (ys_one (ys_if (PW.pt (yw_or (yt_cmp (op_neD hr.units) ov_ne (PE.imp (pe_call d_trace_of.ok (hr.mono (by decide)) (by rfl) d_trace_of.mgf d_trace_of.kp d_trace_of.b .nil (passes_call (takes_of rfl rfl rfl rfl) fun _ _ _ _ h => h) (ya_cons (y_var (pv 3)) (ya_cons (y_var (pv 7)) ya_nil))) call_rd) y_int (nomark _)) (yw_or1 (yt_cmp (op_neD hr.units) ov_ne (PE.imp (pe_call d_trace_of.ok (hr.mono (by decide)) (by rfl) d_trace_of.mgf d_trace_of.kp d_trace_of.b .nil (passes_call (takes_of rfl rfl rfl rfl) fun _ _ _ _ h => h) (ya_cons (y_var (pv 3)) (ya_cons (y_op oy_add2 ov_add2 (y_var (pv 7)) (y_var (pv 7))) ya_nil))) call_rd) (PE.imp (pe_call d_sum_of.ok (hr.mono (by decide)) (by rfl) d_sum_of.mgf d_sum_of.kp d_sum_of.b .nil (passes_call (takes_of rfl rfl rfl rfl) fun _ _ _ _ h => h) (ya_cons (y_var (pv 3)) (ya_cons (y_var (pv 7)) ya_nil))) call_rd) (nomark _))))) (ys_one (ys_ret y_bl)) ys_nil)))) (ys_one (ys_ret (y_chn2 (fun a b c => pe_chain (op_eqD hr.units) (op_eqD hr.units) a b c) ov_eq ov_eq (PE.imp (pe_call d_trace_of.ok (hr.mono (by decide)) (by rfl) d_trace_of.mgf d_trace_of.kp d_trace_of.b .nil (passes_call (takes_of rfl rfl rfl rfl) fun _ _ _ _ h => h) (ya_cons (y_var (pv 3)) (ya_cons y_str ya_nil))) call_rd) (y_ix ix_seq ov_ix (y_var (pv 1)) y_int (fun _ _ => rfl)) (PE.imp (pe_callB (cr_sum rfl) (by rfl) g_sum (by decide +kernel) (ya_cons (y_new (y_lc (E0 := fun _ _ _ => False) (own := [("place", 5)]) rfl sc__law_listed_right.nd (yi_rng1 (pi_range1 (by rfl) g_range (ya_cons (y_ix ix_seq ov_ix (y_var (pv 1)) y_int (fun _ _ => rfl)) ya_nil))) (blkOk_by (N := ["pen", "web", "word", "made", "due", "place", "capitals", "colour"]) (sc := defScope s__law_listed_right) (by decide +kernel)) (by decide) sb_yes (fun _ _ _ _ _ => (yg_name (pg_name (i := 5) sc__law_listed_right.nd rfl (Or.inl rfl)))) (fun _ _ _ _ _ => pts_nil) (fun _ _ _ _ _ => (yn_fz (PE.imp (pe_call d_walks.ok (hr.mono (by decide)) (by rfl) d_walks.mgf d_walks.kp d_walks.b .nil passL (ya_cons (y_var (pv 3)) (ya_cons y_str (ya_cons (y_var (pv 5)) ya_nil)))) call_rd))))) ya_nil)) (cb_rd cv_sum)))))))))))
theorem ok_law {oc kV doc pm ct cdv : Value} {od an : Option Addr} {osl : Array (Option Value)} {f : Addr} (lk : C.K.lookup f = some ⟨oc, od, .func (PySem.W.fnOf "law" "law" (defArgs s_law) (defBody s_law) (defScope s_law) .none kV doc pm an cdv ct), osl⟩) (hcd : PySem.W.codeIn C.K cdv "law" = true) (g_range : mg "range" = none) (g_repr : mg "repr" = none) (k_Web : ClsF C mg "Web" 10 ["places", "ties", "parts", "_near"]) (d__law_pen : Df P w C mg base "_law_pen" 3 ["script"] [] (spN C 1 2 n__law_pen)) (d__law_web : Df P w C mg base "_law_web" 5 ["pen", "places", "share"] [] (spF C 3 7 b__law_web)) (d__law_draw : Df P w C mg base "_law_draw" 3 ["pen", "many"] [] (spF C 2 7 b__law_draw)) (d__law_pick : Df P w C mg base "_law_pick" 4 ["pen", "some"] [] (spF C 2 2 b__law_pick)) (d__law_listed_right : DfG P w C mg base "_law_listed_right" 12 ["pen", "web", "word"] (spF C 3 8 b__law_listed_right)) (d__law_word : Df P w C mg base "_law_word" 5 ["pen", "web", "letters"] [] (spF C 3 10 b__law_word)) (d__law_made : Df P w C mg base "_law_made" 11 ["pen", "web"] [] (spF C 2 6 b__law_made)) (d_trace_of : Df P w C mg base "trace_of" 10 ["web", "word"] [(["word", "web"], [1, 0])] (spF C 2 3 b_trace_of)) (d__law_trace : Df P w C mg base "_law_trace" 5 ["web", "word"] [] (spF C 2 7 b__law_trace)) (d_Web___init__ : DfI P w C mg base 10 9 ["self", "places", "ties"] (spF C 3 6 b_Web___init__)) : FnG P w C.K mg base 13 f (PySem.W.fnOf "law" "law" (defArgs s_law) (defBody s_law) (defScope s_law) .none kV doc pm an cdv ct) ["script"] (spF C 1 9 b_law) :=
  y_fnG (C := C) (k := 12) lk hcd sc_law (by decide) fun A outer s H E hA hr => (ys_cons (ys_newT (ps_set (i := 1) sc_law.nd rfl (Or.inl rfl) (PE.imp (pe_call d__law_pen.ok (hr.mono (by decide)) (by rfl) d__law_pen.mgf d__law_pen.kp d__law_pen.b .nil (passes_call (takes_of rfl rfl rfl rfl) fun _ _ _ _ h => h) (ya_cons (y_var (pv 0)) ya_nil)) callN_rd))) (ys_cons (ys_for (ps_for (passes_of rfl) rfl (yi_rng1 (pi_range1 (by rfl) g_range (ya_cons y_int ya_nil))) (yg_name (pg_name (i := 2) sc_law.nd rfl (Or.inl rfl))) (ys_cons (ys_asg (ps_set (i := 3) sc_law.nd rfl (Or.inl rfl) (PE.imp (pe_call d__law_web.ok (hr.mono (by decide)) (by rfl) d__law_web.mgf d__law_web.kp d__law_web.b .nil (passes_call (takes_of rfl rfl rfl rfl) fun _ _ _ _ h => h) (pa_cons (pv 1) (ya_cons (y_op oy_add2 ov_add2 y_int (PE.imp (pe_call d__law_draw.ok (hr.mono (by decide)) (by rfl) d__law_draw.mgf d__law_draw.kp d__law_draw.b .nil (passes_call (takes_of rfl rfl rfl rfl) fun _ _ _ _ h => h) (pa_cons (pv 1) (ya_cons y_int ya_nil))) callO_rd)) (ya_cons (PE.imp (pe_call d__law_pick.ok (hr.mono (by decide)) (by rfl) d__law_pick.mgf d__law_pick.kp d__law_pick.b .nil (passes_call (takes_of rfl rfl rfl rfl) fun _ _ _ _ h => h) (pa_cons (pv 1) (ya_cons (y_lst (ya_cons y_int (ya_cons y_int (ya_cons y_int (ya_cons y_int ya_nil))))) ya_nil))) callO_rd) ya_nil)))) callO_rd))) (ys_one (ys_for (ps_for (passes_of rfl) rfl (yi_wlk rfl (y_tup (ya_cons (y_op oy_add2 ov_add2 y_int (PE.imp (pe_call d__law_draw.ok (hr.mono (by decide)) (by rfl) d__law_draw.mgf d__law_draw.kp d__law_draw.b .nil (passes_call (takes_of rfl rfl rfl rfl) fun _ _ _ _ h => h) (pa_cons (pv 1) (ya_cons y_int ya_nil))) callO_rd)) (ya_cons (y_op oy_add2 ov_add2 y_int (PE.imp (pe_call d__law_draw.ok (hr.mono (by decide)) (by rfl) d__law_draw.mgf d__law_draw.kp d__law_draw.b .nil (passes_call (takes_of rfl rfl rfl rfl) fun _ _ _ _ h => h) (pa_cons (pv 1) (ya_cons y_int ya_nil))) callO_rd)) (ya_cons (PE.imp (pe_call d__law_draw.ok (hr.mono (by decide)) (by rfl) d__law_draw.mgf d__law_draw.kp d__law_draw.b .nil (passes_call (takes_of rfl rfl rfl rfl) fun _ _ _ _ h => h) (pa_cons (pv 1) (ya_cons y_int ya_nil))) callO_rd) ya_nil))))) (yg_name (pg_name (i := 4) sc_law.nd rfl (Or.inl rfl))) (ys_one (ys_if (yt_not (yt_val rfl (PE.imp (pe_callG d__law_listed_right.ok hA (hr.mono (by decide)) (by rfl) d__law_listed_right.mgf d__law_listed_right.kp d__law_listed_right.b (passes_call (takes_of rfl rfl rfl rfl) fun _ _ _ _ h => h) (pa_cons (pv 1) (ya_cons (y_var (pv 3)) (ya_cons (PE.imp (pe_call d__law_word.ok (hr.mono (by decide)) (by rfl) d__law_word.mgf d__law_word.kp d__law_word.b .nil (passes_call (takes_of rfl rfl rfl rfl) fun _ _ _ _ h => h) (pa_cons (pv 1) (ya_cons (y_var (pv 3)) (ya_cons (y_var (pv 4)) ya_nil)))) callO_rd) ya_nil)))) callO_rd) fun _ => rfl)) (ys_one (ys_ret y_bl)) ys_nil)))))))) (ys_cons (ys_asg (ps_set (i := 3) sc_law.nd rfl (Or.inl rfl) (PE.imp (pe_call d__law_web.ok (hr.mono (by decide)) (by rfl) d__law_web.mgf d__law_web.kp d__law_web.b .nil (passes_call (takes_of rfl rfl rfl rfl) fun _ _ _ _ h => h) (pa_cons (pv 1) (ya_cons (PE.imp (pe_call d__law_pick.ok (hr.mono (by decide)) (by rfl) d__law_pick.mgf d__law_pick.kp d__law_pick.b .nil (passes_call (takes_of rfl rfl rfl rfl) fun _ _ _ _ h => h) (pa_cons (pv 1) (ya_cons (y_lst (ya_cons y_int (ya_cons y_int (ya_cons y_int (ya_cons y_int ya_nil))))) ya_nil))) callO_rd) (ya_cons (PE.imp (pe_call d__law_pick.ok (hr.mono (by decide)) (by rfl) d__law_pick.mgf d__law_pick.kp d__law_pick.b .nil (passes_call (takes_of rfl rfl rfl rfl) fun _ _ _ _ h => h) (pa_cons (pv 1) (ya_cons (y_lst (ya_cons y_int (ya_cons y_int (ya_cons y_int ya_nil)))) ya_nil))) callO_rd) ya_nil)))) callO_rd))) (ys_cons (ys_asg (ps_set (i := 5) sc_law.nd rfl (Or.inl rfl) (PE.imp (pe_call d__law_word.ok (hr.mono (by decide)) (by rfl) d__law_word.mgf d__law_word.kp d__law_word.b .nil (passes_call (takes_of rfl rfl rfl rfl) fun _ _ _ _ h => h) (pa_cons (pv 1) (ya_cons (y_var (pv 3)) (ya_cons (y_op oy_add2 ov_add2 y_int (PE.imp (pe_call d__law_draw.ok (hr.mono (by decide)) (by rfl) d__law_draw.mgf d__law_draw.kp d__law_draw.b .nil (passes_call (takes_of rfl rfl rfl rfl) fun _ _ _ _ h => h) (pa_cons (pv 1) (ya_cons (y_if (yt_cmp op_lt ov_lt (y_ix ix_seq ov_ix (y_var (pv 3)) y_int (fun _ _ => rfl)) y_int (nomark _)) y_int y_int) ya_nil))) callO_rd)) ya_nil)))) callO_rd))) (ys_cons (ys_asg (ps_set (i := 6) sc_law.nd rfl (Or.inl rfl) (PE.imp (pe_call d__law_made.ok (hr.mono (by decide)) (by rfl) d__law_made.mgf d__law_made.kp d__law_made.b .nil (passes_call (takes_of rfl rfl rfl rfl) fun _ _ _ _ h => h) (pa_cons (pv 1) (ya_cons (y_var (pv 3)) ya_nil))) callO_rd))) (ys_cons (ys_if (yt_cmp (op_neD hr.units) ov_ne (PE.imp (pe_callB (call_repr_data hA hr.units) (by rfl) g_repr (by decide +kernel) (ya_cons (PE.imp (pe_call d_trace_of.ok (hr.mono (by decide)) (by rfl) d_trace_of.mgf d_trace_of.kp d_trace_of.b .nil (passes_call (takes_of rfl rfl rfl rfl) fun _ _ _ _ h => h) (ya_cons (y_var (pv 6)) (ya_cons (y_var (pv 5)) ya_nil))) call_rd) ya_nil)) (cb_rd cv_repr)) (PE.imp (pe_callB (call_repr_data hA hr.units) (by rfl) g_repr (by decide +kernel) (ya_cons (PE.imp (pe_call d__law_trace.ok (hr.mono (by decide)) (by rfl) d__law_trace.mgf d__law_trace.kp d__law_trace.b .nil (passes_call (takes_of rfl rfl rfl rfl) fun _ _ _ _ h => h) (ya_cons (y_var (pv 3)) (ya_cons (y_var (pv 5)) ya_nil))) call_rd) ya_nil)) (cb_rd cv_repr)) (nomark _)) (ys_one (ys_ret y_bl)) ys_nil) (ys_cons (ys_asg (ps_set (i := 7) sc_law.nd rfl (Or.inr rfl) (y_newN (PE.imp (pe_make d_Web___init__.mki d_Web___init__.ok (hr.mono (by decide)) (by rfl) k_Web.mgc d_Web___init__.b .nil (passes_call (takes_of rfl rfl rfl rfl) fun _ _ _ _ h => h) (ya_cons y_int (ya_cons (y_lst (ya_cons (y_tup (ya_cons y_int (ya_cons y_int (ya_cons y_str ya_nil)))) (ya_cons (y_tup (ya_cons y_int (ya_cons y_int (ya_cons y_str ya_nil)))) (ya_cons (y_tup (ya_cons y_int (ya_cons y_int (ya_cons y_str ya_nil)))) ya_nil)))) ya_nil))) make_rd)))) (ys_one (ys_ret (y_cmp (op_eqD hr.units) ov_eq (y_new (y_lc (E0 := fun _ _ _ => False) (own := [("many", 8)]) rfl sc_law.nd (yi_wlk rfl (y_tup (ya_cons y_int (ya_cons y_int (ya_cons y_int (ya_cons y_int (ya_cons y_int (ya_cons y_int ya_nil)))))))) (blkOk_by (N := ["script", "pen", "turn", "web", "letters", "word", "made", "triangle", "many"]) (sc := defScope s_law) (by decide +kernel)) (by decide) sb_yes (fun _ _ _ _ _ => (yg_name (pg_name (i := 8) sc_law.nd rfl (Or.inl rfl)))) (fun _ _ _ _ _ => pts_nil) (fun _ _ _ _ _ => (yn_fz (PE.imp (pe_call d_trace_of.ok (hr.mono (by decide)) (by rfl) d_trace_of.mgf d_trace_of.kp d_trace_of.b .nil passL (ya_cons (y_var (pv 7)) (ya_cons (y_op oy_mul2 ov_mul2 y_str (y_var (pv 8))) ya_nil))) call_rd))))) (y_lst (ya_cons y_int (ya_cons y_int (ya_cons y_int (ya_cons y_int (ya_cons y_int (ya_cons y_int ya_nil))))))) (nomark _)))))))))))
end Y

set_option Elab.async false
set_option linter.all false
set_option maxRecDepth 100000
set_option maxHeartbeats 400000
set_option autoImplicit false
namespace Y
open PySem PySem.Spec PyProof.Rows L2 Z
/-! P1: the checks. -/
local macro_rules | `(tactic| infer_instance) => `(tactic| first | (show _ = _; with_reducible assumption) | (show Bd _ _; with_reducible assumption) | (show _ < _; with_reducible assumption) | (show _ ≤ _; with_reducible assumption) | (show Fr _; first | with_reducible assumption | with_reducible exact Fr.fz | with_reducible exact Fr.none) | with_reducible exact (eqV_int _ _) | with_reducible exact (neV_int _ _) | with_reducible exact (sumV_ints _) | with_reducible exact (lenV_ints _) | with_reducible exact (lenV_tints _) | with_reducible exact (absVl_int _) | with_reducible exact wp0 | with_reducible exact st0 | with_reducible exact (small_sz rfl) | with_reducible exact (small_lt rfl) | with_reducible exact (melts_int _) | with_reducible exact e_cst | with_reducible exact e_nilA | with_reducible exact e_next | with_reducible exact e_yesB | with_reducible exact e_noP | with_reducible exact e_cL0 | with_reducible exact e_forL_nil | with_reducible apply e_var | with_reducible apply e_bin | with_reducible apply e_un | with_reducible apply e_tst | with_reducible apply e_or | with_reducible apply e_and | with_reducible apply e_orV | with_reducible apply e_andV | with_reducible apply e_ife | with_reducible apply e_if | with_reducible apply e_notB | with_reducible apply e_consA | with_reducible apply e_tupM | with_reducible apply e_lstM | with_reducible apply e_dispF | with_reducible apply e_cbM | with_reducible apply e_cfM | with_reducible apply e_bfM | with_reducible apply e_ownL | with_reducible apply e_listI | with_reducible apply e_walkM | with_reducible apply e_lrevF | with_reducible apply e_zrM | with_reducible apply e_enum | with_reducible apply e_rng1 | with_reducible apply e_rng2 | with_reducible apply e_parP | with_reducible apply e_sl | with_reducible apply e_slO | with_reducible apply e_view | with_reducible apply e_zipL | with_reducible apply e_chnT | with_reducible apply seqK_nx | with_reducible exact seqK_rt | with_reducible exact seqK_exc | with_reducible apply e_seqG | with_reducible apply e_forS | with_reducible apply e_asg | with_reducible apply e_ret | with_reducible apply e_drop | with_reducible apply e_raise | with_reducible apply e_new | with_reducible apply e_newT | with_reducible apply e_par | with_reducible apply e_parNS | with_reducible apply e_asgT | with_reducible apply q_tup2 | with_reducible apply q_tup3 | with_reducible apply q_lst2 | with_reducible apply q_lst3 | with_reducible apply t_tup2 | with_reducible apply t_tup3 | with_reducible apply t_name | with_reducible apply e_ixO | with_reducible apply e_setS | with_reducible apply e_app | with_reducible apply e_melt | with_reducible apply e_setF | with_reducible apply e_fldO | with_reducible apply e_callM | with_reducible apply e_callO | with_reducible apply wpS | with_reducible apply stS | with_reducible apply mulV2_bd | with_reducible apply divV_pos | with_reducible apply modV_pos | with_reducible apply f1_of | with_reducible apply f2_of | ((with_reducible apply ite_T); first | (show _ = _; with_reducible assumption) | exact rfl | (apply decide_eq_true; omega)) | ((with_reducible apply ite_F); first | (show _ = _; with_reducible assumption) | exact rfl | (apply decide_eq_false; omega)) | exact rfl | decide | (show _ ∧ _; omega) | with_reducible exact bd_lit (by decide) (by decide) | with_reducible exact bd_mod (by decide) (by decide) (by decide) | with_reducible apply powV_nat | (show _ < _; omega) | (show _ ≤ _; omega) | (with_reducible apply fs0; assumption) | with_reducible apply fsS)
local macro_rules | `(tactic| ac_rfl) => `(tactic| repeat' (first | infer_instance | fail))
theorem v_is_integer (i : Int) : runV 1 b_is_integer [.int i] = .ok (.bl true) := by
  apply e_runE [zi i] rfl
  unfold b_is_integer
  ac_rfl
local macro_rules | `(tactic| infer_instance) => `(tactic| with_reducible exact v_is_integer _)
theorem v_is_within {i l m : Int} (h1 : l ≤ i) (h2 : i ≤ m) : runV 3 b_is_within [.int i, .int l, .int m] = .ok (.bl true) := by
  have d1 : decide (l ≤ i) = true := decide_eq_true h1
  have d2 : decide (i ≤ m) = true := decide_eq_true h2
  apply e_runE [zi i, zi l, zi m] rfl
  · unfold b_is_within
    ac_rfl
  · rw [d2]
/-! fixed -/
def prV (p : Int × Int) : Val := .tup [.int p.1, .int p.2]
theorem v_fixed_int (d : Nat) (i : Int) : runV 2 (r_fixed (d + 1)) [.int i] = .ok (.int i) := by
  apply e_runE [zi i, none] rfl
  show t_fixed (r_fixed d) _ = _
  unfold t_fixed
  ac_rfl
theorem v_fixed_seq {α : Type} (d : Nat) (F : α → Val) (xs : List α) {x : Val} (hx : x = .lst (xs.map F) ∨ x = .tup (xs.map F)) (hl : xs.length < 100000) (h : ∀ a ∈ xs, runV 2 (r_fixed d) [F a] = .ok (F a)) (ho : ∀ a ∈ xs, (F a).isO = false) : runV 2 (r_fixed (d + 1)) [x] = .ok (.tup (xs.map F)) := by
  have is : f2 isiV [x, .tup [.ty "list", .ty "tuple"]] = some (.bl true) := by rcases hx with rfl | rfl <;> rfl
  have wk : wlkV x = some (xs.map F) := by rcases hx with rfl | rfl <;> rfl
  have lst : listM (compF [1] (walkM wlkV (varM 0)) (nameT 1) yesB (callM 1 2 (r_fixed d) (consA (varM 1) nilA))) [zv x, none] = .ok (.lst (xs.map F), [zv x, none]) := by
    refine e_listM (e_comp F F (fun a => [zv x, zv (F a)]) xs (e_walkM (e_var rfl) wk) hl rfl rfl rfl fun a ha => ?_) (melts_all ?_)
    · have := h a ha
      exact ⟨rfl, by ac_rfl, rfl, rfl⟩
    · rw [List.all_map, List.all_eq_true]
      intro a ha
      simp [ho a ha]
  apply e_runE [zv x, none] rfl
  · show t_fixed (r_fixed d) _ = _
    unfold t_fixed
    ac_rfl
  · rfl
theorem v_fixed_pairs (ps : List (Int × Int)) (hl : ps.length < 100000) : runV 2 b_fixed [.lst (ps.map prV)] = .ok (.tup (ps.map prV)) := by
  refine v_fixed_seq 3 prV ps (.inl rfl) hl (fun p _ => ?_) fun _ _ => rfl
  refine v_fixed_seq 2 Val.int [p.1, p.2] (.inr rfl) (by show 2 < 100000; decide) (fun i _ => v_fixed_int 1 i) fun _ _ => rfl
/-! first_twice: all unlike -/
def keyP (p : Int × Int) : List Key := [.inl p.1, .inl p.2]
theorem key_at (p : Int × Int) {ρ : En} {i : Nat} (h : ρ[i]? = some (zv (prV p))) : keyM (varM i) ρ = .ok (keyP p, ρ) := by
  unfold keyM
  rw [e_var h, Rs.ok_bind]
  rfl
theorem kix_none {κ : Type} [DecidableEq κ] {k : κ} : ∀ {ks : List κ}, k ∉ ks → kix ks k = none
  | [], _ => rfl
  | q :: qs, h => by
    rw [List.mem_cons, not_or] at h
    unfold kix
    rw [if_neg (Ne.symm h.1), kix_none h.2]
    rfl
theorem keyP_inj {p q : Int × Int} (h : keyP p = keyP q) : p = q := by
  unfold keyP at h
  simp only [List.cons.injEq, Sum.inl.injEq, and_true] at h
  exact Prod.ext h.1 h.2
theorem eqIn_pair (p : Int × Int) : ∃ b, eqIn (prV p) [] = some b := by
  unfold eqIn prV
  simp only [dat, dats]
  refine ⟨_, if_pos ⟨?_, ?_⟩⟩
  · have := shp_tup [p.1, p.2]
    exact this
  · simp [SeqAt.shaped, PyData.canLay0, PyData.depth, PyData.canLayAll0, PyData.depthAll]
theorem first_turn {x : Val} {ks : List (List Key)} {xs : List Val} {p : Int × Int} (hl : xs.length < 100000) (hk : keyP p ∉ ks) :
    firstS 1 3 2 (keyM (varM 2)) [zv x, some (.ob false (.odit ks xs)), zv (prV p), none] = .ok (.nx [zv x, some (.ob false (.odit (ks ++ [keyP p]) (xs ++ [.olst [prV p]]))), zv (prV p), none]) := by
  obtain ⟨b, hb⟩ := eqIn_pair p
  unfold firstS
  show (keyM (varM 2) [zv x, some (.ob false (.odit ks xs)), zv (prV p), none] >>= _) = _
  rw [key_at p rfl, Rs.ok_bind]
  show (if _ then _ else _) = _
  rw [if_pos ⟨by decide, rfl, hl⟩, kix_none hk]
  dsimp only
  rw [hb]
  rfl
theorem v_first_twice (ps : List (Int × Int)) (hl : ps.length < 1000) (nd : ps.Nodup) : runV 4 b_first_twice [.lst (ps.map prV)] = .ok .non := by
  have fx := v_fixed_pairs ps (by omega)
  obtain ⟨ρ', k1, u, k2⟩ := e_loop (tg := nameT 2) (s := firstS 1 3 2 (keyM (varM 2))) prV
    (fun j ρ => ∃ u xs, xs.length = j ∧ Fr u ∧ ρ = [zv (.lst (ps.map prV)), some (.ob false (.odit ((ps.take j).map keyP) xs)), u, none]) ps 0
    [zv (.lst (ps.map prV)), some (.ob false (.odit [] [])), none, none] ⟨none, [], rfl, .none, rfl⟩ fun j p ρ hj ⟨u, xs, hx, fu, e⟩ => by
      subst e
      rw [Nat.zero_add] at hx ⊢
      obtain ⟨hj1, hj2⟩ := List.getElem?_eq_some_iff.mp hj
      have nk : keyP p ∉ (ps.take j).map keyP := fun z => by
        obtain ⟨q, hq, e⟩ := List.mem_map.mp z
        obtain rfl := keyP_inj e
        obtain ⟨i, hi, e2⟩ := List.mem_iff_getElem.mp hq
        rw [List.length_take] at hi
        rw [List.getElem_take] at e2
        have := (List.getElem_inj (h₀ := by omega) (h₁ := hj1) nd).mp (e2.trans hj2.symm)
        omega
      refine ⟨[zv (.lst (ps.map prV)), some (.ob false (.odit ((ps.take j).map keyP) xs)), zv (prV p), none], _, t_name (fsS (fsS (fs0 fu))) rfl, first_turn (by omega) nk, zv (prV p), xs ++ [.olst [prV p]], by simp [hx], .fz, ?_⟩
      rw [List.take_succ, hj]
      simp
  obtain ⟨xs, hx, fu, e⟩ := k2
  subst e
  apply e_runE [zv (.lst (ps.map prV)), none, none, none] rfl
  · unfold b_first_twice
    ac_rfl
  · rfl
/-! colours, places -/
theorem v_is_colour (c : Fin 4) : runV 1 b_is_colour [.str (co c)] = .ok (.bl true) := by
  have q := inQ_co c
  apply e_runE [zs (co c)] rfl
  · unfold b_is_colour
    ac_rfl
  · rfl
theorem v_need_colour (c : Fin 4) (x : Val) : runV 2 b_need_colour [.str (co c), x] = .ok .non := by
  have q := v_is_colour c
  apply e_runN [zs (co c), zv x] rfl
  unfold b_need_colour
  ac_rfl
theorem v_need_place {p n : Int} (h0 : 0 ≤ p) (h1 : p < n) : runV 2 b_need_place [.int p, .int n] = .ok .non := by
  have q := v_is_within (i := p) (l := 0) (m := n - 1) h0 (by omega)
  apply e_runN [zi p, zi n] rfl
  unfold b_need_place
  ac_rfl
end Y

set_option Elab.async false
set_option linter.all false
set_option maxRecDepth 100000
set_option maxHeartbeats 400000
set_option autoImplicit false
namespace Y
open PySem PySem.Spec PyProof.Rows L2 Z
/-! P2: ties that make a web. -/
local macro_rules | `(tactic| infer_instance) => `(tactic| first | (show _ = _; with_reducible assumption) | (show Bd _ _; with_reducible assumption) | (show _ < _; with_reducible assumption) | (show _ ≤ _; with_reducible assumption) | (show Fr _; first | with_reducible assumption | with_reducible exact Fr.fz | with_reducible exact Fr.none) | with_reducible exact (eqV_int _ _) | with_reducible exact (neV_int _ _) | with_reducible exact (sumV_ints _) | with_reducible exact (lenV_ints _) | with_reducible exact (lenV_tints _) | with_reducible exact (absVl_int _) | with_reducible exact wp0 | with_reducible exact st0 | with_reducible exact (small_sz rfl) | with_reducible exact (small_lt rfl) | with_reducible exact (melts_int _) | with_reducible exact e_cst | with_reducible exact e_nilA | with_reducible exact e_next | with_reducible exact e_yesB | with_reducible exact e_noP | with_reducible exact e_cL0 | with_reducible exact e_forL_nil | with_reducible apply e_var | with_reducible apply e_bin | with_reducible apply e_un | with_reducible apply e_tst | with_reducible apply e_or | with_reducible apply e_and | with_reducible apply e_orV | with_reducible apply e_andV | with_reducible apply e_ife | with_reducible apply e_if | with_reducible apply e_notB | with_reducible apply e_consA | with_reducible apply e_tupM | with_reducible apply e_lstM | with_reducible apply e_dispF | with_reducible apply e_cbM | with_reducible apply e_cfM | with_reducible apply e_bfM | with_reducible apply e_ownL | with_reducible apply e_listI | with_reducible apply e_walkM | with_reducible apply e_lrevF | with_reducible apply e_zrM | with_reducible apply e_enum | with_reducible apply e_rng1 | with_reducible apply e_rng2 | with_reducible apply e_parP | with_reducible apply e_sl | with_reducible apply e_slO | with_reducible apply e_view | with_reducible apply e_zipL | with_reducible apply e_chnT | with_reducible apply seqK_nx | with_reducible exact seqK_rt | with_reducible exact seqK_exc | with_reducible apply e_seqG | with_reducible apply e_forS | with_reducible apply e_asg | with_reducible apply e_ret | with_reducible apply e_drop | with_reducible apply e_raise | with_reducible apply e_new | with_reducible apply e_newT | with_reducible apply e_par | with_reducible apply e_parNS | with_reducible apply e_asgT | with_reducible apply q_tup2 | with_reducible apply q_tup3 | with_reducible apply q_lst2 | with_reducible apply q_lst3 | with_reducible apply t_tup2 | with_reducible apply t_tup3 | with_reducible apply t_name | with_reducible apply e_ixO | with_reducible apply e_setS | with_reducible apply e_app | with_reducible apply e_melt | with_reducible apply e_setF | with_reducible apply e_fldO | with_reducible apply e_callM | with_reducible apply e_callO | with_reducible apply wpS | with_reducible apply stS | with_reducible apply mulV2_bd | with_reducible apply divV_pos | with_reducible apply modV_pos | with_reducible apply f1_of | with_reducible apply f2_of | ((with_reducible apply ite_T); first | (show _ = _; with_reducible assumption) | exact rfl | (apply decide_eq_true; omega)) | ((with_reducible apply ite_F); first | (show _ = _; with_reducible assumption) | exact rfl | (apply decide_eq_false; omega)) | exact rfl | decide | (show _ ∧ _; omega) | with_reducible exact bd_lit (by decide) (by decide) | with_reducible exact bd_mod (by decide) (by decide) (by decide) | with_reducible apply powV_nat | (show _ < _; omega) | (show _ ≤ _; omega) | (with_reducible apply fs0; assumption) | with_reducible apply fsS)
local macro_rules | `(tactic| ac_rfl) => `(tactic| repeat' (first | infer_instance | fail))
local macro_rules | `(tactic| infer_instance) => `(tactic| with_reducible exact v_is_integer _)
/-- a tie as it is told: a list or a tuple, either way about -/
abbrev RT := Bool × Nat × Nat × Fin 4
def rawV (r : RT) : Val := if r.1 = true then .lst [.int r.2.1, .int r.2.2.1, .str (co r.2.2.2)] else .tup [.int r.2.1, .int r.2.2.1, .str (co r.2.2.2)]
def tieV (t : Tie) : Val := .tup [.int t.1, .int t.2.1, .str (co t.2.2)]
def rawN (r : RT) : Tie := (min r.2.1 r.2.2.1, max r.2.1 r.2.2.1, r.2.2.2)
structure RawOk (n : Nat) (rs : List RT) : Prop where
  lt : ∀ r ∈ rs, r.2.1 < n ∧ r.2.2.1 < n
  ne : ∀ r ∈ rs, r.2.1 ≠ r.2.2.1
  nd : (rs.map fun r => ((rawN r).1, (rawN r).2.1)).Nodup
  len : rs.length < 1000
theorem raw_fz (r : RT) : (rawV r).isO = false := by unfold rawV; split <;> rfl
theorem raw_tg {r : RT} {ρ ρ1 ρ2 ρ3 : En} {i j k : Nat} (h1 : nameT i (.int r.2.1) ρ = some ρ1) (h2 : nameT j (.int r.2.2.1) ρ1 = some ρ2) (h3 : nameT k (.str (co r.2.2.2)) ρ2 = some ρ3) :
    seqT 3 (consT (nameT i) (consT (nameT j) (consT (nameT k) nilT))) (rawV r) ρ = some ρ3 := by
  unfold rawV
  split
  · exact q_lst3 h1 h2 h3
  · exact q_tup3 h1 h2 h3
theorem minV2_nat (a b : Nat) : minV2 (.int a) (.int b) = some (.int (min a b : Nat)) := by
  show some (Val.int (if (b : Int) < a then b else a)) = _
  congr 2
  split <;> omega
theorem maxV2_nat (a b : Nat) : maxV2 (.int a) (.int b) = some (.int (max a b : Nat)) := by
  show some (Val.int (if (b : Int) > a then b else a)) = _
  congr 2
  split <;> omega
theorem blsOf_rep {α : Type} : ∀ xs : List α, blsOf (xs.map fun _ => Val.bl true) = some (xs.map fun _ => true)
  | [] => rfl
  | x :: xs => by show (blsOf (xs.map fun _ => Val.bl true)).map (true :: ·) = _; rw [blsOf_rep xs]; rfl
theorem allV_rep {α : Type} (xs : List α) : allV (.lst (xs.map fun _ => Val.bl true)) = some (.bl true) := by
  show (blsOf (xs.map fun _ => Val.bl true)).map (fun bs => Val.bl (bs.all id)) = _
  rw [blsOf_rep]; simp
theorem melts_rep {α : Type} (F : α → Val) (xs : List α) (h : ∀ a ∈ xs, (F a).isO = false) : melts (xs.map F) = xs.map F := melts_all (by
  rw [List.all_map, List.all_eq_true]
  intro a ha
  simp [h a ha])
theorem v_is_triple (r : RT) : runV 1 b__is_triple [rawV r] = .ok (.bl true) := by
  have is : f2 isiV [rawV r, .tup [.ty "list", .ty "tuple"]] = some (.bl true) := by unfold rawV; split <;> rfl
  have ln : f1 lenV [rawV r] = some (.int 3) := by unfold rawV; split <;> rfl
  have i0 : ixV (rawV r) (.int 0) = some (.int r.2.1) := by unfold rawV; split <;> rfl
  have i1 : ixV (rawV r) (.int 1) = some (.int r.2.2.1) := by unfold rawV; split <;> rfl
  have i2 : ixV (rawV r) (.int 2) = some (.str (co r.2.2.2)) := by unfold rawV; split <;> rfl
  have c := v_is_colour r.2.2.2
  have ne := neV_int 3 3
  apply e_runE [zv (rawV r)] rfl
  · unfold b__is_triple
    ac_rfl
  · rfl
theorem v_need_ties {n : Nat} {rs : List RT} {x : Val} (hx : x = .lst (rs.map rawV) ∨ x = .tup (rs.map rawV)) (ok : RawOk n rs) : runV 7 b__need_ties [.int n, x] = .ok .non := by
  have is : f2 isiV [x, .tup [.ty "list", .ty "tuple"]] = some (.bl true) := by rcases hx with rfl | rfl <;> rfl
  have wk : wlkV x = some (rs.map rawV) := by rcases hx with rfl | rfl <;> rfl
  have hl := ok.len
  have c1 : listM c1__need_ties [zi n, zv x, none, none, none, none, none] = .ok (.lst (rs.map fun _ => Val.bl true), [zi n, zv x, none, none, none, none, none]) := by
    refine e_listM (e_comp rawV (fun _ => .bl true) (fun r => [zi n, zv x, zv (rawV r), none, none, none, none]) rs (e_walkM (e_var rfl) wk) (by omega) rfl rfl rfl fun r hr => ?_) (melts_rep _ _ fun _ _ => rfl)
    have := v_is_triple r
    exact ⟨rfl, by ac_rfl, rfl, rfl⟩
  have al := allV_rep rs
  -- places
  obtain ⟨ρ1, k1, u3, u4, u5, f3, f4, f5, e1⟩ := e_loop (tg := seqT 3 (consT (nameT 3) (consT (nameT 4) (consT (nameT 5) nilT)))) (s := l1__need_ties) rawV
    (fun _ ρ => ∃ u3 u4 u5, Fr u3 ∧ Fr u4 ∧ Fr u5 ∧ ρ = [zi n, zv x, none, u3, u4, u5, none]) rs 0 _ ⟨none, none, none, .none, .none, .none, rfl⟩ fun j r ρ hj ⟨u3, u4, u5, f3, f4, f5, e⟩ => by
      subst e
      have hr := List.mem_of_getElem? hj
      have p1 := v_need_place (p := r.2.1) (n := n) (by omega) (by have := (ok.lt r hr).1; omega)
      have p2 := v_need_place (p := r.2.2.1) (n := n) (by omega) (by have := (ok.lt r hr).2; omega)
      refine ⟨_, [zi n, zv x, none, zi r.2.1, zi r.2.2.1, zs (co r.2.2.2), none], raw_tg (by ac_rfl) (by ac_rfl) (by ac_rfl), ?_, _, _, _, .fz, .fz, .fz, rfl⟩
      unfold l1__need_ties
      ac_rfl
  subst e1
  -- no tie to itself
  obtain ⟨ρ2, k2, v3, v4, v5, g3, g4, g5, e2⟩ := e_loop (tg := seqT 3 (consT (nameT 3) (consT (nameT 4) (consT (nameT 5) nilT)))) (s := l2__need_ties) rawV
    (fun _ ρ => ∃ u3 u4 u5, Fr u3 ∧ Fr u4 ∧ Fr u5 ∧ ρ = [zi n, zv x, none, u3, u4, u5, none]) rs 0 _ ⟨u3, u4, u5, f3, f4, f5, rfl⟩ fun j r ρ hj ⟨u3, u4, u5, f3, f4, f5, e⟩ => by
      subst e
      have hr := List.mem_of_getElem? hj
      have d : decide ((r.2.1 : Int) = (r.2.2.1 : Int)) = false := decide_eq_false (by have := ok.ne r hr; omega)
      refine ⟨_, [zi n, zv x, none, zi r.2.1, zi r.2.2.1, zs (co r.2.2.2), none], raw_tg (by ac_rfl) (by ac_rfl) (by ac_rfl), ?_, _, _, _, .fz, .fz, .fz, rfl⟩
      unfold l2__need_ties
      ac_rfl
  subst e2
  have c2 : listM c2__need_ties [zi n, zv x, none, v3, v4, v5, none] = .ok (.lst ((rs.map fun r => (((rawN r).1 : Nat), ((rawN r).2.1 : Nat))).map fun p => prV (p.1, p.2)), [zi n, zv x, none, none, none, none, none]) := by
    rw [List.map_map]
    refine e_listM (e_comp rawV (fun r => prV (((rawN r).1 : Nat), ((rawN r).2.1 : Nat))) (fun r => [zi n, zv x, none, zi r.2.1, zi r.2.2.1, zs (co r.2.2.2), none]) rs (e_walkM (e_var rfl) wk) (by omega) (all3 (by ac_rfl) (by ac_rfl) (by ac_rfl)) (by ac_rfl) rfl fun r hr => ?_) (melts_rep _ _ fun _ _ => rfl)
    have m1 := minV2_nat r.2.1 r.2.2.1
    have m2 := maxV2_nat r.2.1 r.2.2.1
    exact ⟨raw_tg (by ac_rfl) (by ac_rfl) (by ac_rfl), by unfold prV rawN; ac_rfl, rfl, rfl⟩
  have nd : ((rs.map fun r => (((rawN r).1 : Nat), ((rawN r).2.1 : Nat))).map fun p => ((p.1 : Int), (p.2 : Int))).Nodup := by
    rw [List.nodup_iff_pairwise_ne, List.pairwise_map]
    exact (List.nodup_iff_pairwise_ne.mp ok.nd).imp fun {a b} h z => h (by
      have z1 : (a.1 : Int) = b.1 := congrArg Prod.fst z
      have z2 : (a.2 : Int) = b.2 := congrArg Prod.snd z
      exact Prod.ext (by omega) (by omega))
  have ft : runV 4 b_first_twice [.lst ((rs.map fun r => (((rawN r).1 : Nat), ((rawN r).2.1 : Nat))).map fun p => prV (p.1, p.2))] = .ok .non := by
    have := v_first_twice _ (by simp; omega) nd
    rw [List.map_map] at this
    exact this
  have wl : walkM wlkV (varM 1) [zi n, zv x, none, none, none, none, none] = .ok (rs.map rawV, [zi n, zv x, none, none, none, none, none]) := e_walkM (e_var rfl) wk
  have wl2 : walkM wlkV (varM 1) [zi n, zv x, none, u3, u4, u5, none] = .ok (rs.map rawV, [zi n, zv x, none, u3, u4, u5, none]) := e_walkM (e_var rfl) wk
  apply e_runN [zi n, zv x, none, none, none, none, none] rfl
  unfold b__need_ties
  ac_rfl
/-! neighbours -/
theorem iota_nat (n : Nat) : iota 0 n = (List.range n).map fun i : Nat => Val.int i := iota_map n
def colKeys : List Key := (List.finRange 4).map fun c => .inr (co c)
theorem colKeys_nd : colKeys.Nodup := by decide
/-- own lists of neighbours, by colours and places -/
def nearO (n : Nat) (N : Near) : Val := .odic colKeys ((List.finRange 4).map fun c => .olst ((List.range n).map fun p => .olst ((N c p).map fun q : Nat => .int q)))
def nearL (n : Nat) (N : Near) : Val := .dic colKeys ((List.finRange 4).map fun c => .lst ((List.range n).map fun p => .lst ((N c p).map fun q : Nat => .int q)))
def nearT (n : Nat) (N : Near) : Val := .dic colKeys ((List.finRange 4).map fun c => .lst ((List.range n).map fun p => .tup ((N c p).map fun q : Nat => .int q)))
theorem melts_map_fz {α : Type} (F G : α → Val) (h : ∀ a, (F a).melt = G a) (xs : List α) : melts (xs.map F) = xs.map G := by
  rw [melts_map, List.map_map]; exact List.map_congr_left fun a _ => h a
theorem melt_olst {α : Type} (F G : α → Val) (h : ∀ a, (F a).melt = G a) (xs : List α) : (Val.olst (xs.map F)).melt = .lst (xs.map G) := by
  unfold Val.melt; rw [melts_map_fz F G h]
theorem nearO_melt (n : Nat) (N : Near) : (nearO n N).melt = nearL n N := by
  unfold nearO nearL
  show Val.dic _ (melts _) = _
  rw [melts_map_fz _ _ fun c => melt_olst _ _ (fun p => melt_olst _ _ (fun q => melt_fz rfl) _) _]
/-- the place of a colour's key -/
theorem kix_col (c : Fin 4) : kix colKeys (.inr (co c)) = some c.val := by
  match c with
  | 0 => rfl
  | 1 => rfl
  | 2 => rfl
  | 3 => rfl
theorem fin_get (c : Fin 4) {α : Type} (F : Fin 4 → α) : ((List.finRange 4).map F)[c.val]? = some (F c) := by
  match c with
  | 0 => rfl
  | 1 => rfl
  | 2 => rfl
  | 3 => rfl
def addN (N : Near) (c : Fin 4) (p q : Nat) : Near := fun d r => if d = c ∧ r = p then N d r ++ [q] else N d r
theorem set_fin (c : Fin 4) {α : Type} (F G : Fin 4 → α) (h : ∀ d, d ≠ c → F d = G d) : ((List.finRange 4).map F).set c.val (G c) = (List.finRange 4).map G := by
  match c with
  | 0 => show [G 0, F 1, F 2, F 3] = [G 0, G 1, G 2, G 3]; rw [h 1 (by decide), h 2 (by decide), h 3 (by decide)]
  | 1 => show [F 0, G 1, F 2, F 3] = [G 0, G 1, G 2, G 3]; rw [h 0 (by decide), h 2 (by decide), h 3 (by decide)]
  | 2 => show [F 0, F 1, G 2, F 3] = [G 0, G 1, G 2, G 3]; rw [h 0 (by decide), h 1 (by decide), h 3 (by decide)]
  | 3 => show [F 0, F 1, F 2, G 3] = [G 0, G 1, G 2, G 3]; rw [h 0 (by decide), h 1 (by decide), h 2 (by decide)]
theorem set_range {α : Type} (n p : Nat) (F G : Nat → α) (h : ∀ r, r ≠ p → F r = G r) : ((List.range n).map F).set p (G p) = (List.range n).map G := by
  apply List.ext_getElem?
  intro i
  rw [List.getElem?_set]
  by_cases hi : i < n
  · by_cases e : p = i
    · subst e; simp [hi]
    · rw [if_neg e]; simp [hi, h i (Ne.symm e)]
  · rw [List.getElem?_eq_none (show ((List.range n).map G).length ≤ i by simp; omega)]
    split
    · rw [if_neg (by simp; omega)]
    · exact List.getElem?_eq_none (by simp; omega)
theorem app2_near {n : Nat} {N : Near} {c : Fin 4} {p q : Nat} (hp : p < n) (hl : (N c p).length < 100000) {ρ : En} {i ci oi vi : Nat} (h0 : ρ[i]? = some (some (.ob false (nearO n N)))) (h1 : ρ[ci]? = some (zs (co c))) (h2 : ρ[oi]? = some (zi p)) (h3 : ρ[vi]? = some (zi q)) :
    app2S i ci oi vi ρ = .ok (.nx (ρ.set i (some (.ob false (nearO n (addN N c p q)))))) := by
  unfold app2S
  rw [h0, h1, h2, h3]
  unfold nearO
  dsimp only
  rw [show keyV (.str (co c)) = some (.inr (co c)) from rfl]
  dsimp only
  rw [kix_col]
  dsimp only
  rw [fin_get]
  dsimp only
  rw [show ixN (List.map (fun p => Val.olst ((N c p).map fun q : Nat => .int q)) (List.range n)).length (p : Int) = some p by rw [List.length_map, List.length_range]; unfold ixN; simp [hp]]
  dsimp only
  rw [show (List.map (fun p => Val.olst ((N c p).map fun q : Nat => .int q)) (List.range n))[p]? = some (.olst ((N c p).map fun q : Nat => .int q)) by simp [hp]]
  dsimp only
  rw [if_pos (by rw [List.length_map]; exact hl)]
  congr 5
  rw [← set_fin c (fun c => Val.olst ((List.range n).map fun p => .olst ((N c p).map fun q : Nat => .int q))) (fun d => Val.olst ((List.range n).map fun r => .olst ((addN N c p q d r).map fun q : Nat => .int q))) fun d hd => by
    congr 1
    refine List.map_congr_left fun r _ => ?_
    unfold addN
    rw [if_neg fun z => hd z.1]]
  congr 2
  rw [← set_range n p (fun r => Val.olst ((N c r).map fun q : Nat => .int q)) (fun r => Val.olst ((addN N c p q c r).map fun q : Nat => .int q)) fun r hr => by
    unfold addN
    rw [if_neg fun z => hr z.2]]
  congr 2
  unfold addN
  rw [if_pos ⟨rfl, rfl⟩, List.map_append]
  rfl
end Y

set_option Elab.async false
set_option linter.all false
set_option maxRecDepth 100000
set_option maxHeartbeats 400000
set_option autoImplicit false
namespace Y
open PySem PySem.Spec PyProof.Rows L2 Z
/-! P3: neighbours and parts of a web. -/
local macro_rules | `(tactic| infer_instance) => `(tactic| first | (show _ = _; with_reducible assumption) | (show Bd _ _; with_reducible assumption) | (show _ < _; with_reducible assumption) | (show _ ≤ _; with_reducible assumption) | (show Fr _; first | with_reducible assumption | with_reducible exact Fr.fz | with_reducible exact Fr.none) | with_reducible exact (eqV_int _ _) | with_reducible exact (neV_int _ _) | with_reducible exact (sumV_ints _) | with_reducible exact (lenV_ints _) | with_reducible exact (lenV_tints _) | with_reducible exact (absVl_int _) | with_reducible exact wp0 | with_reducible exact st0 | with_reducible exact (small_sz rfl) | with_reducible exact (small_lt rfl) | with_reducible exact (melts_int _) | with_reducible exact e_cst | with_reducible exact e_nilA | with_reducible exact e_next | with_reducible exact e_yesB | with_reducible exact e_noP | with_reducible exact e_cL0 | with_reducible exact e_forL_nil | with_reducible apply e_var | with_reducible apply e_bin | with_reducible apply e_un | with_reducible apply e_tst | with_reducible apply e_or | with_reducible apply e_and | with_reducible apply e_orV | with_reducible apply e_andV | with_reducible apply e_ife | with_reducible apply e_if | with_reducible apply e_notB | with_reducible apply e_consA | with_reducible apply e_tupM | with_reducible apply e_lstM | with_reducible apply e_dispF | with_reducible apply e_cbM | with_reducible apply e_cfM | with_reducible apply e_bfM | with_reducible apply e_ownL | with_reducible apply e_listI | with_reducible apply e_walkM | with_reducible apply e_lrevF | with_reducible apply e_zrM | with_reducible apply e_enum | with_reducible apply e_rng1 | with_reducible apply e_rng2 | with_reducible apply e_parP | with_reducible apply e_sl | with_reducible apply e_slO | with_reducible apply e_view | with_reducible apply e_zipL | with_reducible apply e_chnT | with_reducible apply seqK_nx | with_reducible exact seqK_rt | with_reducible exact seqK_exc | with_reducible apply e_seqG | with_reducible apply e_forS | with_reducible apply e_asg | with_reducible apply e_ret | with_reducible apply e_drop | with_reducible apply e_raise | with_reducible apply e_new | with_reducible apply e_newT | with_reducible apply e_par | with_reducible apply e_parNS | with_reducible apply e_asgT | with_reducible apply q_tup2 | with_reducible apply q_tup3 | with_reducible apply q_lst2 | with_reducible apply q_lst3 | with_reducible apply t_tup2 | with_reducible apply t_tup3 | with_reducible apply t_name | with_reducible apply e_ixO | with_reducible apply e_setS | with_reducible apply e_app | with_reducible apply e_melt | with_reducible apply e_setF | with_reducible apply e_fldO | with_reducible apply e_callM | with_reducible apply e_callO | with_reducible apply wpS | with_reducible apply stS | with_reducible apply mulV2_bd | with_reducible apply divV_pos | with_reducible apply modV_pos | with_reducible apply f1_of | with_reducible apply f2_of | ((with_reducible apply ite_T); first | (show _ = _; with_reducible assumption) | exact rfl | (apply decide_eq_true; omega)) | ((with_reducible apply ite_F); first | (show _ = _; with_reducible assumption) | exact rfl | (apply decide_eq_false; omega)) | exact rfl | decide | (show _ ∧ _; omega) | with_reducible exact bd_lit (by decide) (by decide) | with_reducible exact bd_mod (by decide) (by decide) (by decide) | with_reducible apply powV_nat | (show _ < _; omega) | (show _ ≤ _; omega) | (with_reducible apply fs0; assumption) | with_reducible apply fsS)
local macro_rules | `(tactic| ac_rfl) => `(tactic| repeat' (first | infer_instance | fail))
local macro_rules | `(tactic| infer_instance) => `(tactic| with_reducible exact v_is_integer _)
theorem ac_app (us : List Tie) (t : Tie) (c : Fin 4) (p : Nat) : ac (us ++ [t]) c p = ac us c p ++ ((if t.1 == p && t.2.2 == c then [t.2.1] else []) ++ (if t.2.1 == p && t.2.2 == c then [t.1] else [])) := by
  unfold ac; rw [List.flatMap_append]; simp
theorem ac_step (us : List Tie) (t : Tie) (h : t.1 ≠ t.2.1) : addN (addN (ac us) t.2.2 t.1 t.2.1) t.2.2 t.2.1 t.1 = ac (us ++ [t]) := by
  funext d r
  rw [ac_app]
  unfold addN
  by_cases hd : d = t.2.2
  · subst hd
    by_cases h1 : r = t.1
    · subst h1; simp [h, Ne.symm h]
    · by_cases h2 : r = t.2.1
      · subst h2; simp [h, Ne.symm h]
      · simp [h1, h2, Ne.symm h1, Ne.symm h2]
  · simp [hd, Ne.symm hd]
theorem ac_len (us : List Tie) (c : Fin 4) (p : Nat) : (ac us c p).length ≤ 2 * us.length := by
  unfold ac
  induction us with
  | nil => simp
  | cons t us ih =>
    rw [List.flatMap_cons, List.length_append, List.length_append, List.length_cons]
    have h1 : (if t.1 == p && t.2.2 == c then [t.2.1] else []).length ≤ 1 := by split <;> simp
    have h2 : (if t.2.1 == p && t.2.2 == c then [t.1] else []).length ≤ 1 := by split <;> simp
    omega
theorem intsOf_nat : ∀ l : List Nat, intsOf (l.map fun q : Nat => Val.int q) = some (l.map Nat.cast)
  | [] => rfl
  | q :: l => by show (intsOf (l.map fun q : Nat => Val.int q)).map ((q : Int) :: ·) = _; rw [intsOf_nat l]; rfl
theorem sortIF_nat (l : List Nat) : sortIF [.lst (l.map fun q : Nat => Val.int q)] = some ((sortN l).map fun q : Nat => .int q) := by
  unfold sortIF
  dsimp only
  rw [intsOf_nat, Option.map_some, sortI_cast, List.map_map]
  rfl
/-- what is asked of a list of ties, one place below the other -/
structure TiesOk (n : Nat) (ts : List Tie) : Prop where
  lt : ∀ t ∈ ts, t.1 < t.2.1 ∧ t.2.1 < n
  len : ts.length < 1000
theorem tie_tg {t : Tie} {ρ ρ1 ρ2 ρ3 : En} {i j k : Nat} (h1 : nameT i (.int t.1) ρ = some ρ1) (h2 : nameT j (.int t.2.1) ρ1 = some ρ2) (h3 : nameT k (.str (co t.2.2)) ρ2 = some ρ3) :
    seqT 3 (consT (nameT i) (consT (nameT j) (consT (nameT k) nilT))) (tieV t) ρ = some ρ3 := q_tup3 h1 h2 h3
theorem cols_walk {ρ : En} : walkM wlkV (cstM (.tup ([("a" : Str), ("b" : Str), ("c" : Str), ("d" : Str)].map .str))) ρ = .ok ((List.finRange 4).map fun c => .str (co c), ρ) := by
  rw [cols_eq, List.map_map]; rfl
theorem dget_near (n : Nat) (N : Near) (c : Fin 4) : dgetV (nearL n N) (.str (co c)) = some (.lst ((List.range n).map fun p => .lst ((N c p).map fun q : Nat => .int q))) := by
  unfold dgetV nearL
  dsimp only
  rw [show keyV (.str (co c)) = some (.inr (co c)) from rfl, Option.bind_some, kix_col, Option.bind_some, fin_get]
theorem dget_nearT (n : Nat) (N : Near) (c : Fin 4) : dgetV (nearT n N) (.str (co c)) = some (.lst ((List.range n).map fun p => .tup ((N c p).map fun q : Nat => .int q))) := by
  unfold dgetV nearT
  dsimp only
  rw [show keyV (.str (co c)) = some (.inr (co c)) from rfl, Option.bind_some, kix_col, Option.bind_some, fin_get]
theorem nb_turn {n : Nat} {ts : List Tie} (ok : TiesOk n ts) {j : Nat} {t : Tie} (hj : ts[j]? = some t) {x : Val} {u4 u5 u6 : Option SV} (f4 : Fr u4) (f5 : Fr u5) (f6 : Fr u6) :
    ∃ ρ1 ρ2, seqT 3 (consT (nameT 5) (consT (nameT 6) (consT (nameT 4) nilT))) (tieV t) [zi n, zv x, some (.ob false (nearO n (ac (ts.take j)))), none, u4, u5, u6, none] = some ρ1 ∧ l1__neighbours ρ1 = .ok (.nx ρ2) ∧
      ∃ u4 u5 u6, Fr u4 ∧ Fr u5 ∧ Fr u6 ∧ ρ2 = [zi n, zv x, some (.ob false (nearO n (ac (ts.take (j + 1))))), none, u4, u5, u6, none] := by
  have hl := ok.len
  have ht := ok.lt t (List.mem_of_getElem? hj)
  have l1 := ac_len (ts.take j) t.2.2 t.1
  have l2 : (addN (ac (ts.take j)) t.2.2 t.1 t.2.1 t.2.2 t.2.1).length < 100000 := by
    unfold addN
    rw [if_neg (by omega)]
    have := ac_len (ts.take j) t.2.2 t.2.1
    rw [List.length_take] at this
    omega
  rw [List.length_take] at l1
  have st := ac_step (ts.take j) t (by omega)
  have tk : ts.take (j + 1) = ts.take j ++ [t] := by rw [List.take_succ, hj]; rfl
  rw [tk, ← st]
  generalize ac (ts.take j) = A at *
  have a1 := app2_near (n := n) (N := A) (c := t.2.2) (p := t.1) (q := t.2.1) (by omega) (by omega) (ρ := [zi n, zv x, some (.ob false (nearO n A)), none, zs (co t.2.2), zi t.1, zi t.2.1, none]) (i := 2) (ci := 4) (oi := 5) (vi := 6) rfl rfl rfl rfl
  generalize addN A t.2.2 t.1 t.2.1 = B at *
  have a2 := app2_near (n := n) (N := B) (c := t.2.2) (p := t.2.1) (q := t.1) ht.2 l2 (ρ := [zi n, zv x, some (.ob false (nearO n B)), none, zs (co t.2.2), zi t.1, zi t.2.1, none]) (i := 2) (ci := 4) (oi := 6) (vi := 5) rfl rfl rfl rfl
  generalize addN B t.2.2 t.2.1 t.1 = D at *
  exact ⟨[zi n, zv x, some (.ob false (nearO n A)), none, zs (co t.2.2), zi t.1, zi t.2.1, none], [zi n, zv x, some (.ob false (nearO n D)), none, zs (co t.2.2), zi t.1, zi t.2.1, none], tie_tg (by ac_rfl) (by ac_rfl) (by ac_rfl), e_seq a1 a2, _, _, _, .fz, .fz, .fz, rfl⟩
theorem v_neighbours_ {n : Nat} {ts : List Tie} (hn : n ≤ 24) (ok : TiesOk n ts) : runV 8 b__neighbours [.int n, .tup (ts.map tieV)] = .ok (nearT n fun c p => sortN (ac ts c p)) := by
  have hl := ok.len
  have d1 : d1__neighbours [zi n, zv (.tup (ts.map tieV)), none, none, none, none, none, none] = .ok (nearO n (ac []), [zi n, zv (.tup (ts.map tieV)), none, none, none, none, none, none]) := by
    refine e_dcomp (fun c => .str (co c)) (fun c => .inr (co c)) (fun c => .str (co c)) (fun c => .olst ((List.range n).map fun p => .olst ((ac [] c p).map fun q : Nat => .int q))) (fun c => [zi n, zv (.tup (ts.map tieV)), none, none, zs (co c), none, none, none]) (List.finRange 4) colKeys_nd cols_walk (by decide) rfl rfl rfl fun c _ => ⟨rfl, e_var rfl, rfl, ?_, rfl, rfl⟩
    refine e_ownL (e_comp (fun i : Nat => .int i) (fun _ => .olst []) (fun i => [zi n, zv (.tup (ts.map tieV)), none, zi i, zs (co c), none, none, none]) (List.range n) ?_ (by rw [List.length_range]; omega) rfl rfl rfl fun i _ => ⟨rfl, by ac_rfl, rfl, rfl⟩)
    rw [← iota_nat]
    exact e_rng1 (j := n) (e_consA (e_var rfl) e_nilA) (by omega)
  obtain ⟨ρ', k1, u4, u5, u6, f4, f5, f6, e⟩ := e_loop (tg := seqT 3 (consT (nameT 5) (consT (nameT 6) (consT (nameT 4) nilT)))) (s := l1__neighbours) tieV
    (fun j ρ => ∃ u4 u5 u6, Fr u4 ∧ Fr u5 ∧ Fr u6 ∧ ρ = [zi n, zv (.tup (ts.map tieV)), some (.ob false (nearO n (ac (ts.take j)))), none, u4, u5, u6, none]) ts 0 [zi n, zv (.tup (ts.map tieV)), some (.ob false (nearO n (ac []))), none, none, none, none, none] ⟨none, none, none, .none, .none, .none, rfl⟩ fun j t ρ hj ⟨u4, u5, u6, f4, f5, f6, e⟩ => by
      subst e
      rw [Nat.zero_add]
      exact nb_turn ok hj f4 f5 f6
  subst e
  rw [Nat.zero_add, List.take_length] at k1
  have d2 : d2__neighbours [zi n, zv (.tup (ts.map tieV)), zv (nearL n (ac ts)), none, u4, u5, u6, none] = .ok (.odic colKeys ((List.finRange 4).map fun c => .lst ((List.range n).map fun p => .tup ((sortN (ac ts c p)).map fun q : Nat => .int q))), [zi n, zv (.tup (ts.map tieV)), zv (nearL n (ac ts)), none, none, u5, u6, none]) := by
    refine e_dcomp (fun c => .str (co c)) (fun c => .inr (co c)) (fun c => .str (co c)) (fun c => .lst ((List.range n).map fun p => .tup ((sortN (ac ts c p)).map fun q : Nat => .int q))) (fun c => [zi n, zv (.tup (ts.map tieV)), zv (nearL n (ac ts)), none, zs (co c), u5, u6, none]) (List.finRange 4) colKeys_nd cols_walk (by decide) (all1 (by ac_rfl)) rfl rfl fun c _ => ⟨rfl, e_var rfl, rfl, ?_, rfl, rfl⟩
    have dg := dget_near n (ac ts) c
    refine e_listM (e_comp (fun p : Nat => .lst ((ac ts c p).map fun q : Nat => .int q)) (fun p => .tup ((sortN (ac ts c p)).map fun q : Nat => .int q)) (fun p => [zi n, zv (.tup (ts.map tieV)), zv (nearL n (ac ts)), none, zs (co c), u5, u6, zv (.lst ((ac ts c p).map fun q : Nat => .int q))]) (List.range n) (e_walkL (by ac_rfl)) (by rw [List.length_range]; omega) rfl rfl rfl fun p _ => ⟨rfl, ?_, rfl, rfl⟩) (melts_rep _ _ fun _ _ => rfl)
    have so := sortIF_nat (ac ts c p)
    have ml := melts_rep (fun q : Nat => Val.int q) (sortN (ac ts c p)) fun _ _ => rfl
    have cf : cfM sortIF (consA (varM 7) nilA) [zi n, zv (.tup (ts.map tieV)), zv (nearL n (ac ts)), none, zs (co c), u5, u6, zv (.lst ((ac ts c p).map fun q : Nat => .int q))] = .ok ((sortN (ac ts c p)).map fun q : Nat => .int q, [zi n, zv (.tup (ts.map tieV)), zv (nearL n (ac ts)), none, zs (co c), u5, u6, zv (.lst ((ac ts c p).map fun q : Nat => .int q))]) := by ac_rfl
    exact e_cbM (e_consA (e_listM cf ml) e_nilA) rfl
  apply e_runE [zi n, zv (.tup (ts.map tieV)), none, none, none, none, none, none] rfl
  · unfold b__neighbours
    apply e_seq
    · ac_rfl
    apply e_seq
    · exact e_forS (e_walkT (e_var rfl)) k1
    refine e_meltG (x := nearO n (ac ts)) (y := nearL n (ac ts)) rfl (nearO_melt _ _) rfl ?_
    have dm := e_meltM (y := nearT n fun c p => sortN (ac ts c p)) d2 (by
      show Val.dic _ (melts _) = _
      rw [melts_rep _ _ fun _ _ => rfl]
      rfl)
    exact e_ret dm
  · rfl
end Y

set_option Elab.async false
set_option linter.all false
set_option maxRecDepth 100000
set_option maxHeartbeats 400000
set_option autoImplicit false
namespace Y
open PySem PySem.Spec PyProof.Rows L2 Z
/-! P4: parts; the Web. -/
local macro_rules | `(tactic| infer_instance) => `(tactic| first | (show _ = _; with_reducible assumption) | (show Bd _ _; with_reducible assumption) | (show _ < _; with_reducible assumption) | (show _ ≤ _; with_reducible assumption) | (show Fr _; first | with_reducible assumption | with_reducible exact Fr.fz | with_reducible exact Fr.none) | with_reducible exact (eqV_int _ _) | with_reducible exact (neV_int _ _) | with_reducible exact (sumV_ints _) | with_reducible exact (lenV_ints _) | with_reducible exact (lenV_tints _) | with_reducible exact (absVl_int _) | with_reducible exact wp0 | with_reducible exact st0 | with_reducible exact (small_sz rfl) | with_reducible exact (small_lt rfl) | with_reducible exact (melts_int _) | with_reducible exact e_cst | with_reducible exact e_nilA | with_reducible exact e_next | with_reducible exact e_yesB | with_reducible exact e_noP | with_reducible exact e_cL0 | with_reducible exact e_forL_nil | with_reducible apply e_var | with_reducible apply e_bin | with_reducible apply e_un | with_reducible apply e_tst | with_reducible apply e_or | with_reducible apply e_and | with_reducible apply e_orV | with_reducible apply e_andV | with_reducible apply e_ife | with_reducible apply e_if | with_reducible apply e_notB | with_reducible apply e_consA | with_reducible apply e_tupM | with_reducible apply e_lstM | with_reducible apply e_dispF | with_reducible apply e_cbM | with_reducible apply e_cfM | with_reducible apply e_bfM | with_reducible apply e_ownL | with_reducible apply e_listI | with_reducible apply e_walkM | with_reducible apply e_lrevF | with_reducible apply e_zrM | with_reducible apply e_enum | with_reducible apply e_rng1 | with_reducible apply e_rng2 | with_reducible apply e_parP | with_reducible apply e_sl | with_reducible apply e_slO | with_reducible apply e_view | with_reducible apply e_zipL | with_reducible apply e_chnT | with_reducible apply seqK_nx | with_reducible exact seqK_rt | with_reducible exact seqK_exc | with_reducible apply e_seqG | with_reducible apply e_forS | with_reducible apply e_asg | with_reducible apply e_ret | with_reducible apply e_drop | with_reducible apply e_raise | with_reducible apply e_new | with_reducible apply e_newT | with_reducible apply e_par | with_reducible apply e_parNS | with_reducible apply e_asgT | with_reducible apply q_tup2 | with_reducible apply q_tup3 | with_reducible apply q_lst2 | with_reducible apply q_lst3 | with_reducible apply t_tup2 | with_reducible apply t_tup3 | with_reducible apply t_name | with_reducible apply e_ixO | with_reducible apply e_setS | with_reducible apply e_app | with_reducible apply e_melt | with_reducible apply e_setF | with_reducible apply e_fldO | with_reducible apply e_callM | with_reducible apply e_callO | with_reducible apply wpS | with_reducible apply stS | with_reducible apply mulV2_bd | with_reducible apply divV_pos | with_reducible apply modV_pos | with_reducible apply f1_of | with_reducible apply f2_of | ((with_reducible apply ite_T); first | (show _ = _; with_reducible assumption) | exact rfl | (apply decide_eq_true; omega)) | ((with_reducible apply ite_F); first | (show _ = _; with_reducible assumption) | exact rfl | (apply decide_eq_false; omega)) | exact rfl | decide | (show _ ∧ _; omega) | with_reducible exact bd_lit (by decide) (by decide) | with_reducible exact bd_mod (by decide) (by decide) (by decide) | with_reducible apply powV_nat | (show _ < _; omega) | (show _ ≤ _; omega) | (with_reducible apply fs0; assumption) | with_reducible apply fsS)
local macro_rules | `(tactic| ac_rfl) => `(tactic| repeat' (first | infer_instance | fail))
local macro_rules | `(tactic| infer_instance) => `(tactic| with_reducible exact v_is_integer _)
theorem insU_cast (x : Nat) : ∀ ys : List Nat, insU (x : Int) (ys.map Nat.cast) = (insUN x ys).map Nat.cast
  | [] => rfl
  | y :: ys => by
    rw [List.map_cons]
    unfold insU insUN
    by_cases h : y < x
    · rw [if_pos (by omega), if_pos h, insU_cast x ys]; rfl
    · rw [if_neg (by omega), if_neg h]
      by_cases e : x = y
      · rw [if_pos (by omega), if_pos e]; rfl
      · rw [if_neg (by omega), if_neg e]; rfl
theorem setI_cast : ∀ xs : List Nat, setI (xs.map Nat.cast) = (setN xs).map Nat.cast
  | [] => rfl
  | x :: xs => by
    show insU (x : Int) (setI (xs.map Nat.cast)) = _
    rw [setI_cast xs, insU_cast]; rfl
abbrev natL (L : List Nat) : Val := .lst (L.map fun q : Nat => .int q)
abbrev natT (L : List Nat) : Val := .tup (L.map fun q : Nat => .int q)
theorem atI_nat {L : List Nat} {i : Nat} (h : i < L.length) : atI (L.map fun q : Nat => Val.int q) (i : Int) = some (.int (gN L i)) := by
  unfold atI
  rw [List.length_map, show ixN L.length (i : Int) = some i by unfold ixN; simp [h]]
  unfold gN
  simp [h]
theorem ixV_natL {L : List Nat} {i : Nat} (h : i < L.length) : ixV (natL L) (.int i) = some (.int (gN L i)) := atI_nat h
theorem ixV_natT {L : List Nat} {i : Nat} (h : i < L.length) : ixV (natT L) (.int i) = some (.int (gN L i)) := atI_nat h
theorem melts_nat (L : List Nat) : melts (L.map fun q : Nat => Val.int q) = L.map fun q : Nat => Val.int q := melts_rep _ _ fun _ _ => rfl
theorem part_turn {n : Nat} {ts : List Tie} (ok : TiesOk n ts) {j : Nat} {t : Tie} (hj : ts[j]? = some t) {x : Val} {u3 u4 u5 u6 u7 : Option SV} (f3 : Fr u3) (f4 : Fr u4) (f5 : Fr u5) (f6 : Fr u6) (f7 : Fr u7) (hn : n ≤ 24) :
    ∃ ρ1 ρ2, seqT 3 (consT (nameT 3) (consT (nameT 4) (consT (nameT 5) nilT))) (tieV t) [zi n, zv x, zv (natL (leastsF n (ts.take j))), u3, u4, u5, u6, u7, none, none] = some ρ1 ∧ l1__parts ρ1 = .ok (.nx ρ2) ∧
      ∃ u3 u4 u5 u6 u7, Fr u3 ∧ Fr u4 ∧ Fr u5 ∧ Fr u6 ∧ Fr u7 ∧ ρ2 = [zi n, zv x, zv (natL (leastsF n (ts.take (j + 1)))), u3, u4, u5, u6, u7, none, none] := by
  have ht := ok.lt t (List.mem_of_getElem? hj)
  have tk : leastsF n (ts.take (j + 1)) = stepL (leastsF n (ts.take j)) t := by
    unfold leastsF
    rw [List.take_succ, hj, List.foldl_append]; rfl
  rw [tk]
  have ll := leastsF_len n (ts.take j)
  generalize leastsF n (ts.take j) = L at *
  have i1 := ixV_natL (L := L) (i := t.1) (by omega)
  have i2 := ixV_natL (L := L) (i := t.2.1) (by omega)
  have m1 := minV2_nat (gN L t.1) (gN L t.2.1)
  have m2 := maxV2_nat (gN L t.1) (gN L t.2.1)
  have c1 : listM c1__parts [zi n, zv x, zv (natL L), zi t.1, zi t.2.1, zs (co t.2.2), zi (min (gN L t.1) (gN L t.2.1) : Nat), zi (max (gN L t.1) (gN L t.2.1) : Nat), none, none] = .ok (natL (stepL L t), [zi n, zv x, zv (natL L), zi t.1, zi t.2.1, zs (co t.2.2), zi (min (gN L t.1) (gN L t.2.1) : Nat), zi (max (gN L t.1) (gN L t.2.1) : Nat), none, none]) := by
    have e : (stepL L t).map (fun q : Nat => Val.int q) = L.map fun l : Nat => .int ((if l = max (gN L t.1) (gN L t.2.1) then min (gN L t.1) (gN L t.2.1) else l : Nat) : Int) := by
      unfold stepL; rw [List.map_map]; rfl
    refine e_listM (ys := (stepL L t).map fun q : Nat => Val.int q) ?_ (melts_nat _)
    rw [e]
    refine e_comp (fun q : Nat => .int q) _ (fun l => [zi n, zv x, zv (natL L), zi t.1, zi t.2.1, zs (co t.2.2), zi (min (gN L t.1) (gN L t.2.1) : Nat), zi (max (gN L t.1) (gN L t.2.1) : Nat), zi l, none]) L (e_walkL (e_var rfl)) (by omega) rfl rfl rfl fun l _ => ⟨rfl, ?_, rfl, rfl⟩
    by_cases h : l = max (gN L t.1) (gN L t.2.1)
    · have d : decide ((l : Int) = ((max (gN L t.1) (gN L t.2.1) : Nat) : Int)) = true := decide_eq_true (by omega)
      rw [if_pos h]
      ac_rfl
    · have d : decide ((l : Int) = ((max (gN L t.1) (gN L t.2.1) : Nat) : Int)) = false := decide_eq_false (by omega)
      rw [if_neg h]
      ac_rfl
  refine ⟨[zi n, zv x, zv (natL L), zi t.1, zi t.2.1, zs (co t.2.2), u6, u7, none, none], [zi n, zv x, zv (natL (stepL L t)), zi t.1, zi t.2.1, zs (co t.2.2), zi (min (gN L t.1) (gN L t.2.1) : Nat), zi (max (gN L t.1) (gN L t.2.1) : Nat), none, none], tie_tg (by ac_rfl) (by ac_rfl) (by ac_rfl), ?_, _, _, _, _, _, .fz, .fz, .fz, .fz, .fz, rfl⟩
  unfold l1__parts
  ac_rfl
theorem v_parts_ {n : Nat} {ts : List Tie} (hn : n ≤ 24) (ok : TiesOk n ts) : runV 10 b__parts [.int n, .tup (ts.map tieV)] = .ok (.tup ((partsF n ts).map natT)) := by
  have hl := ok.len
  have lr : listM (lrgF (varM 0)) [zi n, zv (.tup (ts.map tieV)), none, none, none, none, none, none, none, none] = .ok (natL (List.range n), [zi n, zv (.tup (ts.map tieV)), none, none, none, none, none, none, none, none]) := by
    refine e_listM (xs := (List.range n).map fun q : Nat => Val.int q) ?_ (melts_nat _)
    unfold lrgF
    rw [e_var (x := .int n) rfl, Rs.ok_bind]
    dsimp only
    rw [if_pos (by omega), Int.toNat_natCast]
    simp
  obtain ⟨ρ', k1, u3, u4, u5, u6, u7, f3, f4, f5, f6, f7, e⟩ := e_loop (tg := seqT 3 (consT (nameT 3) (consT (nameT 4) (consT (nameT 5) nilT)))) (s := l1__parts) tieV
    (fun j ρ => ∃ u3 u4 u5 u6 u7, Fr u3 ∧ Fr u4 ∧ Fr u5 ∧ Fr u6 ∧ Fr u7 ∧ ρ = [zi n, zv (.tup (ts.map tieV)), zv (natL (leastsF n (ts.take j))), u3, u4, u5, u6, u7, none, none]) ts 0 [zi n, zv (.tup (ts.map tieV)), zv (natL (List.range n)), none, none, none, none, none, none, none] ⟨none, none, none, none, none, .none, .none, .none, .none, .none, rfl⟩ fun j t ρ hj ⟨u3, u4, u5, u6, u7, f3, f4, f5, f6, f7, e⟩ => by
      subst e
      rw [Nat.zero_add]
      exact part_turn ok hj f3 f4 f5 f6 f7 hn
  subst e
  rw [Nat.zero_add, List.take_length] at k1
  have ll := leastsF_len n ts
  have ep : partsF n ts = (setN (leastsF n ts)).map fun least => (List.range n).filter fun p => decide (gN (leastsF n ts) p = least) := rfl
  rw [ep]
  generalize leastsF n ts = L at *
  have ss : listM (ssetF (varM 2)) [zi n, zv (.tup (ts.map tieV)), zv (natL L), u3, u4, u5, u6, u7, none, none] = .ok (natL (setN L), [zi n, zv (.tup (ts.map tieV)), zv (natL L), u3, u4, u5, u6, u7, none, none]) := by
    refine e_listM (xs := (setN L).map fun q : Nat => Val.int q) ?_ (melts_nat _)
    unfold ssetF
    rw [e_var (x := natL L) rfl, Rs.ok_bind]
    dsimp only
    rw [if_pos (by rw [List.length_map]; omega), intsOf_nat, Rs.opt_some, Rs.ok_bind, setI_cast, List.map_map]
    rfl
  have sl : (setN L).length ≤ L.length := setN_len L
  have c3 : listM c3__parts [zi n, zv (.tup (ts.map tieV)), zv (natL L), u3, u4, u5, u6, u7, none, none] = .ok (.lst ((setN L).map fun least => natT ((List.range n).filter fun p => decide (gN L p = least))), [zi n, zv (.tup (ts.map tieV)), zv (natL L), u3, u4, u5, u6, u7, none, none]) := by
    refine e_listM (e_comp (fun q : Nat => .int q) (fun least => natT ((List.range n).filter fun p => decide (gN L p = least))) (fun least => [zi n, zv (.tup (ts.map tieV)), zv (natL L), u3, u4, u5, u6, u7, zi least, none]) (setN L) (e_walkL ss) (by omega) rfl rfl rfl fun least _ => ⟨rfl, ?_, rfl, rfl⟩) (melts_rep _ _ fun _ _ => rfl)
    have c2 : listM c2__parts [zi n, zv (.tup (ts.map tieV)), zv (natL L), u3, u4, u5, u6, u7, zi least, none] = .ok (natL ((List.range n).filter fun p => decide (gN L p = least)), [zi n, zv (.tup (ts.map tieV)), zv (natL L), u3, u4, u5, u6, u7, zi least, none]) := by
      refine e_listM (e_compP (fun q : Nat => .int q) (fun q : Nat => .int q) (fun p => decide (gN L p = least)) (fun p => [zi n, zv (.tup (ts.map tieV)), zv (natL L), u3, u4, u5, u6, u7, zi least, zi p]) (List.range n) ?_ (by rw [List.length_range]; omega) rfl rfl rfl fun p hp => ⟨rfl, ?_, fun _ => e_var rfl, rfl, rfl⟩) (melts_nat _)
      · rw [← iota_nat]
        exact e_rng1 (j := n) (e_consA (e_var rfl) e_nilA) (by omega)
      · have ix := ixV_natL (L := L) (i := p) (by rw [ll]; exact List.mem_range.mp hp)
        have d : decide ((gN L p : Int) = (least : Int)) = decide (gN L p = least) := by
          by_cases h : gN L p = least
          · rw [decide_eq_true h, decide_eq_true (by omega)]
          · rw [decide_eq_false h, decide_eq_false (by omega)]
        rw [← d]
        ac_rfl
    exact e_cbM (e_consA c2 e_nilA) rfl
  apply e_runE [zi n, zv (.tup (ts.map tieV)), none, none, none, none, none, none, none, none] rfl
  · unfold b__parts
    apply e_seq
    · exact e_asg lr rfl rfl
    apply e_seq
    · exact e_forS (e_walkT (e_var rfl)) k1
    exact e_ret (e_cbM (e_consA c3 e_nilA) rfl)
  · rw [List.map_map]; rfl
end Y

set_option Elab.async false
set_option linter.all false
set_option maxRecDepth 100000
set_option maxHeartbeats 400000
set_option autoImplicit false
namespace Y
open PySem PySem.Spec PyProof.Rows L2 Z
/-! P5: the Web that is made. -/
local macro_rules | `(tactic| infer_instance) => `(tactic| first | (show _ = _; with_reducible assumption) | (show Bd _ _; with_reducible assumption) | (show _ < _; with_reducible assumption) | (show _ ≤ _; with_reducible assumption) | (show Fr _; first | with_reducible assumption | with_reducible exact Fr.fz | with_reducible exact Fr.none) | with_reducible exact (eqV_int _ _) | with_reducible exact (neV_int _ _) | with_reducible exact (sumV_ints _) | with_reducible exact (lenV_ints _) | with_reducible exact (lenV_tints _) | with_reducible exact (absVl_int _) | with_reducible exact wp0 | with_reducible exact st0 | with_reducible exact (small_sz rfl) | with_reducible exact (small_lt rfl) | with_reducible exact (melts_int _) | with_reducible exact e_cst | with_reducible exact e_nilA | with_reducible exact e_next | with_reducible exact e_yesB | with_reducible exact e_noP | with_reducible exact e_cL0 | with_reducible exact e_forL_nil | with_reducible apply e_var | with_reducible apply e_bin | with_reducible apply e_un | with_reducible apply e_tst | with_reducible apply e_or | with_reducible apply e_and | with_reducible apply e_orV | with_reducible apply e_andV | with_reducible apply e_ife | with_reducible apply e_if | with_reducible apply e_notB | with_reducible apply e_consA | with_reducible apply e_tupM | with_reducible apply e_lstM | with_reducible apply e_dispF | with_reducible apply e_cbM | with_reducible apply e_cfM | with_reducible apply e_bfM | with_reducible apply e_ownL | with_reducible apply e_listI | with_reducible apply e_walkM | with_reducible apply e_lrevF | with_reducible apply e_zrM | with_reducible apply e_enum | with_reducible apply e_rng1 | with_reducible apply e_rng2 | with_reducible apply e_parP | with_reducible apply e_sl | with_reducible apply e_slO | with_reducible apply e_view | with_reducible apply e_zipL | with_reducible apply e_chnT | with_reducible apply seqK_nx | with_reducible exact seqK_rt | with_reducible exact seqK_exc | with_reducible apply e_seqG | with_reducible apply e_forS | with_reducible apply e_asg | with_reducible apply e_ret | with_reducible apply e_drop | with_reducible apply e_raise | with_reducible apply e_new | with_reducible apply e_newT | with_reducible apply e_par | with_reducible apply e_parNS | with_reducible apply e_asgT | with_reducible apply q_tup2 | with_reducible apply q_tup3 | with_reducible apply q_lst2 | with_reducible apply q_lst3 | with_reducible apply t_tup2 | with_reducible apply t_tup3 | with_reducible apply t_name | with_reducible apply e_ixO | with_reducible apply e_setS | with_reducible apply e_app | with_reducible apply e_melt | with_reducible apply e_setF | with_reducible apply e_fldO | with_reducible apply e_callM | with_reducible apply e_callO | with_reducible apply wpS | with_reducible apply stS | with_reducible apply mulV2_bd | with_reducible apply divV_pos | with_reducible apply modV_pos | with_reducible apply f1_of | with_reducible apply f2_of | ((with_reducible apply ite_T); first | (show _ = _; with_reducible assumption) | exact rfl | (apply decide_eq_true; omega)) | ((with_reducible apply ite_F); first | (show _ = _; with_reducible assumption) | exact rfl | (apply decide_eq_false; omega)) | exact rfl | decide | (show _ ∧ _; omega) | with_reducible exact bd_lit (by decide) (by decide) | with_reducible exact bd_mod (by decide) (by decide) (by decide) | with_reducible apply powV_nat | (show _ < _; omega) | (show _ ≤ _; omega) | (with_reducible apply fs0; assumption) | with_reducible apply fsS)
local macro_rules | `(tactic| ac_rfl) => `(tactic| repeat' (first | infer_instance | fail))
local macro_rules | `(tactic| infer_instance) => `(tactic| with_reducible exact v_is_integer _)
def insT (x : Tie) : List Tie → List Tie
  | [] => [x]
  | y :: ys => if kO.blt (kk (tieV y)) (kk (tieV x)) = true then y :: insT x ys else x :: y :: ys
/-- ties, ascending -/
def sortT (ts : List Tie) : List Tie := ts.foldr insT []
theorem insK_tie (x : Tie) : ∀ ys : List Tie, insK (tieV x) (ys.map tieV) = (insT x ys).map tieV
  | [] => rfl
  | y :: ys => by
    rw [List.map_cons]
    unfold insK insT
    split
    · rw [insK_tie x ys]; rfl
    · rfl
theorem sortK_tie : ∀ ts : List Tie, sortK (ts.map tieV) = (sortT ts).map tieV
  | [] => rfl
  | t :: ts => by
    show insK (tieV t) (sortK (ts.map tieV)) = _
    rw [sortK_tie ts, insK_tie]; rfl
theorem insT_perm (x : Tie) : ∀ ys, (insT x ys).Perm (x :: ys)
  | [] => .refl _
  | y :: ys => by
    unfold insT
    split
    · exact ((insT_perm x ys).cons y).trans (.swap x y ys)
    · exact .refl _
theorem sortT_perm : ∀ ts, (sortT ts).Perm ts
  | [] => .refl _
  | t :: ts => (insT_perm t (sortT ts)).trans ((sortT_perm ts).cons t)
theorem raw_ties {n : Nat} {rs : List RT} (ok : RawOk n rs) : TiesOk n (sortT (rs.map rawN)) := by
  have p := sortT_perm (rs.map rawN)
  refine ⟨fun t ht => ?_, by rw [p.length_eq, List.length_map]; exact ok.len⟩
  obtain ⟨r, hr, rfl⟩ := List.mem_map.mp (p.mem_iff.mp ht)
  have h1 := ok.lt r hr
  have h2 := ok.ne r hr
  unfold rawN
  dsimp only
  omega
abbrev webNs : List Str := ["places", "ties", "parts", "_near"]
def webVs (n : Nat) (T : List Tie) : List Val := [.int n, .tup (T.map tieV), .tup ((partsF n T).map natT), nearT n fun c p => sortN (ac T c p)]
def webV (n : Nat) (T : List Tie) : Val := .ins 10 webNs (webVs n T)
theorem v_Web_init {n : Nat} {rs : List RT} {x : Val} (hx : x = .lst (rs.map rawV) ∨ x = .tup (rs.map rawV)) (ok : RawOk n rs) (h1 : 1 ≤ n) (h24 : n ≤ 24) :
    runO 6 b_Web___init__ (.ob false (.oins 10 [] [])) [.int n, x] = .ok (.non, .ob false (.oins 10 webNs (webVs n (sortT (rs.map rawN))))) := by
  have wk : wlkV x = some (rs.map rawV) := by rcases hx with rfl | rfl <;> rfl
  have hl := ok.len
  have wi := v_is_within (i := n) (l := 1) (m := 24) (by omega) (by omega)
  have nt := v_need_ties hx ok
  have tk := raw_ties ok
  have np := v_parts_ h24 tk
  have nn := v_neighbours_ h24 tk
  have c1 : listM c1_Web___init__ [some (.ob true (.oins 10 ["places"] [.int n])), zi n, zv x, none, none, none] = .ok (.lst ((rs.map rawN).map tieV), [some (.ob true (.oins 10 ["places"] [.int n])), zi n, zv x, none, none, none]) := by
    rw [List.map_map]
    refine e_listM (e_comp rawV (tieV ∘ rawN) (fun r => [some (.ob true (.oins 10 ["places"] [.int n])), zi n, zv x, zi r.2.1, zi r.2.2.1, zs (co r.2.2.2)]) rs (e_walkM (e_var rfl) wk) (by omega) rfl rfl rfl fun r _ => ?_) (melts_rep _ _ fun _ _ => rfl)
    have m1 := minV2_nat r.2.1 r.2.2.1
    have m2 := maxV2_nat r.2.1 r.2.2.1
    exact ⟨raw_tg rfl rfl rfl, by show _ = Rs.ok (Val.tup [.int (min r.2.1 r.2.2.1 : Nat), .int (max r.2.1 r.2.2.1 : Nat), .str (co r.2.2.2)], _); ac_rfl, rfl, rfl⟩
  have so : sort3F (fun i => i == 2) [.lst ((rs.map rawN).map tieV)] = some ((sortT (rs.map rawN)).map tieV) := by
    unfold sort3F
    dsimp only
    rw [if_pos (by
      rw [List.all_map, List.all_eq_true]
      intro t _
      rfl), sortK_tie]
  generalize sortT (rs.map rawN) = T at *
  have st : listM (cfM (sort3F (fun i => i == 2)) (consA (listM c1_Web___init__) nilA)) [some (.ob true (.oins 10 ["places"] [.int n])), zi n, zv x, none, none, none] = .ok (.lst (T.map tieV), [some (.ob true (.oins 10 ["places"] [.int n])), zi n, zv x, none, none, none]) :=
    e_listM (e_cfM (e_consA c1 e_nilA) so) (melts_rep _ _ fun _ _ => rfl)
  refine e_runON [some (.ob true (.oins 10 [] [])), zi n, zv x, none, none, none] rfl (ρ1 := [some (.ob true (.oins 10 webNs (webVs n T))), zi n, zv x, none, none, none]) ?_ rfl rfl rfl
  unfold b_Web___init__
  apply e_seq
  · ac_rfl
  apply e_seq
  · ac_rfl
  apply e_seq
  · exact e_setF (p := true) (ns := []) (us := []) (e_var rfl) rfl (by decide) (by decide) rfl
  apply e_seq
  · exact e_setF (p := true) (ns := ["places"]) (us := [.int n]) (e_cbM (e_consA st e_nilA) rfl) rfl (by decide) (by show 1 < 1000; decide) rfl
  apply e_seq
  · exact e_setF (p := true) (ns := ["places", "ties"]) (us := [.int n, .tup (T.map tieV)]) (e_callM (e_consA (e_var rfl) (e_consA (e_fldO rfl rfl rfl) e_nilA)) np) rfl (by decide) (by show 2 < 1000; decide) rfl
  · exact e_setF (p := true) (ns := ["places", "ties", "parts"]) (us := [.int n, .tup (T.map tieV), .tup ((partsF n T).map natT)]) (e_callM (e_consA (e_var rfl) (e_consA (e_fldO rfl rfl rfl) e_nilA)) nn) rfl (by decide) (by show 3 < 1000; decide) rfl
/-- Web(n, ties) -/
theorem e_Web {n : Nat} {rs : List RT} {x : Val} (hx : x = .lst (rs.map rawV) ∨ x = .tup (rs.map rawV)) (ok : RawOk n rs) (h1 : 1 ≤ n) (h24 : n ≤ 24) {al : MA} {ρ ρ1 : En} (ha : al ρ = .ok ([.int n, x], ρ1)) :
    meltM (makeM 10 3 6 b_Web___init__ al) ρ = .ok (webV n (sortT (rs.map rawN)), ρ1) :=
  e_meltM (e_make ha (v_Web_init hx ok h1 h24) rfl (by decide)) rfl
/-! what a web is asked -/
theorem fld_places (n : Nat) (T : List Tie) : fldV 10 "places" (webV n T) = some (.int n) := rfl
theorem fld_near (n : Nat) (T : List Tie) : fldV 10 "_near" (webV n T) = some (nearT n fun c p => sortN (ac T c p)) := rfl
theorem v_Web_nb {n : Nat} {T : List Tie} {p : Nat} {c : Fin 4} (hp : p < n) : runV 3 b_Web_neighbours [webV n T, .int p, .str (co c)] = .ok (natT (sortN (ac T c p))) := by
  have f1 := fld_places n T
  have f2 := fld_near n T
  have np := v_need_place (p := p) (n := n) (by omega) (by omega)
  have nc := v_need_colour c (.str ("colour" : Str))
  have dg := dget_nearT n (fun c p => sortN (ac T c p)) c
  have ix : ixV (.lst ((List.range n).map fun p => natT (sortN (ac T c p)))) (.int p) = some (natT (sortN (ac T c p))) := by
    show atI _ _ = _
    unfold atI
    rw [List.length_map, List.length_range, show ixN n (p : Int) = some p by unfold ixN; simp [hp]]
    simp [hp]
  apply e_runE [zv (webV n T), zi p, zs (co c)] rfl
  · unfold b_Web_neighbours
    ac_rfl
  · rfl
theorem e_nb {n : Nat} {T : List Tie} {p : Nat} {c : Fin 4} (hp : p < n) {a : ME} {al : MA} {ρ ρ1 ρ2 : En} (h1 : a ρ = .ok (webV n T, ρ1)) (h2 : al ρ1 = .ok ([.int p, .str (co c)], ρ2)) :
    methM 10 "neighbours" 3 3 b_Web_neighbours a al ρ = .ok (natT (sortN (ac T c p)), ρ2) := e_meth h1 (by decide) h2 (v_Web_nb hp) rfl (by decide)
theorem v_Web_degree {n : Nat} {T : List Tie} {p : Nat} {c : Fin 4} (hp : p < n) : runV 3 b_Web_degree [webV n T, .int p, .str (co c)] = .ok (.int ((ac T c p).length : Nat)) := by
  have nb : methM 10 "neighbours" 3 3 b_Web_neighbours (varM 0) (consA (varM 1) (consA (varM 2) nilA)) [zv (webV n T), zi p, zs (co c)] = .ok (natT (sortN (ac T c p)), [zv (webV n T), zi p, zs (co c)]) := e_nb hp (e_var rfl) (e_consA (e_var rfl) (e_consA (e_var rfl) e_nilA))
  have ln : lenV (natT (sortN (ac T c p))) = some (.int ((ac T c p).length : Nat)) := by
    show some (Val.int ((List.map _ _).length : Nat)) = _
    rw [List.length_map, (sortN_perm _).length_eq]
  apply e_runE [zv (webV n T), zi p, zs (co c)] rfl
  · unfold b_Web_degree
    exact e_ret (e_cbM (e_consA nb e_nilA) ln)
  · rfl
theorem e_degree {n : Nat} {T : List Tie} {p : Nat} {c : Fin 4} (hp : p < n) {a : ME} {al : MA} {ρ ρ1 ρ2 : En} (h1 : a ρ = .ok (webV n T, ρ1)) (h2 : al ρ1 = .ok ([.int p, .str (co c)], ρ2)) :
    methM 10 "degree" 3 3 b_Web_degree a al ρ = .ok (.int ((ac T c p).length : Nat), ρ2) := e_meth h1 (by decide) h2 (v_Web_degree hp) rfl (by decide)
end Y

set_option Elab.async false
set_option linter.all false
set_option maxRecDepth 100000
set_option maxHeartbeats 400000
set_option autoImplicit false
namespace Y
open PySem PySem.Spec PyProof.Rows L2 Z
/-! P6: words. -/
local macro_rules | `(tactic| infer_instance) => `(tactic| first | (show _ = _; with_reducible assumption) | (show Bd _ _; with_reducible assumption) | (show _ < _; with_reducible assumption) | (show _ ≤ _; with_reducible assumption) | (show Fr _; first | with_reducible assumption | with_reducible exact Fr.fz | with_reducible exact Fr.none) | with_reducible exact (eqV_int _ _) | with_reducible exact (neV_int _ _) | with_reducible exact (sumV_ints _) | with_reducible exact (lenV_ints _) | with_reducible exact (lenV_tints _) | with_reducible exact (absVl_int _) | with_reducible exact wp0 | with_reducible exact st0 | with_reducible exact (small_sz rfl) | with_reducible exact (small_lt rfl) | with_reducible exact (melts_int _) | with_reducible exact e_cst | with_reducible exact e_nilA | with_reducible exact e_next | with_reducible exact e_yesB | with_reducible exact e_noP | with_reducible exact e_cL0 | with_reducible exact e_forL_nil | with_reducible apply e_var | with_reducible apply e_bin | with_reducible apply e_un | with_reducible apply e_tst | with_reducible apply e_or | with_reducible apply e_and | with_reducible apply e_orV | with_reducible apply e_andV | with_reducible apply e_ife | with_reducible apply e_if | with_reducible apply e_notB | with_reducible apply e_consA | with_reducible apply e_tupM | with_reducible apply e_lstM | with_reducible apply e_dispF | with_reducible apply e_cbM | with_reducible apply e_cfM | with_reducible apply e_bfM | with_reducible apply e_ownL | with_reducible apply e_listI | with_reducible apply e_walkM | with_reducible apply e_lrevF | with_reducible apply e_zrM | with_reducible apply e_enum | with_reducible apply e_rng1 | with_reducible apply e_rng2 | with_reducible apply e_parP | with_reducible apply e_sl | with_reducible apply e_slO | with_reducible apply e_view | with_reducible apply e_zipL | with_reducible apply e_chnT | with_reducible apply seqK_nx | with_reducible exact seqK_rt | with_reducible exact seqK_exc | with_reducible apply e_seqG | with_reducible apply e_forS | with_reducible apply e_asg | with_reducible apply e_ret | with_reducible apply e_drop | with_reducible apply e_raise | with_reducible apply e_new | with_reducible apply e_newT | with_reducible apply e_par | with_reducible apply e_parNS | with_reducible apply e_asgT | with_reducible apply q_tup2 | with_reducible apply q_tup3 | with_reducible apply q_lst2 | with_reducible apply q_lst3 | with_reducible apply t_tup2 | with_reducible apply t_tup3 | with_reducible apply t_name | with_reducible apply e_ixO | with_reducible apply e_setS | with_reducible apply e_app | with_reducible apply e_melt | with_reducible apply e_setF | with_reducible apply e_fldO | with_reducible apply e_callM | with_reducible apply e_callO | with_reducible apply wpS | with_reducible apply stS | with_reducible apply mulV2_bd | with_reducible apply divV_pos | with_reducible apply modV_pos | with_reducible apply f1_of | with_reducible apply f2_of | ((with_reducible apply ite_T); first | (show _ = _; with_reducible assumption) | exact rfl | (apply decide_eq_true; omega)) | ((with_reducible apply ite_F); first | (show _ = _; with_reducible assumption) | exact rfl | (apply decide_eq_false; omega)) | exact rfl | decide | (show _ ∧ _; omega) | with_reducible exact bd_lit (by decide) (by decide) | with_reducible exact bd_mod (by decide) (by decide) (by decide) | with_reducible apply powV_nat | (show _ < _; omega) | (show _ ≤ _; omega) | (with_reducible apply fs0; assumption) | with_reducible apply fsS)
local macro_rules | `(tactic| ac_rfl) => `(tactic| repeat' (first | infer_instance | fail))
local macro_rules | `(tactic| infer_instance) => `(tactic| with_reducible exact v_is_integer _)
abbrev colV (n : Nat) (v : Nat → Nat) : Val := natL ((List.range n).map v)
theorem gN_map {v : Nat → Nat} {n q : Nat} (h : q < n) : gN ((List.range n).map v) q = v q := by unfold gN; simp [h]
theorem ixV_col {n q : Nat} (v : Nat → Nat) (h : q < n) : ixV (colV n v) (.int q) = some (.int (v q)) := by
  rw [ixV_natL (by simpa using h), gN_map h]
theorem sumI_nat : ∀ L : List Nat, (L.map (Nat.cast : Nat → Int)).sum = (L.sum : Nat)
  | [] => rfl
  | x :: L => by rw [List.map_cons, List.sum_cons, List.sum_cons, sumI_nat L]; omega
theorem sumV_nat (L : List Nat) : sumV (natL L) = some (.int (L.sum : Nat)) := by
  show (intsOf (L.map fun q : Nat => Val.int q)).map (fun ns => Val.int ns.sum) = _
  rw [intsOf_nat, Option.map_some, sumI_nat]
theorem Bd.nat {a k : Nat} (h : a < 2 ^ k) : Bd k (a : Int) := by unfold Bd; rw [Int.natAbs_natCast]; exact h
theorem col_congr {n : Nat} {u v : Nat → Nat} (h : ∀ p, p < n → u p = v p) : colV n u = colV n v := by
  show natL _ = natL _
  rw [List.map_congr_left fun p hp => h p (List.mem_range.mp hp)]
theorem ac_lt {n : Nat} {T : List Tie} (ok : TiesOk n T) {c : Fin 4} {p q : Nat} (h : q ∈ ac T c p) : q < n := by
  rcases mem_nb.mp ((ac_nb T c p).mem_iff.mp h) with h | h
  · exact (ok.lt _ h).2
  · have := ok.lt _ h; dsimp only at this; omega
theorem v_put_ahead {n : Nat} {T : List Tie} (ok : TiesOk n T) (hn : n ≤ 24) (l : Lt) (v : Nat → Nat) (hv : ∀ p, p < n → v p < 2 ^ 8000) : runV 7 b_put_ahead [webV n T, .str (ltr l), colV n v] = .ok (colV n (putN (ac T) l v)) := by
  have lo := lowV_ltr l
  have fp := fld_places n T
  have eq := eqV_low l
  have hl := ok.len
  have rg : f1 rg1V [.int n] = some (.rng 0 n) := rfl
  have wr : walkM wlkV (varM 4) [zv (webV n T), zs (ltr l), zv (colV n v), zs (co l.1), zv (.rng 0 n), none, none] = .ok ((List.range n).map fun i : Nat => .int i, [zv (webV n T), zs (ltr l), zv (colV n v), zs (co l.1), zv (.rng 0 n), none, none]) := by
    rw [← iota_nat]
    exact e_walkR (hi := n) (e_var rfl) (by omega)
  cases hl2 : l.2 with
  | false =>
    have c2 : listM c2_put_ahead [zv (webV n T), zs (ltr l), zv (colV n v), zs (co l.1), zv (.rng 0 n), none, none] = .ok (colV n (putN (ac T) l v), [zv (webV n T), zs (ltr l), zv (colV n v), zs (co l.1), zv (.rng 0 n), none, none]) := by
      refine e_listM (ys := ((List.range n).map (putN (ac T) l v)).map fun q : Nat => Val.int q) ?_ (melts_nat _)
      rw [List.map_map]
      refine e_comp (fun i : Nat => .int i) _ (fun p => [zv (webV n T), zs (ltr l), zv (colV n v), zs (co l.1), zv (.rng 0 n), none, zi p]) (List.range n) wr (by rw [List.length_range]; omega) rfl rfl rfl fun p hp => ⟨rfl, ?_, rfl, rfl⟩
      have hp := List.mem_range.mp hp
      have nb : methM 10 "neighbours" 3 3 b_Web_neighbours (varM 0) (consA (varM 6) (consA (varM 3) nilA)) [zv (webV n T), zs (ltr l), zv (colV n v), zs (co l.1), zv (.rng 0 n), none, zi p] = .ok (natT (sortN (ac T l.1 p)), [zv (webV n T), zs (ltr l), zv (colV n v), zs (co l.1), zv (.rng 0 n), none, zi p]) := e_nb hp (e_var rfl) (e_consA (e_var rfl) (e_consA (e_var rfl) e_nilA))
      have c1 : listM c1_put_ahead [zv (webV n T), zs (ltr l), zv (colV n v), zs (co l.1), zv (.rng 0 n), none, zi p] = .ok (natL ((sortN (ac T l.1 p)).map v), [zv (webV n T), zs (ltr l), zv (colV n v), zs (co l.1), zv (.rng 0 n), none, zi p]) := by
        refine e_listM (ys := ((sortN (ac T l.1 p)).map v).map fun q : Nat => Val.int q) ?_ (melts_nat _)
        rw [List.map_map]
        refine e_comp (fun i : Nat => .int i) _ (fun q => [zv (webV n T), zs (ltr l), zv (colV n v), zs (co l.1), zv (.rng 0 n), zi q, zi p]) (sortN (ac T l.1 p)) (e_walkT nb) (by rw [(sortN_perm _).length_eq]; have := ac_len T l.1 p; omega) rfl rfl rfl fun q hq => ⟨rfl, ?_, rfl, rfl⟩
        exact e_bin (e_var rfl) (e_var rfl) (ixV_col v (ac_lt ok ((sortN_perm _).mem_iff.mp hq)))
      have sv := sumV_nat ((sortN (ac T l.1 p)).map v)
      have es : ((sortN (ac T l.1 p)).map v).sum = putN (ac T) l v p := by
        unfold putN
        rw [hl2, if_neg (fun z => nomatch z)]
        exact sum_perm ((sortN_perm _).map v)
      rw [es] at sv
      exact e_cbM (e_consA c1 e_nilA) sv
    rw [hl2] at eq
    apply e_runE [zv (webV n T), zs (ltr l), zv (colV n v), none, none, none, none] rfl
    · unfold b_put_ahead
      ac_rfl
    · rfl
  | true =>
    have c3 : listM c3_put_ahead [zv (webV n T), zs (ltr l), zv (colV n v), zs (co l.1), zv (.rng 0 n), none, none] = .ok (colV n (putN (ac T) l v), [zv (webV n T), zs (ltr l), zv (colV n v), zs (co l.1), zv (.rng 0 n), none, none]) := by
      refine e_listM (ys := ((List.range n).map (putN (ac T) l v)).map fun q : Nat => Val.int q) ?_ (melts_nat _)
      rw [List.map_map]
      refine e_comp (fun i : Nat => .int i) _ (fun p => [zv (webV n T), zs (ltr l), zv (colV n v), zs (co l.1), zv (.rng 0 n), none, zi p]) (List.range n) wr (by rw [List.length_range]; omega) rfl rfl rfl fun p hp => ⟨rfl, ?_, rfl, rfl⟩
      have hp := List.mem_range.mp hp
      have dg : methM 10 "degree" 3 3 b_Web_degree (varM 0) (consA (varM 6) (consA (varM 3) nilA)) [zv (webV n T), zs (ltr l), zv (colV n v), zs (co l.1), zv (.rng 0 n), none, zi p] = .ok (.int ((ac T l.1 p).length : Nat), [zv (webV n T), zs (ltr l), zv (colV n v), zs (co l.1), zv (.rng 0 n), none, zi p]) := e_degree hp (e_var rfl) (e_consA (e_var rfl) (e_consA (e_var rfl) e_nilA))
      have ix := ixV_col v hp
      have b1 : Bd 8000 ((ac T l.1 p).length : Nat) := .sm (by have := ac_len T l.1 p; omega) (by decide)
      have b2 : Bd 8000 (v p : Nat) := .nat (hv p hp)
      have mm := mulV2_bd b1 b2
      have es : (((ac T l.1 p).length : Nat) : Int) * ((v p : Nat) : Int) = (putN (ac T) l v p : Nat) := by
        unfold putN
        rw [hl2, if_pos rfl, Int.natCast_mul]
      rw [es] at mm
      exact e_bin dg (e_bin (e_var rfl) (e_var rfl) ix) mm
    rw [hl2] at eq
    apply e_runE [zv (webV n T), zs (ltr l), zv (colV n v), none, none, none, none] rfl
    · unfold b_put_ahead
      ac_rfl
    · rfl
/-! words behind one another -/
theorem colN_foldl (N : Near) (v : Nat → Nat) (w : List Lt) : colN N w v = w.reverse.foldl (fun u l => putN N l u) v := by
  rw [List.foldl_reverse]
  induction w with
  | nil => rfl
  | cons l w ih => show putN N l (colN N w v) = _; rw [ih]; rfl
theorem fold_le {N : Near} {D M : Nat} (hd : ∀ c p, (N c p).length ≤ D) : ∀ (ls : List Lt) (v : Nat → Nat) (M : Nat), (∀ p, v p ≤ M) → ∀ p, ls.foldl (fun u l => putN N l u) v p ≤ D ^ ls.length * M
  | [], v, M, hv, p => by simpa using hv p
  | l :: ls, v, M, hv, p => by
    have := fold_le (D := D) (M := M) hd ls (putN N l v) (D * M) (putN_le hd hv l) p
    rw [List.foldl_cons, List.length_cons, Nat.pow_succ]
    rw [Nat.mul_assoc]
    exact this
theorem v_word_ahead {n : Nat} {T : List Tie} (ok : TiesOk n T) (hn : n ≤ 24) (w : List Lt) (hw : w.length ≤ 80) (v : Nat → Nat) (hv : ∀ p, v p ≤ 1) : runV 4 b_word_ahead [webV n T, .str (strOf w), colV n v] = .ok (colV n (colN (ac T) w v)) := by
  have rs := rstV_of w (by omega)
  have hl := ok.len
  obtain ⟨ρ', k1, u, fu, e⟩ := e_loop (tg := nameT 3) (s := l1_word_ahead) (fun l : Lt => .str (ltr l))
    (fun j ρ => ∃ u, Fr u ∧ ρ = [zv (webV n T), zs (strOf w), zv (colV n ((w.reverse.take j).foldl (fun u l => putN (ac T) l u) v)), u]) w.reverse 0 [zv (webV n T), zs (strOf w), zv (colV n v), none] ⟨none, .none, rfl⟩ fun j l ρ hj ⟨u, fu, e⟩ => by
      subst e
      rw [Nat.zero_add]
      have bd : ∀ p, p < n → (w.reverse.take j).foldl (fun u l => putN (ac T) l u) v p < 2 ^ 8000 := fun p _ => by
        have h1 := fold_le (N := ac T) (D := 2 ^ 11) (M := 1) (fun c p => Nat.le_trans (ac_len T c p) (by omega)) (w.reverse.take j) v 1 hv p
        rw [Nat.mul_one, ← Nat.pow_mul] at h1
        refine Nat.lt_of_le_of_lt h1 (Nat.pow_lt_pow_right (by decide) ?_)
        rw [List.length_take, List.length_reverse]
        omega
      have pa := v_put_ahead ok hn l _ bd
      have tk : (w.reverse.take (j + 1)).foldl (fun u l => putN (ac T) l u) v = putN (ac T) l ((w.reverse.take j).foldl (fun u l => putN (ac T) l u) v) := by
        rw [List.take_succ, hj, List.foldl_append]; rfl
      rw [tk]
      refine ⟨_, [zv (webV n T), zs (strOf w), zv (colV n (putN (ac T) l ((w.reverse.take j).foldl (fun u l => putN (ac T) l u) v))), zs (ltr l)], t_name (fsS (fsS (fsS (fs0 fu)))) rfl, ?_, zs (ltr l), .fz, rfl⟩
      unfold l1_word_ahead
      ac_rfl
  subst e
  rw [Nat.zero_add, List.take_length, ← colN_foldl] at k1
  apply e_runE [zv (webV n T), zs (strOf w), zv (colV n v), none] rfl
  · unfold b_word_ahead
    apply e_seq
    · exact e_forS (e_walkM (e_var rfl) rs) k1
    ac_rfl
  · rfl
theorem mulF_one (n : Nat) (hn : n ≤ 24) : mulF (.lst [.int 1]) (.int n) = some (((List.range n).map fun _ => 1).map fun q : Nat => .int q) := by
  unfold mulF
  dsimp only
  rw [if_pos ⟨by omega, by omega, by show 1 * _ ≤ 1000; omega⟩]
  congr 1
  unfold repL
  rw [Int.toNat_natCast]
  have fl1 : ∀ n : Nat, (List.replicate n [Val.int 1]).flatten = List.replicate n (.int 1) := fun n => by
    induction n with
    | zero => rfl
    | succ n ih => rw [List.replicate_succ, List.flatten_cons, ih]; rfl
  rw [fl1, List.map_map]
  show _ = (List.range n).map (fun _ => Val.int 1)
  rw [List.map_const', List.length_range]
theorem v_column_of {n : Nat} {T : List Tie} (ok : TiesOk n T) (hn : n ≤ 24) (w : List Lt) (hw : w.length ≤ 80) : runV 2 b_column_of [webV n T, .str (strOf w)] = .ok (colV n (colN (ac T) w fun _ => 1)) := by
  have wa := v_word_ahead ok hn w hw (fun _ => 1) fun _ => Nat.le_refl _
  have fp := fld_places n T
  have m1 := mulF_one n hn
  have ml := melts_nat ((List.range n).map fun _ => 1)
  have ls : listM (bfM mulF (lstM (consA (cstM (.int 1)) nilA)) (unM (fldV 10 "places") (varM 0))) [zv (webV n T), zs (strOf w)] = .ok (colV n fun _ => 1, [zv (webV n T), zs (strOf w)]) := by
    refine e_listM ?_ ml
    ac_rfl
  apply e_runE [zv (webV n T), zs (strOf w)] rfl
  · unfold b_column_of
    ac_rfl
  · rfl
theorem v_need_web (n : Nat) (T : List Tie) (x : Val) : runV 2 b_need_web [webV n T, x] = .ok .non := by
  have ic : f2 (isiC 10) [webV n T, .cl 10] = some (.bl true) := rfl
  apply e_runN [zv (webV n T), zv x] rfl
  unfold b_need_web
  ac_rfl
theorem v_is_word (w : List Lt) (hw : w.length ≤ 80) : runV 2 b_is_word [.str (strOf w)] = .ok (.bl true) := by
  have is : f2 isiV [.str (strOf w), .ty "str"] = some (.bl true) := rfl
  have ln : f1 lenV [.str (strOf w)] = some (.int w.length) := by
    refine f1_of (g := lenV) ?_
    unfold lenV
    dsimp only
    rw [if_pos (by rw [len_strOf]; exact sz_le (by omega)), len_strOf]
  have c1 : listM c1_is_word [zs (strOf w), none] = .ok (.lst (w.map fun _ => Val.bl true), [zs (strOf w), none]) := by
    refine e_listM (e_comp (fun l : Lt => .str (ltr l)) (fun _ => .bl true) (fun l => [zs (strOf w), zs (ltr l)]) w (e_walkM (e_var rfl) (by show some (letS _) = _; rw [letS_of])) (by omega) rfl rfl rfl fun l _ => ⟨rfl, ?_, rfl, rfl⟩) (melts_rep _ _ fun _ _ => rfl)
    exact e_bin (e_var rfl) e_cst (inQ_ltr l.1 l.2)
  have al := allV_rep w
  have le : leV (.int w.length) (.int 80) = some (.bl true) := by
    show some (Val.bl (decide ((w.length : Int) ≤ 80))) = _
    rw [decide_eq_true (by omega)]
  apply e_runE [zs (strOf w), none] rfl
  · unfold b_is_word
    ac_rfl
  · rfl
theorem v_need_word (w : List Lt) (hw : w.length ≤ 80) : runV 1 b_need_word [.str (strOf w)] = .ok .non := by
  have iw := v_is_word w hw
  apply e_runN [zs (strOf w)] rfl
  unfold b_need_word
  ac_rfl
theorem v_need_web_word (n : Nat) (T : List Tie) (w : List Lt) (hw : w.length ≤ 80) : runV 2 b__need_web_and_word [webV n T, .str (strOf w)] = .ok .non := by
  have nw := v_need_web n T (.str ("web" : Str))
  have nd := v_need_word w hw
  apply e_runN [zv (webV n T), zs (strOf w)] rfl
  unfold b__need_web_and_word
  ac_rfl
theorem v_sum_of {n : Nat} {T : List Tie} (ok : TiesOk n T) (hn : n ≤ 24) (w : List Lt) (hw : w.length ≤ 80) : runV 2 b_sum_of [webV n T, .str (strOf w)] = .ok (.int (((List.range n).map (colN (ac T) w fun _ => 1)).sum : Nat)) := by
  have nd := v_need_web_word n T w hw
  have co := v_column_of ok hn w hw
  have sv := sumV_nat ((List.range n).map (colN (ac T) w fun _ => 1))
  apply e_runE [zv (webV n T), zs (strOf w)] rfl
  · unfold b_sum_of
    ac_rfl
  · rfl
theorem v_walks {n : Nat} {T : List Tie} (ok : TiesOk n T) (hn : n ≤ 24) (w : List Lt) (hw : w.length ≤ 80) {p : Nat} (hp : p < n) : runV 3 b_walks [webV n T, .str (strOf w), .int p] = .ok (.int (colN (ac T) w (fun _ => 1) p : Nat)) := by
  have nd := v_need_web_word n T w hw
  have co := v_column_of ok hn w hw
  have fp := fld_places n T
  have np := v_need_place (p := p) (n := n) (by omega) (by omega)
  have ix := ixV_col (colN (ac T) w fun _ => 1) hp
  apply e_runE [zv (webV n T), zs (strOf w), zi p] rfl
  · unfold b_walks
    ac_rfl
  · rfl
end Y

set_option Elab.async false
set_option linter.all false
set_option maxRecDepth 100000
set_option maxHeartbeats 400000
set_option autoImplicit false
namespace Y
open PySem PySem.Spec PyProof.Rows L2 Z
/-! P7: traces. -/
local macro_rules | `(tactic| infer_instance) => `(tactic| first | (show _ = _; with_reducible assumption) | (show Bd _ _; with_reducible assumption) | (show _ < _; with_reducible assumption) | (show _ ≤ _; with_reducible assumption) | (show Fr _; first | with_reducible assumption | with_reducible exact Fr.fz | with_reducible exact Fr.none) | with_reducible exact (eqV_int _ _) | with_reducible exact (neV_int _ _) | with_reducible exact (sumV_ints _) | with_reducible exact (lenV_ints _) | with_reducible exact (lenV_tints _) | with_reducible exact (absVl_int _) | with_reducible exact wp0 | with_reducible exact st0 | with_reducible exact (small_sz rfl) | with_reducible exact (small_lt rfl) | with_reducible exact (melts_int _) | with_reducible exact e_cst | with_reducible exact e_nilA | with_reducible exact e_next | with_reducible exact e_yesB | with_reducible exact e_noP | with_reducible exact e_cL0 | with_reducible exact e_forL_nil | with_reducible apply e_var | with_reducible apply e_bin | with_reducible apply e_un | with_reducible apply e_tst | with_reducible apply e_or | with_reducible apply e_and | with_reducible apply e_orV | with_reducible apply e_andV | with_reducible apply e_ife | with_reducible apply e_if | with_reducible apply e_notB | with_reducible apply e_consA | with_reducible apply e_tupM | with_reducible apply e_lstM | with_reducible apply e_dispF | with_reducible apply e_cbM | with_reducible apply e_cfM | with_reducible apply e_bfM | with_reducible apply e_ownL | with_reducible apply e_listI | with_reducible apply e_walkM | with_reducible apply e_lrevF | with_reducible apply e_zrM | with_reducible apply e_enum | with_reducible apply e_rng1 | with_reducible apply e_rng2 | with_reducible apply e_parP | with_reducible apply e_sl | with_reducible apply e_slO | with_reducible apply e_view | with_reducible apply e_zipL | with_reducible apply e_chnT | with_reducible apply seqK_nx | with_reducible exact seqK_rt | with_reducible exact seqK_exc | with_reducible apply e_seqG | with_reducible apply e_forS | with_reducible apply e_asg | with_reducible apply e_ret | with_reducible apply e_drop | with_reducible apply e_raise | with_reducible apply e_new | with_reducible apply e_newT | with_reducible apply e_par | with_reducible apply e_parNS | with_reducible apply e_asgT | with_reducible apply q_tup2 | with_reducible apply q_tup3 | with_reducible apply q_lst2 | with_reducible apply q_lst3 | with_reducible apply t_tup2 | with_reducible apply t_tup3 | with_reducible apply t_name | with_reducible apply e_ixO | with_reducible apply e_setS | with_reducible apply e_app | with_reducible apply e_melt | with_reducible apply e_setF | with_reducible apply e_fldO | with_reducible apply e_callM | with_reducible apply e_callO | with_reducible apply wpS | with_reducible apply stS | with_reducible apply mulV2_bd | with_reducible apply divV_pos | with_reducible apply modV_pos | with_reducible apply f1_of | with_reducible apply f2_of | ((with_reducible apply ite_T); first | (show _ = _; with_reducible assumption) | exact rfl | (apply decide_eq_true; omega)) | ((with_reducible apply ite_F); first | (show _ = _; with_reducible assumption) | exact rfl | (apply decide_eq_false; omega)) | exact rfl | decide | (show _ ∧ _; omega) | with_reducible exact bd_lit (by decide) (by decide) | with_reducible exact bd_mod (by decide) (by decide) (by decide) | with_reducible apply powV_nat | (show _ < _; omega) | (show _ ≤ _; omega) | (with_reducible apply fs0; assumption) | with_reducible apply fsS)
local macro_rules | `(tactic| ac_rfl) => `(tactic| repeat' (first | infer_instance | fail))
theorem unit_elt (p q : Nat) {ρ : En} {i j : Nat} (h1 : ρ[i]? = some (zi p)) (h2 : ρ[j]? = some (zi q)) : cbM (f1 intV) (consA (binM eqV (varM i) (varM j)) nilA) ρ = .ok (.int (dl q p : Nat), ρ) := by
  refine e_cbM (e_consA (e_bin (e_var h1) (e_var h2) (eqV_int _ _)) e_nilA) ?_
  show some (Val.int (if decide ((p : Int) = (q : Int)) = true then 1 else 0)) = _
  unfold dl
  by_cases h : p = q
  · rw [decide_eq_true (by omega), if_pos rfl, if_pos h]; rfl
  · rw [decide_eq_false (by omega), if_neg (fun z => nomatch z), if_neg h]; rfl
theorem v_unit (n : Nat) (hn : n ≤ 24) : runV 3 b_unit_columns [.int n] = .ok (.lst ((List.range n).map fun q => colV n (dl q))) := by
  have c2 : listM c2_unit_columns [zi n, none, none] = .ok (.lst ((List.range n).map fun q => colV n (dl q)), [zi n, none, none]) := by
    refine e_listM (e_comp (fun i : Nat => .int i) (fun q => colV n (dl q)) (fun q => [zi n, none, zi q]) (List.range n) (e_rngL (e_consA (e_var rfl) e_nilA) (by omega)) (by rw [List.length_range]; omega) rfl rfl rfl fun q hq => ⟨rfl, ?_, rfl, rfl⟩) (melts_rep _ _ fun _ _ => rfl)
    refine e_listM (ys := ((List.range n).map (dl q)).map fun q : Nat => Val.int q) ?_ (melts_nat _)
    rw [List.map_map]
    exact e_comp (fun i : Nat => .int i) _ (fun p => [zi n, zi p, zi q]) (List.range n) (e_rngL (e_consA (e_var rfl) e_nilA) (by omega)) (by rw [List.length_range]; omega) rfl rfl rfl fun p hp => ⟨rfl, unit_elt p q rfl rfl, rfl, rfl⟩
  apply e_runE [zi n, none, none] rfl
  · unfold b_unit_columns
    exact e_ret c2
  · rfl
theorem enum_range (n : Nat) (F : Nat → Val) : enumL 0 ((List.range n).map F) = (List.range n).map fun p => .tup [.int p, F p] := by
  apply List.ext_getElem?
  intro i
  rw [enumL_get, List.getElem?_map, List.getElem?_map]
  by_cases h : i < n
  · rw [List.getElem?_range h]; simp
  · rw [List.getElem?_eq_none (by simp; omega)]; rfl
theorem v_diagonal (n : Nat) (hn : n ≤ 24) (V : Nat → Nat → Nat) : runV 3 b_diagonal_of [.lst ((List.range n).map fun q => colV n (V q))] = .ok (.int (((List.range n).map fun p => V p p).sum : Nat)) := by
  have c1 : listM c1_diagonal_of [zv (.lst ((List.range n).map fun q => colV n (V q))), none, none] = .ok (natL ((List.range n).map fun p => V p p), [zv (.lst ((List.range n).map fun q => colV n (V q))), none, none]) := by
    refine e_listM (ys := ((List.range n).map fun p => V p p).map fun q : Nat => Val.int q) ?_ (melts_nat _)
    rw [List.map_map]
    refine e_comp (fun p : Nat => .tup [.int p, colV n (V p)]) _ (fun p => [zv (.lst ((List.range n).map fun q => colV n (V q))), zi p, zv (colV n (V p))]) (List.range n) ?_ (by rw [List.length_range]; omega) rfl rfl rfl fun p hp => ⟨rfl, e_bin (e_var rfl) (e_var rfl) (ixV_col _ (List.mem_range.mp hp)), rfl, rfl⟩
    rw [← enum_range]
    exact e_enum (e_consA (e_var rfl) e_nilA)
  have sv := sumV_nat ((List.range n).map fun p => V p p)
  apply e_runE [zv (.lst ((List.range n).map fun q => colV n (V q))), none, none] rfl
  · unfold b_diagonal_of
    exact e_ret (e_cbM (e_consA c1 e_nilA) sv)
  · rfl
theorem v_trace_of {n : Nat} {T : List Tie} (ok : TiesOk n T) (hn : n ≤ 24) (w : List Lt) (hw : w.length ≤ 80) : runV 3 b_trace_of [webV n T, .str (strOf w)] = .ok (.int (traceN (ac T) n w : Nat)) := by
  have nd := v_need_web_word n T w hw
  have fp := fld_places n T
  have un := v_unit n hn
  have c1 : listM c1_trace_of [zv (webV n T), zs (strOf w), none] = .ok (.lst ((List.range n).map fun q => colV n (colN (ac T) w (dl q))), [zv (webV n T), zs (strOf w), none]) := by
    refine e_listM (e_comp (fun q : Nat => colV n (dl q)) (fun q => colV n (colN (ac T) w (dl q))) (fun q => [zv (webV n T), zs (strOf w), zv (colV n (dl q))]) (List.range n) (e_walkL ?_) (by rw [List.length_range]; omega) rfl rfl rfl fun q hq => ⟨rfl, ?_, rfl, rfl⟩) (melts_rep _ _ fun _ _ => rfl)
    · exact e_callM (e_consA (e_un (e_var rfl) fp) e_nilA) un
    · have wa := v_word_ahead ok hn w hw (dl q) (dl_le q)
      exact e_callM (e_consA (e_var rfl) (e_consA (e_var rfl) (e_consA (e_var rfl) e_nilA))) wa
  have dg := v_diagonal n hn fun q => colN (ac T) w (dl q)
  apply e_runE [zv (webV n T), zs (strOf w), none] rfl
  · unfold b_trace_of
    apply e_seq
    · ac_rfl
    exact e_ret (e_callM (e_consA c1 e_nilA) dg)
  · rfl
end Y

set_option Elab.async false
set_option linter.all false
set_option maxRecDepth 100000
set_option maxHeartbeats 400000
set_option autoImplicit false
namespace Y
open PySem PySem.Spec PyProof.Rows L2 Z
/-! L1: draws. -/
local macro_rules | `(tactic| infer_instance) => `(tactic| first | (show _ = _; with_reducible assumption) | (show Bd _ _; with_reducible assumption) | (show _ < _; with_reducible assumption) | (show _ ≤ _; with_reducible assumption) | (show Fr _; first | with_reducible assumption | with_reducible exact Fr.fz | with_reducible exact Fr.none) | with_reducible exact (eqV_int _ _) | with_reducible exact (neV_int _ _) | with_reducible exact (sumV_ints _) | with_reducible exact (lenV_ints _) | with_reducible exact (lenV_tints _) | with_reducible exact (absVl_int _) | with_reducible exact wp0 | with_reducible exact st0 | with_reducible exact (small_sz rfl) | with_reducible exact (small_lt rfl) | with_reducible exact (melts_int _) | with_reducible exact e_cst | with_reducible exact e_nilA | with_reducible exact e_next | with_reducible exact e_yesB | with_reducible exact e_noP | with_reducible exact e_cL0 | with_reducible exact e_forL_nil | with_reducible apply e_var | with_reducible apply e_bin | with_reducible apply e_un | with_reducible apply e_tst | with_reducible apply e_or | with_reducible apply e_and | with_reducible apply e_orV | with_reducible apply e_andV | with_reducible apply e_ife | with_reducible apply e_if | with_reducible apply e_notB | with_reducible apply e_consA | with_reducible apply e_tupM | with_reducible apply e_lstM | with_reducible apply e_dispF | with_reducible apply e_cbM | with_reducible apply e_cfM | with_reducible apply e_bfM | with_reducible apply e_ownL | with_reducible apply e_listI | with_reducible apply e_walkM | with_reducible apply e_lrevF | with_reducible apply e_zrM | with_reducible apply e_enum | with_reducible apply e_rng1 | with_reducible apply e_rng2 | with_reducible apply e_parP | with_reducible apply e_sl | with_reducible apply e_slO | with_reducible apply e_view | with_reducible apply e_zipL | with_reducible apply e_chnT | with_reducible apply seqK_nx | with_reducible exact seqK_rt | with_reducible exact seqK_exc | with_reducible apply e_seqG | with_reducible apply e_forS | with_reducible apply e_asg | with_reducible apply e_ret | with_reducible apply e_drop | with_reducible apply e_raise | with_reducible apply e_new | with_reducible apply e_newT | with_reducible apply e_par | with_reducible apply e_parNS | with_reducible apply e_asgT | with_reducible apply q_tup2 | with_reducible apply q_tup3 | with_reducible apply q_lst2 | with_reducible apply q_lst3 | with_reducible apply t_tup2 | with_reducible apply t_tup3 | with_reducible apply t_name | with_reducible apply e_ixO | with_reducible apply e_setS | with_reducible apply e_app | with_reducible apply e_melt | with_reducible apply e_setF | with_reducible apply e_fldO | with_reducible apply e_callM | with_reducible apply e_callO | with_reducible apply wpS | with_reducible apply stS | with_reducible apply mulV2_bd | with_reducible apply divV_pos | with_reducible apply modV_pos | with_reducible apply f1_of | with_reducible apply f2_of | ((with_reducible apply ite_T); first | (show _ = _; with_reducible assumption) | exact rfl | (apply decide_eq_true; omega)) | ((with_reducible apply ite_F); first | (show _ = _; with_reducible assumption) | exact rfl | (apply decide_eq_false; omega)) | exact rfl | decide | (show _ ∧ _; omega) | with_reducible exact bd_lit (by decide) (by decide) | with_reducible exact bd_mod (by decide) (by decide) (by decide) | with_reducible apply powV_nat | (show _ < _; omega) | (show _ ≤ _; omega) | (with_reducible apply fs0; assumption) | with_reducible apply fsS)
local macro_rules | `(tactic| ac_rfl) => `(tactic| repeat' (first | infer_instance | fail))
def CupV (cs : List Int) (t r : Int) : List Val := [.lst (cs.map .int), .int t, .int r]
structure Cup (k : Nat) (s : SV) : Prop where
  ex : ∃ (p : Bool) (cs : List Int) (t r : Int), s = .ow p (CupV cs t r) ∧ 0 ≤ t ∧ t ≤ k ∧ 0 ≤ r ∧ ∀ c ∈ cs, c.natAbs.log2 < 50000000
theorem Cup.own {k : Nat} {s : SV} (h : Cup k s) : s.own = true := by
  obtain ⟨p, cs, t, r, rfl, _⟩ := h.ex; rfl
theorem Cup.flat {k : Nat} {s : SV} (h : Cup k s) : s.flat = true := by
  obtain ⟨p, cs, t, r, rfl, _⟩ := h.ex; rfl
theorem Cup.setPin {k : Nat} {s : SV} {q : Bool} (h : Cup k s) : Cup k (s.setPin q) := by
  obtain ⟨p, cs, t, r, rfl, h'⟩ := h.ex
  exact ⟨q, cs, t, r, rfl, h'⟩
theorem Cup.le {k l : Nat} {s : SV} (h : Cup k s) (e : k ≤ l) : Cup l s := by
  obtain ⟨p, cs, t, r, rfl, h1, h2, h3⟩ := h.ex
  exact ⟨p, cs, t, r, rfl, h1, by omega, h3⟩
theorem log2_mono {a b : Nat} (h : a ≤ b) : a.log2 ≤ b.log2 := by
  by_cases ha : a = 0
  · subst ha; simp
  · exact (Nat.le_log2 (by omega)).mpr (Nat.le_trans (Nat.log2_self_le ha) h)
theorem ixN_pos {n i : Nat} (h : i < n) : ixN n (i : Int) = some i := by
  unfold ixN
  simp [h]
theorem atI_mem {xs : List Val} {t : Int} (h0 : 0 ≤ t) (h1 : t < xs.length) : ∃ x, x ∈ xs ∧ atI xs t = some x := by
  obtain ⟨n, rfl⟩ := Int.eq_ofNat_of_zero_le h0
  have hn : n < xs.length := by omega
  refine ⟨xs[n], List.getElem_mem hn, ?_⟩
  unfold atI
  rw [ixN_pos hn]
  exact List.getElem?_eq_getElem hn
theorem pow18 : powV (.int 10) (.int 18) = some (.int 1000000000000000000) := by
  unfold powV
  dsimp only
  rw [if_pos ⟨by decide, by decide, by decide⟩]
  rfl
theorem mulV2_big {i j : Int} (hi : Bd 60 i) (hj : j.natAbs.log2 < 100000000) : mulV2 (.int i) (.int j) = some (.int (i * j)) := mulV_big hi hj
theorem draw_ok {k : Nat} {s : SV} {many : Int} (h : Cup k s) (hk : k ≤ 16000) (h1 : 1 ≤ many) (hm : many ≤ 100000) : ∃ v s', runO 7 b__law_draw s [.int many] = .ok (.int v, s') ∧ 0 ≤ v ∧ v < many ∧ Cup (k + 1) s' := by
  obtain ⟨p, cs, t, r, rfl, ht0, htk, hr0, hc⟩ := h.ex
  have mp : 0 < many := by omega
  have mb : Bd 60 many := .sm (by omega) (by decide)
  have md : ∀ z : Int, 0 ≤ z % many ∧ z % many < many := fun z => ⟨Int.emod_nonneg _ (by omega), Int.emod_lt_of_pos _ mp⟩
  have p18 := pow18
  by_cases hr : 0 < r
  · have d : decide (0 < r) = true := decide_eq_true hr
    refine ⟨r % many, .ow p (CupV cs t (r / many)), ?_, (md _).1, (md _).2, p, cs, t, r / many, rfl, ht0, by omega, Int.ediv_nonneg hr0 (by omega), hc⟩
    apply e_runOE [some (.ow true (CupV cs t r)), zi many, none, none, none, none, none] rfl
    · unfold b__law_draw
      apply e_seqR
      ac_rfl
    all_goals rfl
  · have d : decide (0 < r) = false := decide_eq_false hr
    have bt : Bd 8000 t := .sm (by omega) (by decide)
    have ll := lenV_ints cs
    -- the cell
    obtain ⟨c, hcell, hbig⟩ : ∃ c : Int, ifS (tstM blV (binM neV (ixO 0 (cstM (.int 0))) (lstM nilA))) (asgS 4 (binM ixV (ixO 0 (cstM (.int 0))) (binM modV (cbM (f1 intV) (consA (varM 3) nilA)) (cbM (f1 lenV) (consA (ixO 0 (cstM (.int 0))) nilA))))) nextS [some (.ow true (CupV cs (t + 1) r)), zi many, none, zi t, zi (32009 * t + 1187), none, none] =
        .ok (.nx [some (.ow true (CupV cs (t + 1) r)), zi many, none, zi t, zi c, none, none]) ∧ (t < cs.length → c.natAbs.log2 < 50000000) := by
      have ne : neV (.lst (cs.map .int)) (.lst []) = some (.bl (!decide (cs = []))) := neV_lst cs []
      by_cases hcs : cs = []
      · have d2 : (!decide (cs = [])) = false := by rw [decide_eq_true hcs]; rfl
        refine ⟨32009 * t + 1187, ?_, fun z => ?_⟩
        · ac_rfl
        · subst hcs; simp at z; omega
      · have d2 : (!decide (cs = [])) = true := by rw [decide_eq_false hcs]; rfl
        have hl : 0 < cs.length := List.length_pos_iff.mpr hcs
        have hl2 : (0 : Int) < cs.length := by omega
        obtain ⟨x, hx, ex⟩ := atI_mem (xs := cs.map Val.int) (t := t % cs.length) (Int.emod_nonneg _ (by omega)) (by rw [List.length_map]; exact Int.emod_lt_of_pos _ (by omega))
        obtain ⟨c, hcm, rfl⟩ := List.mem_map.mp hx
        have ix : ixV (.lst (cs.map .int)) (.int (t % cs.length)) = some (.int c) := ex
        refine ⟨c, ?_, fun _ => hc c hcm⟩
        ac_rfl
    have hA : (if c < 0 then -c else c) = (c.natAbs : Int) := by split <;> omega
    by_cases hb : t < cs.length ∧ 1000000000000000000 ≤ (if c < 0 then -c else c)
    · have hlg : ((if c < 0 then -c else c) - 1000000000000000000 : Int).natAbs.log2 < 100000000 := by
        have h1 := hbig hb.1
        have h2 : ((if c < 0 then -c else c) - 1000000000000000000 : Int).natAbs ≤ c.natAbs := by omega
        have h3 := log2_mono h2
        omega
      have mm := mulV2_big (i := 2) (j := (if c < 0 then -c else c) - 1000000000000000000) (bd_lit (by decide) (by decide)) hlg
      have d3 : decide (t < (cs.length : Int)) = true := decide_eq_true hb.1
      have d4 : decide (1000000000000000000 ≤ (if c < 0 then -c else c)) = true := decide_eq_true hb.2
      refine ⟨(2 * ((if c < 0 then -c else c) - 1000000000000000000) + (if decide (c < 0) = true then 1 else 0)) % many, .ow p (CupV cs (t + 1) ((2 * ((if c < 0 then -c else c) - 1000000000000000000) + (if decide (c < 0) = true then 1 else 0)) / many)), ?_, (md _).1, (md _).2, p, cs, t + 1, _, rfl, by omega, by omega, Int.ediv_nonneg (by
          have : (0 : Int) ≤ if decide (c < 0) = true then 1 else 0 := by split <;> omega
          omega) (by omega), hc⟩
      apply e_runOE [some (.ow true (CupV cs t r)), zi many, none, none, none, none, none] rfl
      · unfold b__law_draw
        apply e_seq
        · ac_rfl
        apply e_seq
        · ac_rfl
        apply e_seq
        · ac_rfl
        apply e_seq
        · ac_rfl
        apply e_seq
        · exact hcell
        apply e_seqR
        ac_rfl
      all_goals rfl
    · have d34 : decide (t < (cs.length : Int)) = true → decide (1000000000000000000 ≤ (if c < 0 then -c else c)) = false := fun z => decide_eq_false fun y => hb ⟨of_decide_eq_true z, y⟩
      have m31 : ∀ z : Int, Bd 31 (z % 2147483563) := fun z => by unfold Bd; omega
      have bt14 : Bd 14 t := by unfold Bd; omega
      have b1 : Bd 8000 (2 * t + 1663) := .sm (by omega) (by decide)
      have b2 : Bd 8000 (32009 * t) := .sm (by omega) (by decide)
      have p3 : ∀ z : Int, (z % 2147483563 * (2 * t + 1663) + 32009 * t * t + 52021).natAbs < 2 ^ 64 := fun z => by
        have q1 := (m31 z).mul (show Bd 16 (2 * t + 1663) by unfold Bd; omega)
        have q2 := (show Bd 30 (32009 * t) by unfold Bd; omega).mul bt14
        unfold Bd at q1 q2
        omega
      have p3' := p3 ((c % 2147483587 + 42017 * t + 1187) ^ (5 : Int).toNat)
      have b3 : Bd 8000 (32009 * t * t) := (((show Bd 30 (32009 * t) by unfold Bd; omega).mul bt14)).mono (by decide)
      have test : andB (tstM blV (binM ltV (varM 3) (cbM (f1 lenV) (consA (ixO 0 (cstM (.int 0))) nilA)))) (tstM blV (binM geV (cbM (f1 absVl) (consA (varM 4) nilA)) (binM powV (cstM (.int 10)) (cstM (.int 18))))) [some (.ow true (CupV cs (t + 1) r)), zi many, none, zi t, zi c, none, none] = .ok (false, [some (.ow true (CupV cs (t + 1) r)), zi many, none, zi t, zi c, none, none]) := by
        by_cases h : t < cs.length
        · have d3 : decide (t < (cs.length : Int)) = true := decide_eq_true h
          have d4 := d34 d3
          apply e_and
          · ac_rfl
          · apply ite_T d3
            rw [← d4]
            ac_rfl
        · have d3 : decide (t < (cs.length : Int)) = false := decide_eq_false h
          ac_rfl
      refine ⟨(((c % 2147483587 + 42017 * t + 1187) ^ (5 : Int).toNat % 2147483563 * (2 * t + 1663) + 32009 * t * t + 52021) ^ (3 : Int).toNat % 2147483549 / 64) % many, .ow p (CupV cs (t + 1) r), ?_, (md _).1, (md _).2, p, cs, t + 1, r, rfl, by omega, by omega, hr0, hc⟩
      apply e_runOE [some (.ow true (CupV cs t r)), zi many, none, none, none, none, none] rfl
      · unfold b__law_draw
        apply e_seq
        · ac_rfl
        apply e_seq
        · ac_rfl
        apply e_seq
        · ac_rfl
        apply e_seq
        · ac_rfl
        apply e_seq
        · exact hcell
        apply e_seq
        · apply e_if test
          ac_rfl
        ac_rfl
      all_goals rfl
theorem draw_nat {k : Nat} {s : SV} {many : Nat} (h : Cup k s) (hk : k ≤ 16000) (h1 : 1 ≤ many) (hm : many ≤ 100000) : ∃ (v : Nat) (s' : SV), runO 7 b__law_draw s [.int many] = .ok (.int v, s') ∧ v < many ∧ Cup (k + 1) s' := by
  obtain ⟨v, s', e, v0, v1, c⟩ := draw_ok (many := many) h hk (by omega) (by omega)
  obtain ⟨n, rfl⟩ := Int.eq_ofNat_of_zero_le v0
  exact ⟨n, s', e, by omega, c⟩
/-- pen drawn from, in slot i -/
theorem e_draw {k : Nat} {s : SV} {many : Nat} (h : Cup k s) (hk : k ≤ 16000) (h1 : 1 ≤ many) (hm : many ≤ 100000) : ∃ (v : Nat) (s' : SV), v < many ∧ Cup (k + 1) s' ∧
    ∀ {i : Nat} {al : MA} {ρ ρ1 : En}, ρ[i]? = some (some s) → al ρ = .ok ([.int many], ρ1) → ρ1[i]? = some (some s) → callO i 2 7 b__law_draw al ρ = .ok (.int v, ρ1.set i (some s')) := by
  obtain ⟨v, s', e, v1, c⟩ := draw_nat h hk h1 hm
  exact ⟨v, s', v1, c, fun h0 ha h2 => e_callO h0 h.own ha h2 h.own e rfl⟩
/-- one of some values -/
theorem pick_run {k : Nat} {s : SV} {x : Val} {L : List Val} (hx : ∀ i : Nat, i < L.length → ∃ y, L[i]? = some y ∧ ixV x (.int i) = some y) (hl : f1 lenV [x] = some (.int (L.length : Nat))) (h : Cup k s) (hk : k ≤ 16000) (h1 : 1 ≤ L.length) (hm : L.length ≤ 100000) :
    ∃ (v : Nat) (y : Val) (s' : SV), L[v]? = some y ∧ runO 2 b__law_pick s [x] = .ok (y, s') ∧ Cup (k + 1) s' := by
  obtain ⟨v, s1, e1, v1, c1⟩ := draw_nat (many := L.length) (h.setPin (q := true)) hk h1 hm
  obtain ⟨y, hy, ix⟩ := hx v v1
  have ow := h.setPin (q := true) |>.own
  refine ⟨v, y, s1.setPin s.pin, hy, ?_, c1.setPin⟩
  apply e_runOE [some (s.setPin true), zv x] rfl
  · unfold b__law_pick
    ac_rfl
  · rfl
  · rfl
  · exact c1.flat
  · rfl
theorem e_pick {k : Nat} {s : SV} {L : List Val} (h : Cup k s) (hk : k ≤ 16000) (h1 : 1 ≤ L.length) (hm : L.length ≤ 100000) :
    ∃ (v : Nat) (y : Val) (s' : SV), L[v]? = some y ∧ Cup (k + 1) s' ∧ ∀ {i : Nat} {al : MA} {ρ ρ1 : En}, ρ[i]? = some (some s) → al ρ = .ok ([.lst L], ρ1) → ρ1[i]? = some (some s) → callO i 2 2 b__law_pick al ρ = .ok (y, ρ1.set i (some s')) := by
  obtain ⟨v, y, s', hy, e, c⟩ := pick_run (x := .lst L) (L := L) (fun i hi => ⟨L[i], List.getElem?_eq_getElem hi, by show atI L _ = _; unfold atI; rw [ixN_pos hi]; exact List.getElem?_eq_getElem hi⟩) rfl h hk h1 hm
  exact ⟨v, y, s', hy, c, fun h0 ha h2 => e_callO h0 h.own ha h2 h.own e rfl⟩
/-- .. of the letters of a text -/
theorem e_pickS {k : Nat} {s : SV} {w : List Lt} (h : Cup k s) (hk : k ≤ 16000) (h1 : 1 ≤ w.length) (hm : w.length ≤ 1000) :
    ∃ (l : Lt) (s' : SV), l ∈ w ∧ Cup (k + 1) s' ∧ ∀ {i : Nat} {al : MA} {ρ ρ1 : En}, ρ[i]? = some (some s) → al ρ = .ok ([.str (strOf w)], ρ1) → ρ1[i]? = some (some s) → callO i 2 2 b__law_pick al ρ = .ok (.str (ltr l), ρ1.set i (some s')) := by
  have ln : f1 lenV [.str (strOf w)] = some (.int ((w.map fun l => Val.str (ltr l)).length : Nat)) := by
    refine f1_of (g := lenV) ?_
    unfold lenV
    dsimp only
    rw [if_pos (by rw [len_strOf]; exact sz_le (by omega)), len_strOf, List.length_map]
  obtain ⟨v, y, s', hy, e, c⟩ := pick_run (x := .str (strOf w)) (L := w.map fun l => .str (ltr l)) (fun i hi => by
    rw [List.length_map] at hi
    refine ⟨.str (ltr w[i]), by simp [hi], ?_⟩
    unfold ixV
    dsimp only
    rw [if_pos (by rw [len_strOf]; exact sz_le (by omega))]
    unfold strOf atI
    rw [List.toList_toArray, List.length_map, ixN_pos hi]
    simp [hi, ltr]) ln h hk (by rw [List.length_map]; exact h1) (by rw [List.length_map]; omega)
  rw [List.getElem?_map] at hy
  obtain ⟨l, hl, rfl⟩ := Option.map_eq_some_iff.mp hy
  exact ⟨l, s', List.mem_of_getElem? hl, c, fun h0 ha h2 => e_callO h0 h.own ha h2 h.own e rfl⟩
end Y

set_option Elab.async false
set_option linter.all false
set_option maxRecDepth 100000
set_option maxHeartbeats 400000
set_option autoImplicit false
namespace Y
open PySem PySem.Spec PyProof.Rows L2 Z
/-! L2: the pen, plain webs, their neighbours, ways, columns. -/
local macro_rules | `(tactic| infer_instance) => `(tactic| first | (show _ = _; with_reducible assumption) | (show Bd _ _; with_reducible assumption) | (show _ < _; with_reducible assumption) | (show _ ≤ _; with_reducible assumption) | (show Fr _; first | with_reducible assumption | with_reducible exact Fr.fz | with_reducible exact Fr.none) | with_reducible exact (eqV_int _ _) | with_reducible exact (neV_int _ _) | with_reducible exact (sumV_ints _) | with_reducible exact (lenV_ints _) | with_reducible exact (lenV_tints _) | with_reducible exact (absVl_int _) | with_reducible exact wp0 | with_reducible exact st0 | with_reducible exact (small_sz rfl) | with_reducible exact (small_lt rfl) | with_reducible exact (melts_int _) | with_reducible exact e_cst | with_reducible exact e_nilA | with_reducible exact e_next | with_reducible exact e_yesB | with_reducible exact e_noP | with_reducible exact e_cL0 | with_reducible exact e_forL_nil | with_reducible apply e_var | with_reducible apply e_bin | with_reducible apply e_un | with_reducible apply e_tst | with_reducible apply e_or | with_reducible apply e_and | with_reducible apply e_orV | with_reducible apply e_andV | with_reducible apply e_ife | with_reducible apply e_if | with_reducible apply e_notB | with_reducible apply e_consA | with_reducible apply e_tupM | with_reducible apply e_lstM | with_reducible apply e_dispF | with_reducible apply e_cbM | with_reducible apply e_cfM | with_reducible apply e_bfM | with_reducible apply e_ownL | with_reducible apply e_listI | with_reducible apply e_walkM | with_reducible apply e_lrevF | with_reducible apply e_zrM | with_reducible apply e_enum | with_reducible apply e_rng1 | with_reducible apply e_rng2 | with_reducible apply e_parP | with_reducible apply e_sl | with_reducible apply e_slO | with_reducible apply e_view | with_reducible apply e_zipL | with_reducible apply e_chnT | with_reducible apply seqK_nx | with_reducible exact seqK_rt | with_reducible exact seqK_exc | with_reducible apply e_seqG | with_reducible apply e_forS | with_reducible apply e_asg | with_reducible apply e_ret | with_reducible apply e_drop | with_reducible apply e_raise | with_reducible apply e_new | with_reducible apply e_newT | with_reducible apply e_par | with_reducible apply e_parNS | with_reducible apply e_asgT | with_reducible apply q_tup2 | with_reducible apply q_tup3 | with_reducible apply q_lst2 | with_reducible apply q_lst3 | with_reducible apply t_tup2 | with_reducible apply t_tup3 | with_reducible apply t_name | with_reducible apply e_ixO | with_reducible apply e_setS | with_reducible apply e_app | with_reducible apply e_melt | with_reducible apply e_setF | with_reducible apply e_fldO | with_reducible apply e_callM | with_reducible apply e_callO | with_reducible apply wpS | with_reducible apply stS | with_reducible apply mulV2_bd | with_reducible apply divV_pos | with_reducible apply modV_pos | with_reducible apply f1_of | with_reducible apply f2_of | ((with_reducible apply ite_T); first | (show _ = _; with_reducible assumption) | exact rfl | (apply decide_eq_true; omega)) | ((with_reducible apply ite_F); first | (show _ = _; with_reducible assumption) | exact rfl | (apply decide_eq_false; omega)) | exact rfl | decide | (show _ ∧ _; omega) | with_reducible exact bd_lit (by decide) (by decide) | with_reducible exact bd_mod (by decide) (by decide) (by decide) | with_reducible apply powV_nat | (show _ < _; omega) | (show _ ≤ _; omega) | (with_reducible apply fs0; assumption) | with_reducible apply fsS)
local macro_rules | `(tactic| ac_rfl) => `(tactic| repeat' (first | infer_instance | fail))
theorem pen_made (ns : List Int) (hl : ns.length ≤ 63) : n__law_pen [zv (.scr ns), none] = .ok (.olst (CupV (ns.take 58) 0 0), [zv (.scr ns), none]) := by
  have sc : scrF 58 (varM 0) [zv (.scr ns), none] = .ok ((ns.take 58).map .int, [zv (.scr ns), none]) := by unfold scrF; rw [e_var rfl]; rfl
  have c1 : c1__law_pen [zv (.scr ns), none] = .ok ((ns.take 58).map .int, [zv (.scr ns), none]) :=
    e_comp Val.int Val.int (fun i => [zv (.scr ns), zi i]) (ns.take 58) (e_walkL (e_listI sc)) (by rw [List.length_take]; omega) rfl rfl rfl fun i hi => ⟨rfl, by ac_rfl, rfl, rfl⟩
  have l1 : listM c1__law_pen [zv (.scr ns), none] = .ok (.lst ((ns.take 58).map .int), [zv (.scr ns), none]) := e_listI c1
  unfold n__law_pen CupV
  ac_rfl
theorem bits_log {z : Int} (h : Builtin.Int.intBits z ≤ 1048576) : z.natAbs.log2 < 50000000 := by
  unfold Builtin.Int.intBits at h
  split at h
  · rename_i e
    have e : z.natAbs = 0 := by simpa using e
    rw [e]
    decide
  · omega
theorem cup0 {ns : List Int} (hb : ∀ z ∈ ns, Builtin.Int.intBits z ≤ 1048576) : Cup 0 (.ow false (CupV (ns.take 58) 0 0)) := ⟨false, _, 0, 0, rfl, by decide, by decide, by decide, fun c hc => bits_log (hb c (List.mem_of_mem_take hc))⟩
/-- a plain web -/
def pwV (n : Nat) (ts : List Tie) : Val := .tup [.int n, .lst (ts.map tieV)]
theorem pw0 (n : Nat) (ts : List Tie) : ixV (pwV n ts) (.int 0) = some (.int n) := rfl
theorem pw1 (n : Nat) (ts : List Tie) : ixV (pwV n ts) (.int 1) = some (.lst (ts.map tieV)) := rfl
theorem beq_int (a b : Nat) : decide ((a : Int) = (b : Int)) = (a == b) := by
  by_cases h : a = b
  · subst h; simp
  · rw [decide_eq_false (by omega)]; simp [h]
theorem and_ite {c : MB} {ρ : En} {b1 b2 : Bool} {a : MB} (h1 : a ρ = .ok (b1, ρ)) (h2 : c ρ = .ok (b2, ρ)) : andB a c ρ = .ok (b1 && b2, ρ) := e_andB h1 fun _ => h2
theorem v_near (n : Nat) (ts : List Tie) (hl : ts.length < 1000) (p : Nat) (c : Fin 4) : runV 7 b__law_near [pwV n ts, .int p, .str (co c)] = .ok (natL (nb ts c p)) := by
  have i1 := pw1 n ts
  have c1 : listM c1__law_near [zv (pwV n ts), zi p, zs (co c), none, none, none, none] = .ok (natL ((ts.filter fun t => t.1 == p && t.2.2 == c).map (·.2.1)), [zv (pwV n ts), zi p, zs (co c), none, none, none, none]) := by
    refine e_listM (ys := ((ts.filter fun t => t.1 == p && t.2.2 == c).map (·.2.1)).map fun q : Nat => Val.int q) ?_ (melts_nat _)
    rw [List.map_map]
    refine e_compP tieV _ (fun t => t.1 == p && t.2.2 == c) (fun t => [zv (pwV n ts), zi p, zs (co c), none, zi t.1, zi t.2.1, zs (co t.2.2)]) ts (e_walkL (by ac_rfl)) (by omega) rfl rfl rfl fun t ht => ⟨tie_tg rfl rfl rfl, ?_, fun _ => e_var rfl, rfl, rfl⟩
    have q := eqV_co t.2.2 c
    have d := beq_int t.1 p
    refine and_ite ?_ ?_
    · rw [← d]; ac_rfl
    · ac_rfl
  have c2 : listM c2__law_near [zv (pwV n ts), zi p, zs (co c), zv (natL ((ts.filter fun t => t.1 == p && t.2.2 == c).map (·.2.1))), none, none, none] = .ok (natL ((ts.filter fun t => t.2.1 == p && t.2.2 == c).map (·.1)), [zv (pwV n ts), zi p, zs (co c), zv (natL ((ts.filter fun t => t.1 == p && t.2.2 == c).map (·.2.1))), none, none, none]) := by
    refine e_listM (ys := ((ts.filter fun t => t.2.1 == p && t.2.2 == c).map (·.1)).map fun q : Nat => Val.int q) ?_ (melts_nat _)
    rw [List.map_map]
    refine e_compP tieV _ (fun t => t.2.1 == p && t.2.2 == c) (fun t => [zv (pwV n ts), zi p, zs (co c), zv (natL ((ts.filter fun t => t.1 == p && t.2.2 == c).map (·.2.1))), zi t.1, zi t.2.1, zs (co t.2.2)]) ts (e_walkL (by ac_rfl)) (by omega) rfl rfl rfl fun t ht => ⟨tie_tg rfl rfl rfl, ?_, fun _ => e_var rfl, rfl, rfl⟩
    have q := eqV_co t.2.2 c
    have d := beq_int t.2.1 p
    refine and_ite ?_ ?_
    · rw [← d]; ac_rfl
    · ac_rfl
  have f1 := List.length_filter_le (fun t : Tie => t.1 == p && t.2.2 == c) ts
  have f2 := List.length_filter_le (fun t : Tie => t.2.1 == p && t.2.2 == c) ts
  have ad : addV2 (natL ((ts.filter fun t => t.1 == p && t.2.2 == c).map (·.2.1))) (natL ((ts.filter fun t => t.2.1 == p && t.2.2 == c).map (·.1))) = some (natL (nb ts c p)) := by
    unfold addV2
    dsimp only
    rw [if_pos (by simp only [List.length_map]; exact sz_le (by omega)), ← List.map_append]
    rfl
  apply e_runE [zv (pwV n ts), zi p, zs (co c), none, none, none, none] rfl
  · unfold b__law_near
    ac_rfl
  · rfl
/-! columns -/
theorem nb_len (ts : List Tie) (h : ∀ t ∈ ts, t.1 ≠ t.2.1) (c : Fin 4) (p : Nat) : (nb ts c p).length ≤ ts.length := by
  unfold nb
  rw [List.length_append, List.length_map, List.length_map]
  induction ts with
  | nil => simp
  | cons t ts ih =>
    have ih := ih fun u hu => h u (.tail _ hu)
    have ht := h t (.head _)
    cases e1 : (t.1 == p && t.2.2 == c) <;> cases e2 : (t.2.1 == p && t.2.2 == c) <;> simp only [List.filter_cons, e1, e2, if_true, Bool.false_eq_true, if_false, List.length_cons]
    · omega
    · omega
    · omega
    · simp only [Bool.and_eq_true, beq_iff_eq] at e1 e2
      exact absurd (e1.1.trans e2.1.symm) ht
theorem nb_perm_ac {T ts : List Tie} (h : T.Perm ts) (c : Fin 4) (p : Nat) : (ac T c p).Perm (nb ts c p) := (ac_nb T c p).trans (nb_perm h c p)
/-- rows of neighbours, by colours -/
def nearsV (n : Nat) (ts : List Tie) : Val := nearL n (nb ts)
theorem letters_abcd : ("abcd" : Str) = strOf ((List.finRange 4).map fun c => (c, false)) := rfl
theorem v_nears (n : Nat) (hn : n ≤ 24) (ts : List Tie) (hl : ts.length < 1000) : runV 4 b__law_nears [pwV n ts] = .ok (nearsV n ts) := by
  have i0 := pw0 n ts
  have c1 : ∀ (X : Val) (c : Fin 4) (u3 : Option SV), Fr u3 → listM c1__law_nears [zv (pwV n ts), some (.ob false X), zs (co c), u3] = .ok (.lst ((List.range n).map fun p => natL (nb ts c p)), [zv (pwV n ts), some (.ob false X), zs (co c), none]) := fun X c u3 f3 => by
    refine e_listM (e_comp (fun i : Nat => .int i) (fun p => natL (nb ts c p)) (fun p => [zv (pwV n ts), some (.ob false X), zs (co c), zi p]) (List.range n) (e_rngL (by ac_rfl) (by omega)) (by rw [List.length_range]; omega) (all1 (by ac_rfl)) rfl rfl fun p hp => ⟨rfl, ?_, rfl, rfl⟩) (melts_rep _ _ fun _ _ => rfl)
    have nr := v_near n ts hl p c
    ac_rfl
  obtain ⟨ρ', k1, u2, u3, f2, f3, e⟩ := e_loop (tg := nameT 2) (s := l1__law_nears) (fun c : Fin 4 => .str (co c))
    (fun j ρ => ∃ u2 u3, Fr u2 ∧ Fr u3 ∧ ρ = [zv (pwV n ts), some (.ob false (.odic (((List.finRange 4).take j).map fun c => .inr (co c)) (((List.finRange 4).take j).map fun c => .lst ((List.range n).map fun p => natL (nb ts c p))))), u2, u3]) (List.finRange 4) 0 [zv (pwV n ts), some (.ob false (.odic [] [])), none, none] ⟨none, none, .none, .none, rfl⟩ fun j c ρ hj ⟨u2, u3, f2, f3, e⟩ => by
      subst e
      rw [Nat.zero_add]
      have cc := c1 (.odic (((List.finRange 4).take j).map fun c => .inr (co c)) (((List.finRange 4).take j).map fun c => .lst ((List.range n).map fun p => natL (nb ts c p)))) c u3 f3
      have tk : (List.finRange 4).take (j + 1) = (List.finRange 4).take j ++ [c] := by rw [List.take_succ, hj]; rfl
      have lt : ((List.finRange 4).take j).length ≤ 4 := by rw [List.length_take]; exact Nat.min_le_right _ _
      have nk : (Sum.inr (co c) : Key) ∉ ((List.finRange 4).take j).map fun c => (Sum.inr (co c) : Key) := by
        have nd : (((List.finRange 4).take (j + 1)).map fun c => (Sum.inr (co c) : Key)).Nodup := by
          rw [List.map_take]
          exact colKeys_nd.sublist (List.take_sublist _ _)
        rw [tk, List.map_append] at nd
        exact fun z => (List.nodup_append.mp nd).2.2 _ z _ (.head _) rfl
      rw [tk, List.map_append, List.map_append]
      refine ⟨_, _, t_name (fsS (fsS (fs0 f2))) rfl, ?_, zs (co c), none, .fz, .none, rfl⟩
      exact e_dst cc rfl (e_var rfl) rfl rfl nk (by rw [List.length_map]; omega) rfl
  subst e
  rw [Nat.zero_add, show (List.finRange 4).take (List.finRange 4).length = List.finRange 4 from rfl] at k1
  have wk : walkM wlkV (cstM (.str ("abcd" : Str))) [zv (pwV n ts), some (.ob false (.odic [] [])), none, none] = .ok ((List.finRange 4).map fun c => .str (co c), [zv (pwV n ts), some (.ob false (.odic [] [])), none, none]) := rfl
  apply e_runE [zv (pwV n ts), none, none, none] rfl
  · unfold b__law_nears
    apply e_seq
    · exact e_newT e_cst rfl rfl rfl
    apply e_seq
    · exact e_forS wk k1
    refine e_meltG (y := nearsV n ts) rfl ?_ rfl ?_
    · show Val.dic _ (melts _) = _
      rw [melts_rep _ _ fun _ _ => rfl]
      rfl
    exact e_ret (e_var rfl)
  · rfl
theorem colN_lt {ts : List Tie} (hl : ts.length < 1000) (h : ∀ t ∈ ts, t.1 ≠ t.2.1) {w : List Lt} (hw : w.length ≤ 80) (p : Nat) : colN (nb ts) w (fun _ => 1) p < 2 ^ 881 := by
  have h1 := colN_le (N := nb ts) (v := fun _ => 1) (D := 2 ^ 11) (fun c p => Nat.le_trans (nb_len ts h c p) (by omega)) (fun _ => Nat.le_refl _) w p
  rw [← Nat.pow_mul] at h1
  exact Nat.lt_of_le_of_lt h1 (Nat.pow_lt_pow_right (by decide) (by omega))
theorem nb_lt {n : Nat} {ts : List Tie} (ok : TiesOk n ts) {c : Fin 4} {p q : Nat} (h : q ∈ nb ts c p) : q < n := ac_lt ok ((ac_nb ts c p).mem_iff.mpr h)
theorem zip_maps {α : Type} (F G : α → Val) : ∀ xs : List α, zipV (xs.map F) (xs.map G) = xs.map fun x => .tup [F x, G x]
  | [] => rfl
  | x :: xs => by
    show pairV (F x) (G x) :: zipV (xs.map F) (xs.map G) = _
    rw [zip_maps F G xs]; rfl
theorem col_turn {n : Nat} (hn : n ≤ 24) {ts : List Tie} (ok : TiesOk n ts) (l : Lt) (v : Nat → Nat) (hv : ∀ p, p < n → v p < 2 ^ 8000) {x1 x2 : Val} {u5 : Option SV} (f5 : Fr u5) :
    l1__law_column [zv (nearsV n ts), zv x1, zv x2, zv (colV n v), zs (ltr l), u5, none, none, none] = .ok (.nx [zv (nearsV n ts), zv x1, zv x2, zv (colV n (putN (nb ts) l v)), zs (ltr l), zv (.lst ((List.range n).map fun p => natL (nb ts l.1 p))), none, none, none]) := by
  have lo := lowV_ltr l
  have eq := eqV_low l
  have hl := ok.len
  have dg : dgetV (nearsV n ts) (.str (co l.1)) = some (.lst ((List.range n).map fun p => natL (nb ts l.1 p))) := dget_near n (nb ts) l.1
  have nl := nb_len ts (fun t ht => by have := ok.lt t ht; omega)
  cases hl2 : l.2 with
  | false =>
    rw [hl2] at eq
    have c2 : listM c2__law_column [zv (nearsV n ts), zv x1, zv x2, zv (colV n v), zs (ltr l), zv (.lst ((List.range n).map fun p => natL (nb ts l.1 p))), none, none, none] = .ok (colV n (putN (nb ts) l v), [zv (nearsV n ts), zv x1, zv x2, zv (colV n v), zs (ltr l), zv (.lst ((List.range n).map fun p => natL (nb ts l.1 p))), none, none, none]) := by
      refine e_listM (ys := ((List.range n).map (putN (nb ts) l v)).map fun q : Nat => Val.int q) ?_ (melts_nat _)
      rw [List.map_map]
      refine e_comp (fun p => natL (nb ts l.1 p)) _ (fun p => [zv (nearsV n ts), zv x1, zv x2, zv (colV n v), zs (ltr l), zv (.lst ((List.range n).map fun p => natL (nb ts l.1 p))), none, zv (natL (nb ts l.1 p)), none]) (List.range n) (e_walkL (e_var rfl)) (by rw [List.length_range]; omega) rfl rfl rfl fun p hp => ⟨rfl, ?_, rfl, rfl⟩
      have c1 : listM c1__law_column [zv (nearsV n ts), zv x1, zv x2, zv (colV n v), zs (ltr l), zv (.lst ((List.range n).map fun p => natL (nb ts l.1 p))), none, zv (natL (nb ts l.1 p)), none] = .ok (natL ((nb ts l.1 p).map v), [zv (nearsV n ts), zv x1, zv x2, zv (colV n v), zs (ltr l), zv (.lst ((List.range n).map fun p => natL (nb ts l.1 p))), none, zv (natL (nb ts l.1 p)), none]) := by
        refine e_listM (ys := ((nb ts l.1 p).map v).map fun q : Nat => Val.int q) ?_ (melts_nat _)
        rw [List.map_map]
        exact e_comp (fun i : Nat => .int i) _ (fun q => [zv (nearsV n ts), zv x1, zv x2, zv (colV n v), zs (ltr l), zv (.lst ((List.range n).map fun p => natL (nb ts l.1 p))), zi q, zv (natL (nb ts l.1 p)), none]) (nb ts l.1 p) (e_walkL (e_var rfl)) (by have := nl l.1 p; omega) rfl rfl rfl fun q hq => ⟨rfl, e_bin (e_var rfl) (e_var rfl) (ixV_col v (nb_lt ok hq)), rfl, rfl⟩
      have sv := sumV_nat ((nb ts l.1 p).map v)
      have es : ((nb ts l.1 p).map v).sum = putN (nb ts) l v p := by
        unfold putN
        rw [hl2, if_neg (fun z => nomatch z)]
      rw [es] at sv
      exact e_cbM (e_consA c1 e_nilA) sv
    unfold l1__law_column
    ac_rfl
  | true =>
    rw [hl2] at eq
    have c3 : listM c3__law_column [zv (nearsV n ts), zv x1, zv x2, zv (colV n v), zs (ltr l), zv (.lst ((List.range n).map fun p => natL (nb ts l.1 p))), none, none, none] = .ok (colV n (putN (nb ts) l v), [zv (nearsV n ts), zv x1, zv x2, zv (colV n v), zs (ltr l), zv (.lst ((List.range n).map fun p => natL (nb ts l.1 p))), none, none, none]) := by
      refine e_listM (ys := ((List.range n).map (putN (nb ts) l v)).map fun q : Nat => Val.int q) ?_ (melts_nat _)
      rw [List.map_map]
      have zp : zipM (consA (varM 3) (consA (varM 5) nilA)) [zv (nearsV n ts), zv x1, zv x2, zv (colV n v), zs (ltr l), zv (.lst ((List.range n).map fun p => natL (nb ts l.1 p))), none, none, none] = .ok ((List.range n).map fun p => .tup [.int (v p), natL (nb ts l.1 p)], [zv (nearsV n ts), zv x1, zv x2, zv (colV n v), zs (ltr l), zv (.lst ((List.range n).map fun p => natL (nb ts l.1 p))), none, none, none]) := by
        rw [← zip_maps (fun p => Val.int (v p)) (fun p => natL (nb ts l.1 p))]
        have e1 : colV n v = .lst ((List.range n).map fun p => Val.int (v p)) := by show Val.lst _ = _; rw [List.map_map]; rfl
        rw [e1]
        exact e_zipL (e_consA (e_var rfl) (e_consA (e_var rfl) e_nilA))
      refine e_comp (fun p => .tup [.int (v p), natL (nb ts l.1 p)]) _ (fun p => [zv (nearsV n ts), zv x1, zv x2, zv (colV n v), zs (ltr l), zv (.lst ((List.range n).map fun p => natL (nb ts l.1 p))), none, zv (natL (nb ts l.1 p)), zi (v p)]) (List.range n) zp (by rw [List.length_range]; omega) rfl rfl rfl fun p hp => ⟨rfl, ?_, rfl, rfl⟩
      have ln : lenV (natL (nb ts l.1 p)) = some (.int ((nb ts l.1 p).length : Nat)) := by
        show some (Val.int ((List.map _ _).length : Nat)) = _
        rw [List.length_map]
      have b1 : Bd 8000 ((nb ts l.1 p).length : Nat) := .sm (by have := nl l.1 p; omega) (by decide)
      have b2 : Bd 8000 (v p : Nat) := .nat (hv p (List.mem_range.mp hp))
      have mm := mulV2_bd b2 b1
      have es : ((v p : Nat) : Int) * (((nb ts l.1 p).length : Nat) : Int) = (putN (nb ts) l v p : Nat) := by
        unfold putN
        rw [hl2, if_pos rfl, Int.natCast_mul, Int.mul_comm]
      rw [es] at mm
      exact e_bin (e_var rfl) (e_cbM (e_consA (e_var rfl) e_nilA) ln) mm
    unfold l1__law_column
    ac_rfl
theorem v_column {n : Nat} (hn : n ≤ 24) {ts : List Tie} (ok : TiesOk n ts) (w : List Lt) (hw : w.length ≤ 80) (v : Nat → Nat) (hv : ∀ p, v p ≤ 1) : runV 9 b__law_column [nearsV n ts, .str (strOf w), colV n v] = .ok (colV n (colN (nb ts) w v)) := by
  have rs := revSV_of w (by omega)
  have hl := ok.len
  have nl := nb_len ts (fun t ht => by have := ok.lt t ht; omega)
  obtain ⟨ρ', k1, u4, u5, f4, f5, e⟩ := e_loop (tg := nameT 4) (s := l1__law_column) (fun l : Lt => .str (ltr l))
    (fun j ρ => ∃ u4 u5, Fr u4 ∧ Fr u5 ∧ ρ = [zv (nearsV n ts), zs (strOf w), zv (colV n v), zv (colV n ((w.reverse.take j).foldl (fun u l => putN (nb ts) l u) v)), u4, u5, none, none, none]) w.reverse 0 [zv (nearsV n ts), zs (strOf w), zv (colV n v), zv (colV n v), none, none, none, none, none] ⟨none, none, .none, .none, rfl⟩ fun j l ρ hj ⟨u4, u5, f4, f5, e⟩ => by
      subst e
      rw [Nat.zero_add]
      have bd : ∀ p, p < n → (w.reverse.take j).foldl (fun u l => putN (nb ts) l u) v p < 2 ^ 8000 := fun p _ => by
        have h1 := fold_le (N := nb ts) (D := 2 ^ 11) (M := 1) (fun c p => Nat.le_trans (nl c p) (by omega)) (w.reverse.take j) v 1 hv p
        rw [Nat.mul_one, ← Nat.pow_mul] at h1
        refine Nat.lt_of_le_of_lt h1 (Nat.pow_lt_pow_right (by decide) ?_)
        rw [List.length_take, List.length_reverse]
        omega
      have tn := col_turn hn ok l _ bd (x1 := .str (strOf w)) (x2 := colV n v) f5
      have tk : (w.reverse.take (j + 1)).foldl (fun u l => putN (nb ts) l u) v = putN (nb ts) l ((w.reverse.take j).foldl (fun u l => putN (nb ts) l u) v) := by
        rw [List.take_succ, hj, List.foldl_append]; rfl
      rw [tk]
      exact ⟨_, _, t_name (fsS (fsS (fsS (fsS (fs0 f4))))) rfl, tn, _, _, .fz, .fz, rfl⟩
  subst e
  rw [Nat.zero_add, List.take_length, ← colN_foldl] at k1
  have lv : listM (cfM listV (consA (varM 2) nilA)) [zv (nearsV n ts), zs (strOf w), zv (colV n v), none, none, none, none, none, none] = .ok (colV n v, [zv (nearsV n ts), zs (strOf w), zv (colV n v), none, none, none, none, none, none]) :=
    e_listM (e_cfM (e_consA (e_var rfl) e_nilA) rfl) (melts_nat _)
  have wk : walkM wlkV (unM revSV (varM 1)) [zv (nearsV n ts), zs (strOf w), zv (colV n v), zv (colV n v), none, none, none, none, none] = .ok (w.reverse.map fun l => .str (ltr l), [zv (nearsV n ts), zs (strOf w), zv (colV n v), zv (colV n v), none, none, none, none, none]) :=
    e_walkM (e_un (e_var rfl) rs) (wlkV_of _)
  apply e_runE [zv (nearsV n ts), zs (strOf w), zv (colV n v), none, none, none, none, none, none] rfl
  · unfold b__law_column
    apply e_seq
    · exact e_asg lv rfl rfl
    apply e_seq
    · exact e_forS wk k1
    ac_rfl
  · rfl
end Y

set_option Elab.async false
set_option linter.all false
set_option maxRecDepth 100000
set_option maxHeartbeats 400000
set_option autoImplicit false
namespace Y
open PySem PySem.Spec PyProof.Rows L2 Z
/-! L3: webs, words and Webs that are drawn. -/
local macro_rules | `(tactic| infer_instance) => `(tactic| first | (show _ = _; with_reducible assumption) | (show Bd _ _; with_reducible assumption) | (show _ < _; with_reducible assumption) | (show _ ≤ _; with_reducible assumption) | (show Fr _; first | with_reducible assumption | with_reducible exact Fr.fz | with_reducible exact Fr.none) | with_reducible exact (eqV_int _ _) | with_reducible exact (neV_int _ _) | with_reducible exact (sumV_ints _) | with_reducible exact (lenV_ints _) | with_reducible exact (lenV_tints _) | with_reducible exact (absVl_int _) | with_reducible exact wp0 | with_reducible exact st0 | with_reducible exact (small_sz rfl) | with_reducible exact (small_lt rfl) | with_reducible exact (melts_int _) | with_reducible exact e_cst | with_reducible exact e_nilA | with_reducible exact e_next | with_reducible exact e_yesB | with_reducible exact e_noP | with_reducible exact e_cL0 | with_reducible exact e_forL_nil | with_reducible apply e_var | with_reducible apply e_bin | with_reducible apply e_un | with_reducible apply e_tst | with_reducible apply e_or | with_reducible apply e_and | with_reducible apply e_orV | with_reducible apply e_andV | with_reducible apply e_ife | with_reducible apply e_if | with_reducible apply e_notB | with_reducible apply e_consA | with_reducible apply e_tupM | with_reducible apply e_lstM | with_reducible apply e_dispF | with_reducible apply e_cbM | with_reducible apply e_cfM | with_reducible apply e_bfM | with_reducible apply e_ownL | with_reducible apply e_listI | with_reducible apply e_walkM | with_reducible apply e_lrevF | with_reducible apply e_zrM | with_reducible apply e_enum | with_reducible apply e_rng1 | with_reducible apply e_rng2 | with_reducible apply e_parP | with_reducible apply e_sl | with_reducible apply e_slO | with_reducible apply e_view | with_reducible apply e_zipL | with_reducible apply e_chnT | with_reducible apply seqK_nx | with_reducible exact seqK_rt | with_reducible exact seqK_exc | with_reducible apply e_seqG | with_reducible apply e_forS | with_reducible apply e_asg | with_reducible apply e_ret | with_reducible apply e_drop | with_reducible apply e_raise | with_reducible apply e_new | with_reducible apply e_newT | with_reducible apply e_par | with_reducible apply e_parNS | with_reducible apply e_asgT | with_reducible apply q_tup2 | with_reducible apply q_tup3 | with_reducible apply q_lst2 | with_reducible apply q_lst3 | with_reducible apply t_tup2 | with_reducible apply t_tup3 | with_reducible apply t_name | with_reducible apply e_ixO | with_reducible apply e_setS | with_reducible apply e_app | with_reducible apply e_melt | with_reducible apply e_setF | with_reducible apply e_fldO | with_reducible apply e_callM | with_reducible apply e_callO | with_reducible apply wpS | with_reducible apply stS | with_reducible apply mulV2_bd | with_reducible apply divV_pos | with_reducible apply modV_pos | with_reducible apply f1_of | with_reducible apply f2_of | ((with_reducible apply ite_T); first | (show _ = _; with_reducible assumption) | exact rfl | (apply decide_eq_true; omega)) | ((with_reducible apply ite_F); first | (show _ = _; with_reducible assumption) | exact rfl | (apply decide_eq_false; omega)) | exact rfl | decide | (show _ ∧ _; omega) | with_reducible exact bd_lit (by decide) (by decide) | with_reducible exact bd_mod (by decide) (by decide) (by decide) | with_reducible apply powV_nat | (show _ < _; omega) | (show _ ≤ _; omega) | (with_reducible apply fs0; assumption) | with_reducible apply fsS)
local macro_rules | `(tactic| ac_rfl) => `(tactic| repeat' (first | infer_instance | fail))
/-- a plain web that may be made -/
structure PW (n : Nat) (ts : List Tie) : Prop where
  ok : TiesOk n ts
  nd : (ts.map fun t => (t.1, t.2.1)).Nodup
  tl : ts.length ≤ tri n
/-- what is drawn of a web until the tie of one and the other -/
structure Part (j i : Nat) (ts : List Tie) : Prop where
  lt : ∀ t ∈ ts, t.1 < t.2.1 ∧ (t.2.1 < j ∨ (t.2.1 = j ∧ t.1 < i))
  nd : (ts.map fun t => (t.1, t.2.1)).Nodup
  tl : ts.length ≤ tri j + i
theorem Part.nil : Part 0 0 [] := ⟨(fun t h => nomatch h), List.Pairwise.nil, Nat.zero_le _⟩
theorem Part.skip {j i : Nat} {ts : List Tie} (h : Part j i ts) : Part j (i + 1) ts := ⟨fun t ht => by have := h.lt t ht; omega, h.nd, by have := h.tl; omega⟩
theorem Part.row {j : Nat} {ts : List Tie} (h : Part j j ts) : Part (j + 1) 0 ts := ⟨fun t ht => by have := h.lt t ht; omega, h.nd, h.tl⟩
theorem Part.add {j i : Nat} {ts : List Tie} (h : Part j i ts) (hi : i < j) (c : Fin 4) : Part j (i + 1) (ts ++ [(i, j, c)]) := by
  refine ⟨fun t ht => ?_, ?_, by rw [List.length_append]; have := h.tl; show _ + 1 ≤ _; omega⟩
  · rcases List.mem_append.mp ht with ht | ht
    · have := h.lt t ht; omega
    · rw [List.mem_singleton.mp ht]; dsimp only; omega
  · rw [List.map_append, List.nodup_append]
    refine ⟨h.nd, by simp, fun a ha b hb e => ?_⟩
    obtain ⟨t, ht, rfl⟩ := List.mem_map.mp ha
    rw [List.mem_singleton.mp hb] at e
    have := h.lt t ht
    have e1 := congrArg Prod.fst e
    have e2 := congrArg Prod.snd e
    dsimp only at e1 e2
    omega
theorem Part.pw {n : Nat} {ts : List Tie} (h : Part n 0 ts) (hn : n ≤ 24) : PW n ts := by
  have t24 : tri n ≤ 276 := tri_le hn
  exact ⟨⟨fun t ht => by have := h.lt t ht; omega, by have := h.tl; omega⟩, h.nd, h.tl⟩
theorem tri24 : tri 24 = 276 := rfl
theorem web_cell {k : Nat} {s : SV} (h : Cup k s) (hk : k + 2 ≤ 16000) {n sh j i : Nat} (hsh : 1 ≤ sh) (hsh2 : sh ≤ 1000) {w : List Lt} (w1 : 1 ≤ w.length) (w2 : w.length ≤ 1000) (wl : ∀ l ∈ w, l.2 = false) {ts : List Tie} (hp : Part j i ts) (hi : i < j) (hj : j ≤ 24) :
    ∃ s' ts', l1__law_web [some s, zi n, zi sh, zs (strOf w), some (.ow false (ts.map tieV)), zi j, zi i] = .ok (.nx [some s', zi n, zi sh, zs (strOf w), some (.ow false (ts'.map tieV)), zi j, zi i]) ∧ Cup (k + 2) s' ∧ Part j (i + 1) ts' := by
  obtain ⟨v, s1, v1, c1, e1⟩ := e_draw h (by omega) hsh (by omega)
  have d1 : callO 0 2 7 b__law_draw (consA (varM 2) nilA) [some s, zi n, zi sh, zs (strOf w), some (.ow false (ts.map tieV)), zi j, zi i] = .ok (.int v, [some s1, zi n, zi sh, zs (strOf w), some (.ow false (ts.map tieV)), zi j, zi i]) := e1 rfl (e_consA (e_var rfl) e_nilA) rfl
  have t24 : tri j ≤ 276 := tri_le hj
  have tl := hp.tl
  by_cases hv : v = 0
  · obtain ⟨l, s2, hl, c2, e2⟩ := e_pickS c1 (by omega) w1 w2
    have d2 : callO 0 2 2 b__law_pick (consA (varM 3) nilA) [some s1, zi n, zi sh, zs (strOf w), some (.ow false (ts.map tieV)), zi j, zi i] = .ok (.str (ltr l), [some s2, zi n, zi sh, zs (strOf w), some (.ow false (ts.map tieV)), zi j, zi i]) := e2 rfl (e_consA (e_var rfl) e_nilA) rfl
    have el : ltr l = co l.1 := by rw [show l = (l.1, l.2) from rfl, wl l hl]; rfl
    have ls : (ts.map tieV).length < sizeLine := by rw [List.length_map]; exact sz_lt (by omega)
    refine ⟨s2, ts ++ [(i, j, l.1)], ?_, c2, hp.add hi l.1⟩
    unfold l1__law_web
    have dd : decide ((v : Int) = 0) = true := decide_eq_true (by omega)
    rw [List.map_append, show [(i, j, l.1)].map tieV = [.tup [.int i, .int j, .str (ltr l)]] by rw [el]; rfl]
    ac_rfl
  · refine ⟨s1, ts, ?_, c1.le (by omega), hp.skip⟩
    unfold l1__law_web
    have dd : decide ((v : Int) = 0) = false := decide_eq_false (by omega)
    ac_rfl
theorem web_row {k : Nat} {s : SV} (h : Cup k s) (hk : k + 48 ≤ 16000) {n sh j : Nat} (hsh : 1 ≤ sh) (hsh2 : sh ≤ 1000) {w : List Lt} (w1 : 1 ≤ w.length) (w2 : w.length ≤ 1000) (wl : ∀ l ∈ w, l.2 = false) {ts : List Tie} (hp : Part j 0 ts) (hj : j < 24) {u6 : Option SV} (f6 : Fr u6) :
    ∃ s' ts' v6, l2__law_web [some s, zi n, zi sh, zs (strOf w), some (.ow false (ts.map tieV)), zi j, u6] = .ok (.nx [some s', zi n, zi sh, zs (strOf w), some (.ow false (ts'.map tieV)), zi j, v6]) ∧ Cup (k + 48) s' ∧ Part (j + 1) 0 ts' ∧ Fr v6 := by
  obtain ⟨ρ', k1, s', ts', v6, c', p', g6, e⟩ := e_loopN (tg := nameT 6) (s := l1__law_web) j
    (fun i ρ => ∃ s ts u6, Cup (k + 2 * i) s ∧ Part j i ts ∧ Fr u6 ∧ ρ = [some s, zi n, zi sh, zs (strOf w), some (.ow false (ts.map tieV)), zi j, u6]) [some s, zi n, zi sh, zs (strOf w), some (.ow false (ts.map tieV)), zi j, u6] ⟨s, ts, u6, h, hp, f6, rfl⟩ fun i ρ hi ⟨s, ts, u6, c, p, f6, e⟩ => by
      subst e
      obtain ⟨s', ts', q1, q2, q3⟩ := web_cell c (n := n) (by omega) hsh hsh2 w1 w2 wl p hi (by omega)
      exact ⟨_, _, t_name (fsS (fsS (fsS (fsS (fsS (fsS (fs0 f6))))))) rfl, q1, s', ts', _, by rw [show k + 2 * (i + 1) = k + 2 * i + 2 by omega]; exact q2, q3, .fz, rfl⟩
  subst e
  refine ⟨s', ts', v6, ?_, c'.le (by omega), p'.row, g6⟩
  unfold l2__law_web
  exact e_forS (e_rngN (e_consA (e_var rfl) e_nilA) (by omega)) k1
/-- the rows of colours that webs are drawn in -/
def colRows : List (List Lt) := [[(0, false)], [(0, false), (1, false)], [(0, false), (0, false), (1, false)], [(0, false), (1, false), (2, false), (3, false)], [(1, false), (3, false)], [(0, false)]]
theorem colRows_low : ∀ w ∈ colRows, 1 ≤ w.length ∧ w.length ≤ 1000 ∧ ∀ l ∈ w, l.2 = false := by decide
theorem web_ok {k : Nat} {s : SV} (h : Cup k s) (hk : k + 1200 ≤ 16000) {n sh : Nat} (hn : n ≤ 24) (hsh : 1 ≤ sh) (hsh2 : sh ≤ 1000) :
    ∃ ts s', runO 7 b__law_web s [.int n, .int sh] = .ok (pwV n ts, s') ∧ PW n ts ∧ Cup (k + 1 + 48 * n) s' := by
  obtain ⟨v, y, s1, hy, c1, e1⟩ := e_pick (L := colRows.map fun w => .str (strOf w)) (h.setPin (q := true)) (by omega) (by decide) (by decide)
  rw [List.getElem?_map] at hy
  obtain ⟨w, hw, rfl⟩ := Option.map_eq_some_iff.mp hy
  obtain ⟨w1, w2, wl⟩ := colRows_low w (List.mem_of_getElem? hw)
  have d1 : callO 0 2 2 b__law_pick (consA (lstM (consA (cstM (.str ("a" : Str))) (consA (cstM (.str ("ab" : Str))) (consA (cstM (.str ("aab" : Str))) (consA (cstM (.str ("abcd" : Str))) (consA (cstM (.str ("bd" : Str))) (consA (cstM (.str ("a" : Str))) nilA))))))) nilA) [some (s.setPin true), zi n, zi sh, none, none, none, none] = .ok (.str (strOf w), [some s1, zi n, zi sh, none, none, none, none]) := by
    refine e1 rfl (ρ1 := [some (s.setPin true), zi n, zi sh, none, none, none, none]) ?_ rfl
    show _ = Rs.ok ([Val.lst [.str ("a" : Str), .str ("ab" : Str), .str ("aab" : Str), .str ("abcd" : Str), .str ("bd" : Str), .str ("a" : Str)]], _)
    ac_rfl
  obtain ⟨ρ', k1, s2, ts, u5, u6, c2, p2, g5, g6, e⟩ := e_loopN (tg := nameT 5) (s := l2__law_web) n
    (fun j ρ => ∃ s ts u5 u6, Cup (k + 1 + 48 * j) s ∧ Part j 0 ts ∧ Fr u5 ∧ Fr u6 ∧ ρ = [some s, zi n, zi sh, zs (strOf w), some (.ow false (ts.map tieV)), u5, u6]) [some s1, zi n, zi sh, zs (strOf w), some (.ow false []), none, none] ⟨s1, [], none, none, c1, .nil, .none, .none, rfl⟩ fun j ρ hj ⟨s, ts, u5, u6, c, p, f5, f6, e⟩ => by
      subst e
      obtain ⟨s', ts', v6, q1, q2, q3, q4⟩ := web_row c (n := n) (by omega) hsh hsh2 w1 w2 wl p (by omega) f6
      exact ⟨_, _, t_name (fsS (fsS (fsS (fsS (fsS (fs0 f5)))))) rfl, q1, s', ts', _, v6, by rw [show k + 1 + 48 * (j + 1) = k + 1 + 48 * j + 48 by omega]; exact q2, q3, .fz, q4, rfl⟩
  subst e
  refine ⟨ts, s2.setPin s.pin, ?_, p2.pw hn, c2.setPin⟩
  apply e_runOE [some (s.setPin true), zi n, zi sh, none, none, none, none] rfl
  · unfold b__law_web
    apply e_seq
    · exact e_parSN d1 (e_ownL (e_dispF e_nilA (by decide))) rfl rfl (by decide) rfl rfl rfl
    apply e_seq
    · exact e_forS (e_rngN (e_consA (e_var rfl) e_nilA) (by omega)) k1
    refine e_meltG (y := .lst (ts.map tieV)) rfl (melt_olst _ _ (fun t => melt_fz rfl) _) rfl ?_
    ac_rfl
  · rfl
  · rfl
  · exact c2.flat
  · rfl
/-! words -/
theorem sx_nat (n d k : Nat) : HT.sIx n d (some (k : Int)) = min k n := by
  unfold HT.sIx
  dsimp only
  rw [if_neg (by omega)]
  rfl
theorem cut_to {α : Type} (xs : List α) (m : Nat) : cutX xs none (some (m : Int)) = xs.take m := by
  unfold cutX
  rw [sx_nat, show HT.sIx xs.length 0 none = 0 from rfl, List.drop_zero, Nat.sub_zero]
  by_cases h : m ≤ xs.length
  · rw [Nat.min_eq_left h]
  · rw [Nat.min_eq_right (by omega), List.take_of_length_le (Nat.le_refl _), List.take_of_length_le (by omega)]
theorem word_ok {k : Nat} {s : SV} (h : Cup k s) {n m : Nat} {ts : List Tie} (hl : ts.length < 1000) (hm : m ≤ 80) (hk : k + 1 + 2 * m ≤ 16000) :
    ∃ w s', runO 10 b__law_word s [pwV n ts, .int m] = .ok (.str (strOf w), s') ∧ w.length = m ∧ Cup (k + 1 + 2 * m) s' := by
  have i1 := pw1 n ts
  have c1 : listM c1__law_word [some (s.setPin true), zv (pwV n ts), zi m, none, none, none, none, none, none, none] = .ok (.lst (ts.map fun t => .str (co t.2.2)), [some (s.setPin true), zv (pwV n ts), zi m, none, none, none, none, none, none, none]) :=
    e_listM (e_comp tieV (fun t => .str (co t.2.2)) (fun t => [some (s.setPin true), zv (pwV n ts), zi m, none, zi t.1, zi t.2.1, zs (co t.2.2), none, none, none]) ts (e_walkL (by ac_rfl)) (by omega) rfl rfl rfl fun t _ => ⟨tie_tg rfl rfl rfl, e_var rfl, rfl, rfl⟩) (melts_rep _ _ fun _ _ => rfl)
  have ct : slV (.lst (ts.map fun t => Val.str (co t.2.2))) none (some 6) = some (.lst ((ts.map fun t => Val.str (co t.2.2)).take 6)) := by
    show some (Val.lst (cutX _ none (some ((6 : Nat) : Int)))) = _
    rw [cut_to]
  obtain ⟨l0, s1, -, k1, e1⟩ := e_pickS (w := (List.finRange 4).map fun c => (c, false)) (h.setPin (q := true)) (by omega) (by decide) (by decide)
  have d1 : callO 0 2 2 b__law_pick (consA (cstM (.str ("abcd" : Str))) nilA) [some (s.setPin true), zv (pwV n ts), zi m, none, none, none, none, none, none, none] = .ok (.str (ltr l0), [some s1, zv (pwV n ts), zi m, none, none, none, none, none, none, none]) := e1 rfl (e_consA e_cst e_nilA) rfl
  have ed : addV2 (.lst ((ts.map fun t => Val.str (co t.2.2)).take 6)) (.lst [.str ("a" : Str), .str (ltr l0)]) = some (.lst (((ts.take 6).map (fun t : Tie => ((t.2.2, false) : Lt)) ++ [((0 : Fin 4), false), l0]).map fun l => .str (ltr l))) := by
    unfold addV2
    dsimp only
    rw [if_pos (by have : ((ts.map fun t => Val.str (co t.2.2)).take 6).length ≤ 6 := by rw [List.length_take]; omega
                   exact sz_le (by show _ + 2 ≤ 100000; omega)), List.map_append, List.map_map, ← List.map_take]
    rfl
  have lc : 1 ≤ ((ts.take 6).map (fun t : Tie => ((t.2.2, false) : Lt)) ++ [((0 : Fin 4), false), l0]).length ∧ ((ts.take 6).map (fun t : Tie => ((t.2.2, false) : Lt)) ++ [((0 : Fin 4), false), l0]).length ≤ 8 := by
    rw [List.length_append, List.length_map, List.length_take]
    show 1 ≤ _ + 2 ∧ _ + 2 ≤ 8
    omega
  generalize (ts.take 6).map (fun t : Tie => ((t.2.2, false) : Lt)) ++ [((0 : Fin 4), false), l0] = cs at ed lc
  -- the letters
  obtain ⟨ys, ρ', q1, ⟨s2, k2, e⟩, q3⟩ := e_compI (vs := [8]) (mi := rng1M (consA (varM 2) nilA)) (tg := nameT 8) (e := callO 0 2 2 b__law_pick (consA (varM 3) nilA)) (ρ := [some s1, zv (pwV n ts), zi m, zv (.lst (cs.map fun l => .str (ltr l))), none, none, none, none, none, none]) (fun i : Nat => .int i) (fun _ y => ∃ l : Lt, y = .str (ltr l))
    (fun j ρ => ∃ s, Cup (k + 1 + j) s ∧ ρ = [some s, zv (pwV n ts), zi m, zv (.lst (cs.map fun l => .str (ltr l))), none, none, none, none, none, none]) (List.range m) 0 (e_rngL (e_consA (e_var rfl) e_nilA) (by omega)) (by rw [List.length_range]; omega) rfl ⟨s1, k1, rfl⟩ fun i _ j ρ _ hj ⟨s, c, e⟩ => by
      subst e
      rw [List.length_range] at hj
      obtain ⟨v, y, s', hy, c', e'⟩ := e_pick (L := cs.map fun l => .str (ltr l)) c (by omega) (by rw [List.length_map]; exact lc.1) (by rw [List.length_map]; omega)
      rw [List.getElem?_map] at hy
      obtain ⟨l, hl, rfl⟩ := Option.map_eq_some_iff.mp hy
      exact ⟨_, _, _, rfl, t_name rfl rfl, e' rfl (e_consA (e_var rfl) e_nilA) rfl, rfl, ⟨l, rfl⟩, s', by rw [show k + 1 + (j + 1) = k + 1 + j + 1 by omega]; exact c', rfl⟩
  subst e
  obtain ⟨told, rfl, q4⟩ := All2.ex (G := fun l : Lt => Val.str (ltr l)) (q := fun _ _ => True) (fun a b ⟨l, hl⟩ => ⟨l, hl, trivial⟩) q3
  have lt := q4.len
  rw [List.length_range] at lt k2
  rw [Nat.add_zero, Nat.zero_add] at *
  have c2 : listM c2__law_word [some s1, zv (pwV n ts), zi m, zv (.lst (cs.map fun l => .str (ltr l))), none, none, none, none, none, none] = .ok (.lst (told.map fun l => .str (ltr l)), [some s2, zv (pwV n ts), zi m, zv (.lst (cs.map fun l => .str (ltr l))), none, none, none, none, none, none]) := e_listM q1 (melts_rep _ _ fun _ _ => rfl)
  -- capitals
  obtain ⟨ys, ρ', r1, ⟨s3, k3, e⟩, r3⟩ := e_compI (vs := [9]) (mi := walkM wlkV (varM 7)) (tg := nameT 9) (e := ifM (tstM blV (binM eqV (callO 0 2 7 b__law_draw (consA (cstM (.int 3)) nilA)) (cstM (.int 0)))) (unM upV (varM 9)) (varM 9)) (ρ := [some s2, zv (pwV n ts), zi m, zv (.lst (cs.map fun l => .str (ltr l))), none, none, none, zv (.lst (told.map fun l => .str (ltr l))), none, none]) (fun l : Lt => .str (ltr l)) (fun _ y => ∃ l : Lt, y = .str (ltr l))
    (fun j ρ => ∃ s, Cup (k + 1 + m + j) s ∧ ρ = [some s, zv (pwV n ts), zi m, zv (.lst (cs.map fun l => .str (ltr l))), none, none, none, zv (.lst (told.map fun l => .str (ltr l))), none, none]) told 0 (e_walkL (e_var rfl)) (by omega) rfl ⟨s2, k2, rfl⟩ fun l _ j ρ _ hj ⟨s, c, e⟩ => by
      subst e
      obtain ⟨v, s', v1, c', e'⟩ := e_draw (many := 3) c (by omega) (by decide) (by decide)
      have d' : callO 0 2 7 b__law_draw (consA (cstM (.int 3)) nilA) [some s, zv (pwV n ts), zi m, zv (.lst (cs.map fun l => .str (ltr l))), none, none, none, zv (.lst (told.map fun l => .str (ltr l))), none, zs (ltr l)] = .ok (.int v, [some s', zv (pwV n ts), zi m, zv (.lst (cs.map fun l => .str (ltr l))), none, none, none, zv (.lst (told.map fun l => .str (ltr l))), none, zs (ltr l)]) := e' rfl (e_consA e_cst e_nilA) rfl
      have up := upV_ltr l
      have c'' : Cup (k + 1 + m + (j + 1)) s' := by rw [show k + 1 + m + (j + 1) = k + 1 + m + j + 1 by omega]; exact c'
      by_cases hv : v = 0
      · have dd : decide ((v : Int) = 0) = true := decide_eq_true (by omega)
        refine ⟨[some s, zv (pwV n ts), zi m, zv (.lst (cs.map fun l => .str (ltr l))), none, none, none, zv (.lst (told.map fun l => .str (ltr l))), none, zs (ltr l)], .str (ltr (l.1, true)), [some s', zv (pwV n ts), zi m, zv (.lst (cs.map fun l => .str (ltr l))), none, none, none, zv (.lst (told.map fun l => .str (ltr l))), none, zs (ltr l)], rfl, rfl, ?_, rfl, ⟨_, rfl⟩, s', c'', rfl⟩
        ac_rfl
      · have dd : decide ((v : Int) = 0) = false := decide_eq_false (by omega)
        refine ⟨[some s, zv (pwV n ts), zi m, zv (.lst (cs.map fun l => .str (ltr l))), none, none, none, zv (.lst (told.map fun l => .str (ltr l))), none, zs (ltr l)], .str (ltr l), [some s', zv (pwV n ts), zi m, zv (.lst (cs.map fun l => .str (ltr l))), none, none, none, zv (.lst (told.map fun l => .str (ltr l))), none, zs (ltr l)], rfl, rfl, ?_, rfl, ⟨_, rfl⟩, s', c'', rfl⟩
        ac_rfl
  subst e
  obtain ⟨w, rfl, r4⟩ := All2.ex (G := fun l : Lt => Val.str (ltr l)) (q := fun _ _ => True) (fun a b ⟨l, hl⟩ => ⟨l, hl, trivial⟩) r3
  have lw := r4.len
  have c3 : listM c3__law_word [some s2, zv (pwV n ts), zi m, zv (.lst (cs.map fun l => .str (ltr l))), none, none, none, zv (.lst (told.map fun l => .str (ltr l))), none, none] = .ok (.lst (w.map fun l => .str (ltr l)), [some s3, zv (pwV n ts), zi m, zv (.lst (cs.map fun l => .str (ltr l))), none, none, none, zv (.lst (told.map fun l => .str (ltr l))), none, none]) := e_listM r1 (melts_rep _ _ fun _ _ => rfl)
  have jn := joinV_of w (by omega)
  refine ⟨w, s3.setPin s.pin, ?_, by omega, Cup.setPin (by rw [show k + 1 + 2 * m = k + 1 + m + told.length by omega]; simpa using k3)⟩
  apply e_runOE [some (s.setPin true), zv (pwV n ts), zi m, none, none, none, none, none, none, none] rfl
  · unfold b__law_word
    apply e_seq
    · exact e_asg (e_bin (e_sl c1 e_noP (e_parP e_cst) ct) (e_lstM (e_consA e_cst (e_consA d1 e_nilA)) (by show 2 ≤ sizeLine; decide)) ed) rfl rfl
    apply e_seq
    · exact e_asg c2 rfl rfl
    exact e_ret (e_join e_cst c3 jn)
  · rfl
  · rfl
  · exact k3.flat
  · rfl
/-! Webs made of plain ones -/
theorem rawOk_of {n : Nat} {ts : List Tie} (p : PW n ts) {rs : List RT} (e : rs.map rawN = ts) : RawOk n rs := by
  refine ⟨fun r hr => ?_, fun r hr => ?_, ?_, by have := p.ok.len; rw [← e, List.length_map] at this; exact this⟩
  · have := p.ok.lt (rawN r) (by rw [← e]; exact List.mem_map.mpr ⟨r, hr, rfl⟩)
    unfold rawN at this
    dsimp only at this
    omega
  · have := p.ok.lt (rawN r) (by rw [← e]; exact List.mem_map.mpr ⟨r, hr, rfl⟩)
    unfold rawN at this
    dsimp only at this
    omega
  · have := p.nd
    rw [← e, List.map_map] at this
    exact this
theorem nodup_rev {α : Type} {l : List α} (h : l.Nodup) : l.reverse.Nodup := by
  rw [List.nodup_iff_pairwise_ne, List.pairwise_reverse]
  exact (List.nodup_iff_pairwise_ne.mp h).imp fun h => Ne.symm h
theorem RawOk.rev {n : Nat} {rs : List RT} (h : RawOk n rs) : RawOk n rs.reverse :=
  ⟨fun r hr => h.lt r (List.mem_reverse.mp hr), fun r hr => h.ne r (List.mem_reverse.mp hr), by rw [List.map_reverse]; exact nodup_rev h.nd, by rw [List.length_reverse]; exact h.len⟩
theorem made_turn {k : Nat} {s : SV} (h : Cup k s) (hk : k + 1 ≤ 16000) {t : Tie} (ht : t.1 < t.2.1) {rs : List RT} (hl : rs.length < 1000) {x : Val} :
    ∃ s' r, rawN r = t ∧ Cup (k + 1) s' ∧ l1__law_made [some s, zv x, some (.ow false (rs.map rawV)), zi t.1, zi t.2.1, zs (co t.2.2)] = .ok (.nx [some s', zv x, some (.ow false ((rs ++ [r]).map rawV)), zi t.1, zi t.2.1, zs (co t.2.2)]) := by
  obtain ⟨v, y, s', hy, c, e⟩ := e_pick (L := [(false, t.1, t.2.1, t.2.2), (true, t.2.1, t.1, t.2.2), (false, t.2.1, t.1, t.2.2)].map rawV) h (by omega) (by show 1 ≤ 3; decide) (by show 3 ≤ 100000; decide)
  rw [List.getElem?_map] at hy
  obtain ⟨r, hr, rfl⟩ := Option.map_eq_some_iff.mp hy
  have d : callO 0 2 2 b__law_pick (consA (lstM (consA (tupM (consA (varM 3) (consA (varM 4) (consA (varM 5) nilA)))) (consA (lstM (consA (varM 4) (consA (varM 3) (consA (varM 5) nilA)))) (consA (tupM (consA (varM 4) (consA (varM 3) (consA (varM 5) nilA)))) nilA)))) nilA) [some s, zv x, some (.ow false (rs.map rawV)), zi t.1, zi t.2.1, zs (co t.2.2)] = .ok (rawV r, [some s', zv x, some (.ow false (rs.map rawV)), zi t.1, zi t.2.1, zs (co t.2.2)]) := by
    refine e rfl (ρ1 := [some s, zv x, some (.ow false (rs.map rawV)), zi t.1, zi t.2.1, zs (co t.2.2)]) ?_ rfl
    show _ = Rs.ok ([Val.lst [.tup [.int t.1, .int t.2.1, .str (co t.2.2)], .lst [.int t.2.1, .int t.1, .str (co t.2.2)], .tup [.int t.2.1, .int t.1, .str (co t.2.2)]]], _)
    ac_rfl
  have ls : (rs.map rawV).length < sizeLine := by rw [List.length_map]; exact sz_lt (by omega)
  refine ⟨s', r, ?_, c, ?_⟩
  · have hm := List.mem_of_getElem? hr
    simp only [List.mem_cons, List.not_mem_nil, or_false] at hm
    rcases hm with rfl | rfl | rfl
    · unfold rawN; dsimp only; rw [Nat.min_eq_left (by omega), Nat.max_eq_right (by omega)]
    · unfold rawN; dsimp only; rw [Nat.min_eq_right (by omega), Nat.max_eq_left (by omega)]
    · unfold rawN; dsimp only; rw [Nat.min_eq_right (by omega), Nat.max_eq_left (by omega)]
  · unfold l1__law_made
    rw [List.map_append, List.map_cons, List.map_nil]
    ac_rfl
theorem made_ok {k : Nat} {s : SV} (h : Cup k s) {n : Nat} {ts : List Tie} (p : PW n ts) (n1 : 1 ≤ n) (n24 : n ≤ 24) (hk : k + ts.length + 1 ≤ 16000) :
    ∃ T s', runO 6 b__law_made s [pwV n ts] = .ok (webV n T, s') ∧ T.Perm ts ∧ TiesOk n T ∧ Cup (k + ts.length + 1) s' := by
  have i1 := pw1 n ts
  have i0 := pw0 n ts
  have tl := p.ok.len
  obtain ⟨ρ', k1, s1, rs, u3, u4, u5, c1, er, f3, f4, f5, e⟩ := e_loop (tg := seqT 3 (consT (nameT 3) (consT (nameT 4) (consT (nameT 5) nilT)))) (s := l1__law_made) tieV
    (fun j ρ => ∃ s rs u3 u4 u5, Cup (k + j) s ∧ rs.map rawN = ts.take j ∧ Fr u3 ∧ Fr u4 ∧ Fr u5 ∧ ρ = [some s, zv (pwV n ts), some (.ow false (rs.map rawV)), u3, u4, u5]) ts 0 [some (s.setPin true), zv (pwV n ts), some (.ow false []), none, none, none] ⟨_, [], none, none, none, h.setPin, rfl, .none, .none, .none, rfl⟩ fun j t ρ hj ⟨s, rs, u3, u4, u5, c, er, f3, f4, f5, e⟩ => by
      subst e
      rw [Nat.zero_add] at *
      have hj1 := (List.getElem?_eq_some_iff.mp hj).1
      have lr : rs.length = j := by have := congrArg List.length er; rw [List.length_map, List.length_take] at this; omega
      obtain ⟨s', r, q1, q2, q3⟩ := made_turn c (by omega) (p.ok.lt t (List.mem_of_getElem? hj)).1 (rs := rs) (by omega) (x := pwV n ts)
      refine ⟨_, _, tie_tg (by ac_rfl) (by ac_rfl) (by ac_rfl), q3, s', rs ++ [r], _, _, _, q2, ?_, .fz, .fz, .fz, rfl⟩
      rw [List.map_append, er, List.take_succ, hj]
      simp [q1]
  subst e
  rw [Nat.zero_add] at er c1
  rw [List.take_length] at er
  have ok := rawOk_of p er
  -- how they are told
  obtain ⟨v, y, s2, hy, c2, e2⟩ := e_pick (L := [.lst (rs.map rawV), .tup (rs.map rawV), .lst (rs.map rawV).reverse]) c1 (by omega) (by show 1 ≤ 3; decide) (by show 3 ≤ 100000; decide)
  have mr : melts (rs.map rawV).reverse = (rs.map rawV).reverse := melts_all (by
    rw [List.all_reverse, List.all_map, List.all_eq_true]
    intro r _
    simp [raw_fz r])
  have rv : listM (lrvF (varM 2)) [some s1, zv (pwV n ts), zv (.lst (rs.map rawV)), u3, u4, u5] = .ok (.lst (rs.map rawV).reverse, [some s1, zv (pwV n ts), zv (.lst (rs.map rawV)), u3, u4, u5]) := by
    refine e_listM (xs := (rs.map rawV).reverse) ?_ mr
    unfold lrvF
    rw [e_var (x := .lst (rs.map rawV)) rfl]; rfl
  have tv : f1 tupOfV [.lst (rs.map rawV)] = some (.tup (rs.map rawV)) := rfl
  have d2 : callO 0 2 2 b__law_pick (consA (lstM (consA (varM 2) (consA (cbM (f1 tupOfV) (consA (varM 2) nilA)) (consA (listM (lrvF (varM 2))) nilA)))) nilA) [some s1, zv (pwV n ts), zv (.lst (rs.map rawV)), u3, u4, u5] = .ok (y, [some s2, zv (pwV n ts), zv (.lst (rs.map rawV)), u3, u4, u5]) := by
    refine e2 rfl (ρ1 := [some s1, zv (pwV n ts), zv (.lst (rs.map rawV)), u3, u4, u5]) ?_ rfl
    ac_rfl
  have fin : ∀ (rs' : List RT), (y = .lst (rs'.map rawV) ∨ y = .tup (rs'.map rawV)) → RawOk n rs' → (rs'.map rawN).Perm ts → ∃ T s', runO 6 b__law_made s [pwV n ts] = .ok (webV n T, s') ∧ T.Perm ts ∧ TiesOk n T ∧ Cup (k + ts.length + 1) s' := fun rs' hx ok' pm => by
    refine ⟨sortT (rs'.map rawN), s2.setPin s.pin, ?_, (sortT_perm _).trans pm, raw_ties ok', c2.setPin⟩
    have wb := e_Web (al := consA (binM ixV (varM 1) (cstM (.int 0))) (consA (callO 0 2 2 b__law_pick (consA (lstM (consA (varM 2) (consA (cbM (f1 tupOfV) (consA (varM 2) nilA)) (consA (listM (lrvF (varM 2))) nilA)))) nilA)) nilA)) (ρ := [some s1, zv (pwV n ts), zv (.lst (rs.map rawV)), u3, u4, u5]) hx ok' n1 n24 (e_consA (e_bin (e_var rfl) e_cst i0) (e_consA d2 e_nilA))
    apply e_runOE [some (s.setPin true), zv (pwV n ts), none, none, none, none] rfl
    · unfold b__law_made
      apply e_seq
      · ac_rfl
      apply e_seq
      · exact e_forS (e_walkL (by ac_rfl)) k1
      refine e_meltG (x := .olst (rs.map rawV)) (y := .lst (rs.map rawV)) rfl (melt_olst _ _ (fun r => melt_fz (raw_fz r)) _) rfl ?_
      exact e_ret wb
    · rfl
    · rfl
    · exact c2.flat
    · rfl
  have hm := List.mem_of_getElem? hy
  simp only [List.mem_cons, List.not_mem_nil, or_false] at hm
  rcases hm with rfl | rfl | rfl
  · exact fin rs (.inl rfl) ok (by rw [er])
  · exact fin rs (.inr rfl) ok (by rw [er])
  · exact fin rs.reverse (.inl (by rw [List.map_reverse])) ok.rev (by rw [List.map_reverse, er]; exact List.reverse_perm _)
end Y

set_option Elab.async false
set_option linter.all false
set_option maxRecDepth 100000
set_option maxHeartbeats 400000
set_option autoImplicit false
namespace Y
open PySem PySem.Spec PyProof.Rows L2 Z
/-! L4: the ways of a word, listed. -/
local macro_rules | `(tactic| infer_instance) => `(tactic| first | (show _ = _; with_reducible assumption) | (show Bd _ _; with_reducible assumption) | (show _ < _; with_reducible assumption) | (show _ ≤ _; with_reducible assumption) | (show Fr _; first | with_reducible assumption | with_reducible exact Fr.fz | with_reducible exact Fr.none) | with_reducible exact (eqV_int _ _) | with_reducible exact (neV_int _ _) | with_reducible exact (sumV_ints _) | with_reducible exact (lenV_ints _) | with_reducible exact (lenV_tints _) | with_reducible exact (absVl_int _) | with_reducible exact wp0 | with_reducible exact st0 | with_reducible exact (small_sz rfl) | with_reducible exact (small_lt rfl) | with_reducible exact (melts_int _) | with_reducible exact e_cst | with_reducible exact e_nilA | with_reducible exact e_next | with_reducible exact e_yesB | with_reducible exact e_noP | with_reducible exact e_cL0 | with_reducible exact e_forL_nil | with_reducible apply e_var | with_reducible apply e_bin | with_reducible apply e_un | with_reducible apply e_tst | with_reducible apply e_or | with_reducible apply e_and | with_reducible apply e_orV | with_reducible apply e_andV | with_reducible apply e_ife | with_reducible apply e_if | with_reducible apply e_notB | with_reducible apply e_consA | with_reducible apply e_tupM | with_reducible apply e_lstM | with_reducible apply e_dispF | with_reducible apply e_cbM | with_reducible apply e_cfM | with_reducible apply e_bfM | with_reducible apply e_ownL | with_reducible apply e_listI | with_reducible apply e_walkM | with_reducible apply e_lrevF | with_reducible apply e_zrM | with_reducible apply e_enum | with_reducible apply e_rng1 | with_reducible apply e_rng2 | with_reducible apply e_parP | with_reducible apply e_sl | with_reducible apply e_slO | with_reducible apply e_view | with_reducible apply e_zipL | with_reducible apply e_chnT | with_reducible apply seqK_nx | with_reducible exact seqK_rt | with_reducible exact seqK_exc | with_reducible apply e_seqG | with_reducible apply e_forS | with_reducible apply e_asg | with_reducible apply e_ret | with_reducible apply e_drop | with_reducible apply e_raise | with_reducible apply e_new | with_reducible apply e_newT | with_reducible apply e_par | with_reducible apply e_parNS | with_reducible apply e_asgT | with_reducible apply q_tup2 | with_reducible apply q_tup3 | with_reducible apply q_lst2 | with_reducible apply q_lst3 | with_reducible apply t_tup2 | with_reducible apply t_tup3 | with_reducible apply t_name | with_reducible apply e_ixO | with_reducible apply e_setS | with_reducible apply e_app | with_reducible apply e_melt | with_reducible apply e_setF | with_reducible apply e_fldO | with_reducible apply e_callM | with_reducible apply e_callO | with_reducible apply wpS | with_reducible apply stS | with_reducible apply mulV2_bd | with_reducible apply divV_pos | with_reducible apply modV_pos | with_reducible apply f1_of | with_reducible apply f2_of | ((with_reducible apply ite_T); first | (show _ = _; with_reducible assumption) | exact rfl | (apply decide_eq_true; omega)) | ((with_reducible apply ite_F); first | (show _ = _; with_reducible assumption) | exact rfl | (apply decide_eq_false; omega)) | exact rfl | decide | (show _ ∧ _; omega) | with_reducible exact bd_lit (by decide) (by decide) | with_reducible exact bd_mod (by decide) (by decide) (by decide) | with_reducible apply powV_nat | (show _ < _; omega) | (show _ ≤ _; omega) | (with_reducible apply fs0; assumption) | with_reducible apply fsS)
local macro_rules | `(tactic| ac_rfl) => `(tactic| repeat' (first | infer_instance | fail))
theorem mulF_rep (x : Val) (m : Nat) (hm : m ≤ 1000) : mulF (.lst [x]) (.int m) = some (List.replicate m x) := by
  unfold mulF
  dsimp only
  rw [if_pos ⟨by omega, by omega, by show 1 * _ ≤ 1000; omega⟩]
  congr 1
  unfold repL
  rw [Int.toNat_natCast]
  clear hm
  induction m with
  | zero => rfl
  | succ n ih => rw [List.replicate_succ, List.flatten_cons, ih]; rfl
theorem flat_app (g : Nat → List Nat) (l : List Nat) (a : Nat) : (l ++ [a]).flatMap g = l.flatMap g ++ g a := by rw [List.flatMap_append]; simp
theorem ends_turn {n : Nat} {ts : List Tie} (hl : ts.length ≤ 15) (h : ∀ t ∈ ts, t.1 ≠ t.2.1) (l : Lt) (acc : List Nat) (ha : acc.length ≤ 60000) (a : Nat) {x1 x2 x3 : Val} {u7 : Option SV} (f7 : Fr u7) :
    l1__law_ends [zv (pwV n ts), zv x1, zv x2, zv x3, zs (ltr l), some (.ow false (acc.map fun q : Nat => .int q)), zi a, u7] = .ok (.nx [zv (pwV n ts), zv x1, zv x2, zv x3, zs (ltr l), some (.ow false ((acc ++ stepE (nb ts) l a).map fun q : Nat => .int q)), zi a, zv (natL (nb ts l.1 a))]) := by
  have lo := lowV_ltr l
  have eq := eqV_low l
  have nr := v_near n ts (by omega) a l.1
  have nl := nb_len ts h l.1 a
  have sl : (acc.map fun q : Nat => Val.int q).length + ((stepE (nb ts) l a).map fun q : Nat => Val.int q).length ≤ sizeLine := by
    rw [List.length_map, List.length_map]
    have := stepE_len (N := nb ts) (D := 15) (fun c p => Nat.le_trans (nb_len ts h c p) hl) l a
    exact sz_le (by omega)
  rw [List.map_append]
  unfold l1__law_ends
  cases hl2 : l.2 with
  | false =>
    rw [hl2] at eq
    have es : stepE (nb ts) l a = nb ts l.1 a := by unfold stepE; rw [hl2, if_neg (fun z => nomatch z)]
    rw [es] at sl ⊢
    apply e_seq
    · ac_rfl
    have ex : ifM (tstM blV (binM eqV (varM 4) (unM lowV (varM 4)))) (varM 7) (listM (bfM mulF (lstM (consA (varM 6) nilA)) (cbM (f1 lenV) (consA (varM 7) nilA)))) [zv (pwV n ts), zv x1, zv x2, zv x3, zs (ltr l), some (.ow false (acc.map fun q : Nat => .int q)), zi a, zv (natL (nb ts l.1 a))] = .ok (natL (nb ts l.1 a), [zv (pwV n ts), zv x1, zv x2, zv x3, zs (ltr l), some (.ow false (acc.map fun q : Nat => .int q)), zi a, zv (natL (nb ts l.1 a))]) := by ac_rfl
    exact e_ext rfl ex rfl sl rfl
  | true =>
    rw [hl2] at eq
    have es : stepE (nb ts) l a = List.replicate (nb ts l.1 a).length a := by unfold stepE; rw [hl2, if_pos rfl]
    rw [es] at sl ⊢
    have ln : lenV (natL (nb ts l.1 a)) = some (.int ((nb ts l.1 a).length : Nat)) := by
      show some (Val.int ((List.map _ _).length : Nat)) = _
      rw [List.length_map]
    have mf : mulF (.lst [.int a]) (.int ((nb ts l.1 a).length : Nat)) = some ((List.replicate (nb ts l.1 a).length a).map fun q : Nat => .int q) := by
      rw [mulF_rep _ _ (by omega), List.map_replicate]
    have ml := melts_nat (List.replicate (nb ts l.1 a).length a)
    apply e_seq
    · ac_rfl
    have ls : listM (bfM mulF (lstM (consA (varM 6) nilA)) (cbM (f1 lenV) (consA (varM 7) nilA))) [zv (pwV n ts), zv x1, zv x2, zv x3, zs (ltr l), some (.ow false (acc.map fun q : Nat => .int q)), zi a, zv (natL (nb ts l.1 a))] = .ok (natL (List.replicate (nb ts l.1 a).length a), [zv (pwV n ts), zv x1, zv x2, zv x3, zs (ltr l), some (.ow false (acc.map fun q : Nat => .int q)), zi a, zv (natL (nb ts l.1 a))]) := by
      refine e_listM ?_ ml
      ac_rfl
    have ex : ifM (tstM blV (binM eqV (varM 4) (unM lowV (varM 4)))) (varM 7) (listM (bfM mulF (lstM (consA (varM 6) nilA)) (cbM (f1 lenV) (consA (varM 7) nilA)))) [zv (pwV n ts), zv x1, zv x2, zv x3, zs (ltr l), some (.ow false (acc.map fun q : Nat => .int q)), zi a, zv (natL (nb ts l.1 a))] = .ok (natL (List.replicate (nb ts l.1 a).length a), [zv (pwV n ts), zv x1, zv x2, zv x3, zs (ltr l), some (.ow false (acc.map fun q : Nat => .int q)), zi a, zv (natL (nb ts l.1 a))]) := by ac_rfl
    exact e_ext rfl ex rfl sl rfl
theorem ends_row {n : Nat} {ts : List Tie} (hl : ts.length ≤ 15) (h : ∀ t ∈ ts, t.1 ≠ t.2.1) (l : Lt) (f : List Nat) (hf : f.length ≤ 4000) {x1 x2 : Val} {u5 u6 u7 : Option SV} (f5 : Fr u5) (f6 : Fr u6) (f7 : Fr u7) :
    ∃ v5 v6 v7, Fr v5 ∧ Fr v6 ∧ Fr v7 ∧ l2__law_ends [zv (pwV n ts), zv x1, zv x2, zv (natL f), zs (ltr l), u5, u6, u7] = .ok (.nx [zv (pwV n ts), zv x1, zv x2, zv (natL (f.flatMap (stepE (nb ts) l))), zs (ltr l), v5, v6, v7]) := by
  have sd : ∀ c p, (nb ts c p).length ≤ 15 := fun c p => Nat.le_trans (nb_len ts h c p) hl
  obtain ⟨ρ', k1, v6, v7, g6, g7, e⟩ := e_loop (tg := nameT 6) (s := l1__law_ends) (fun q : Nat => Val.int q)
    (fun j ρ => ∃ u6 u7, Fr u6 ∧ Fr u7 ∧ ρ = [zv (pwV n ts), zv x1, zv x2, zv (natL f), zs (ltr l), some (.ow false (((f.take j).flatMap (stepE (nb ts) l)).map fun q : Nat => .int q)), u6, u7]) f 0 [zv (pwV n ts), zv x1, zv x2, zv (natL f), zs (ltr l), some (.ow false []), u6, u7] ⟨u6, u7, f6, f7, rfl⟩ fun j a ρ hj ⟨u6, u7, f6, f7, e⟩ => by
      subst e
      rw [Nat.zero_add]
      have tk : (f.take (j + 1)).flatMap (stepE (nb ts) l) = (f.take j).flatMap (stepE (nb ts) l) ++ stepE (nb ts) l a := by
        rw [List.take_succ, hj, ← flat_app]; rfl
      have hb := flat_len (stepE (nb ts) l) (stepE_len sd l) (f.take j)
      rw [List.length_take] at hb
      have := ends_turn (n := n) hl h l ((f.take j).flatMap (stepE (nb ts) l)) (by omega) a (x1 := x1) (x2 := x2) (x3 := natL f) f7
      rw [tk]
      exact ⟨_, _, t_name (fsS (fsS (fsS (fsS (fsS (fsS (fs0 f6))))))) rfl, this, _, _, .fz, .fz, rfl⟩
  subst e
  rw [Nat.zero_add, List.take_length] at k1
  refine ⟨zv (natL (f.flatMap (stepE (nb ts) l))), v6, v7, .fz, g6, g7, ?_⟩
  unfold l2__law_ends
  apply e_seq
  · exact e_new (e_dispF e_nilA (by decide)) (fsS (fsS (fsS (fsS (fsS (fs0 f5)))))) rfl
  apply e_seq
  · exact e_forS (e_walkL (e_var rfl)) k1
  refine e_meltG (y := natL (f.flatMap (stepE (nb ts) l))) rfl (melt_olst _ _ (fun q => melt_fz rfl) _) rfl ?_
  ac_rfl
theorem v_ends {n : Nat} {ts : List Tie} (hl : ts.length ≤ 15) (h : ∀ t ∈ ts, t.1 ≠ t.2.1) (w : List Lt) (hw : w.length ≤ 4) (p : Nat) : runV 8 b__law_ends [pwV n ts, .str (strOf w), .int p] = .ok (natL (endsN (nb ts) w [p])) := by
  have sd : ∀ c p, (nb ts c p).length ≤ 15 := fun c p => Nat.le_trans (nb_len ts h c p) hl
  obtain ⟨ρ', k1, u4, u5, u6, u7, f4, f5, f6, f7, e⟩ := e_loop (tg := nameT 4) (s := l2__law_ends) (fun l : Lt => .str (ltr l))
    (fun j ρ => ∃ u4 u5 u6 u7, Fr u4 ∧ Fr u5 ∧ Fr u6 ∧ Fr u7 ∧ ρ = [zv (pwV n ts), zs (strOf w), zi p, zv (natL (endsN (nb ts) (w.take j) [p])), u4, u5, u6, u7]) w 0 [zv (pwV n ts), zs (strOf w), zi p, zv (natL [p]), none, none, none, none] ⟨none, none, none, none, .none, .none, .none, .none, rfl⟩ fun j l ρ hj ⟨u4, u5, u6, u7, f4, f5, f6, f7, e⟩ => by
      subst e
      rw [Nat.zero_add]
      have hj1 := (List.getElem?_eq_some_iff.mp hj).1
      have tk : endsN (nb ts) (w.take (j + 1)) [p] = (endsN (nb ts) (w.take j) [p]).flatMap (stepE (nb ts) l) := by
        rw [List.take_succ, hj]
        exact endsN_app _ _ _ _
      have hb := ends_len_le sd (w.take j) [p]
      have h15 : 15 ^ (w.take j).length ≤ 15 ^ 3 := Nat.pow_le_pow_right (by decide) (by rw [List.length_take]; omega)
      have e1 : [p].length = 1 := rfl
      rw [e1, Nat.one_mul] at hb
      obtain ⟨v5, v6, v7, g5, g6, g7, q⟩ := ends_row (n := n) hl h l (endsN (nb ts) (w.take j) [p]) (Nat.le_trans (Nat.le_trans hb h15) (by decide)) (x1 := .str (strOf w)) (x2 := .int p) f5 f6 f7
      rw [tk]
      exact ⟨_, _, t_name (fsS (fsS (fsS (fsS (fs0 f4))))) rfl, q, _, v5, v6, v7, .fz, g5, g6, g7, rfl⟩
  subst e
  rw [Nat.zero_add, List.take_length] at k1
  have wk := wlkV_of w
  have nl : lstM (consA (varM 2) nilA) [zv (pwV n ts), zs (strOf w), zi p, none, none, none, none, none] = .ok (natL [p], [zv (pwV n ts), zs (strOf w), zi p, none, none, none, none, none]) := e_lstM (e_consA (e_var rfl) e_nilA) (by show 1 ≤ sizeLine; decide)
  apply e_runE [zv (pwV n ts), zs (strOf w), zi p, none, none, none, none, none] rfl
  · unfold b__law_ends
    apply e_seq
    · exact e_asg nl rfl rfl
    apply e_seq
    · exact e_forS (e_walkM (e_var rfl) wk) k1
    ac_rfl
  · rfl
/-! numbers compared -/
theorem neV_natS (L : List Nat) : neV (natL L) (natL L) = some (.bl false) := by
  have e : natL L = .lst ((L.map (Nat.cast : Nat → Int)).map .int) := by show Val.lst _ = _; rw [List.map_map]; rfl
  rw [e, neV_lst, decide_eq_true rfl]; rfl
theorem eqV_natS (L : List Nat) : eqV (natL L) (natL L) = some (.bl true) := by
  have e : natL L = .lst ((L.map (Nat.cast : Nat → Int)).map .int) := by show Val.lst _ = _; rw [List.map_map]; rfl
  rw [e, eqV_lst, decide_eq_true rfl]
theorem repr_nat {L : List Nat} (h : ∀ a ∈ L, a < 10 ^ 12) (hl : L.length ≤ 1000) : ∃ s, PyData.strOk s = true ∧ reprV (natL L) = some (.str s) := by
  have e : natL L = .lst ((L.map (Nat.cast : Nat → Int)).map .int) := by show Val.lst _ = _; rw [List.map_map]; rfl
  rw [e]
  refine reprV_lst (fun n hn => ?_) (by rw [List.length_map]; exact hl)
  obtain ⟨a, ha, rfl⟩ := List.mem_map.mp hn
  rw [Int.natAbs_natCast]
  exact h a ha
theorem e_pickA {m : Nat} {is : List Nat} {a : MA} {ρ ρ1 : En} {xs ys : List Val} (h : a ρ = .ok (xs, ρ1)) (hl : xs.length = m) (e : pick is xs = ys) : pickM m is a ρ = .ok (ys, ρ1) := by
  subst e; unfold pickM; rw [h, Rs.ok_bind]; exact if_pos hl
/-- the sum of a word in a plain web -/
def sumW (n : Nat) (ts : List Tie) (w : List Lt) : Nat := ((List.range n).map (colN (nb ts) w fun _ => 1)).sum
theorem sumW_lt {n : Nat} (hn : n ≤ 24) {ts : List Tie} (hl : ts.length < 1000) (h : ∀ t ∈ ts, t.1 ≠ t.2.1) {w : List Lt} (hw : w.length ≤ 80) : sumW n ts w < 2 ^ 1000 := by
  have h1 := sum_le (v := colN (nb ts) w fun _ => 1) (M := 2 ^ 881) (List.range n) fun a _ => Nat.le_of_lt (colN_lt hl h hw a)
  rw [List.length_range] at h1
  have h2 : n * 2 ^ 881 ≤ 24 * 2 ^ 881 := Nat.mul_le_mul_right _ hn
  exact Nat.lt_of_le_of_lt (Nat.le_trans h1 h2) (by decide)
theorem sum_perm_W {n : Nat} {T ts : List Tie} (h : T.Perm ts) (w : List Lt) : ((List.range n).map (colN (ac T) w fun _ => 1)).sum = sumW n ts w := by
  unfold sumW
  rw [colN_perm (nb_perm_ac h)]
end Y

set_option Elab.async false
set_option linter.all false
set_option maxRecDepth 100000
set_option maxHeartbeats 400000
set_option autoImplicit false
namespace Y
open PySem PySem.Spec PyProof.Rows L2 Z
/-! L5: the law of k15. -/
local macro_rules | `(tactic| infer_instance) => `(tactic| first | (show _ = _; with_reducible assumption) | (show Bd _ _; with_reducible assumption) | (show _ < _; with_reducible assumption) | (show _ ≤ _; with_reducible assumption) | (show Fr _; first | with_reducible assumption | with_reducible exact Fr.fz | with_reducible exact Fr.none) | with_reducible exact (eqV_int _ _) | with_reducible exact (neV_int _ _) | with_reducible exact (sumV_ints _) | with_reducible exact (lenV_ints _) | with_reducible exact (lenV_tints _) | with_reducible exact (absVl_int _) | with_reducible exact wp0 | with_reducible exact st0 | with_reducible exact (small_sz rfl) | with_reducible exact (small_lt rfl) | with_reducible exact (melts_int _) | with_reducible exact e_cst | with_reducible exact e_nilA | with_reducible exact e_next | with_reducible exact e_yesB | with_reducible exact e_noP | with_reducible exact e_cL0 | with_reducible exact e_forL_nil | with_reducible apply e_var | with_reducible apply e_bin | with_reducible apply e_un | with_reducible apply e_tst | with_reducible apply e_or | with_reducible apply e_and | with_reducible apply e_orV | with_reducible apply e_andV | with_reducible apply e_ife | with_reducible apply e_if | with_reducible apply e_notB | with_reducible apply e_consA | with_reducible apply e_tupM | with_reducible apply e_lstM | with_reducible apply e_dispF | with_reducible apply e_cbM | with_reducible apply e_cfM | with_reducible apply e_bfM | with_reducible apply e_ownL | with_reducible apply e_listI | with_reducible apply e_walkM | with_reducible apply e_lrevF | with_reducible apply e_zrM | with_reducible apply e_enum | with_reducible apply e_rng1 | with_reducible apply e_rng2 | with_reducible apply e_parP | with_reducible apply e_sl | with_reducible apply e_slO | with_reducible apply e_view | with_reducible apply e_zipL | with_reducible apply e_chnT | with_reducible apply seqK_nx | with_reducible exact seqK_rt | with_reducible exact seqK_exc | with_reducible apply e_seqG | with_reducible apply e_forS | with_reducible apply e_asg | with_reducible apply e_ret | with_reducible apply e_drop | with_reducible apply e_raise | with_reducible apply e_new | with_reducible apply e_newT | with_reducible apply e_par | with_reducible apply e_parNS | with_reducible apply e_asgT | with_reducible apply q_tup2 | with_reducible apply q_tup3 | with_reducible apply q_lst2 | with_reducible apply q_lst3 | with_reducible apply t_tup2 | with_reducible apply t_tup3 | with_reducible apply t_name | with_reducible apply e_ixO | with_reducible apply e_setS | with_reducible apply e_app | with_reducible apply e_melt | with_reducible apply e_setF | with_reducible apply e_fldO | with_reducible apply e_callM | with_reducible apply e_callO | with_reducible apply wpS | with_reducible apply stS | with_reducible apply mulV2_bd | with_reducible apply divV_pos | with_reducible apply modV_pos | with_reducible apply f1_of | with_reducible apply f2_of | ((with_reducible apply ite_T); first | (show _ = _; with_reducible assumption) | exact rfl | (apply decide_eq_true; omega)) | ((with_reducible apply ite_F); first | (show _ = _; with_reducible assumption) | exact rfl | (apply decide_eq_false; omega)) | exact rfl | decide | (show _ ∧ _; omega) | with_reducible exact bd_lit (by decide) (by decide) | with_reducible exact bd_mod (by decide) (by decide) (by decide) | with_reducible apply powV_nat | (show _ < _; omega) | (show _ ≤ _; omega) | (with_reducible apply fs0; assumption) | with_reducible apply fsS)
local macro_rules | `(tactic| ac_rfl) => `(tactic| repeat' (first | infer_instance | fail))
theorem ones_col (n : Nat) (hn : n ≤ 24) {ρ : En} {a : ME} (h : a ρ = .ok (.int n, ρ)) : listM (bfM mulF (lstM (consA (cstM (.int 1)) nilA)) a) ρ = .ok (colV n fun _ => 1, ρ) := by
  have m1 := mulF_one n hn
  have ml := melts_nat ((List.range n).map fun _ => 1)
  refine e_listM ?_ ml
  ac_rfl
theorem count_cast (p : Nat) : ∀ L : List Nat, (L.map (Nat.cast : Nat → Int)).count (p : Int) = L.count p
  | [] => rfl
  | a :: L => by
    rw [List.map_cons, List.count_cons, List.count_cons, count_cast p L]
    congr 1
    by_cases h : a = p
    · subst h; simp
    · have : ¬ (a : Int) = p := by omega
      simp [h, this]
theorem e_cnt {a b : ME} {ρ ρ1 ρ2 : En} {L : List Nat} {p : Nat} (h1 : a ρ = .ok (natL L, ρ1)) (h2 : b ρ1 = .ok (.int p, ρ2)) : cntM a b ρ = .ok (.int (L.count p : Nat), ρ2) := by
  unfold cntM; rw [h1, Rs.ok_bind]; dsimp only; rw [h2, Rs.ok_bind]; dsimp only; rw [intsOf_nat, Rs.opt_some, Rs.ok_bind, count_cast]
theorem addV2_nat (a b : Nat) : addV2 (.int a) (.int b) = some (.int ((a + b : Nat) : Int)) := by
  show some (Val.int ((a : Int) + (b : Int))) = _
  rw [Int.natCast_add]
theorem v_law_trace {n : Nat} (hn : n ≤ 24) {ts : List Tie} (ok : TiesOk n ts) (w : List Lt) (hw : w.length ≤ 80) : runV 7 b__law_trace [pwV n ts, .str (strOf w)] = .ok (.int (traceN (nb ts) n w : Nat)) := by
  have i0 := pw0 n ts
  have hl := ok.len
  have ns := v_nears n hn ts hl
  obtain ⟨ρ', k1, u4, u5, f4, f5, e⟩ := e_loopN (tg := nameT 4) (s := l1__law_trace) n
    (fun j ρ => ∃ u4 u5, Fr u4 ∧ Fr u5 ∧ ρ = [zv (pwV n ts), zs (strOf w), zi (((List.range j).map fun p => colN (nb ts) w (dl p) p).sum : Nat), zv (nearsV n ts), u4, u5, none]) [zv (pwV n ts), zs (strOf w), zi 0, zv (nearsV n ts), none, none, none] ⟨none, none, .none, .none, rfl⟩ fun j ρ hj ⟨u4, u5, f4, f5, e⟩ => by
      subst e
      have c1 : listM c1__law_trace [zv (pwV n ts), zs (strOf w), zi (((List.range j).map fun p => colN (nb ts) w (dl p) p).sum : Nat), zv (nearsV n ts), zi j, u5, none] = .ok (colV n (dl j), [zv (pwV n ts), zs (strOf w), zi (((List.range j).map fun p => colN (nb ts) w (dl p) p).sum : Nat), zv (nearsV n ts), zi j, u5, none]) := by
        refine e_listM (ys := ((List.range n).map (dl j)).map fun q : Nat => Val.int q) ?_ (melts_nat _)
        rw [List.map_map]
        exact e_comp (fun i : Nat => .int i) _ (fun p => [zv (pwV n ts), zs (strOf w), zi (((List.range j).map fun p => colN (nb ts) w (dl p) p).sum : Nat), zv (nearsV n ts), zi j, u5, zi p]) (List.range n) (e_rngL (e_consA (e_bin (e_var rfl) e_cst i0) e_nilA) (by omega)) (by rw [List.length_range]; omega) rfl rfl rfl fun p hp => ⟨rfl, unit_elt p j rfl rfl, rfl, rfl⟩
      have cl := v_column hn ok w hw (dl j) (dl_le j)
      have ix := ixV_col (colN (nb ts) w (dl j)) hj
      have ad := addV2_nat ((List.range j).map fun p => colN (nb ts) w (dl p) p).sum (colN (nb ts) w (dl j) j)
      have rs : ((List.range (j + 1)).map fun p => colN (nb ts) w (dl p) p).sum = ((List.range j).map fun p => colN (nb ts) w (dl p) p).sum + colN (nb ts) w (dl j) j := by
        rw [List.range_succ, List.map_append, List.sum_append]; simp
      refine ⟨_, [zv (pwV n ts), zs (strOf w), zi (((List.range (j + 1)).map fun p => colN (nb ts) w (dl p) p).sum : Nat), zv (nearsV n ts), zi j, zv (colV n (dl j)), none], t_name (fsS (fsS (fsS (fsS (fs0 f4))))) rfl, ?_, _, _, .fz, .fz, rfl⟩
      unfold l1__law_trace
      rw [rs]
      apply e_seq
      · exact e_asg c1 (fsS (fsS (fsS (fsS (fsS (fs0 f5)))))) rfl
      exact e_asg (e_bin (e_var rfl) (e_bin (e_callM (e_consA (e_var rfl) (e_consA (e_var rfl) (e_consA (e_var rfl) e_nilA))) cl) (e_var rfl) ix) ad) rfl rfl
  subst e
  apply e_runE [zv (pwV n ts), zs (strOf w), none, none, none, none, none] rfl
  · unfold b__law_trace
    apply e_seq
    · exact e_par (e_consA e_cst (e_consA (e_callM (e_consA (e_var rfl) e_nilA) ns) e_nilA)) rfl rfl rfl rfl
    apply e_seq
    · exact e_forS (e_rngN (e_consA (e_bin (e_var rfl) e_cst i0) e_nilA) (by omega)) k1
    ac_rfl
  · rfl
theorem upV_of (w : List Lt) (h : w.length ≤ 1000) : upV (.str (strOf w)) = some (.str (strOf (w.map fun l => (l.1, true)))) := by
  unfold upV
  dsimp only
  rw [if_pos (by rw [len_strOf]; omega), upper_of]
theorem neV_sameN (a : Nat) : neV (.int a) (.int a) = some (.bl false) := by rw [neV_int, decide_eq_true rfl]; rfl
theorem sum_W {n : Nat} {T ts : List Tie} (pm : T.Perm ts) (ok : TiesOk n T) (hn : n ≤ 24) (w : List Lt) (hw : w.length ≤ 80) : runV 2 b_sum_of [webV n T, .str (strOf w)] = .ok (.int (sumN (nb ts) n w : Nat)) := by
  have := v_sum_of ok hn w hw
  rw [sum_perm_W pm] at this
  exact this
theorem trace_W {n : Nat} {T ts : List Tie} (pm : T.Perm ts) (ok : TiesOk n T) (hn : n ≤ 24) (w : List Lt) (hw : w.length ≤ 80) : runV 3 b_trace_of [webV n T, .str (strOf w)] = .ok (.int (traceN (nb ts) n w : Nat)) := by
  have := v_trace_of ok hn w hw
  rw [traceN_perm (nb_perm_ac pm)] at this
  exact this
theorem trace_lt {n : Nat} (hn : n ≤ 24) {ts : List Tie} (hl : ts.length < 1000) (h : ∀ t ∈ ts, t.1 ≠ t.2.1) {w : List Lt} (hw : w.length ≤ 80) : traceN (nb ts) n w < 2 ^ 1000 := Nat.lt_of_le_of_lt (trace_le _ _ _) (sumW_lt hn hl h hw)
theorem app_co (c : Fin 4) : addV2 (.str (co c)) (.str (co c)) = some (.str (strOf [(c, false), (c, false)])) := by
  have e : co c ++ co c = strOf [(c, false), (c, false)] := rfl
  show (if (co c).length + (co c).length ≤ sizeLine then some (Val.str (co c ++ co c)) else none) = _
  rw [if_pos (by show 1 + 1 ≤ sizeLine; decide), e]
theorem colour_turn {n : Nat} {T ts : List Tie} (p : PW n ts) (pm : T.Perm ts) (ok : TiesOk n T) (hn : n ≤ 24) (c : Fin 4) {u0 u1 u2 u4 u5 u6 : Option SV} :
    l1__law_listed_right [u0, u1, u2, zv (webV n T), u4, u5, u6, zs (co c)] = .ok (.nx [u0, u1, u2, zv (webV n T), u4, u5, u6, zs (co c)]) := by
  have lt : ∀ t ∈ ts, t.1 < t.2.1 := fun t ht => (p.ok.lt t ht).1
  have t1 := trace_W pm ok hn [(c, false)] (by show 1 ≤ 80; decide)
  rw [trace_one n c fun q => nb_off lt c q] at t1
  have t2 := trace_W pm ok hn [(c, false), (c, false)] (by show 2 ≤ 80; decide)
  rw [trace_two n c (nb_nodup lt p.nd c) fun q r h => nb_sym h] at t2
  have t3 := sum_W pm ok hn [(c, false)] (by show 1 ≤ 80; decide)
  have t1 : runV 3 b_trace_of [webV n T, .str (co c)] = .ok (.int (0 : Nat)) := t1
  have t3 : runV 2 b_sum_of [webV n T, .str (co c)] = .ok (.int (sumN (nb ts) n [(c, false)] : Nat)) := t3
  have ap := app_co c
  unfold l1__law_listed_right
  exact e_ifF (e_orF (e_tst (e_bin (e_callM (e_consA (e_var rfl) (e_consA (e_var rfl) e_nilA)) t1) e_cst (neV_sameN 0)) rfl) rfl (e_tst (e_bin (e_callM (e_consA (e_var rfl) (e_consA (e_bin (e_var rfl) (e_var rfl) ap) e_nilA)) t2) (e_callM (e_consA (e_var rfl) (e_consA (e_var rfl) e_nilA)) t3) (neV_sameN _)) rfl)) rfl e_next
theorem listed_ok {k : Nat} {s : SV} (h : Cup k s) {n : Nat} {ts : List Tie} (p : PW n ts) (n1 : 1 ≤ n) (n6 : n ≤ 6) (hk : k + 32 ≤ 16000) {w : List Lt} (hw : w.length ≤ 4) :
    ∃ s', runO 8 b__law_listed_right s [pwV n ts, .str (strOf w)] = .ok (.bl true, s') ∧ Cup (k + 32) s' := by
  have t15 : ts.length ≤ 15 := Nat.le_trans p.tl (tri_le n6)
  have ne : ∀ t ∈ ts, t.1 ≠ t.2.1 := fun t ht => by have := p.ok.lt t ht; omega
  obtain ⟨T, s1, e1, pm, okT, c1⟩ := made_ok (h.setPin (q := true)) p n1 (by omega) (by omega)
  have i0 := pw0 n ts
  have m1 : callO 0 2 6 b__law_made (consA (varM 1) nilA) [some (s.setPin true), zv (pwV n ts), zs (strOf w), none, none, none, none, none] = .ok (webV n T, [some s1, zv (pwV n ts), zs (strOf w), none, none, none, none, none]) := e_callO rfl (h.setPin).own (e_consA (e_var rfl) e_nilA) rfl (h.setPin).own e1 rfl
  have due : listM c1__law_listed_right [some s1, zv (pwV n ts), zs (strOf w), zv (webV n T), none, none, none, none] = .ok (natL ((List.range n).map fun q => colN (nb ts) w (dl q) q), [some s1, zv (pwV n ts), zs (strOf w), zv (webV n T), none, none, none, none]) := by
    refine e_listM (ys := ((List.range n).map fun q => colN (nb ts) w (dl q) q).map fun q : Nat => Val.int q) ?_ (melts_nat _)
    rw [List.map_map]
    refine e_comp (fun i : Nat => .int i) _ (fun q => [some s1, zv (pwV n ts), zs (strOf w), zv (webV n T), none, zi q, none, none]) (List.range n) (e_rngL (e_consA (e_bin (e_var rfl) e_cst i0) e_nilA) (by omega)) (by rw [List.length_range]; omega) rfl rfl rfl fun q hq => ⟨rfl, ?_, rfl, rfl⟩
    have en := v_ends (n := n) t15 ne w hw q
    have := e_cnt (a := callM 3 8 b__law_ends (consA (varM 1) (consA (varM 2) (consA (varM 5) nilA)))) (b := varM 5) (ρ := [some s1, zv (pwV n ts), zs (strOf w), zv (webV n T), none, zi q, none, none]) (e_callM (e_consA (e_var rfl) (e_consA (e_var rfl) (e_consA (e_var rfl) e_nilA))) en) (p := q) (e_var rfl)
    rw [ends_count] at this
    exact this
  have sv : sumV (natL ((List.range n).map fun q => colN (nb ts) w (dl q) q)) = some (.int (traceN (nb ts) n w : Nat)) := sumV_nat _
  have tw := trace_W pm okT (by omega) w (by omega)
  have sw := sum_W pm okT (by omega) w (by omega)
  have lw := v_law_trace (n := n) (by omega) p.ok w (by omega)
  have cl : (w.map fun l : Lt => ((l.1, true) : Lt)).length ≤ 80 := by rw [List.length_map]; omega
  have tc := trace_W pm okT (by omega) _ cl
  have sc := sum_W pm okT (by omega) _ cl
  rw [caps_trace _ _ (fun l hl => by obtain ⟨m, -, rfl⟩ := List.mem_map.mp hl; rfl)] at tc
  have uv := upV_of w (by omega)
  have tl := trace_lt (n := n) (by omega) (ts := ts) (by omega) ne (w := w) (by omega)
  obtain ⟨rt, rto, rte⟩ := reprV_int (i := (traceN (nb ts) n w : Nat)) (.nat (Nat.lt_trans tl (Nat.pow_lt_pow_right (by decide) (by decide))))
  have er := neV_same rto
  have gt : gtV (.int (traceN (nb ts) n w : Nat)) (.int (sumN (nb ts) n w : Nat)) = some (.bl false) := by
    show some (Val.bl (decide _)) = _
    rw [decide_eq_false (by have := trace_le (nb ts) n w; omega)]
  -- colours
  obtain ⟨ρ', k1, v7, g7, e⟩ := e_loop (tg := nameT 7) (s := l1__law_listed_right) (fun c : Fin 4 => .str (co c))
    (fun _ ρ => ∃ u7, Fr u7 ∧ ρ = [some s1, zv (pwV n ts), zs (strOf w), zv (webV n T), zi (traceN (nb ts) n w : Nat), none, zs (strOf (w.map fun l => (l.1, true))), u7]) (List.finRange 4) 0 [some s1, zv (pwV n ts), zs (strOf w), zv (webV n T), zi (traceN (nb ts) n w : Nat), none, zs (strOf (w.map fun l => (l.1, true))), none] ⟨none, .none, rfl⟩ fun j c ρ hj ⟨u7, f7, e⟩ => by
      subst e
      exact ⟨_, _, t_name (fsS (fsS (fsS (fsS (fsS (fsS (fsS (fs0 f7)))))))) rfl, colour_turn p pm okT (by omega) c, _, .fz, rfl⟩
  subst e
  have wk : walkM wlkV (cstM (.str ("abcd" : Str))) [some s1, zv (pwV n ts), zs (strOf w), zv (webV n T), zi (traceN (nb ts) n w : Nat), none, zs (strOf (w.map fun l => (l.1, true))), none] = .ok ((List.finRange 4).map fun c => .str (co c), [some s1, zv (pwV n ts), zs (strOf w), zv (webV n T), zi (traceN (nb ts) n w : Nat), none, zs (strOf (w.map fun l => (l.1, true))), none]) := rfl
  -- no letters
  have t0 : runV 3 b_trace_of [webV n T, .str ("" : Str)] = .ok (.int (n : Nat)) := by
    have := trace_W pm okT (by omega) [] (by decide)
    rw [nil_trace] at this
    exact this
  have c2 : listM c2__law_listed_right [some s1, zv (pwV n ts), zs (strOf w), zv (webV n T), zi (traceN (nb ts) n w : Nat), none, zs (strOf (w.map fun l => (l.1, true))), v7] = .ok (natL ((List.range n).map fun _ => 1), [some s1, zv (pwV n ts), zs (strOf w), zv (webV n T), zi (traceN (nb ts) n w : Nat), none, zs (strOf (w.map fun l => (l.1, true))), v7]) := by
    refine e_listM (ys := ((List.range n).map fun _ => 1).map fun q : Nat => Val.int q) ?_ (melts_nat _)
    rw [List.map_map]
    refine e_comp (fun i : Nat => .int i) _ (fun q => [some s1, zv (pwV n ts), zs (strOf w), zv (webV n T), zi (traceN (nb ts) n w : Nat), zi q, zs (strOf (w.map fun l => (l.1, true))), v7]) (List.range n) (e_rngL (e_consA (e_bin (e_var rfl) e_cst i0) e_nilA) (by omega)) (by rw [List.length_range]; omega) rfl rfl rfl fun q hq => ⟨rfl, ?_, rfl, rfl⟩
    have wl : runV 3 b_walks [webV n T, .str ("" : Str), .int q] = .ok (.int (1 : Nat)) := v_walks okT (by omega) [] (by decide) (List.mem_range.mp hq)
    exact e_callM (e_consA (e_var rfl) (e_consA e_cst (e_consA (e_var rfl) e_nilA))) wl
  have sv2 : sumV (natL ((List.range n).map fun _ => 1)) = some (.int (n : Nat)) := by
    rw [sumV_nat, sum_one _ fun _ _ => rfl, List.length_range]
  have en : eqV (.int (n : Nat)) (.int (n : Nat)) = some (.bl true) := by rw [eqV_int, decide_eq_true rfl]
  refine ⟨s1.setPin s.pin, ?_, (c1.setPin).le (by omega)⟩
  apply e_runOE [some (s.setPin true), zv (pwV n ts), zs (strOf w), none, none, none, none, none] rfl
  · unfold b__law_listed_right
    apply e_seq
    · exact e_asg m1 rfl rfl
    apply e_seq
    · exact e_asg (e_cbM (e_consA due e_nilA) sv) rfl rfl
    apply e_seq
    · exact e_ifF (e_orF (e_tst (e_bin (e_cbM (e_consA (e_callM (e_pickA (e_consA (e_var rfl) (e_consA (e_var rfl) e_nilA)) rfl rfl) tw) e_nilA) rte) (e_cbM (e_consA (e_var rfl) e_nilA) rte) er) rfl) rfl (e_tst (e_bin (e_var rfl) (e_callM (e_consA (e_var rfl) (e_consA (e_var rfl) e_nilA)) lw) (neV_sameN _)) rfl)) rfl e_next
    apply e_seq
    · exact e_asg (e_un (e_var rfl) uv) rfl rfl
    apply e_seq
    · exact e_ifF (e_orF (e_tst (e_bin (e_callM (e_consA (e_var rfl) (e_consA (e_var rfl) e_nilA)) tc) (e_callM (e_consA (e_var rfl) (e_consA (e_var rfl) e_nilA)) sc) (neV_sameN _)) rfl) rfl (e_tst (e_bin (e_callM (e_consA (e_var rfl) (e_consA (e_var rfl) e_nilA)) tw) (e_callM (e_consA (e_var rfl) (e_consA (e_var rfl) e_nilA)) sw) gt) rfl)) rfl e_next
    apply e_seq
    · exact e_forS wk k1
    exact e_ret (e_chnT (e_callM (e_consA (e_var rfl) (e_consA e_cst e_nilA)) t0) (e_bin (e_var rfl) e_cst i0) en (e_cbM (e_consA c2 e_nilA) sv2) en)
  · rfl
  · rfl
  · exact c1.flat
  · rfl
/-! the law -/
theorem small_turn {k : Nat} {s : SV} (h : Cup k s) {n : Nat} {ts : List Tie} (p : PW n ts) (n1 : 1 ≤ n) (n6 : n ≤ 6) (hk : k + 60 ≤ 16000) {m : Nat} (hm : m ≤ 4) {u0 u2 u5 u6 u7 u8 : Option SV} :
    ∃ s', Cup (k + 41) s' ∧ l1_law [u0, some s, u2, zv (pwV n ts), zi m, u5, u6, u7, u8] = .ok (.nx [u0, some s', u2, zv (pwV n ts), zi m, u5, u6, u7, u8]) := by
  have t15 : ts.length ≤ 15 := Nat.le_trans p.tl (tri_le n6)
  obtain ⟨w, s1, e1, lw, c1⟩ := word_ok h (n := n) (m := m) (ts := ts) (by omega) (by omega) (by omega)
  have c1' : Cup (k + 9) s1 := c1.le (by omega)
  obtain ⟨s2, e2, c2⟩ := listed_ok c1' p n1 n6 (by omega) (w := w) (by omega)
  have d1 : callO 1 3 10 b__law_word (consA (varM 3) (consA (varM 4) nilA)) [u0, some s, u2, zv (pwV n ts), zi m, u5, u6, u7, u8] = .ok (.str (strOf w), [u0, some s1, u2, zv (pwV n ts), zi m, u5, u6, u7, u8]) := e_callO rfl h.own (e_consA (e_var rfl) (e_consA (e_var rfl) e_nilA)) rfl h.own e1 rfl
  have d2 : callO 1 3 8 b__law_listed_right (consA (varM 3) (consA (callO 1 3 10 b__law_word (consA (varM 3) (consA (varM 4) nilA))) nilA)) [u0, some s, u2, zv (pwV n ts), zi m, u5, u6, u7, u8] = .ok (.bl true, [u0, some s2, u2, zv (pwV n ts), zi m, u5, u6, u7, u8]) := e_callO rfl h.own (e_consA (e_var rfl) (e_consA d1 e_nilA)) rfl c1.own e2 rfl
  refine ⟨s2, c2.le (by omega), ?_⟩
  unfold l1_law
  ac_rfl
theorem e_forL_list {tg : MT} {st : MS} {P : Nat → En → Prop} : ∀ (ms : List Nat) (ρ : En) (k : Nat), P k ρ → (∀ m ∈ ms, ∀ j ρ, P j ρ → k ≤ j → j < k + ms.length → ∃ ρ1 ρ2, tg (.int m) ρ = some ρ1 ∧ st ρ1 = .ok (.nx ρ2) ∧ P (j + 1) ρ2) → ∃ ρ', forL tg st (ms.map fun m : Nat => .int m) ρ = .ok (.nx ρ') ∧ P (k + ms.length) ρ'
  | [], ρ, k, h0, _ => ⟨ρ, rfl, h0⟩
  | m :: ms, ρ, k, h0, h => by
    obtain ⟨ρ1, ρ2, h1, h2, h3⟩ := h m (.head _) k ρ h0 (Nat.le_refl _) (by simp)
    obtain ⟨ρ', k1, k2⟩ := e_forL_list ms ρ2 (k + 1) h3 fun q hq j ρ hj a b => h q (.tail _ hq) j ρ hj (by omega) (by simp only [List.length_cons]; omega)
    exact ⟨ρ', e_forL h1 h2 k1, by rw [List.length_cons, show k + (ms.length + 1) = k + 1 + ms.length by omega]; exact k2⟩
theorem pick_of {k : Nat} {s : SV} {L : List Nat} (h : Cup k s) (hk : k ≤ 16000) (h1 : 1 ≤ L.length) (hm : L.length ≤ 1000) :
    ∃ (v : Nat) (s' : SV), v ∈ L ∧ Cup (k + 1) s' ∧ ∀ {i : Nat} {al : MA} {ρ ρ1 : En}, ρ[i]? = some (some s) → al ρ = .ok ([natL L], ρ1) → ρ1[i]? = some (some s) → callO i 2 2 b__law_pick al ρ = .ok (.int v, ρ1.set i (some s')) := by
  obtain ⟨v, y, s', hy, c, e⟩ := e_pick (L := L.map fun q : Nat => Val.int q) h hk (by rw [List.length_map]; exact h1) (by rw [List.length_map]; omega)
  rw [List.getElem?_map] at hy
  obtain ⟨l, hl, rfl⟩ := Option.map_eq_some_iff.mp hy
  exact ⟨l, s', List.mem_of_getElem? hl, c, e⟩
theorem lap_ok {k : Nat} {s : SV} (h : Cup k s) (hk : k + 1500 ≤ 16000) {u0 u2 u3 u4 u5 u6 u7 u8 : Option SV} (f3 : Fr u3) (f4 : Fr u4) :
    ∃ s' v3 v4, Cup (k + 420) s' ∧ Fr v3 ∧ Fr v4 ∧ l2_law [u0, some s, u2, u3, u4, u5, u6, u7, u8] = .ok (.nx [u0, some s', u2, v3, v4, u5, u6, u7, u8]) := by
  obtain ⟨a, s1, a1, c1, e1⟩ := e_draw (many := 6) h (by omega) (by decide) (by decide)
  obtain ⟨b, s2, b1, c2, e2⟩ := pick_of (L := [2, 1, 2, 3]) c1 (by omega) (by decide) (by decide)
  have b13 : 1 ≤ b ∧ b ≤ 3 := by
    simp only [List.mem_cons, List.not_mem_nil, or_false] at b1
    omega
  obtain ⟨ts, s3, e3, p3, c3⟩ := web_ok c2 (n := 1 + a) (sh := b) (by omega) (by omega) b13.1 (by omega)
  have c3' : Cup (k + 291) s3 := c3.le (by omega)
  obtain ⟨m1, s4, m1l, c4, e4⟩ := e_draw (many := 2) c3' (by omega) (by decide) (by decide)
  obtain ⟨m2, s5, m2l, c5, e5⟩ := e_draw (many := 2) c4 (by omega) (by decide) (by decide)
  obtain ⟨m3, s6, m3l, c6, e6⟩ := e_draw (many := 3) c5 (by omega) (by decide) (by decide)
  have d1 : callO 1 2 7 b__law_draw (consA (cstM (.int 6)) nilA) [u0, some s, u2, u3, u4, u5, u6, u7, u8] = .ok (.int a, [u0, some s1, u2, u3, u4, u5, u6, u7, u8]) := e1 rfl (e_consA e_cst e_nilA) rfl
  have d2 : callO 1 2 2 b__law_pick (consA (lstM (consA (cstM (.int 2)) (consA (cstM (.int 1)) (consA (cstM (.int 2)) (consA (cstM (.int 3)) nilA))))) nilA) [u0, some s1, u2, u3, u4, u5, u6, u7, u8] = .ok (.int b, [u0, some s2, u2, u3, u4, u5, u6, u7, u8]) := by
    refine e2 rfl (ρ1 := [u0, some s1, u2, u3, u4, u5, u6, u7, u8]) ?_ rfl
    show _ = Rs.ok ([Val.lst [.int 2, .int 1, .int 2, .int 3]], _)
    ac_rfl
  have d3 : callO 1 3 7 b__law_web (consA (binM addV2 (cstM (.int 1)) (callO 1 2 7 b__law_draw (consA (cstM (.int 6)) nilA))) (consA (callO 1 2 2 b__law_pick (consA (lstM (consA (cstM (.int 2)) (consA (cstM (.int 1)) (consA (cstM (.int 2)) (consA (cstM (.int 3)) nilA))))) nilA)) nilA)) [u0, some s, u2, u3, u4, u5, u6, u7, u8] = .ok (pwV (1 + a) ts, [u0, some s3, u2, u3, u4, u5, u6, u7, u8]) :=
    e_callO rfl h.own (e_consA (e_bin e_cst d1 (addV2_nat 1 a)) (e_consA d2 e_nilA)) rfl c2.own e3 rfl
  have d4 : callO 1 2 7 b__law_draw (consA (cstM (.int 2)) nilA) [u0, some s3, u2, zv (pwV (1 + a) ts), u4, u5, u6, u7, u8] = .ok (.int m1, [u0, some s4, u2, zv (pwV (1 + a) ts), u4, u5, u6, u7, u8]) := e4 rfl (e_consA e_cst e_nilA) rfl
  have d5 : callO 1 2 7 b__law_draw (consA (cstM (.int 2)) nilA) [u0, some s4, u2, zv (pwV (1 + a) ts), u4, u5, u6, u7, u8] = .ok (.int m2, [u0, some s5, u2, zv (pwV (1 + a) ts), u4, u5, u6, u7, u8]) := e5 rfl (e_consA e_cst e_nilA) rfl
  have d6 : callO 1 2 7 b__law_draw (consA (cstM (.int 3)) nilA) [u0, some s5, u2, zv (pwV (1 + a) ts), u4, u5, u6, u7, u8] = .ok (.int m3, [u0, some s6, u2, zv (pwV (1 + a) ts), u4, u5, u6, u7, u8]) := e6 rfl (e_consA e_cst e_nilA) rfl
  obtain ⟨ρ', k1, s7, v4, c7, g4, e⟩ := e_forL_list (tg := nameT 4) (st := l1_law) (P := fun j ρ => ∃ s v4, Cup (k + 294 + 41 * j) s ∧ Fr v4 ∧ ρ = [u0, some s, u2, zv (pwV (1 + a) ts), v4, u5, u6, u7, u8]) [2 + m1, 3 + m2, m3] [u0, some s6, u2, zv (pwV (1 + a) ts), u4, u5, u6, u7, u8] 0 ⟨s6, u4, c6, f4, rfl⟩ fun m hm j ρ ⟨s, v4, c, g4, e⟩ _ hj => by
    subst e
    have hj : j < 0 + 3 := hj
    have m4 : m ≤ 4 := by
      simp only [List.mem_cons, List.not_mem_nil, or_false] at hm
      omega
    obtain ⟨s', c', q⟩ := small_turn c p3 (by omega) (by omega) (by omega) m4 (u0 := u0) (u2 := u2) (u5 := u5) (u6 := u6) (u7 := u7) (u8 := u8)
    exact ⟨_, _, t_name (fsS (fsS (fsS (fsS (fs0 g4))))) rfl, q, s', _, by rw [show k + 294 + 41 * (j + 1) = k + 294 + 41 * j + 41 by omega]; exact c', .fz, rfl⟩
  subst e
  refine ⟨s7, zv (pwV (1 + a) ts), v4, c7.le (by show k + 294 + 41 * (0 + 3) ≤ _; omega), .fz, g4, ?_⟩
  unfold l2_law
  apply e_seq
  · exact e_asg d3 (fsS (fsS (fsS (fs0 f3)))) rfl
  · exact e_forS (e_walkT (e_tupM (e_consA (e_bin e_cst d4 (addV2_nat 2 m1)) (e_consA (e_bin e_cst d5 (addV2_nat 3 m2)) (e_consA d6 e_nilA))) (by show 3 ≤ sizeLine; decide))) k1
/-! what stands fast -/
def triT : List Tie := [(0, 1, 0), (1, 2, 0), (0, 2, 0)]
theorem tri_lt : ∀ c p, p < 3 → ∀ q ∈ nb triT c p, q < 3 := by decide
def fastM : List (Nat × Int) := [(0, 3), (1, 0), (3, 6), (4, 18), (20, 1048578), (80, 1208925819614629174706178)]
theorem fastM_ok : ∀ p ∈ fastM, p.1 ≤ 80 ∧ ((((List.range 3).map fun q => gN (colL (nb triT) 3 (List.replicate p.1 (0, false)) ((List.range 3).map (dl q))) q).sum : Nat) : Int) = p.2 := by decide +kernel
theorem rep_a : ∀ p ∈ fastM, repS ("a" : Str) p.1 = strOf (List.replicate p.1 (0, false)) := by decide +kernel
theorem tri_trace {T : List Tie} (pm : T.Perm triT) (ok : TiesOk 3 T) : ∀ p ∈ fastM, runV 3 b_trace_of [webV 3 T, .str (repS ("a" : Str) p.1)] = .ok (.int p.2) := fun p hp => by
  obtain ⟨q1, q2⟩ := fastM_ok p hp
  have := trace_W pm ok (by decide) (List.replicate p.1 (0, false)) (by rw [List.length_replicate]; exact q1)
  rw [traceN_L tri_lt, q2] at this
  rw [rep_a p hp]
  exact this
end Y

set_option Elab.async false
set_option linter.all false
set_option maxRecDepth 100000
set_option maxHeartbeats 400000
set_option autoImplicit false
namespace Y
open PySem PySem.Spec PyProof.Rows L2 Z
local macro_rules | `(tactic| infer_instance) => `(tactic| first | (show _ = _; with_reducible assumption) | (show Bd _ _; with_reducible assumption) | (show _ < _; with_reducible assumption) | (show _ ≤ _; with_reducible assumption) | (show Fr _; first | with_reducible assumption | with_reducible exact Fr.fz | with_reducible exact Fr.none) | with_reducible exact (eqV_int _ _) | with_reducible exact (neV_int _ _) | with_reducible exact (sumV_ints _) | with_reducible exact (lenV_ints _) | with_reducible exact (lenV_tints _) | with_reducible exact (absVl_int _) | with_reducible exact wp0 | with_reducible exact st0 | with_reducible exact (small_sz rfl) | with_reducible exact (small_lt rfl) | with_reducible exact (melts_int _) | with_reducible exact e_cst | with_reducible exact e_nilA | with_reducible exact e_next | with_reducible exact e_yesB | with_reducible exact e_noP | with_reducible exact e_cL0 | with_reducible exact e_forL_nil | with_reducible apply e_var | with_reducible apply e_bin | with_reducible apply e_un | with_reducible apply e_tst | with_reducible apply e_or | with_reducible apply e_and | with_reducible apply e_orV | with_reducible apply e_andV | with_reducible apply e_ife | with_reducible apply e_if | with_reducible apply e_notB | with_reducible apply e_consA | with_reducible apply e_tupM | with_reducible apply e_lstM | with_reducible apply e_dispF | with_reducible apply e_cbM | with_reducible apply e_cfM | with_reducible apply e_bfM | with_reducible apply e_ownL | with_reducible apply e_listI | with_reducible apply e_walkM | with_reducible apply e_lrevF | with_reducible apply e_zrM | with_reducible apply e_enum | with_reducible apply e_rng1 | with_reducible apply e_rng2 | with_reducible apply e_parP | with_reducible apply e_sl | with_reducible apply e_slO | with_reducible apply e_view | with_reducible apply e_zipL | with_reducible apply e_chnT | with_reducible apply seqK_nx | with_reducible exact seqK_rt | with_reducible exact seqK_exc | with_reducible apply e_seqG | with_reducible apply e_forS | with_reducible apply e_asg | with_reducible apply e_ret | with_reducible apply e_drop | with_reducible apply e_raise | with_reducible apply e_new | with_reducible apply e_newT | with_reducible apply e_par | with_reducible apply e_parNS | with_reducible apply e_asgT | with_reducible apply q_tup2 | with_reducible apply q_tup3 | with_reducible apply q_lst2 | with_reducible apply q_lst3 | with_reducible apply t_tup2 | with_reducible apply t_tup3 | with_reducible apply t_name | with_reducible apply e_ixO | with_reducible apply e_setS | with_reducible apply e_app | with_reducible apply e_melt | with_reducible apply e_setF | with_reducible apply e_fldO | with_reducible apply e_callM | with_reducible apply e_callO | with_reducible apply wpS | with_reducible apply stS | with_reducible apply mulV2_bd | with_reducible apply divV_pos | with_reducible apply modV_pos | with_reducible apply f1_of | with_reducible apply f2_of | ((with_reducible apply ite_T); first | (show _ = _; with_reducible assumption) | exact rfl | (apply decide_eq_true; omega)) | ((with_reducible apply ite_F); first | (show _ = _; with_reducible assumption) | exact rfl | (apply decide_eq_false; omega)) | exact rfl | decide | (show _ ∧ _; omega) | with_reducible exact bd_lit (by decide) (by decide) | with_reducible exact bd_mod (by decide) (by decide) (by decide) | with_reducible apply powV_nat | (show _ < _; omega) | (show _ ≤ _; omega) | (with_reducible apply fs0; assumption) | with_reducible apply fsS)
local macro_rules | `(tactic| ac_rfl) => `(tactic| repeat' (first | infer_instance | fail))
theorem mulV2_rep {n : Nat} (h : n ≤ 1000) : mulV2 (.str ("a" : Str)) (.int n) = some (.str (repS ("a" : Str) n)) := by
  unfold mulV2
  dsimp only
  rw [if_pos ⟨by omega, by omega, by decide⟩, Int.toNat_natCast]
theorem fast_ok {W : Val} {B C : Int} (tr : ∀ p ∈ [(0, (3 : Int)), (1, 0), (3, 6), (4, 18), (20, C), (80, B)], runV 3 b_trace_of [W, .str (repS ("a" : Str) p.1)] = .ok (.int p.2)) {u0 u1 u2 u3 u4 u5 u6 : Option SV} :
    binM eqV (listM c1_law) (lstM (consA (cstM (.int 3)) (consA (cstM (.int 0)) (consA (cstM (.int 6)) (consA (cstM (.int 18)) (consA (cstM (.int C)) (consA (cstM (.int B)) nilA))))))) [u0, u1, u2, u3, u4, u5, u6, zv W, none] = .ok (.bl true, [u0, u1, u2, u3, u4, u5, u6, zv W, none]) := by
  have wk : walkM wlkV (tupM (consA (cstM (.int 0)) (consA (cstM (.int 1)) (consA (cstM (.int 3)) (consA (cstM (.int 4)) (consA (cstM (.int 20)) (consA (cstM (.int 80)) nilA))))))) [u0, u1, u2, u3, u4, u5, u6, zv W, none] = .ok ([(0, (3 : Int)), (1, 0), (3, 6), (4, 18), (20, C), (80, B)].map fun p : Nat × Int => .int p.1, [u0, u1, u2, u3, u4, u5, u6, zv W, none]) :=
    e_walkT (ys := [.int 0, .int 1, .int 3, .int 4, .int 20, .int 80]) (e_tupM (e_consA e_cst (e_consA e_cst (e_consA e_cst (e_consA e_cst (e_consA e_cst (e_consA e_cst e_nilA)))))) (by show 6 ≤ sizeLine; decide))
  have c1 : listM c1_law [u0, u1, u2, u3, u4, u5, u6, zv W, none] = .ok (.lst ([3, 0, 6, 18, C, B].map .int), [u0, u1, u2, u3, u4, u5, u6, zv W, none]) := by
    refine e_listM (xs := [(0, (3 : Int)), (1, 0), (3, 6), (4, 18), (20, C), (80, B)].map fun p : Nat × Int => .int p.2) ?_ rfl
    refine e_comp (fun p : Nat × Int => .int p.1) _ (fun p => [u0, u1, u2, u3, u4, u5, u6, zv W, zi p.1]) [(0, (3 : Int)), (1, 0), (3, 6), (4, 18), (20, C), (80, B)] wk (by show 6 < 100000; decide) rfl rfl rfl fun p hp => ⟨rfl, ?_, rfl, rfl⟩
    have t := tr p hp
    have m80 : p.1 ≤ 80 := by
      simp only [List.mem_cons, List.not_mem_nil, or_false] at hp
      rcases hp with rfl | rfl | rfl | rfl | rfl | rfl <;> (dsimp only; omega)
    exact e_callM (e_consA (e_var rfl) (e_consA (e_bin e_cst (e_var rfl) (mulV2_rep (by omega))) e_nilA)) t
  have en := eqV_lst [3, 0, 6, 18, C, B] [3, 0, 6, 18, C, B]
  rw [decide_eq_true rfl] at en
  exact e_bin c1 (e_lstM (e_consA e_cst (e_consA e_cst (e_consA e_cst (e_consA e_cst (e_consA e_cst (e_consA e_cst e_nilA)))))) (by show 6 ≤ sizeLine; decide)) en
theorem law_math (ns : List Int) (hl : ns.length ≤ 63) (hb : ∀ z ∈ ns, Builtin.Int.intBits z ≤ 1048576) : ∃ ρ', b_law [some (.fz (.scr ns)), none, none, none, none, none, none, none, none] = .ok (.rt (.bl true) ρ') := by
  have h0 := cup0 hb
  have jm : newT 1 (callN 1 2 n__law_pen (consA (varM 0) nilA)) [zv (.scr ns), none, none, none, none, none, none, none, none] = .ok (.nx [zv (.scr ns), some (.ow false (CupV (ns.take 58) 0 0)), none, none, none, none, none, none, none]) :=
    e_newT (e_callN (e_consA (e_var rfl) e_nilA) rfl (pen_made ns hl)) rfl rfl rfl
  obtain ⟨ρ', k1, s1, u2, u3, u4, c1, f2, f3, f4, e⟩ := e_loopN (tg := nameT 2) (s := l2_law) 4
    (fun i ρ => ∃ s u2 u3 u4, Cup (420 * i) s ∧ Fr u2 ∧ Fr u3 ∧ Fr u4 ∧ ρ = [zv (.scr ns), some s, u2, u3, u4, none, none, none, none]) _ ⟨_, none, none, none, h0, .none, .none, .none, rfl⟩ fun i ρ hi ⟨s, u2, u3, u4, c, f2, f3, f4, e⟩ => by
      subst e
      obtain ⟨s', v3, v4, c', g3, g4, q⟩ := lap_ok c (by omega) f3 f4 (u0 := zv (.scr ns)) (u2 := zi i) (u5 := none) (u6 := none) (u7 := none) (u8 := none)
      exact ⟨_, _, t_name (fsS (fsS (fs0 f2))) rfl, q, s', _, v3, v4, by rw [show 420 * (i + 1) = 420 * i + 420 by omega]; exact c', .fz, g3, g4, rfl⟩
  subst e
  -- a great one
  obtain ⟨n, s2, n1, c2, e2⟩ := pick_of (L := [12, 9, 24, 7]) c1 (by decide) (by decide) (by decide)
  obtain ⟨b, s3, b1, c3, e3⟩ := pick_of (L := [3, 6, 4]) c2 (by decide) (by decide) (by decide)
  have n24 : 1 ≤ n ∧ n ≤ 24 := by
    simp only [List.mem_cons, List.not_mem_nil, or_false] at n1
    omega
  have b8 : 1 ≤ b ∧ b ≤ 8 := by
    simp only [List.mem_cons, List.not_mem_nil, or_false] at b1
    omega
  obtain ⟨ts, s4, e4, p4, c4⟩ := web_ok c3 (n := n) (sh := b) (by decide) (by omega) b8.1 (by omega)
  have t276 : ts.length ≤ 276 := Nat.le_trans p4.tl (tri_le n24.2)
  have ne : ∀ t ∈ ts, t.1 ≠ t.2.1 := fun t ht => by have := p4.ok.lt t ht; omega
  have c4' : Cup 2900 s4 := c4.le (by omega)
  have i0 := pw0 n ts
  have d2 : callO 1 2 2 b__law_pick (consA (lstM (consA (cstM (.int 12)) (consA (cstM (.int 9)) (consA (cstM (.int 24)) (consA (cstM (.int 7)) nilA))))) nilA) [zv (.scr ns), some s1, u2, u3, u4, none, none, none, none] = .ok (.int n, [zv (.scr ns), some s2, u2, u3, u4, none, none, none, none]) := by
    refine e2 rfl (ρ1 := [zv (.scr ns), some s1, u2, u3, u4, none, none, none, none]) ?_ rfl
    show _ = Rs.ok ([Val.lst [.int 12, .int 9, .int 24, .int 7]], _)
    ac_rfl
  have d3 : callO 1 2 2 b__law_pick (consA (lstM (consA (cstM (.int 3)) (consA (cstM (.int 6)) (consA (cstM (.int 4)) nilA)))) nilA) [zv (.scr ns), some s2, u2, u3, u4, none, none, none, none] = .ok (.int b, [zv (.scr ns), some s3, u2, u3, u4, none, none, none, none]) := by
    refine e3 rfl (ρ1 := [zv (.scr ns), some s2, u2, u3, u4, none, none, none, none]) ?_ rfl
    show _ = Rs.ok ([Val.lst [.int 3, .int 6, .int 4]], _)
    ac_rfl
  have d4 : callO 1 3 7 b__law_web (consA (callO 1 2 2 b__law_pick (consA (lstM (consA (cstM (.int 12)) (consA (cstM (.int 9)) (consA (cstM (.int 24)) (consA (cstM (.int 7)) nilA))))) nilA)) (consA (callO 1 2 2 b__law_pick (consA (lstM (consA (cstM (.int 3)) (consA (cstM (.int 6)) (consA (cstM (.int 4)) nilA)))) nilA)) nilA)) [zv (.scr ns), some s1, u2, u3, u4, none, none, none, none] = .ok (pwV n ts, [zv (.scr ns), some s4, u2, u3, u4, none, none, none, none]) :=
    e_callO rfl c1.own (e_consA d2 (e_consA d3 e_nilA)) rfl c3.own e4 rfl
  -- its word
  have ift : ∃ mx : Nat, 1 ≤ mx ∧ mx ≤ 30 ∧ ifM (tstM blV (binM ltV (binM ixV (varM 3) (cstM (.int 0))) (cstM (.int 10)))) (cstM (.int 30)) (cstM (.int 9)) [zv (.scr ns), some s4, u2, zv (pwV n ts), u4, none, none, none, none] = .ok (.int mx, [zv (.scr ns), some s4, u2, zv (pwV n ts), u4, none, none, none, none]) := by
    by_cases h : (n : Int) < 10
    · have lt : ltV (.int n) (.int 10) = some (.bl true) := by show some (Val.bl (decide _)) = _; rw [decide_eq_true h]
      exact ⟨30, by decide, by decide, e_ifMT (e_tst (e_bin (e_bin (e_var rfl) e_cst i0) e_cst lt) rfl) rfl e_cst⟩
    · have lt : ltV (.int n) (.int 10) = some (.bl false) := by show some (Val.bl (decide _)) = _; rw [decide_eq_false h]
      exact ⟨9, by decide, by decide, e_ifMF (e_tst (e_bin (e_bin (e_var rfl) e_cst i0) e_cst lt) rfl) rfl e_cst⟩
  obtain ⟨mx, mx1, mx2, eif⟩ := ift
  obtain ⟨m, s5, ml, c5, e5⟩ := e_draw (many := mx) c4' (by decide) mx1 (by omega)
  have d5 : callO 1 2 7 b__law_draw (consA (ifM (tstM blV (binM ltV (binM ixV (varM 3) (cstM (.int 0))) (cstM (.int 10)))) (cstM (.int 30)) (cstM (.int 9))) nilA) [zv (.scr ns), some s4, u2, zv (pwV n ts), u4, none, none, none, none] = .ok (.int m, [zv (.scr ns), some s5, u2, zv (pwV n ts), u4, none, none, none, none]) := e5 rfl (e_consA eif e_nilA) rfl
  obtain ⟨w, s6, e6, lw, c6⟩ := word_ok c5 (n := n) (m := 6 + m) (ts := ts) (by omega) (by omega) (by omega)
  have c6' : Cup 3100 s6 := c6.le (by omega)
  have d6 : callO 1 3 10 b__law_word (consA (varM 3) (consA (binM addV2 (cstM (.int 6)) (callO 1 2 7 b__law_draw (consA (ifM (tstM blV (binM ltV (binM ixV (varM 3) (cstM (.int 0))) (cstM (.int 10)))) (cstM (.int 30)) (cstM (.int 9))) nilA))) nilA)) [zv (.scr ns), some s4, u2, zv (pwV n ts), u4, none, none, none, none] = .ok (.str (strOf w), [zv (.scr ns), some s6, u2, zv (pwV n ts), u4, none, none, none, none]) :=
    e_callO rfl c4.own (e_consA (e_var rfl) (e_consA (e_bin e_cst d5 (addV2_nat 6 m)) e_nilA)) rfl c5.own e6 rfl
  obtain ⟨T, s7, e7, pm, okT, c7⟩ := made_ok c6' p4 n24.1 n24.2 (by omega)
  have d7 : callO 1 2 6 b__law_made (consA (varM 3) nilA) [zv (.scr ns), some s6, u2, zv (pwV n ts), u4, zs (strOf w), none, none, none] = .ok (webV n T, [zv (.scr ns), some s7, u2, zv (pwV n ts), u4, zs (strOf w), none, none, none]) := e_callO rfl c6.own (e_consA (e_var rfl) e_nilA) rfl c6.own e7 rfl
  have w80 : w.length ≤ 80 := by omega
  have tw := trace_W pm okT n24.2 w w80
  have lt := v_law_trace n24.2 p4.ok w w80
  have tl := trace_lt n24.2 (ts := ts) (by omega) ne w80
  obtain ⟨rt, rto, rte⟩ := reprV_int (i := (traceN (nb ts) n w : Nat)) (.nat (Nat.lt_trans tl (Nat.pow_lt_pow_right (by decide) (by decide))))
  have er := neV_same rto
  -- the triangle
  obtain ⟨T3, w3, pm3, ok3⟩ : ∃ T3, meltM (makeM 10 3 6 b_Web___init__ (consA (cstM (.int 3)) (consA (lstM (consA (tupM (consA (cstM (.int 0)) (consA (cstM (.int 1)) (consA (cstM (.str ("a" : Str))) nilA)))) (consA (tupM (consA (cstM (.int 1)) (consA (cstM (.int 2)) (consA (cstM (.str ("a" : Str))) nilA)))) (consA (tupM (consA (cstM (.int 0)) (consA (cstM (.int 2)) (consA (cstM (.str ("a" : Str))) nilA)))) nilA)))) nilA))) [zv (.scr ns), some s7, u2, zv (pwV n ts), u4, zs (strOf w), zv (webV n T), none, none] = .ok (webV 3 T3, [zv (.scr ns), some s7, u2, zv (pwV n ts), u4, zs (strOf w), zv (webV n T), none, none]) ∧ T3.Perm triT ∧ TiesOk 3 T3 := by
    have ok : RawOk 3 [(false, 0, 1, 0), (false, 1, 2, 0), (false, 0, 2, 0)] := ⟨by decide, by decide, by decide, by decide⟩
    refine ⟨_, e_Web (n := 3) (rs := [(false, 0, 1, 0), (false, 1, 2, 0), (false, 0, 2, 0)]) (.inl rfl) ok (by decide) (by decide) ?_, sortT_perm _, raw_ties ok⟩
    show _ = Rs.ok ([Val.int 3, .lst [.tup [.int 0, .int 1, .str ("a" : Str)], .tup [.int 1, .int 2, .str ("a" : Str)], .tup [.int 0, .int 2, .str ("a" : Str)]]], _)
    ac_rfl
  have fa := fast_ok (tri_trace pm3 ok3) (u0 := zv (.scr ns)) (u1 := some s7) (u2 := u2) (u3 := zv (pwV n ts)) (u4 := u4) (u5 := zs (strOf w)) (u6 := zv (webV n T))
  refine ⟨[zv (.scr ns), some s7, u2, zv (pwV n ts), u4, zs (strOf w), zv (webV n T), zv (webV 3 T3), none], ?_⟩
  unfold b_law
  apply e_seq jm
  apply e_seq
  · exact e_forS (e_rngN (n := 4) (e_consA e_cst e_nilA) (by decide)) k1
  apply e_seq
  · exact e_asg d4 (fsS (fsS (fsS (fs0 f3)))) rfl
  apply e_seq
  · exact e_asg d6 rfl rfl
  apply e_seq
  · exact e_asg d7 rfl rfl
  apply e_seq
  · exact e_ifF (e_tst (e_bin (e_cbM (e_consA (e_callM (e_consA (e_var rfl) (e_consA (e_var rfl) e_nilA)) tw) e_nilA) rte) (e_cbM (e_consA (e_callM (e_consA (e_var rfl) (e_consA (e_var rfl) e_nilA)) lt) e_nilA) rte) er) rfl) rfl e_next
  apply e_seq
  · exact e_asg w3 rfl rfl
  exact e_ret fa
end Y

set_option Elab.async false
set_option linter.all false
set_option maxRecDepth 100000
set_option maxHeartbeats 4000000
set_option autoImplicit false
namespace Y
open PySem PySem.Spec PyProof.Rows L2 Z
theorem law_at {l : PySem.W.OpenLaw} {w : World} {K : PySem.W.Frag} {h : Heap} {mg : Str → Option Value} {fa : Addr} {D_Web : Addr} {f_is_integer : Addr} {od_is_integer an_is_integer : Option Addr} {sl_is_integer : Array (Option Value)} {oc_is_integer kV_is_integer dc_is_integer pm_is_integer ct_is_integer : Value} {cd_is_integer : Value} {f_is_within : Addr} {od_is_within an_is_within : Option Addr} {sl_is_within : Array (Option Value)} {oc_is_within kV_is_within dc_is_within pm_is_within ct_is_within : Value} {cd_is_within : Value} {f_fixed : Addr} {od_fixed an_fixed : Option Addr} {sl_fixed : Array (Option Value)} {oc_fixed kV_fixed dc_fixed pm_fixed ct_fixed : Value} {cd_fixed : Value} {f__key : Addr} {od__key an__key : Option Addr} {sl__key : Array (Option Value)} {oc__key kV__key dc__key pm__key ct__key : Value} {cd__key : Value} {f_first_twice : Addr} {od_first_twice an_first_twice : Option Addr} {sl_first_twice : Array (Option Value)} {oc_first_twice kV_first_twice dc_first_twice pm_first_twice ct_first_twice : Value} {cd_first_twice : Value} {f_is_colour : Addr} {od_is_colour an_is_colour : Option Addr} {sl_is_colour : Array (Option Value)} {oc_is_colour kV_is_colour dc_is_colour pm_is_colour ct_is_colour : Value} {cd_is_colour : Value} {f_need_colour : Addr} {od_need_colour an_need_colour : Option Addr} {sl_need_colour : Array (Option Value)} {oc_need_colour kV_need_colour dc_need_colour pm_need_colour ct_need_colour : Value} {cd_need_colour : Value} {f_need_place : Addr} {od_need_place an_need_place : Option Addr} {sl_need_place : Array (Option Value)} {oc_need_place kV_need_place dc_need_place pm_need_place ct_need_place : Value} {cd_need_place : Value} {f__is_triple : Addr} {od__is_triple an__is_triple : Option Addr} {sl__is_triple : Array (Option Value)} {oc__is_triple kV__is_triple dc__is_triple pm__is_triple ct__is_triple : Value} {cd__is_triple : Value} {f__need_ties : Addr} {od__need_ties an__need_ties : Option Addr} {sl__need_ties : Array (Option Value)} {oc__need_ties kV__need_ties dc__need_ties pm__need_ties ct__need_ties : Value} {cd__need_ties : Value} {f__neighbours : Addr} {od__neighbours an__neighbours : Option Addr} {sl__neighbours : Array (Option Value)} {oc__neighbours kV__neighbours dc__neighbours pm__neighbours ct__neighbours : Value} {cd__neighbours : Value} {f__parts : Addr} {od__parts an__parts : Option Addr} {sl__parts : Array (Option Value)} {oc__parts kV__parts dc__parts pm__parts ct__parts : Value} {cd__parts : Value} {f_Web___init__ : Addr} {od_Web___init__ an_Web___init__ : Option Addr} {sl_Web___init__ : Array (Option Value)} {oc_Web___init__ kV_Web___init__ dc_Web___init__ pm_Web___init__ ct_Web___init__ : Value} {cd_Web___init__ : Value} {f_Web_neighbours : Addr} {od_Web_neighbours an_Web_neighbours : Option Addr} {sl_Web_neighbours : Array (Option Value)} {oc_Web_neighbours kV_Web_neighbours dc_Web_neighbours pm_Web_neighbours ct_Web_neighbours : Value} {cd_Web_neighbours : Value} {f_Web_degree : Addr} {od_Web_degree an_Web_degree : Option Addr} {sl_Web_degree : Array (Option Value)} {oc_Web_degree kV_Web_degree dc_Web_degree pm_Web_degree ct_Web_degree : Value} {cd_Web_degree : Value} {f_put_ahead : Addr} {od_put_ahead an_put_ahead : Option Addr} {sl_put_ahead : Array (Option Value)} {oc_put_ahead kV_put_ahead dc_put_ahead pm_put_ahead ct_put_ahead : Value} {cd_put_ahead : Value} {f_word_ahead : Addr} {od_word_ahead an_word_ahead : Option Addr} {sl_word_ahead : Array (Option Value)} {oc_word_ahead kV_word_ahead dc_word_ahead pm_word_ahead ct_word_ahead : Value} {cd_word_ahead : Value} {f_column_of : Addr} {od_column_of an_column_of : Option Addr} {sl_column_of : Array (Option Value)} {oc_column_of kV_column_of dc_column_of pm_column_of ct_column_of : Value} {cd_column_of : Value} {f_unit_columns : Addr} {od_unit_columns an_unit_columns : Option Addr} {sl_unit_columns : Array (Option Value)} {oc_unit_columns kV_unit_columns dc_unit_columns pm_unit_columns ct_unit_columns : Value} {cd_unit_columns : Value} {f_diagonal_of : Addr} {od_diagonal_of an_diagonal_of : Option Addr} {sl_diagonal_of : Array (Option Value)} {oc_diagonal_of kV_diagonal_of dc_diagonal_of pm_diagonal_of ct_diagonal_of : Value} {cd_diagonal_of : Value} {f_need_web : Addr} {od_need_web an_need_web : Option Addr} {sl_need_web : Array (Option Value)} {oc_need_web kV_need_web dc_need_web pm_need_web ct_need_web : Value} {cd_need_web : Value} {f_is_word : Addr} {od_is_word an_is_word : Option Addr} {sl_is_word : Array (Option Value)} {oc_is_word kV_is_word dc_is_word pm_is_word ct_is_word : Value} {cd_is_word : Value} {f_need_word : Addr} {od_need_word an_need_word : Option Addr} {sl_need_word : Array (Option Value)} {oc_need_word kV_need_word dc_need_word pm_need_word ct_need_word : Value} {cd_need_word : Value} {f__need_web_and_word : Addr} {od__need_web_and_word an__need_web_and_word : Option Addr} {sl__need_web_and_word : Array (Option Value)} {oc__need_web_and_word kV__need_web_and_word dc__need_web_and_word pm__need_web_and_word ct__need_web_and_word : Value} {cd__need_web_and_word : Value} {f_sum_of : Addr} {od_sum_of an_sum_of : Option Addr} {sl_sum_of : Array (Option Value)} {oc_sum_of kV_sum_of dc_sum_of pm_sum_of ct_sum_of : Value} {cd_sum_of : Value} {f_trace_of : Addr} {od_trace_of an_trace_of : Option Addr} {sl_trace_of : Array (Option Value)} {oc_trace_of kV_trace_of dc_trace_of pm_trace_of ct_trace_of : Value} {cd_trace_of : Value} {f_walks : Addr} {od_walks an_walks : Option Addr} {sl_walks : Array (Option Value)} {oc_walks kV_walks dc_walks pm_walks ct_walks : Value} {cd_walks : Value} {f__law_pen : Addr} {od__law_pen an__law_pen : Option Addr} {sl__law_pen : Array (Option Value)} {oc__law_pen kV__law_pen dc__law_pen pm__law_pen ct__law_pen : Value} {cd__law_pen : Value} {f__law_draw : Addr} {od__law_draw an__law_draw : Option Addr} {sl__law_draw : Array (Option Value)} {oc__law_draw kV__law_draw dc__law_draw pm__law_draw ct__law_draw : Value} {cd__law_draw : Value} {f__law_pick : Addr} {od__law_pick an__law_pick : Option Addr} {sl__law_pick : Array (Option Value)} {oc__law_pick kV__law_pick dc__law_pick pm__law_pick ct__law_pick : Value} {cd__law_pick : Value} {f__law_web : Addr} {od__law_web an__law_web : Option Addr} {sl__law_web : Array (Option Value)} {oc__law_web kV__law_web dc__law_web pm__law_web ct__law_web : Value} {cd__law_web : Value} {f__law_word : Addr} {od__law_word an__law_word : Option Addr} {sl__law_word : Array (Option Value)} {oc__law_word kV__law_word dc__law_word pm__law_word ct__law_word : Value} {cd__law_word : Value} {f__law_near : Addr} {od__law_near an__law_near : Option Addr} {sl__law_near : Array (Option Value)} {oc__law_near kV__law_near dc__law_near pm__law_near ct__law_near : Value} {cd__law_near : Value} {f__law_ends : Addr} {od__law_ends an__law_ends : Option Addr} {sl__law_ends : Array (Option Value)} {oc__law_ends kV__law_ends dc__law_ends pm__law_ends ct__law_ends : Value} {cd__law_ends : Value} {f__law_nears : Addr} {od__law_nears an__law_nears : Option Addr} {sl__law_nears : Array (Option Value)} {oc__law_nears kV__law_nears dc__law_nears pm__law_nears ct__law_nears : Value} {cd__law_nears : Value} {f__law_column : Addr} {od__law_column an__law_column : Option Addr} {sl__law_column : Array (Option Value)} {oc__law_column kV__law_column dc__law_column pm__law_column ct__law_column : Value} {cd__law_column : Value} {f__law_made : Addr} {od__law_made an__law_made : Option Addr} {sl__law_made : Array (Option Value)} {oc__law_made kV__law_made dc__law_made pm__law_made ct__law_made : Value} {cd__law_made : Value} {f__law_trace : Addr} {od__law_trace an__law_trace : Option Addr} {sl__law_trace : Array (Option Value)} {oc__law_trace kV__law_trace dc__law_trace pm__law_trace ct__law_trace : Value} {cd__law_trace : Value} {f__law_listed_right : Addr} {od__law_listed_right an__law_listed_right : Option Addr} {sl__law_listed_right : Array (Option Value)} {oc__law_listed_right kV__law_listed_right dc__law_listed_right pm__law_listed_right ct__law_listed_right : Value} {cd__law_listed_right : Value} {f_law : Addr} {od_law an_law : Option Addr} {sl_law : Array (Option Value)} {oc_law kV_law dc_law pm_law ct_law : Value} {cd_law : Value} {t_MOST_PLACES : Tok} {t_MOST_LETTERS : Tok} {a_COLOURS : Addr} {dd_COLOURS : Option Addr} {iv_COLOURS : Array Value} {nn_COLOURS : Nat} {ss_COLOURS : Array (Option Value)} {a_LETTERS : Addr} {dd_LETTERS : Option Addr} {iv_LETTERS : Array Value} {nn_LETTERS : Nat} {ss_LETTERS : Array (Option Value)} (X : K.In h) (G : h.Ns mainGlobals mg) (hfa : mg "law" = some (.ref fa))
    (aC_Web : PySem.W.nsIn K mainGlobals "Web" = some (some (.ref D_Web)))
    (ax_is_integer : PySem.W.nsIn K mainGlobals "is_integer" = some (some (.ref f_is_integer)))
    (lx_is_integer : K.lookup f_is_integer = some ⟨oc_is_integer, od_is_integer, .func (PySem.W.fnOf "is_integer" "is_integer" (defArgs s_is_integer) (defBody s_is_integer) (defScope s_is_integer) .none kV_is_integer dc_is_integer pm_is_integer an_is_integer cd_is_integer ct_is_integer), sl_is_integer⟩)
    (cx_is_integer : PySem.W.codeIn K cd_is_integer "is_integer" = true)
    (kx_is_integer : PySem.W.keepIn K (.ref f_is_integer) = true)
    (ax_is_within : PySem.W.nsIn K mainGlobals "is_within" = some (some (.ref f_is_within)))
    (lx_is_within : K.lookup f_is_within = some ⟨oc_is_within, od_is_within, .func (PySem.W.fnOf "is_within" "is_within" (defArgs s_is_within) (defBody s_is_within) (defScope s_is_within) .none kV_is_within dc_is_within pm_is_within an_is_within cd_is_within ct_is_within), sl_is_within⟩)
    (cx_is_within : PySem.W.codeIn K cd_is_within "is_within" = true)
    (kx_is_within : PySem.W.keepIn K (.ref f_is_within) = true)
    (ax_fixed : PySem.W.nsIn K mainGlobals "fixed" = some (some (.ref f_fixed)))
    (lx_fixed : K.lookup f_fixed = some ⟨oc_fixed, od_fixed, .func (PySem.W.fnOf "fixed" "fixed" (defArgs s_fixed) (defBody s_fixed) (defScope s_fixed) .none kV_fixed dc_fixed pm_fixed an_fixed cd_fixed ct_fixed), sl_fixed⟩)
    (cx_fixed : PySem.W.codeIn K cd_fixed "fixed" = true)
    (kx_fixed : PySem.W.keepIn K (.ref f_fixed) = true)
    (ax__key : PySem.W.nsIn K mainGlobals "_key" = some (some (.ref f__key)))
    (lx__key : K.lookup f__key = some ⟨oc__key, od__key, .func (PySem.W.fnOf "_key" "_key" (defArgs s__key) (defBody s__key) (defScope s__key) .none kV__key dc__key pm__key an__key cd__key ct__key), sl__key⟩)
    (cx__key : PySem.W.codeIn K cd__key "_key" = true)
    (kx__key : PySem.W.keepIn K (.ref f__key) = true)
    (ax_first_twice : PySem.W.nsIn K mainGlobals "first_twice" = some (some (.ref f_first_twice)))
    (lx_first_twice : K.lookup f_first_twice = some ⟨oc_first_twice, od_first_twice, .func (PySem.W.fnOf "first_twice" "first_twice" (defArgs s_first_twice) (defBody s_first_twice) (defScope s_first_twice) .none kV_first_twice dc_first_twice pm_first_twice an_first_twice cd_first_twice ct_first_twice), sl_first_twice⟩)
    (cx_first_twice : PySem.W.codeIn K cd_first_twice "first_twice" = true)
    (kx_first_twice : PySem.W.keepIn K (.ref f_first_twice) = true)
    (ax_is_colour : PySem.W.nsIn K mainGlobals "is_colour" = some (some (.ref f_is_colour)))
    (lx_is_colour : K.lookup f_is_colour = some ⟨oc_is_colour, od_is_colour, .func (PySem.W.fnOf "is_colour" "is_colour" (defArgs s_is_colour) (defBody s_is_colour) (defScope s_is_colour) .none kV_is_colour dc_is_colour pm_is_colour an_is_colour cd_is_colour ct_is_colour), sl_is_colour⟩)
    (cx_is_colour : PySem.W.codeIn K cd_is_colour "is_colour" = true)
    (kx_is_colour : PySem.W.keepIn K (.ref f_is_colour) = true)
    (ax_need_colour : PySem.W.nsIn K mainGlobals "need_colour" = some (some (.ref f_need_colour)))
    (lx_need_colour : K.lookup f_need_colour = some ⟨oc_need_colour, od_need_colour, .func (PySem.W.fnOf "need_colour" "need_colour" (defArgs s_need_colour) (defBody s_need_colour) (defScope s_need_colour) .none kV_need_colour dc_need_colour pm_need_colour an_need_colour cd_need_colour ct_need_colour), sl_need_colour⟩)
    (cx_need_colour : PySem.W.codeIn K cd_need_colour "need_colour" = true)
    (kx_need_colour : PySem.W.keepIn K (.ref f_need_colour) = true)
    (ax_need_place : PySem.W.nsIn K mainGlobals "need_place" = some (some (.ref f_need_place)))
    (lx_need_place : K.lookup f_need_place = some ⟨oc_need_place, od_need_place, .func (PySem.W.fnOf "need_place" "need_place" (defArgs s_need_place) (defBody s_need_place) (defScope s_need_place) .none kV_need_place dc_need_place pm_need_place an_need_place cd_need_place ct_need_place), sl_need_place⟩)
    (cx_need_place : PySem.W.codeIn K cd_need_place "need_place" = true)
    (kx_need_place : PySem.W.keepIn K (.ref f_need_place) = true)
    (ax__is_triple : PySem.W.nsIn K mainGlobals "_is_triple" = some (some (.ref f__is_triple)))
    (lx__is_triple : K.lookup f__is_triple = some ⟨oc__is_triple, od__is_triple, .func (PySem.W.fnOf "_is_triple" "_is_triple" (defArgs s__is_triple) (defBody s__is_triple) (defScope s__is_triple) .none kV__is_triple dc__is_triple pm__is_triple an__is_triple cd__is_triple ct__is_triple), sl__is_triple⟩)
    (cx__is_triple : PySem.W.codeIn K cd__is_triple "_is_triple" = true)
    (kx__is_triple : PySem.W.keepIn K (.ref f__is_triple) = true)
    (ax__need_ties : PySem.W.nsIn K mainGlobals "_need_ties" = some (some (.ref f__need_ties)))
    (lx__need_ties : K.lookup f__need_ties = some ⟨oc__need_ties, od__need_ties, .func (PySem.W.fnOf "_need_ties" "_need_ties" (defArgs s__need_ties) (defBody s__need_ties) (defScope s__need_ties) .none kV__need_ties dc__need_ties pm__need_ties an__need_ties cd__need_ties ct__need_ties), sl__need_ties⟩)
    (cx__need_ties : PySem.W.codeIn K cd__need_ties "_need_ties" = true)
    (kx__need_ties : PySem.W.keepIn K (.ref f__need_ties) = true)
    (ax__neighbours : PySem.W.nsIn K mainGlobals "_neighbours" = some (some (.ref f__neighbours)))
    (lx__neighbours : K.lookup f__neighbours = some ⟨oc__neighbours, od__neighbours, .func (PySem.W.fnOf "_neighbours" "_neighbours" (defArgs s__neighbours) (defBody s__neighbours) (defScope s__neighbours) .none kV__neighbours dc__neighbours pm__neighbours an__neighbours cd__neighbours ct__neighbours), sl__neighbours⟩)
    (cx__neighbours : PySem.W.codeIn K cd__neighbours "_neighbours" = true)
    (kx__neighbours : PySem.W.keepIn K (.ref f__neighbours) = true)
    (ax__parts : PySem.W.nsIn K mainGlobals "_parts" = some (some (.ref f__parts)))
    (lx__parts : K.lookup f__parts = some ⟨oc__parts, od__parts, .func (PySem.W.fnOf "_parts" "_parts" (defArgs s__parts) (defBody s__parts) (defScope s__parts) .none kV__parts dc__parts pm__parts an__parts cd__parts ct__parts), sl__parts⟩)
    (cx__parts : PySem.W.codeIn K cd__parts "_parts" = true)
    (kx__parts : PySem.W.keepIn K (.ref f__parts) = true)
    (ax_Web___init__ : PySem.W.findIn K (.ref D_Web) "__init__" = some (some (.ref f_Web___init__)))
    (fx_Web___init__ : PySem.W.isFn K (.ref f_Web___init__) = true)
    (lx_Web___init__ : K.lookup f_Web___init__ = some ⟨oc_Web___init__, od_Web___init__, .func (PySem.W.fnOf "__init__" "Web.__init__" (defArgs s_Web___init__) (defBody s_Web___init__) (defScope s_Web___init__) .none kV_Web___init__ dc_Web___init__ pm_Web___init__ an_Web___init__ cd_Web___init__ ct_Web___init__), sl_Web___init__⟩)
    (cx_Web___init__ : PySem.W.codeIn K cd_Web___init__ "Web.__init__" = true)
    (kx_Web___init__ : PySem.W.keepIn K (.ref f_Web___init__) = true)
    (ax_Web_neighbours : PySem.W.findIn K (.ref D_Web) "neighbours" = some (some (.ref f_Web_neighbours)))
    (fx_Web_neighbours : PySem.W.isFn K (.ref f_Web_neighbours) = true)
    (lx_Web_neighbours : K.lookup f_Web_neighbours = some ⟨oc_Web_neighbours, od_Web_neighbours, .func (PySem.W.fnOf "neighbours" "Web.neighbours" (defArgs s_Web_neighbours) (defBody s_Web_neighbours) (defScope s_Web_neighbours) .none kV_Web_neighbours dc_Web_neighbours pm_Web_neighbours an_Web_neighbours cd_Web_neighbours ct_Web_neighbours), sl_Web_neighbours⟩)
    (cx_Web_neighbours : PySem.W.codeIn K cd_Web_neighbours "Web.neighbours" = true)
    (kx_Web_neighbours : PySem.W.keepIn K (.ref f_Web_neighbours) = true)
    (ax_Web_degree : PySem.W.findIn K (.ref D_Web) "degree" = some (some (.ref f_Web_degree)))
    (fx_Web_degree : PySem.W.isFn K (.ref f_Web_degree) = true)
    (lx_Web_degree : K.lookup f_Web_degree = some ⟨oc_Web_degree, od_Web_degree, .func (PySem.W.fnOf "degree" "Web.degree" (defArgs s_Web_degree) (defBody s_Web_degree) (defScope s_Web_degree) .none kV_Web_degree dc_Web_degree pm_Web_degree an_Web_degree cd_Web_degree ct_Web_degree), sl_Web_degree⟩)
    (cx_Web_degree : PySem.W.codeIn K cd_Web_degree "Web.degree" = true)
    (kx_Web_degree : PySem.W.keepIn K (.ref f_Web_degree) = true)
    (ax_put_ahead : PySem.W.nsIn K mainGlobals "put_ahead" = some (some (.ref f_put_ahead)))
    (lx_put_ahead : K.lookup f_put_ahead = some ⟨oc_put_ahead, od_put_ahead, .func (PySem.W.fnOf "put_ahead" "put_ahead" (defArgs s_put_ahead) (defBody s_put_ahead) (defScope s_put_ahead) .none kV_put_ahead dc_put_ahead pm_put_ahead an_put_ahead cd_put_ahead ct_put_ahead), sl_put_ahead⟩)
    (cx_put_ahead : PySem.W.codeIn K cd_put_ahead "put_ahead" = true)
    (kx_put_ahead : PySem.W.keepIn K (.ref f_put_ahead) = true)
    (ax_word_ahead : PySem.W.nsIn K mainGlobals "word_ahead" = some (some (.ref f_word_ahead)))
    (lx_word_ahead : K.lookup f_word_ahead = some ⟨oc_word_ahead, od_word_ahead, .func (PySem.W.fnOf "word_ahead" "word_ahead" (defArgs s_word_ahead) (defBody s_word_ahead) (defScope s_word_ahead) .none kV_word_ahead dc_word_ahead pm_word_ahead an_word_ahead cd_word_ahead ct_word_ahead), sl_word_ahead⟩)
    (cx_word_ahead : PySem.W.codeIn K cd_word_ahead "word_ahead" = true)
    (kx_word_ahead : PySem.W.keepIn K (.ref f_word_ahead) = true)
    (ax_column_of : PySem.W.nsIn K mainGlobals "column_of" = some (some (.ref f_column_of)))
    (lx_column_of : K.lookup f_column_of = some ⟨oc_column_of, od_column_of, .func (PySem.W.fnOf "column_of" "column_of" (defArgs s_column_of) (defBody s_column_of) (defScope s_column_of) .none kV_column_of dc_column_of pm_column_of an_column_of cd_column_of ct_column_of), sl_column_of⟩)
    (cx_column_of : PySem.W.codeIn K cd_column_of "column_of" = true)
    (kx_column_of : PySem.W.keepIn K (.ref f_column_of) = true)
    (ax_unit_columns : PySem.W.nsIn K mainGlobals "unit_columns" = some (some (.ref f_unit_columns)))
    (lx_unit_columns : K.lookup f_unit_columns = some ⟨oc_unit_columns, od_unit_columns, .func (PySem.W.fnOf "unit_columns" "unit_columns" (defArgs s_unit_columns) (defBody s_unit_columns) (defScope s_unit_columns) .none kV_unit_columns dc_unit_columns pm_unit_columns an_unit_columns cd_unit_columns ct_unit_columns), sl_unit_columns⟩)
    (cx_unit_columns : PySem.W.codeIn K cd_unit_columns "unit_columns" = true)
    (kx_unit_columns : PySem.W.keepIn K (.ref f_unit_columns) = true)
    (ax_diagonal_of : PySem.W.nsIn K mainGlobals "diagonal_of" = some (some (.ref f_diagonal_of)))
    (lx_diagonal_of : K.lookup f_diagonal_of = some ⟨oc_diagonal_of, od_diagonal_of, .func (PySem.W.fnOf "diagonal_of" "diagonal_of" (defArgs s_diagonal_of) (defBody s_diagonal_of) (defScope s_diagonal_of) .none kV_diagonal_of dc_diagonal_of pm_diagonal_of an_diagonal_of cd_diagonal_of ct_diagonal_of), sl_diagonal_of⟩)
    (cx_diagonal_of : PySem.W.codeIn K cd_diagonal_of "diagonal_of" = true)
    (kx_diagonal_of : PySem.W.keepIn K (.ref f_diagonal_of) = true)
    (ax_need_web : PySem.W.nsIn K mainGlobals "need_web" = some (some (.ref f_need_web)))
    (lx_need_web : K.lookup f_need_web = some ⟨oc_need_web, od_need_web, .func (PySem.W.fnOf "need_web" "need_web" (defArgs s_need_web) (defBody s_need_web) (defScope s_need_web) .none kV_need_web dc_need_web pm_need_web an_need_web cd_need_web ct_need_web), sl_need_web⟩)
    (cx_need_web : PySem.W.codeIn K cd_need_web "need_web" = true)
    (kx_need_web : PySem.W.keepIn K (.ref f_need_web) = true)
    (ax_is_word : PySem.W.nsIn K mainGlobals "is_word" = some (some (.ref f_is_word)))
    (lx_is_word : K.lookup f_is_word = some ⟨oc_is_word, od_is_word, .func (PySem.W.fnOf "is_word" "is_word" (defArgs s_is_word) (defBody s_is_word) (defScope s_is_word) .none kV_is_word dc_is_word pm_is_word an_is_word cd_is_word ct_is_word), sl_is_word⟩)
    (cx_is_word : PySem.W.codeIn K cd_is_word "is_word" = true)
    (kx_is_word : PySem.W.keepIn K (.ref f_is_word) = true)
    (ax_need_word : PySem.W.nsIn K mainGlobals "need_word" = some (some (.ref f_need_word)))
    (lx_need_word : K.lookup f_need_word = some ⟨oc_need_word, od_need_word, .func (PySem.W.fnOf "need_word" "need_word" (defArgs s_need_word) (defBody s_need_word) (defScope s_need_word) .none kV_need_word dc_need_word pm_need_word an_need_word cd_need_word ct_need_word), sl_need_word⟩)
    (cx_need_word : PySem.W.codeIn K cd_need_word "need_word" = true)
    (kx_need_word : PySem.W.keepIn K (.ref f_need_word) = true)
    (ax__need_web_and_word : PySem.W.nsIn K mainGlobals "_need_web_and_word" = some (some (.ref f__need_web_and_word)))
    (lx__need_web_and_word : K.lookup f__need_web_and_word = some ⟨oc__need_web_and_word, od__need_web_and_word, .func (PySem.W.fnOf "_need_web_and_word" "_need_web_and_word" (defArgs s__need_web_and_word) (defBody s__need_web_and_word) (defScope s__need_web_and_word) .none kV__need_web_and_word dc__need_web_and_word pm__need_web_and_word an__need_web_and_word cd__need_web_and_word ct__need_web_and_word), sl__need_web_and_word⟩)
    (cx__need_web_and_word : PySem.W.codeIn K cd__need_web_and_word "_need_web_and_word" = true)
    (kx__need_web_and_word : PySem.W.keepIn K (.ref f__need_web_and_word) = true)
    (ax_sum_of : PySem.W.nsIn K mainGlobals "sum_of" = some (some (.ref f_sum_of)))
    (lx_sum_of : K.lookup f_sum_of = some ⟨oc_sum_of, od_sum_of, .func (PySem.W.fnOf "sum_of" "sum_of" (defArgs s_sum_of) (defBody s_sum_of) (defScope s_sum_of) .none kV_sum_of dc_sum_of pm_sum_of an_sum_of cd_sum_of ct_sum_of), sl_sum_of⟩)
    (cx_sum_of : PySem.W.codeIn K cd_sum_of "sum_of" = true)
    (kx_sum_of : PySem.W.keepIn K (.ref f_sum_of) = true)
    (ax_trace_of : PySem.W.nsIn K mainGlobals "trace_of" = some (some (.ref f_trace_of)))
    (lx_trace_of : K.lookup f_trace_of = some ⟨oc_trace_of, od_trace_of, .func (PySem.W.fnOf "trace_of" "trace_of" (defArgs s_trace_of) (defBody s_trace_of) (defScope s_trace_of) .none kV_trace_of dc_trace_of pm_trace_of an_trace_of cd_trace_of ct_trace_of), sl_trace_of⟩)
    (cx_trace_of : PySem.W.codeIn K cd_trace_of "trace_of" = true)
    (kx_trace_of : PySem.W.keepIn K (.ref f_trace_of) = true)
    (ax_walks : PySem.W.nsIn K mainGlobals "walks" = some (some (.ref f_walks)))
    (lx_walks : K.lookup f_walks = some ⟨oc_walks, od_walks, .func (PySem.W.fnOf "walks" "walks" (defArgs s_walks) (defBody s_walks) (defScope s_walks) .none kV_walks dc_walks pm_walks an_walks cd_walks ct_walks), sl_walks⟩)
    (cx_walks : PySem.W.codeIn K cd_walks "walks" = true)
    (kx_walks : PySem.W.keepIn K (.ref f_walks) = true)
    (ax__law_pen : PySem.W.nsIn K mainGlobals "_law_pen" = some (some (.ref f__law_pen)))
    (lx__law_pen : K.lookup f__law_pen = some ⟨oc__law_pen, od__law_pen, .func (PySem.W.fnOf "_law_pen" "_law_pen" (defArgs s__law_pen) (defBody s__law_pen) (defScope s__law_pen) .none kV__law_pen dc__law_pen pm__law_pen an__law_pen cd__law_pen ct__law_pen), sl__law_pen⟩)
    (cx__law_pen : PySem.W.codeIn K cd__law_pen "_law_pen" = true)
    (kx__law_pen : PySem.W.keepIn K (.ref f__law_pen) = true)
    (ax__law_draw : PySem.W.nsIn K mainGlobals "_law_draw" = some (some (.ref f__law_draw)))
    (lx__law_draw : K.lookup f__law_draw = some ⟨oc__law_draw, od__law_draw, .func (PySem.W.fnOf "_law_draw" "_law_draw" (defArgs s__law_draw) (defBody s__law_draw) (defScope s__law_draw) .none kV__law_draw dc__law_draw pm__law_draw an__law_draw cd__law_draw ct__law_draw), sl__law_draw⟩)
    (cx__law_draw : PySem.W.codeIn K cd__law_draw "_law_draw" = true)
    (kx__law_draw : PySem.W.keepIn K (.ref f__law_draw) = true)
    (ax__law_pick : PySem.W.nsIn K mainGlobals "_law_pick" = some (some (.ref f__law_pick)))
    (lx__law_pick : K.lookup f__law_pick = some ⟨oc__law_pick, od__law_pick, .func (PySem.W.fnOf "_law_pick" "_law_pick" (defArgs s__law_pick) (defBody s__law_pick) (defScope s__law_pick) .none kV__law_pick dc__law_pick pm__law_pick an__law_pick cd__law_pick ct__law_pick), sl__law_pick⟩)
    (cx__law_pick : PySem.W.codeIn K cd__law_pick "_law_pick" = true)
    (kx__law_pick : PySem.W.keepIn K (.ref f__law_pick) = true)
    (ax__law_web : PySem.W.nsIn K mainGlobals "_law_web" = some (some (.ref f__law_web)))
    (lx__law_web : K.lookup f__law_web = some ⟨oc__law_web, od__law_web, .func (PySem.W.fnOf "_law_web" "_law_web" (defArgs s__law_web) (defBody s__law_web) (defScope s__law_web) .none kV__law_web dc__law_web pm__law_web an__law_web cd__law_web ct__law_web), sl__law_web⟩)
    (cx__law_web : PySem.W.codeIn K cd__law_web "_law_web" = true)
    (kx__law_web : PySem.W.keepIn K (.ref f__law_web) = true)
    (ax__law_word : PySem.W.nsIn K mainGlobals "_law_word" = some (some (.ref f__law_word)))
    (lx__law_word : K.lookup f__law_word = some ⟨oc__law_word, od__law_word, .func (PySem.W.fnOf "_law_word" "_law_word" (defArgs s__law_word) (defBody s__law_word) (defScope s__law_word) .none kV__law_word dc__law_word pm__law_word an__law_word cd__law_word ct__law_word), sl__law_word⟩)
    (cx__law_word : PySem.W.codeIn K cd__law_word "_law_word" = true)
    (kx__law_word : PySem.W.keepIn K (.ref f__law_word) = true)
    (ax__law_near : PySem.W.nsIn K mainGlobals "_law_near" = some (some (.ref f__law_near)))
    (lx__law_near : K.lookup f__law_near = some ⟨oc__law_near, od__law_near, .func (PySem.W.fnOf "_law_near" "_law_near" (defArgs s__law_near) (defBody s__law_near) (defScope s__law_near) .none kV__law_near dc__law_near pm__law_near an__law_near cd__law_near ct__law_near), sl__law_near⟩)
    (cx__law_near : PySem.W.codeIn K cd__law_near "_law_near" = true)
    (kx__law_near : PySem.W.keepIn K (.ref f__law_near) = true)
    (ax__law_ends : PySem.W.nsIn K mainGlobals "_law_ends" = some (some (.ref f__law_ends)))
    (lx__law_ends : K.lookup f__law_ends = some ⟨oc__law_ends, od__law_ends, .func (PySem.W.fnOf "_law_ends" "_law_ends" (defArgs s__law_ends) (defBody s__law_ends) (defScope s__law_ends) .none kV__law_ends dc__law_ends pm__law_ends an__law_ends cd__law_ends ct__law_ends), sl__law_ends⟩)
    (cx__law_ends : PySem.W.codeIn K cd__law_ends "_law_ends" = true)
    (kx__law_ends : PySem.W.keepIn K (.ref f__law_ends) = true)
    (ax__law_nears : PySem.W.nsIn K mainGlobals "_law_nears" = some (some (.ref f__law_nears)))
    (lx__law_nears : K.lookup f__law_nears = some ⟨oc__law_nears, od__law_nears, .func (PySem.W.fnOf "_law_nears" "_law_nears" (defArgs s__law_nears) (defBody s__law_nears) (defScope s__law_nears) .none kV__law_nears dc__law_nears pm__law_nears an__law_nears cd__law_nears ct__law_nears), sl__law_nears⟩)
    (cx__law_nears : PySem.W.codeIn K cd__law_nears "_law_nears" = true)
    (kx__law_nears : PySem.W.keepIn K (.ref f__law_nears) = true)
    (ax__law_column : PySem.W.nsIn K mainGlobals "_law_column" = some (some (.ref f__law_column)))
    (lx__law_column : K.lookup f__law_column = some ⟨oc__law_column, od__law_column, .func (PySem.W.fnOf "_law_column" "_law_column" (defArgs s__law_column) (defBody s__law_column) (defScope s__law_column) .none kV__law_column dc__law_column pm__law_column an__law_column cd__law_column ct__law_column), sl__law_column⟩)
    (cx__law_column : PySem.W.codeIn K cd__law_column "_law_column" = true)
    (kx__law_column : PySem.W.keepIn K (.ref f__law_column) = true)
    (ax__law_made : PySem.W.nsIn K mainGlobals "_law_made" = some (some (.ref f__law_made)))
    (lx__law_made : K.lookup f__law_made = some ⟨oc__law_made, od__law_made, .func (PySem.W.fnOf "_law_made" "_law_made" (defArgs s__law_made) (defBody s__law_made) (defScope s__law_made) .none kV__law_made dc__law_made pm__law_made an__law_made cd__law_made ct__law_made), sl__law_made⟩)
    (cx__law_made : PySem.W.codeIn K cd__law_made "_law_made" = true)
    (kx__law_made : PySem.W.keepIn K (.ref f__law_made) = true)
    (ax__law_trace : PySem.W.nsIn K mainGlobals "_law_trace" = some (some (.ref f__law_trace)))
    (lx__law_trace : K.lookup f__law_trace = some ⟨oc__law_trace, od__law_trace, .func (PySem.W.fnOf "_law_trace" "_law_trace" (defArgs s__law_trace) (defBody s__law_trace) (defScope s__law_trace) .none kV__law_trace dc__law_trace pm__law_trace an__law_trace cd__law_trace ct__law_trace), sl__law_trace⟩)
    (cx__law_trace : PySem.W.codeIn K cd__law_trace "_law_trace" = true)
    (kx__law_trace : PySem.W.keepIn K (.ref f__law_trace) = true)
    (ax__law_listed_right : PySem.W.nsIn K mainGlobals "_law_listed_right" = some (some (.ref f__law_listed_right)))
    (lx__law_listed_right : K.lookup f__law_listed_right = some ⟨oc__law_listed_right, od__law_listed_right, .func (PySem.W.fnOf "_law_listed_right" "_law_listed_right" (defArgs s__law_listed_right) (defBody s__law_listed_right) (defScope s__law_listed_right) .none kV__law_listed_right dc__law_listed_right pm__law_listed_right an__law_listed_right cd__law_listed_right ct__law_listed_right), sl__law_listed_right⟩)
    (cx__law_listed_right : PySem.W.codeIn K cd__law_listed_right "_law_listed_right" = true)
    (kx__law_listed_right : PySem.W.keepIn K (.ref f__law_listed_right) = true)
    (ax_law : PySem.W.nsIn K mainGlobals "law" = some (some (.ref f_law)))
    (lx_law : K.lookup f_law = some ⟨oc_law, od_law, .func (PySem.W.fnOf "law" "law" (defArgs s_law) (defBody s_law) (defScope s_law) .none kV_law dc_law pm_law an_law cd_law ct_law), sl_law⟩)
    (cx_law : PySem.W.codeIn K cd_law "law" = true)
    (kx_law : PySem.W.keepIn K (.ref f_law) = true)
    (pg_Web : PySem.W.plainGet K D_Web Str.empty = true)
    (hd_Web : PySem.W.hasDictIn K D_Web = true)
    (po_Web : PySem.W.plainOver K D_Web = true)
    (sa_Web : PySem.W.findIn K (.ref D_Web) "__setattr__" = some (some (.builtin "object.__setattr__")))
    (kc_Web : PySem.W.keepIn K (.ref D_Web) = true)
    (na_Web_places : PySem.W.findIn K (.ref D_Web) "places" = some none)
    (na_Web_ties : PySem.W.findIn K (.ref D_Web) "ties" = some none)
    (na_Web_parts : PySem.W.findIn K (.ref D_Web) "parts" = some none)
    (na_Web__near : PySem.W.findIn K (.ref D_Web) "_near" = some none)
    (ca_Web : PySem.W.findIn K (.ref D_Web) "__class__" = some (some (.builtin "object.__class__")))
    (hn_Web : PySem.W.specialIn K (.builtin "object.__class__") "__get__" = some (some (.builtin "getset_descriptor.__get__")))
    (ht_Web : PySem.W.takesIn K (.builtin "object.__class__") = some true)
    (hm_Web : PySem.W.mroIn K D_Web (.type "object") = some true)
    (kk_Web : PySem.W.kitOne K (.ref D_Web) (.ref D_Web) = some true)
    (mk_Web : PySem.W.makesIn K D_Web = true)
    (z_int : PySem.W.nsIn K mainGlobals "int" = some none)
    (z_isinstance : PySem.W.nsIn K mainGlobals "isinstance" = some none)
    (z_bool : PySem.W.nsIn K mainGlobals "bool" = some none)
    (z_list : PySem.W.nsIn K mainGlobals "list" = some none)
    (z_tuple : PySem.W.nsIn K mainGlobals "tuple" = some none)
    (z_str : PySem.W.nsIn K mainGlobals "str" = some none)
    (z_len : PySem.W.nsIn K mainGlobals "len" = some none)
    (z_all : PySem.W.nsIn K mainGlobals "all" = some none)
    (z_min : PySem.W.nsIn K mainGlobals "min" = some none)
    (z_max : PySem.W.nsIn K mainGlobals "max" = some none)
    (z_range : PySem.W.nsIn K mainGlobals "range" = some none)
    (z_sorted : PySem.W.nsIn K mainGlobals "sorted" = some none)
    (z_set : PySem.W.nsIn K mainGlobals "set" = some none)
    (z_sum : PySem.W.nsIn K mainGlobals "sum" = some none)
    (z_reversed : PySem.W.nsIn K mainGlobals "reversed" = some none)
    (z_enumerate : PySem.W.nsIn K mainGlobals "enumerate" = some none)
    (z_abs : PySem.W.nsIn K mainGlobals "abs" = some none)
    (z_zip : PySem.W.nsIn K mainGlobals "zip" = some none)
    (z_repr : PySem.W.nsIn K mainGlobals "repr" = some none)
    (nx_MOST_PLACES : PySem.W.nsIn K mainGlobals "MOST_PLACES" = some (some (.int 24 t_MOST_PLACES)))
    (nx_MOST_LETTERS : PySem.W.nsIn K mainGlobals "MOST_LETTERS" = some (some (.int 80 t_MOST_LETTERS)))
    (nx_COLOURS : PySem.W.nsIn K mainGlobals "COLOURS" = some (some (.ref a_COLOURS)))
    (tx_COLOURS : K.lookup a_COLOURS = some ⟨.type "tuple", dd_COLOURS, .seq iv_COLOURS nn_COLOURS, ss_COLOURS⟩)
    (vx_COLOURS : Vals (([("a" : Str), ("b" : Str), ("c" : Str), ("d" : Str)] : List Str).map V.str) iv_COLOURS.toList)
    (wx_COLOURS : iv_COLOURS.size ≤ 1000)
    (nx_LETTERS : PySem.W.nsIn K mainGlobals "LETTERS" = some (some (.ref a_LETTERS)))
    (tx_LETTERS : K.lookup a_LETTERS = some ⟨.type "tuple", dd_LETTERS, .seq iv_LETTERS nn_LETTERS, ss_LETTERS⟩)
    (vx_LETTERS : Vals (([("a" : Str), ("b" : Str), ("c" : Str), ("d" : Str), ("A" : Str), ("B" : Str), ("C" : Str), ("D" : Str)] : List Str).map V.str) iv_LETTERS.toList)
    (wx_LETTERS : iv_LETTERS.size ≤ 1000) :
    LawAtG l w K 13 63 "script" mg fa h := by
  have e := hfa.symm.trans (PySem.W.mg_of X G ax_law)
  cases e
  have g_int : mg "int" = none := PySem.W.mg_none_of X G z_int
  have g_isinstance : mg "isinstance" = none := PySem.W.mg_none_of X G z_isinstance
  have g_bool : mg "bool" = none := PySem.W.mg_none_of X G z_bool
  have g_list : mg "list" = none := PySem.W.mg_none_of X G z_list
  have g_tuple : mg "tuple" = none := PySem.W.mg_none_of X G z_tuple
  have g_str : mg "str" = none := PySem.W.mg_none_of X G z_str
  have g_len : mg "len" = none := PySem.W.mg_none_of X G z_len
  have g_all : mg "all" = none := PySem.W.mg_none_of X G z_all
  have g_min : mg "min" = none := PySem.W.mg_none_of X G z_min
  have g_max : mg "max" = none := PySem.W.mg_none_of X G z_max
  have g_range : mg "range" = none := PySem.W.mg_none_of X G z_range
  have g_sorted : mg "sorted" = none := PySem.W.mg_none_of X G z_sorted
  have g_set : mg "set" = none := PySem.W.mg_none_of X G z_set
  have g_sum : mg "sum" = none := PySem.W.mg_none_of X G z_sum
  have g_reversed : mg "reversed" = none := PySem.W.mg_none_of X G z_reversed
  have g_enumerate : mg "enumerate" = none := PySem.W.mg_none_of X G z_enumerate
  have g_abs : mg "abs" = none := PySem.W.mg_none_of X G z_abs
  have g_zip : mg "zip" = none := PySem.W.mg_none_of X G z_zip
  have g_repr : mg "repr" = none := PySem.W.mg_none_of X G z_repr
  have n_MOST_PLACES : ∃ t, mg "MOST_PLACES" = some (.int 24 t) := ⟨_, PySem.W.mg_of X G nx_MOST_PLACES⟩
  have n_MOST_LETTERS : ∃ t, mg "MOST_LETTERS" = some (.int 80 t) := ⟨_, PySem.W.mg_of X G nx_MOST_LETTERS⟩
  have n_COLOURS : ∃ a, mg "COLOURS" = some (.ref a) ∧ Z.KT K a (([("a" : Str), ("b" : Str), ("c" : Str), ("d" : Str)] : List Str).map V.str) := ⟨_, PySem.W.mg_of X G nx_COLOURS, _, _, _, tx_COLOURS, rfl, rfl, Nat.le_trans wx_COLOURS (by decide), vx_COLOURS⟩
  have n_LETTERS : ∃ a, mg "LETTERS" = some (.ref a) ∧ Z.KT K a (([("a" : Str), ("b" : Str), ("c" : Str), ("d" : Str), ("A" : Str), ("B" : Str), ("C" : Str), ("D" : Str)] : List Str).map V.str) := ⟨_, PySem.W.mg_of X G nx_LETTERS, _, _, _, tx_LETTERS, rfl, rfl, Nat.le_trans wx_LETTERS (by decide), vx_LETTERS⟩
  refine ⟨PySem.W.fnOf "law" "law" (defArgs s_law) (defBody s_law) (defScope s_law) .none kV_law dc_law pm_law an_law cd_law ct_law, [], spF ({ K := K, ca := fun n => match n with | 10 => D_Web | _ => D_Web, wa := fun _ => .non, T := [] } : Cn) 1 9 b_law, ?_, ?_, ?_, fun s v => .of_eq rfl, ?_, ?_⟩
  · exact fun _ z => nomatch z
  · exact fun _ z => nomatch z
  · exact fun _ z => nomatch z
  · intro H a ns hl hb hT hS
    obtain ⟨ρ', e⟩ := law_math ns hl hb
    refine ⟨fun _ => True, [some (.fz (.scr ns))], fun _ _ => trivial, ?_, rfl, by decide, env_fz (vs := [.ref a]) (xs := [.scr ns]) (reps_cons (rep_scr.mpr ⟨a, rfl, ?_⟩) reps_nil), fun i s h o => ?_, ?_⟩
    · exact fun _ z => nomatch z
    · rcases hS with z | z
      · exact .inl ⟨trivial, z⟩
      · exact .inr z
    · cases i with
      | zero => cases h; cases o
      | succ i => cases h
    · show (finM (b_law [some (.fz (.scr ns)), none, none, none, none, none, none, none, none])).wp _ _
      unfold finM
      rw [e]
      exact fun v H' _ r => rep_bl.mp r
  · intro base KX GX TX
    let C : Cn := ({ K := K, ca := fun n => match n with | 10 => D_Web | _ => D_Web, wa := fun _ => .non, T := [] } : Cn)
    have cl_Web : Cls K D_Web := ⟨pg_Web, hd_Web, po_Web, sa_Web⟩
    have nn_Web : ∀ f ∈ (["places", "ties", "parts", "_near"] : List Str), NoAttr K D_Web f := fun f hf => by
      simp only [List.mem_cons, List.not_mem_nil, or_false] at hf
      rcases hf with rfl | rfl | rfl | rfl
      · exact na_Web_places
      · exact na_Web_ties
      · exact na_Web_parts
      · exact na_Web__near
    have k_Web : ClsF C mg "Web" 10 ["places", "ties", "parts", "_near"] := ⟨PySem.W.mg_of X G aC_Web, cl_Web, nn_Web, ⟨cl_Web, ca_Web, hn_Web, ht_Web, hm_Web, kk_Web⟩⟩
    have F_is_integer := fun_mk (st := s_is_integer) lx_is_integer cx_is_integer kx_is_integer
    have d_is_integer : Df l.prog w C mg base "is_integer" 3 ["value"] [] (spF C 1 1 b_is_integer) := ⟨f_is_integer, _, (ok_is_integer (C := C) F_is_integer (g_int := g_int) (g_isinstance := g_isinstance) (g_bool := g_bool)), PySem.W.mg_of X G ax_is_integer, kx_is_integer, F_is_integer.binds (ps := ["value"]) fun _ _ _ _ _ _ us hl => match us, hl with | [_], _ => rfl, fun _ z => nomatch z⟩
    have F_is_within := fun_mk (st := s_is_within) lx_is_within cx_is_within kx_is_within
    have d_is_within : Df l.prog w C mg base "is_within" 4 ["value", "least", "most"] [] (spF C 3 3 b_is_within) := ⟨f_is_within, _, (ok_is_within (C := C) F_is_within (d_is_integer := d_is_integer)), PySem.W.mg_of X G ax_is_within, kx_is_within, F_is_within.binds (ps := ["value", "least", "most"]) fun _ _ _ _ _ _ us hl => match us, hl with | [_, _, _], _ => rfl, fun _ z => nomatch z⟩
    have F_fixed := fun_mk (st := s_fixed) lx_fixed cx_fixed kx_fixed
    have d_fixed : Df l.prog w C mg base "fixed" 6 ["value"] [] (spF C 1 2 b_fixed) := ⟨f_fixed, _, (ok_fixed (C := C) F_fixed (g_list := g_list) (g_tuple := g_tuple) (g_isinstance := g_isinstance) (mgf := PySem.W.mg_of X G ax_fixed) (kp := kx_fixed) (bd := F_fixed.binds (ps := ["value"]) fun _ _ _ _ _ _ us hl => match us, hl with | [_], _ => rfl) (d := 4)), PySem.W.mg_of X G ax_fixed, kx_fixed, F_fixed.binds (ps := ["value"]) fun _ _ _ _ _ _ us hl => match us, hl with | [_], _ => rfl, fun _ z => nomatch z⟩
    have F__key := fun_mk (st := s__key) lx__key cx__key kx__key
    have d__key : Df l.prog w C mg base "_key" 3 ["value"] [] (spKey C) := ⟨f__key, _, (ok__key (C := C) F__key (g_int := g_int) (g_str := g_str) (g_isinstance := g_isinstance) (g_tuple := g_tuple)), PySem.W.mg_of X G ax__key, kx__key, F__key.binds (ps := ["value"]) fun _ _ _ _ _ _ us hl => match us, hl with | [_], _ => rfl, fun _ z => nomatch z⟩
    have F_first_twice := fun_mk (st := s_first_twice) lx_first_twice cx_first_twice kx_first_twice
    have d_first_twice : Df l.prog w C mg base "first_twice" 7 ["values"] [] (spF C 1 4 b_first_twice) := ⟨f_first_twice, _, (ok_first_twice (C := C) F_first_twice d_fixed d__key), PySem.W.mg_of X G ax_first_twice, kx_first_twice, F_first_twice.binds (ps := ["values"]) fun _ _ _ _ _ _ us hl => match us, hl with | [_], _ => rfl, fun _ z => nomatch z⟩
    have F_is_colour := fun_mk (st := s_is_colour) lx_is_colour cx_is_colour kx_is_colour
    have d_is_colour : Df l.prog w C mg base "is_colour" 3 ["value"] [] (spF C 1 1 b_is_colour) := ⟨f_is_colour, _, (ok_is_colour (C := C) F_is_colour (n_COLOURS := n_COLOURS) (g_str := g_str) (g_isinstance := g_isinstance)), PySem.W.mg_of X G ax_is_colour, kx_is_colour, F_is_colour.binds (ps := ["value"]) fun _ _ _ _ _ _ us hl => match us, hl with | [_], _ => rfl, fun _ z => nomatch z⟩
    have F_need_colour := fun_mk (st := s_need_colour) lx_need_colour cx_need_colour kx_need_colour
    have d_need_colour : Df l.prog w C mg base "need_colour" 4 ["value", "part"] [] (spF C 2 2 b_need_colour) := ⟨f_need_colour, _, (ok_need_colour (C := C) F_need_colour (d_is_colour := d_is_colour)), PySem.W.mg_of X G ax_need_colour, kx_need_colour, F_need_colour.binds (ps := ["value", "part"]) fun _ _ _ _ _ _ us hl => match us, hl with | [_, _], _ => rfl, fun _ z => nomatch z⟩
    have F_need_place := fun_mk (st := s_need_place) lx_need_place cx_need_place kx_need_place
    have d_need_place : Df l.prog w C mg base "need_place" 5 ["value", "places"] [] (spF C 2 2 b_need_place) := ⟨f_need_place, _, (ok_need_place (C := C) F_need_place (d_is_within := d_is_within)), PySem.W.mg_of X G ax_need_place, kx_need_place, F_need_place.binds (ps := ["value", "places"]) fun _ _ _ _ _ _ us hl => match us, hl with | [_, _], _ => rfl, fun _ z => nomatch z⟩
    have F__is_triple := fun_mk (st := s__is_triple) lx__is_triple cx__is_triple kx__is_triple
    have d__is_triple : Df l.prog w C mg base "_is_triple" 4 ["value"] [] (spF C 1 1 b__is_triple) := ⟨f__is_triple, _, (ok__is_triple (C := C) F__is_triple (g_list := g_list) (g_tuple := g_tuple) (g_isinstance := g_isinstance) (g_len := g_len) (d_is_integer := d_is_integer) (d_is_colour := d_is_colour)), PySem.W.mg_of X G ax__is_triple, kx__is_triple, F__is_triple.binds (ps := ["value"]) fun _ _ _ _ _ _ us hl => match us, hl with | [_], _ => rfl, fun _ z => nomatch z⟩
    have F__need_ties := fun_mk (st := s__need_ties) lx__need_ties cx__need_ties kx__need_ties
    have d__need_ties : Df l.prog w C mg base "_need_ties" 8 ["places", "ties"] [] (spF C 2 7 b__need_ties) := ⟨f__need_ties, _, (ok__need_ties (C := C) F__need_ties (g_list := g_list) (g_tuple := g_tuple) (g_isinstance := g_isinstance) (g_all := g_all) (g_min := g_min) (g_max := g_max) (d__is_triple := d__is_triple) (d_need_place := d_need_place) (d_first_twice := d_first_twice)), PySem.W.mg_of X G ax__need_ties, kx__need_ties, F__need_ties.binds (ps := ["places", "ties"]) fun _ _ _ _ _ _ us hl => match us, hl with | [_, _], _ => rfl, fun _ z => nomatch z⟩
    have F__neighbours := fun_mk (st := s__neighbours) lx__neighbours cx__neighbours kx__neighbours
    have d__neighbours : Df l.prog w C mg base "_neighbours" 3 ["places", "ties"] [] (spF C 2 8 b__neighbours) := ⟨f__neighbours, _, (ok__neighbours (C := C) F__neighbours (n_COLOURS := n_COLOURS) (g_range := g_range) (g_sorted := g_sorted) (g_tuple := g_tuple)), PySem.W.mg_of X G ax__neighbours, kx__neighbours, F__neighbours.binds (ps := ["places", "ties"]) fun _ _ _ _ _ _ us hl => match us, hl with | [_, _], _ => rfl, fun _ z => nomatch z⟩
    have F__parts := fun_mk (st := s__parts) lx__parts cx__parts kx__parts
    have d__parts : Df l.prog w C mg base "_parts" 3 ["places", "ties"] [] (spF C 2 10 b__parts) := ⟨f__parts, _, (ok__parts (C := C) F__parts (g_list := g_list) (g_range := g_range) (g_min := g_min) (g_max := g_max) (g_sorted := g_sorted) (g_set := g_set) (g_tuple := g_tuple)), PySem.W.mg_of X G ax__parts, kx__parts, F__parts.binds (ps := ["places", "ties"]) fun _ _ _ _ _ _ us hl => match us, hl with | [_, _], _ => rfl, fun _ z => nomatch z⟩
    have F_Web___init__ := fun_mk (st := s_Web___init__) lx_Web___init__ cx_Web___init__ kx_Web___init__
    have d_Web___init__ : DfI l.prog w C mg base 10 9 ["self", "places", "ties"] (spF C 3 6 b_Web___init__) := ⟨f_Web___init__, _, (ok_Web___init__ (C := C) F_Web___init__ (n_MOST_PLACES := n_MOST_PLACES) (k_Web := k_Web) (g_min := g_min) (g_max := g_max) (g_sorted := g_sorted) (g_tuple := g_tuple) (d_is_within := d_is_within) (d__need_ties := d__need_ties) (d__parts := d__parts) (d__neighbours := d__neighbours)), F_Web___init__.binds (ps := ["self", "places", "ties"]) fun _ _ _ _ _ _ us hl => match us, hl with | [_, _, _], _ => rfl, ⟨mk_Web, ax_Web___init__, fx_Web___init__, kc_Web⟩⟩
    have F_Web_neighbours := fun_mk (st := s_Web_neighbours) lx_Web_neighbours cx_Web_neighbours kx_Web_neighbours
    have d_Web_neighbours : DfM l.prog w C mg base 10 "neighbours" 6 ["self", "place", "colour"] (spF C 3 3 b_Web_neighbours) := ⟨f_Web_neighbours, _, (ok_Web_neighbours (C := C) F_Web_neighbours (k_Web := k_Web) (d_need_place := d_need_place) (d_need_colour := d_need_colour)), F_Web_neighbours.binds (ps := ["self", "place", "colour"]) fun _ _ _ _ _ _ us hl => match us, hl with | [_, _, _], _ => rfl, ⟨ax_Web_neighbours, fx_Web_neighbours, kx_Web_neighbours⟩⟩
    have F_Web_degree := fun_mk (st := s_Web_degree) lx_Web_degree cx_Web_degree kx_Web_degree
    have d_Web_degree : DfM l.prog w C mg base 10 "degree" 7 ["self", "place", "colour"] (spF C 3 3 b_Web_degree) := ⟨f_Web_degree, _, (ok_Web_degree (C := C) F_Web_degree (k_Web := k_Web) (g_len := g_len) (d_Web_neighbours := d_Web_neighbours)), F_Web_degree.binds (ps := ["self", "place", "colour"]) fun _ _ _ _ _ _ us hl => match us, hl with | [_, _, _], _ => rfl, ⟨ax_Web_degree, fx_Web_degree, kx_Web_degree⟩⟩
    have F_put_ahead := fun_mk (st := s_put_ahead) lx_put_ahead cx_put_ahead kx_put_ahead
    have d_put_ahead : Df l.prog w C mg base "put_ahead" 8 ["web", "letter", "column"] [] (spF C 3 7 b_put_ahead) := ⟨f_put_ahead, _, (ok_put_ahead (C := C) F_put_ahead (k_Web := k_Web) (g_range := g_range) (g_sum := g_sum) (d_Web_neighbours := d_Web_neighbours) (d_Web_degree := d_Web_degree)), PySem.W.mg_of X G ax_put_ahead, kx_put_ahead, F_put_ahead.binds (ps := ["web", "letter", "column"]) fun _ _ _ _ _ _ us hl => match us, hl with | [_, _, _], _ => rfl, fun _ z => nomatch z⟩
    have F_word_ahead := fun_mk (st := s_word_ahead) lx_word_ahead cx_word_ahead kx_word_ahead
    have d_word_ahead : Df l.prog w C mg base "word_ahead" 9 ["web", "word", "column"] [] (spF C 3 4 b_word_ahead) := ⟨f_word_ahead, _, (ok_word_ahead (C := C) F_word_ahead (g_reversed := g_reversed) (d_put_ahead := d_put_ahead)), PySem.W.mg_of X G ax_word_ahead, kx_word_ahead, F_word_ahead.binds (ps := ["web", "word", "column"]) fun _ _ _ _ _ _ us hl => match us, hl with | [_, _, _], _ => rfl, fun _ z => nomatch z⟩
    have F_column_of := fun_mk (st := s_column_of) lx_column_of cx_column_of kx_column_of
    have d_column_of : Df l.prog w C mg base "column_of" 10 ["web", "word"] [] (spF C 2 2 b_column_of) := ⟨f_column_of, _, (ok_column_of (C := C) F_column_of (k_Web := k_Web) (d_word_ahead := d_word_ahead)), PySem.W.mg_of X G ax_column_of, kx_column_of, F_column_of.binds (ps := ["web", "word"]) fun _ _ _ _ _ _ us hl => match us, hl with | [_, _], _ => rfl, fun _ z => nomatch z⟩
    have F_unit_columns := fun_mk (st := s_unit_columns) lx_unit_columns cx_unit_columns kx_unit_columns
    have d_unit_columns : Df l.prog w C mg base "unit_columns" 3 ["places"] [] (spF C 1 3 b_unit_columns) := ⟨f_unit_columns, _, (ok_unit_columns (C := C) F_unit_columns (g_range := g_range) (g_int := g_int)), PySem.W.mg_of X G ax_unit_columns, kx_unit_columns, F_unit_columns.binds (ps := ["places"]) fun _ _ _ _ _ _ us hl => match us, hl with | [_], _ => rfl, fun _ z => nomatch z⟩
    have F_diagonal_of := fun_mk (st := s_diagonal_of) lx_diagonal_of cx_diagonal_of kx_diagonal_of
    have d_diagonal_of : Df l.prog w C mg base "diagonal_of" 3 ["columns"] [] (spF C 1 3 b_diagonal_of) := ⟨f_diagonal_of, _, (ok_diagonal_of (C := C) F_diagonal_of (g_enumerate := g_enumerate) (g_sum := g_sum)), PySem.W.mg_of X G ax_diagonal_of, kx_diagonal_of, F_diagonal_of.binds (ps := ["columns"]) fun _ _ _ _ _ _ us hl => match us, hl with | [_], _ => rfl, fun _ z => nomatch z⟩
    have F_need_web := fun_mk (st := s_need_web) lx_need_web cx_need_web kx_need_web
    have d_need_web : Df l.prog w C mg base "need_web" 3 ["value", "part"] [] (spF C 2 2 b_need_web) := ⟨f_need_web, _, (ok_need_web (C := C) F_need_web (k_Web := k_Web) (g_isinstance := g_isinstance)), PySem.W.mg_of X G ax_need_web, kx_need_web, F_need_web.binds (ps := ["value", "part"]) fun _ _ _ _ _ _ us hl => match us, hl with | [_, _], _ => rfl, fun _ z => nomatch z⟩
    have F_is_word := fun_mk (st := s_is_word) lx_is_word cx_is_word kx_is_word
    have d_is_word : Df l.prog w C mg base "is_word" 3 ["value"] [] (spF C 1 2 b_is_word) := ⟨f_is_word, _, (ok_is_word (C := C) F_is_word (n_MOST_LETTERS := n_MOST_LETTERS) (n_LETTERS := n_LETTERS) (g_str := g_str) (g_isinstance := g_isinstance) (g_len := g_len) (g_all := g_all)), PySem.W.mg_of X G ax_is_word, kx_is_word, F_is_word.binds (ps := ["value"]) fun _ _ _ _ _ _ us hl => match us, hl with | [_], _ => rfl, fun _ z => nomatch z⟩
    have F_need_word := fun_mk (st := s_need_word) lx_need_word cx_need_word kx_need_word
    have d_need_word : Df l.prog w C mg base "need_word" 4 ["value"] [] (spF C 1 1 b_need_word) := ⟨f_need_word, _, (ok_need_word (C := C) F_need_word (d_is_word := d_is_word)), PySem.W.mg_of X G ax_need_word, kx_need_word, F_need_word.binds (ps := ["value"]) fun _ _ _ _ _ _ us hl => match us, hl with | [_], _ => rfl, fun _ z => nomatch z⟩
    have F__need_web_and_word := fun_mk (st := s__need_web_and_word) lx__need_web_and_word cx__need_web_and_word kx__need_web_and_word
    have d__need_web_and_word : Df l.prog w C mg base "_need_web_and_word" 5 ["web", "word"] [] (spF C 2 2 b__need_web_and_word) := ⟨f__need_web_and_word, _, (ok__need_web_and_word (C := C) F__need_web_and_word (d_need_web := d_need_web) (d_need_word := d_need_word)), PySem.W.mg_of X G ax__need_web_and_word, kx__need_web_and_word, F__need_web_and_word.binds (ps := ["web", "word"]) fun _ _ _ _ _ _ us hl => match us, hl with | [_, _], _ => rfl, fun _ z => nomatch z⟩
    have F_sum_of := fun_mk (st := s_sum_of) lx_sum_of cx_sum_of kx_sum_of
    have d_sum_of : Df l.prog w C mg base "sum_of" 11 ["web", "word"] [] (spF C 2 2 b_sum_of) := ⟨f_sum_of, _, (ok_sum_of (C := C) F_sum_of (g_sum := g_sum) (d__need_web_and_word := d__need_web_and_word) (d_column_of := d_column_of)), PySem.W.mg_of X G ax_sum_of, kx_sum_of, F_sum_of.binds (ps := ["web", "word"]) fun _ _ _ _ _ _ us hl => match us, hl with | [_, _], _ => rfl, fun _ z => nomatch z⟩
    have F_trace_of := fun_mk (st := s_trace_of) lx_trace_of cx_trace_of kx_trace_of
    have d_trace_of : Df l.prog w C mg base "trace_of" 10 ["web", "word"] [(["word", "web"], [1, 0])] (spF C 2 3 b_trace_of) := ⟨f_trace_of, _, (ok_trace_of (C := C) F_trace_of (k_Web := k_Web) (d__need_web_and_word := d__need_web_and_word) (d_diagonal_of := d_diagonal_of) (d_unit_columns := d_unit_columns) (d_word_ahead := d_word_ahead)), PySem.W.mg_of X G ax_trace_of, kx_trace_of, F_trace_of.binds (ps := ["web", "word"]) fun _ _ _ _ _ _ us hl => match us, hl with | [_, _], _ => rfl, fun q hq s ws _ hl => by
      simp only [List.mem_cons, List.not_mem_nil, or_false] at hq
      rcases hq with rfl
      all_goals exact match ws, hl with | [_, _], _ => .of_eq rfl⟩
    have F_walks := fun_mk (st := s_walks) lx_walks cx_walks kx_walks
    have d_walks : Df l.prog w C mg base "walks" 11 ["web", "word", "place"] [] (spF C 3 3 b_walks) := ⟨f_walks, _, (ok_walks (C := C) F_walks (k_Web := k_Web) (d__need_web_and_word := d__need_web_and_word) (d_need_place := d_need_place) (d_column_of := d_column_of)), PySem.W.mg_of X G ax_walks, kx_walks, F_walks.binds (ps := ["web", "word", "place"]) fun _ _ _ _ _ _ us hl => match us, hl with | [_, _, _], _ => rfl, fun _ z => nomatch z⟩
    have F__law_pen := fun_mk (st := s__law_pen) lx__law_pen cx__law_pen kx__law_pen
    have d__law_pen : Df l.prog w C mg base "_law_pen" 3 ["script"] [] (spN C 1 2 n__law_pen) := ⟨f__law_pen, _, (ok__law_pen (C := C) F__law_pen (g_int := g_int)), PySem.W.mg_of X G ax__law_pen, kx__law_pen, F__law_pen.binds (ps := ["script"]) fun _ _ _ _ _ _ us hl => match us, hl with | [_], _ => rfl, fun _ z => nomatch z⟩
    have F__law_draw := fun_mk (st := s__law_draw) lx__law_draw cx__law_draw kx__law_draw
    have d__law_draw : Df l.prog w C mg base "_law_draw" 3 ["pen", "many"] [] (spF C 2 7 b__law_draw) := ⟨f__law_draw, _, (ok__law_draw (C := C) F__law_draw (g_int := g_int) (g_len := g_len) (g_abs := g_abs)), PySem.W.mg_of X G ax__law_draw, kx__law_draw, F__law_draw.binds (ps := ["pen", "many"]) fun _ _ _ _ _ _ us hl => match us, hl with | [_, _], _ => rfl, fun _ z => nomatch z⟩
    have F__law_pick := fun_mk (st := s__law_pick) lx__law_pick cx__law_pick kx__law_pick
    have d__law_pick : Df l.prog w C mg base "_law_pick" 4 ["pen", "some"] [] (spF C 2 2 b__law_pick) := ⟨f__law_pick, _, (ok__law_pick (C := C) F__law_pick (g_len := g_len) (d__law_draw := d__law_draw)), PySem.W.mg_of X G ax__law_pick, kx__law_pick, F__law_pick.binds (ps := ["pen", "some"]) fun _ _ _ _ _ _ us hl => match us, hl with | [_, _], _ => rfl, fun _ z => nomatch z⟩
    have F__law_web := fun_mk (st := s__law_web) lx__law_web cx__law_web kx__law_web
    have d__law_web : Df l.prog w C mg base "_law_web" 5 ["pen", "places", "share"] [] (spF C 3 7 b__law_web) := ⟨f__law_web, _, (ok__law_web (C := C) F__law_web (g_range := g_range) (d__law_pick := d__law_pick) (d__law_draw := d__law_draw)), PySem.W.mg_of X G ax__law_web, kx__law_web, F__law_web.binds (ps := ["pen", "places", "share"]) fun _ _ _ _ _ _ us hl => match us, hl with | [_, _, _], _ => rfl, fun _ z => nomatch z⟩
    have F__law_word := fun_mk (st := s__law_word) lx__law_word cx__law_word kx__law_word
    have d__law_word : Df l.prog w C mg base "_law_word" 5 ["pen", "web", "letters"] [] (spF C 3 10 b__law_word) := ⟨f__law_word, _, (ok__law_word (C := C) F__law_word (g_range := g_range) (d__law_pick := d__law_pick) (d__law_draw := d__law_draw)), PySem.W.mg_of X G ax__law_word, kx__law_word, F__law_word.binds (ps := ["pen", "web", "letters"]) fun _ _ _ _ _ _ us hl => match us, hl with | [_, _, _], _ => rfl, fun _ z => nomatch z⟩
    have F__law_near := fun_mk (st := s__law_near) lx__law_near cx__law_near kx__law_near
    have d__law_near : Df l.prog w C mg base "_law_near" 3 ["web", "place", "colour"] [] (spF C 3 7 b__law_near) := ⟨f__law_near, _, (ok__law_near (C := C) F__law_near), PySem.W.mg_of X G ax__law_near, kx__law_near, F__law_near.binds (ps := ["web", "place", "colour"]) fun _ _ _ _ _ _ us hl => match us, hl with | [_, _, _], _ => rfl, fun _ z => nomatch z⟩
    have F__law_ends := fun_mk (st := s__law_ends) lx__law_ends cx__law_ends kx__law_ends
    have d__law_ends : Df l.prog w C mg base "_law_ends" 4 ["web", "word", "place"] [] (spF C 3 8 b__law_ends) := ⟨f__law_ends, _, (ok__law_ends (C := C) F__law_ends (g_len := g_len) (d__law_near := d__law_near)), PySem.W.mg_of X G ax__law_ends, kx__law_ends, F__law_ends.binds (ps := ["web", "word", "place"]) fun _ _ _ _ _ _ us hl => match us, hl with | [_, _, _], _ => rfl, fun _ z => nomatch z⟩
    have F__law_nears := fun_mk (st := s__law_nears) lx__law_nears cx__law_nears kx__law_nears
    have d__law_nears : Df l.prog w C mg base "_law_nears" 4 ["web"] [] (spF C 1 4 b__law_nears) := ⟨f__law_nears, _, (ok__law_nears (C := C) F__law_nears (g_range := g_range) (d__law_near := d__law_near)), PySem.W.mg_of X G ax__law_nears, kx__law_nears, F__law_nears.binds (ps := ["web"]) fun _ _ _ _ _ _ us hl => match us, hl with | [_], _ => rfl, fun _ z => nomatch z⟩
    have F__law_column := fun_mk (st := s__law_column) lx__law_column cx__law_column kx__law_column
    have d__law_column : Df l.prog w C mg base "_law_column" 3 ["nears", "word", "numbers"] [] (spF C 3 9 b__law_column) := ⟨f__law_column, _, (ok__law_column (C := C) F__law_column (g_list := g_list) (g_sum := g_sum) (g_zip := g_zip) (g_len := g_len)), PySem.W.mg_of X G ax__law_column, kx__law_column, F__law_column.binds (ps := ["nears", "word", "numbers"]) fun _ _ _ _ _ _ us hl => match us, hl with | [_, _, _], _ => rfl, fun _ z => nomatch z⟩
    have F__law_made := fun_mk (st := s__law_made) lx__law_made cx__law_made kx__law_made
    have d__law_made : Df l.prog w C mg base "_law_made" 11 ["pen", "web"] [] (spF C 2 6 b__law_made) := ⟨f__law_made, _, (ok__law_made (C := C) F__law_made (k_Web := k_Web) (g_tuple := g_tuple) (d__law_pick := d__law_pick) (d_Web___init__ := d_Web___init__)), PySem.W.mg_of X G ax__law_made, kx__law_made, F__law_made.binds (ps := ["pen", "web"]) fun _ _ _ _ _ _ us hl => match us, hl with | [_, _], _ => rfl, fun _ z => nomatch z⟩
    have F__law_trace := fun_mk (st := s__law_trace) lx__law_trace cx__law_trace kx__law_trace
    have d__law_trace : Df l.prog w C mg base "_law_trace" 5 ["web", "word"] [] (spF C 2 7 b__law_trace) := ⟨f__law_trace, _, (ok__law_trace (C := C) F__law_trace (g_range := g_range) (g_int := g_int) (d__law_nears := d__law_nears) (d__law_column := d__law_column)), PySem.W.mg_of X G ax__law_trace, kx__law_trace, F__law_trace.binds (ps := ["web", "word"]) fun _ _ _ _ _ _ us hl => match us, hl with | [_, _], _ => rfl, fun _ z => nomatch z⟩
    have F__law_listed_right := fun_mk (st := s__law_listed_right) lx__law_listed_right cx__law_listed_right kx__law_listed_right
    have d__law_listed_right : DfG l.prog w C mg base "_law_listed_right" 12 ["pen", "web", "word"] (spF C 3 8 b__law_listed_right) := ⟨f__law_listed_right, _, (ok__law_listed_right (C := C) lx__law_listed_right cx__law_listed_right (g_range := g_range) (g_sum := g_sum) (g_repr := g_repr) (d__law_made := d__law_made) (d__law_ends := d__law_ends) (d_trace_of := d_trace_of) (d__law_trace := d__law_trace) (d_sum_of := d_sum_of) (d_walks := d_walks)), PySem.W.mg_of X G ax__law_listed_right, kx__law_listed_right, F__law_listed_right.binds (ps := ["pen", "web", "word"]) fun _ _ _ _ _ _ us hl => match us, hl with | [_, _, _], _ => rfl⟩
    have F_law := fun_mk (st := s_law) lx_law cx_law kx_law
    exact (ok_law (C := C) lx_law cx_law (k_Web := k_Web) (g_range := g_range) (g_repr := g_repr) (d__law_pen := d__law_pen) (d__law_web := d__law_web) (d__law_draw := d__law_draw) (d__law_pick := d__law_pick) (d__law_listed_right := d__law_listed_right) (d__law_word := d__law_word) (d__law_made := d__law_made) (d_trace_of := d_trace_of) (d__law_trace := d__law_trace) (d_Web___init__ := d_Web___init__))
end Y

open PySem PySem.W PyProof.Rows in
set_option maxRecDepth 100000 in
set_option maxHeartbeats 0 in
theorem PySem.Challenge.cw_littlewebs_k15_traces_of_words_holds : PySem.Challenge.rw_littlewebs_k15_traces_of_words.Holds := by
  w_on; o_law; k_head; (case hw => w_witness2)
  k_fill
  refine Y.walkG (l := PySem.Challenge.rw_littlewebs_k15_traces_of_words) (n := 63) (k := 13) (x := "script") rfl (by decide) rfl ⟨rfl, by decide, by decide⟩ (fun w h Y => PySem.W.kIn_of Y) ?F ?X
  case X =>
    intro w H s e s' z
    obtain ⟨_, _, _, _, _, _, _, _, _, _, _, _, z⟩ := z
    exact z
  case F =>
    intro w mg fa h Y0 KX G hmg
    refine' Y.law_at KX G hmg ?aC_Web ?ax_is_integer ?lx_is_integer ?cx_is_integer ?kx_is_integer ?ax_is_within ?lx_is_within ?cx_is_within ?kx_is_within ?ax_fixed ?lx_fixed ?cx_fixed ?kx_fixed ?ax__key ?lx__key ?cx__key ?kx__key ?ax_first_twice ?lx_first_twice ?cx_first_twice ?kx_first_twice ?ax_is_colour ?lx_is_colour ?cx_is_colour ?kx_is_colour ?ax_need_colour ?lx_need_colour ?cx_need_colour ?kx_need_colour ?ax_need_place ?lx_need_place ?cx_need_place ?kx_need_place ?ax__is_triple ?lx__is_triple ?cx__is_triple ?kx__is_triple ?ax__need_ties ?lx__need_ties ?cx__need_ties ?kx__need_ties ?ax__neighbours ?lx__neighbours ?cx__neighbours ?kx__neighbours ?ax__parts ?lx__parts ?cx__parts ?kx__parts ?ax_Web___init__ ?fx_Web___init__ ?lx_Web___init__ ?cx_Web___init__ ?kx_Web___init__ ?ax_Web_neighbours ?fx_Web_neighbours ?lx_Web_neighbours ?cx_Web_neighbours ?kx_Web_neighbours ?ax_Web_degree ?fx_Web_degree ?lx_Web_degree ?cx_Web_degree ?kx_Web_degree ?ax_put_ahead ?lx_put_ahead ?cx_put_ahead ?kx_put_ahead ?ax_word_ahead ?lx_word_ahead ?cx_word_ahead ?kx_word_ahead ?ax_column_of ?lx_column_of ?cx_column_of ?kx_column_of ?ax_unit_columns ?lx_unit_columns ?cx_unit_columns ?kx_unit_columns ?ax_diagonal_of ?lx_diagonal_of ?cx_diagonal_of ?kx_diagonal_of ?ax_need_web ?lx_need_web ?cx_need_web ?kx_need_web ?ax_is_word ?lx_is_word ?cx_is_word ?kx_is_word ?ax_need_word ?lx_need_word ?cx_need_word ?kx_need_word ?ax__need_web_and_word ?lx__need_web_and_word ?cx__need_web_and_word ?kx__need_web_and_word ?ax_sum_of ?lx_sum_of ?cx_sum_of ?kx_sum_of ?ax_trace_of ?lx_trace_of ?cx_trace_of ?kx_trace_of ?ax_walks ?lx_walks ?cx_walks ?kx_walks ?ax__law_pen ?lx__law_pen ?cx__law_pen ?kx__law_pen ?ax__law_draw ?lx__law_draw ?cx__law_draw ?kx__law_draw ?ax__law_pick ?lx__law_pick ?cx__law_pick ?kx__law_pick ?ax__law_web ?lx__law_web ?cx__law_web ?kx__law_web ?ax__law_word ?lx__law_word ?cx__law_word ?kx__law_word ?ax__law_near ?lx__law_near ?cx__law_near ?kx__law_near ?ax__law_ends ?lx__law_ends ?cx__law_ends ?kx__law_ends ?ax__law_nears ?lx__law_nears ?cx__law_nears ?kx__law_nears ?ax__law_column ?lx__law_column ?cx__law_column ?kx__law_column ?ax__law_made ?lx__law_made ?cx__law_made ?kx__law_made ?ax__law_trace ?lx__law_trace ?cx__law_trace ?kx__law_trace ?ax__law_listed_right ?lx__law_listed_right ?cx__law_listed_right ?kx__law_listed_right ?ax_law ?lx_law ?cx_law ?kx_law ?pg_Web ?hd_Web ?po_Web ?sa_Web ?kc_Web ?na_Web_places ?na_Web_ties ?na_Web_parts ?na_Web__near ?ca_Web ?hn_Web ?ht_Web ?hm_Web ?kk_Web ?mk_Web ?z_int ?z_isinstance ?z_bool ?z_list ?z_tuple ?z_str ?z_len ?z_all ?z_min ?z_max ?z_range ?z_sorted ?z_set ?z_sum ?z_reversed ?z_enumerate ?z_abs ?z_zip ?z_repr ?nx_MOST_PLACES ?nx_MOST_LETTERS ?nx_COLOURS ?tx_COLOURS ?vx_COLOURS ?wx_COLOURS ?nx_LETTERS ?tx_LETTERS ?vx_LETTERS ?wx_LETTERS
    (case aC_Web => first | k_is | rfl)
    (case ax_is_integer => first | k_is | rfl)
    (case lx_is_integer => first | k_is | rfl)
    (case cx_is_integer => first | k_is | rfl)
    (case kx_is_integer => first | k_is | rfl)
    (case ax_is_within => first | k_is | rfl)
    (case lx_is_within => first | k_is | rfl)
    (case cx_is_within => first | k_is | rfl)
    (case kx_is_within => first | k_is | rfl)
    (case ax_fixed => first | k_is | rfl)
    (case lx_fixed => first | k_is | rfl)
    (case cx_fixed => first | k_is | rfl)
    (case kx_fixed => first | k_is | rfl)
    (case ax__key => first | k_is | rfl)
    (case lx__key => first | k_is | rfl)
    (case cx__key => first | k_is | rfl)
    (case kx__key => first | k_is | rfl)
    (case ax_first_twice => first | k_is | rfl)
    (case lx_first_twice => first | k_is | rfl)
    (case cx_first_twice => first | k_is | rfl)
    (case kx_first_twice => first | k_is | rfl)
    (case ax_is_colour => first | k_is | rfl)
    (case lx_is_colour => first | k_is | rfl)
    (case cx_is_colour => first | k_is | rfl)
    (case kx_is_colour => first | k_is | rfl)
    (case ax_need_colour => first | k_is | rfl)
    (case lx_need_colour => first | k_is | rfl)
    (case cx_need_colour => first | k_is | rfl)
    (case kx_need_colour => first | k_is | rfl)
    (case ax_need_place => first | k_is | rfl)
    (case lx_need_place => first | k_is | rfl)
    (case cx_need_place => first | k_is | rfl)
    (case kx_need_place => first | k_is | rfl)
    (case ax__is_triple => first | k_is | rfl)
    (case lx__is_triple => first | k_is | rfl)
    (case cx__is_triple => first | k_is | rfl)
    (case kx__is_triple => first | k_is | rfl)
    (case ax__need_ties => first | k_is | rfl)
    (case lx__need_ties => first | k_is | rfl)
    (case cx__need_ties => first | k_is | rfl)
    (case kx__need_ties => first | k_is | rfl)
    (case ax__neighbours => first | k_is | rfl)
    (case lx__neighbours => first | k_is | rfl)
    (case cx__neighbours => first | k_is | rfl)
    (case kx__neighbours => first | k_is | rfl)
    (case ax__parts => first | k_is | rfl)
    (case lx__parts => first | k_is | rfl)
    (case cx__parts => first | k_is | rfl)
    (case kx__parts => first | k_is | rfl)
    (case ax_Web___init__ => first | k_is | rfl)
    (case fx_Web___init__ => first | k_is | rfl)
    (case lx_Web___init__ => first | k_is | rfl)
    (case cx_Web___init__ => first | k_is | rfl)
    (case kx_Web___init__ => first | k_is | rfl)
    (case ax_Web_neighbours => first | k_is | rfl)
    (case fx_Web_neighbours => first | k_is | rfl)
    (case lx_Web_neighbours => first | k_is | rfl)
    (case cx_Web_neighbours => first | k_is | rfl)
    (case kx_Web_neighbours => first | k_is | rfl)
    (case ax_Web_degree => first | k_is | rfl)
    (case fx_Web_degree => first | k_is | rfl)
    (case lx_Web_degree => first | k_is | rfl)
    (case cx_Web_degree => first | k_is | rfl)
    (case kx_Web_degree => first | k_is | rfl)
    (case ax_put_ahead => first | k_is | rfl)
    (case lx_put_ahead => first | k_is | rfl)
    (case cx_put_ahead => first | k_is | rfl)
    (case kx_put_ahead => first | k_is | rfl)
    (case ax_word_ahead => first | k_is | rfl)
    (case lx_word_ahead => first | k_is | rfl)
    (case cx_word_ahead => first | k_is | rfl)
    (case kx_word_ahead => first | k_is | rfl)
    (case ax_column_of => first | k_is | rfl)
    (case lx_column_of => first | k_is | rfl)
    (case cx_column_of => first | k_is | rfl)
    (case kx_column_of => first | k_is | rfl)
    (case ax_unit_columns => first | k_is | rfl)
    (case lx_unit_columns => first | k_is | rfl)
    (case cx_unit_columns => first | k_is | rfl)
    (case kx_unit_columns => first | k_is | rfl)
    (case ax_diagonal_of => first | k_is | rfl)
    (case lx_diagonal_of => first | k_is | rfl)
    (case cx_diagonal_of => first | k_is | rfl)
    (case kx_diagonal_of => first | k_is | rfl)
    (case ax_need_web => first | k_is | rfl)
    (case lx_need_web => first | k_is | rfl)
    (case cx_need_web => first | k_is | rfl)
    (case kx_need_web => first | k_is | rfl)
    (case ax_is_word => first | k_is | rfl)
    (case lx_is_word => first | k_is | rfl)
    (case cx_is_word => first | k_is | rfl)
    (case kx_is_word => first | k_is | rfl)
    (case ax_need_word => first | k_is | rfl)
    (case lx_need_word => first | k_is | rfl)
    (case cx_need_word => first | k_is | rfl)
    (case kx_need_word => first | k_is | rfl)
    (case ax__need_web_and_word => first | k_is | rfl)
    (case lx__need_web_and_word => first | k_is | rfl)
    (case cx__need_web_and_word => first | k_is | rfl)
    (case kx__need_web_and_word => first | k_is | rfl)
    (case ax_sum_of => first | k_is | rfl)
    (case lx_sum_of => first | k_is | rfl)
    (case cx_sum_of => first | k_is | rfl)
    (case kx_sum_of => first | k_is | rfl)
    (case ax_trace_of => first | k_is | rfl)
    (case lx_trace_of => first | k_is | rfl)
    (case cx_trace_of => first | k_is | rfl)
    (case kx_trace_of => first | k_is | rfl)
    (case ax_walks => first | k_is | rfl)
    (case lx_walks => first | k_is | rfl)
    (case cx_walks => first | k_is | rfl)
    (case kx_walks => first | k_is | rfl)
    (case ax__law_pen => first | k_is | rfl)
    (case lx__law_pen => first | k_is | rfl)
    (case cx__law_pen => first | k_is | rfl)
    (case kx__law_pen => first | k_is | rfl)
    (case ax__law_draw => first | k_is | rfl)
    (case lx__law_draw => first | k_is | rfl)
    (case cx__law_draw => first | k_is | rfl)
    (case kx__law_draw => first | k_is | rfl)
    (case ax__law_pick => first | k_is | rfl)
    (case lx__law_pick => first | k_is | rfl)
    (case cx__law_pick => first | k_is | rfl)
    (case kx__law_pick => first | k_is | rfl)
    (case ax__law_web => first | k_is | rfl)
    (case lx__law_web => first | k_is | rfl)
    (case cx__law_web => first | k_is | rfl)
    (case kx__law_web => first | k_is | rfl)
    (case ax__law_word => first | k_is | rfl)
    (case lx__law_word => first | k_is | rfl)
    (case cx__law_word => first | k_is | rfl)
    (case kx__law_word => first | k_is | rfl)
    (case ax__law_near => first | k_is | rfl)
    (case lx__law_near => first | k_is | rfl)
    (case cx__law_near => first | k_is | rfl)
    (case kx__law_near => first | k_is | rfl)
    (case ax__law_ends => first | k_is | rfl)
    (case lx__law_ends => first | k_is | rfl)
    (case cx__law_ends => first | k_is | rfl)
    (case kx__law_ends => first | k_is | rfl)
    (case ax__law_nears => first | k_is | rfl)
    (case lx__law_nears => first | k_is | rfl)
    (case cx__law_nears => first | k_is | rfl)
    (case kx__law_nears => first | k_is | rfl)
    (case ax__law_column => first | k_is | rfl)
    (case lx__law_column => first | k_is | rfl)
    (case cx__law_column => first | k_is | rfl)
    (case kx__law_column => first | k_is | rfl)
    (case ax__law_made => first | k_is | rfl)
    (case lx__law_made => first | k_is | rfl)
    (case cx__law_made => first | k_is | rfl)
    (case kx__law_made => first | k_is | rfl)
    (case ax__law_trace => first | k_is | rfl)
    (case lx__law_trace => first | k_is | rfl)
    (case cx__law_trace => first | k_is | rfl)
    (case kx__law_trace => first | k_is | rfl)
    (case ax__law_listed_right => first | k_is | rfl)
    (case lx__law_listed_right => first | k_is | rfl)
    (case cx__law_listed_right => first | k_is | rfl)
    (case kx__law_listed_right => first | k_is | rfl)
    (case ax_law => first | k_is | rfl)
    (case lx_law => first | k_is | rfl)
    (case cx_law => first | k_is | rfl)
    (case kx_law => first | k_is | rfl)
    (case pg_Web => first | k_is | rfl)
    (case hd_Web => first | k_is | rfl)
    (case po_Web => first | k_is | rfl)
    (case sa_Web => first | k_is | rfl)
    (case kc_Web => first | k_is | rfl)
    (case na_Web_places => first | k_is | rfl)
    (case na_Web_ties => first | k_is | rfl)
    (case na_Web_parts => first | k_is | rfl)
    (case na_Web__near => first | k_is | rfl)
    (case ca_Web => first | k_is | rfl)
    (case hn_Web => first | k_is | rfl)
    (case ht_Web => first | k_is | rfl)
    (case hm_Web => first | k_is | rfl)
    (case kk_Web => first | k_is | rfl)
    (case mk_Web => first | k_is | rfl)
    (case z_int => first | k_is | rfl)
    (case z_isinstance => first | k_is | rfl)
    (case z_bool => first | k_is | rfl)
    (case z_list => first | k_is | rfl)
    (case z_tuple => first | k_is | rfl)
    (case z_str => first | k_is | rfl)
    (case z_len => first | k_is | rfl)
    (case z_all => first | k_is | rfl)
    (case z_min => first | k_is | rfl)
    (case z_max => first | k_is | rfl)
    (case z_range => first | k_is | rfl)
    (case z_sorted => first | k_is | rfl)
    (case z_set => first | k_is | rfl)
    (case z_sum => first | k_is | rfl)
    (case z_reversed => first | k_is | rfl)
    (case z_enumerate => first | k_is | rfl)
    (case z_abs => first | k_is | rfl)
    (case z_zip => first | k_is | rfl)
    (case z_repr => first | k_is | rfl)
    (case nx_MOST_PLACES => first | k_is | rfl)
    (case nx_MOST_LETTERS => first | k_is | rfl)
    (case nx_COLOURS => first | k_is | rfl)
    (case tx_COLOURS => first | k_is | rfl)
    (case vx_COLOURS => repeat (first | exact L2.Paired.nil | exact PySem.Paired.nil | refine .cons ⟨_, rfl⟩ ?_ | exact .nil))
    (case wx_COLOURS => decide)
    (case nx_LETTERS => first | k_is | rfl)
    (case tx_LETTERS => first | k_is | rfl)
    (case vx_LETTERS => repeat (first | exact L2.Paired.nil | exact PySem.Paired.nil | refine .cons ⟨_, rfl⟩ ?_ | exact .nil))
    (case wx_LETTERS => decide)

