import PyProof.Rows.All
import Wide.All
import OpenK.AllK
import Wide.FinOn
import PySem.Challenge.RW_snuglay_k00_errors
import HandS.ForMost
import HandS.ForExc
import HandS.Wide
import HandS.Gcd
import HandS.Deep
import HandS.IsInst
import HandS.TupAny
import HandS.Zip
import HandS.ExcInit
import HandS.NoneIn
import KE.SortData
import KE.DataMinMax
import HandS.TupMul
import HandS.More
import KE.KUnpackStar
import HandS.Strs
import HandS.SetFor
import KE.KDictZip
import HandS.ListItems
import HandS.SetBool
import HandS.SetKeys
import HandS.Text
import HandS.StrMore
import HandS.RaiseMore
import PyProof.StrOps2
import HandS.Exc
import HandS.ExcOwn
import HandS.ExcField
import HandS.TryOnly
import HandS.WordsExc
import KE.KExcInit
import PyProof.InstStoreFacts
import HandS.TryMany
import HandS.CallLocal
import HandS.Iter
import HandS.MakeKwOnly
import HandS.ExcIs
import HandS.ExcValue
set_option Elab.async false
set_option linter.all false
set_option maxRecDepth 100000
namespace Pu
open PySem L2
abbrev D := PyData
abbrev HE (H H' : Hp) : Prop := ∀ a o, H a = some o → H' a = some o

/-! values in a heap; C: the addresses of what may still change -/
mutual
inductive Dat (C : Addr → Prop) (H : Hp) : V → D → Prop
  | non : Dat C H .non .none
  | bl (b : Bool) : Dat C H (.bl b) (.bool b)
  | int (i : Int) : Dat C H (.int i) (.int i)
  | str (x : Str) : Dat C H (.str x) (.str x)
  | lst {a : Addr} {xs : List V} {ds : List D} : ¬ C a → H a = some (.lst xs) → Dats C H xs ds → Dat C H (.ref a) (.list ds)
  | tup {a : Addr} {xs : List V} {ds : List D} : ¬ C a → H a = some (.tup xs) → Dats C H xs ds → Dat C H (.ref a) (.tuple ds)
  | exc {a K dx : Addr} {f : Str} {v : V} {d : D} : ¬ C a → ¬ C dx → H a = some (exo a K (some dx)) → H dx = some (exd dx [(f, v)]) → Dat C H v d → Dat C H (.ref a) (.dict [(.int (K : Nat), .str f), (d, .none)])
  | ex0 {a K : Addr} : ¬ C a → H a = some (exo a K none) → Dat C H (.ref a) (.dict [(.int (K : Nat), .none), (.none, .none)])
inductive Dats (C : Addr → Prop) (H : Hp) : List V → List D → Prop
  | nil : Dats C H [] []
  | cons {v : V} {vs : List V} {d : D} {ds : List D} : Dat C H v d → Dats C H vs ds → Dats C H (v :: vs) (d :: ds)
end
mutual
theorem Dat.to {C C' : Addr → Prop} {H H' : Hp} (k : ∀ a o, ¬ C a → H a = some o → H' a = some o ∧ ¬ C' a) : ∀ {v : V} {d : D}, Dat C H v d → Dat C' H' v d
  | _, _, .non => .non
  | _, _, .bl b => .bl b
  | _, _, .int i => .int i
  | _, _, .str x => .str x
  | _, _, .lst hc hr hd => .lst (k _ _ hc hr).2 (k _ _ hc hr).1 (Dats.to k hd)
  | _, _, .tup hc hr hd => .tup (k _ _ hc hr).2 (k _ _ hc hr).1 (Dats.to k hd)
  | _, _, .exc h1 h2 h3 h4 hd => .exc (k _ _ h1 h3).2 (k _ _ h2 h4).2 (k _ _ h1 h3).1 (k _ _ h2 h4).1 (Dat.to k hd)
  | _, _, .ex0 h1 h2 => .ex0 (k _ _ h1 h2).2 (k _ _ h1 h2).1
theorem Dats.to {C C' : Addr → Prop} {H H' : Hp} (k : ∀ a o, ¬ C a → H a = some o → H' a = some o ∧ ¬ C' a) : ∀ {vs : List V} {ds : List D}, Dats C H vs ds → Dats C' H' vs ds
  | _, _, .nil => .nil
  | _, _, .cons h t => .cons (Dat.to k h) (Dats.to k t)
end
theorem Dat.he {C : Addr → Prop} {H H' : Hp} {v : V} {d : D} (h : Dat C H v d) (e : HE H H') : Dat C H' v d := h.to fun a o hc ho => ⟨e a o ho, hc⟩
theorem Dats.he {C : Addr → Prop} {H H' : Hp} {v : List V} {d : List D} (h : Dats C H v d) (e : HE H H') : Dats C H' v d := h.to fun a o hc ho => ⟨e a o ho, hc⟩
theorem Dats.length {C : Addr → Prop} {H : Hp} : ∀ {vs : List V} {ds : List D}, Dats C H vs ds → vs.length = ds.length
  | _, _, .nil => rfl
  | _, _, .cons _ t => by rw [List.length_cons, List.length_cons, Dats.length t]
theorem Dats.get {C : Addr → Prop} {H : Hp} : ∀ {vs : List V} {ds : List D} {i : Nat} {d : D}, Dats C H vs ds → ds[i]? = some d → ∃ v, vs[i]? = some v ∧ Dat C H v d
  | _, _, _, _, .nil, e => by simp at e
  | _, _, 0, _, .cons h _, e => by
    have q := Option.some.inj e
    subst q
    exact ⟨_, rfl, h⟩
  | _, _, i + 1, _, .cons _ t, e => Dats.get (i := i) t e
theorem Dats.getV {C : Addr → Prop} {H : Hp} : ∀ {vs : List V} {ds : List D} {i : Nat} {v : V}, Dats C H vs ds → vs[i]? = some v → ∃ d, ds[i]? = some d ∧ Dat C H v d
  | _, _, _, _, .nil, e => by simp at e
  | _, _, 0, _, .cons h _, e => by
    have q := Option.some.inj e
    subst q
    exact ⟨_, rfl, h⟩
  | _, _, i + 1, _, .cons _ t, e => Dats.getV (i := i) t e
theorem Dats.append {C : Addr → Prop} {H : Hp} : ∀ {vs ws : List V} {ds es : List D}, Dats C H vs ds → Dats C H ws es → Dats C H (vs ++ ws) (ds ++ es)
  | _, _, _, _, .nil, s => s
  | _, _, _, _, .cons h t, s => .cons h (Dats.append t s)
theorem Dats.take {C : Addr → Prop} {H : Hp} : ∀ {vs : List V} {ds : List D} (n : Nat), Dats C H vs ds → Dats C H (vs.take n) (ds.take n)
  | _, _, 0, _ => .nil
  | _, _, _ + 1, .nil => .nil
  | _, _, n + 1, .cons h t => .cons h (Dats.take n t)
theorem Dats.drop {C : Addr → Prop} {H : Hp} : ∀ {vs : List V} {ds : List D} (n : Nat), Dats C H vs ds → Dats C H (vs.drop n) (ds.drop n)
  | _, _, 0, h => h
  | _, _, _ + 1, .nil => .nil
  | _, _, n + 1, .cons _ t => Dats.drop n t
theorem Dats.set {C : Addr → Prop} {H : Hp} {v : V} {d : D} (h : Dat C H v d) : ∀ {vs : List V} {ds : List D} (n : Nat), Dats C H vs ds → Dats C H (vs.set n v) (ds.set n d)
  | _, _, _, .nil => .nil
  | _, _, 0, .cons _ t => .cons h t
  | _, _, n + 1, .cons q t => .cons q (Dats.set h n t)

/-! slots -/
inductive Cn where
  | l (xs : List D)
  | k (kvs : List (Str × D))
inductive Sv where
  | no
  | im (d : D)
  | ce (w : Option Nat) (c : Cn)
abbrev Pst := List Sv
def KDats (C : Addr → Prop) (H : Hp) : List (Key × V) → List (Str × D) → Prop := Paired fun p q => p.1 = .inr q.1 ∧ Dat C H p.2 q.2
def CnOk (C : Addr → Prop) (H : Hp) (a : Addr) : Cn → Prop
  | .l xs => ∃ vs, H a = some (.lst vs) ∧ Dats C H vs xs
  | .k kvs => ∃ us, H a = some (.dK us) ∧ KDats C H us kvs
def SlotOk (π : List V) (C : Addr → Prop) (H : Hp) (ov : Option V) : Sv → Prop
  | .no => True
  | .im d => ∃ v, ov = some v ∧ Dat C H v d
  | .ce w c => ∃ a, ov = some (.ref a) ∧ C a ∧ CnOk C H a c ∧ (∀ k : Nat, w = some k → π[k]? = some (V.ref a)) ∧ (w = none → ∀ k : Nat, π[k]? ≠ some (V.ref a))
def Own (σ : L2.St) (δ : Pst) (a : Addr) : Prop := ∃ (i : Nat) (w : Option Nat) (c : Cn), δ[i]? = some (Sv.ce w c) ∧ σ[i]? = some (some (V.ref a))
structure Rel (π : List V) (C : Addr → Prop) (σ : L2.St) (H : Hp) (δ : Pst) : Prop where
  len : σ.length = δ.length
  slot : ∀ (i : Nat) (s : Sv), δ[i]? = some s → ∃ ov, σ[i]? = some ov ∧ SlotOk π C H ov s
  good : ∀ a, C a → ∃ o, H a = some o
  par : ∀ (k : Nat) (a : Addr), π[k]? = some (V.ref a) → ∃ o, H a = some o
  own : ∀ (i j : Nat) (a : Addr) (w w' : Option Nat) (c c' : Cn), δ[i]? = some (Sv.ce w c) → δ[j]? = some (Sv.ce w' c') → σ[i]? = some (some (V.ref a)) → σ[j]? = some (some (V.ref a)) → i = j
def Evo (O : Addr → Prop) (H H' : Hp) : Prop := ∀ a o, ¬ O a → H a = some o → H' a = some o
section
variable {π : List V} {C C' : Addr → Prop} {σ : L2.St} {H H' H1 H2 : Hp} {δ δ' : Pst} {O : Addr → Prop}
theorem Evo.he (e : HE H H') : Evo O H H' := fun a o _ h => e a o h
theorem Evo.refl : Evo O H H := fun _ _ _ h => h
theorem Evo.trans (a : Evo O H H1) (b : Evo O H1 H2) : Evo O H H2 := fun x o n h => b x o n (a x o n h)
theorem HE.refl : HE H H := fun _ _ h => h
theorem HE.trans (a : HE H H1) (b : HE H1 H2) : HE H H2 := fun x o h => b x o (a x o h)
theorem HE.new {p : Addr} {o : HO} (h : H p = none) : HE H (upd H p o) := fun a u e => by rw [upd_ne (ne_of_none e h)]; exact e
theorem KDats.to (k : ∀ a o, ¬ C a → H a = some o → H' a = some o ∧ ¬ C' a) {us : List (Key × V)} {kvs : List (Str × D)} (h : KDats C H us kvs) : KDats C' H' us kvs := by
  induction h with
  | nil => exact .nil
  | cons r _ ih => exact .cons ⟨r.1, r.2.to k⟩ ih
theorem CnOk.to (k : ∀ a o, ¬ C a → H a = some o → H' a = some o ∧ ¬ C' a) {a : Addr} {c : Cn} (h : CnOk C H a c) (e : H' a = H a) : CnOk C' H' a c := by
  cases c with
  | l xs =>
    obtain ⟨vs, h1, h2⟩ := h
    exact ⟨vs, e.trans h1, h2.to k⟩
  | k kvs =>
    obtain ⟨vs, h1, h2⟩ := h
    exact ⟨vs, e.trans h1, h2.to k⟩
theorem Rel.he (r : Rel π C σ H δ) (e : HE H H') : Rel π C σ H' δ := by
  refine ⟨r.len, fun i s hs => ?_, fun a h => let ⟨o, q⟩ := r.good a h; ⟨o, e a o q⟩, fun k a h => let ⟨o, q⟩ := r.par k a h; ⟨o, e a o q⟩, r.own⟩
  obtain ⟨ov, h1, h2⟩ := r.slot i s hs
  refine ⟨ov, h1, ?_⟩
  cases s with
  | no => trivial
  | im d =>
    obtain ⟨v, e1, e2⟩ := h2
    exact ⟨v, e1, e2.he e⟩
  | ce w c =>
    obtain ⟨a, e1, e2, e3, e4⟩ := h2
    obtain ⟨o, q⟩ := r.good a e2
    exact ⟨a, e1, e2, e3.to (fun b o hc ho => ⟨e b o ho, hc⟩) (by rw [q, e a o q]), e4⟩
/-- what is not tracked is not held -/
theorem Rel.fresh (r : Rel π C σ H δ) {p : Addr} (h : H p = none) : ¬ C p := fun hc => by
  obtain ⟨o, q⟩ := r.good p hc
  rw [h] at q
  cases q
theorem Rel.get (r : Rel π C σ H δ) {i : Nat} {d : D} (h : δ[i]? = some (.im d)) : ∃ v, σ[i]? = some (some v) ∧ Dat C H v d := by
  obtain ⟨ov, h1, v, e1, e2⟩ := r.slot i _ h
  subst e1
  exact ⟨v, h1, e2⟩
end
/-- a list's value, or a list that may still change -/
def Wat (C : Addr → Prop) (H : Hp) (v : V) (d : D) : Prop := Dat C H v d ∨ ∃ a vs xs, v = .ref a ∧ d = .list xs ∧ H a = some (.lst vs) ∧ Dats C H vs xs
theorem Wat.he {C : Addr → Prop} {H H' : Hp} {v : V} {d : D} (h : Wat C H v d) (e : HE H H') : Wat C H' v d := by
  rcases h with h | ⟨a, vs, xs, h1, h2, h3, h4⟩
  · exact .inl (h.he e)
  · exact .inr ⟨a, vs, xs, h1, h2, e _ _ h3, h4.he e⟩
/-- the items of a list or tuple -/
theorem Wat.list {C : Addr → Prop} {H : Hp} {v : V} {xs : List D} (h : Wat C H v (.list xs)) : ∃ a vs, v = .ref a ∧ H a = some (.lst vs) ∧ Dats C H vs xs := by
  rcases h with h | ⟨a, vs, ys, h1, h2, h3, h4⟩
  · cases h with
    | lst hc hr hd => exact ⟨_, _, rfl, hr, hd⟩
  · injection h2 with h2
    subst h2
    exact ⟨a, vs, h1, h3, h4⟩
theorem Wat.tup {C : Addr → Prop} {H : Hp} {v : V} {xs : List D} (h : Wat C H v (.tuple xs)) : ∃ a vs, v = .ref a ∧ ¬ C a ∧ H a = some (.tup vs) ∧ Dats C H vs xs := by
  rcases h with h | ⟨a, vs, ys, h1, h2, h3, h4⟩
  · cases h with
    | tup hc hr hd => exact ⟨_, _, rfl, hc, hr, hd⟩
  · cases h2
theorem Wat.int {C : Addr → Prop} {H : Hp} {v : V} {i : Int} (h : Wat C H v (.int i)) : v = .int i := by
  rcases h with h | ⟨a, vs, ys, h1, h2, h3, h4⟩
  · cases h; rfl
  · cases h2
theorem Wat.str {C : Addr → Prop} {H : Hp} {v : V} {i : Str} (h : Wat C H v (.str i)) : v = .str i := by
  rcases h with h | ⟨a, vs, ys, h1, h2, h3, h4⟩
  · cases h; rfl
  · cases h2
theorem Wat.bool {C : Addr → Prop} {H : Hp} {v : V} {i : Bool} (h : Wat C H v (.bool i)) : v = .bl i := by
  rcases h with h | ⟨a, vs, ys, h1, h2, h3, h4⟩
  · cases h; rfl
  · cases h2
theorem Dat.int_eq {C : Addr → Prop} {H : Hp} {v : V} {i : Int} (h : Dat C H v (.int i)) : v = .int i := by cases h; rfl
theorem Dat.str_eq {C : Addr → Prop} {H : Hp} {v : V} {i : Str} (h : Dat C H v (.str i)) : v = .str i := by cases h; rfl
theorem Dat.bool_eq {C : Addr → Prop} {H : Hp} {v : V} {i : Bool} (h : Dat C H v (.bool i)) : v = .bl i := by cases h; rfl
end Pu

namespace Pu
open PySem L2
abbrev QE := Pst → Option D
abbrev XE := Pst → Option (D × Pst)
abbrev Good (C : Addr → Prop) (H : Hp) : Prop := ∀ a, C a → ∃ o, H a = some o
/-! readings of expressions: quiet ones (nothing that stood changes), and such as change cells -/
def SndQ (te : TE) (q : QE) : Prop := ∀ (π : List V) (C : Addr → Prop) (σ : L2.St) (H : Hp) (δ : Pst) (d : D), q δ = some d → Rel π C σ H δ → ∀ Q : VK, (∀ v H', HE H H' → Dat C H' v d → Q v H') → te σ H Q
def SndW (te : TE) (q : QE) : Prop := ∀ (π : List V) (C : Addr → Prop) (σ : L2.St) (H : Hp) (δ : Pst) (d : D), q δ = some d → Rel π C σ H δ → ∀ Q : VK, (∀ v H', HE H H' → Wat C H' v d → Q v H') → te σ H Q
structure Chg (π : List V) (C : Addr → Prop) (σ : L2.St) (H : Hp) (δ : Pst) (H' : Hp) (δ' : Pst) : Prop where
  evo : Evo (Own σ δ) H H'
  rel : Rel π C σ H' δ'
  own : ∀ a, Own σ δ' a → Own σ δ a
def SndX (te : TE) (x : XE) : Prop := ∀ (π : List V) (C : Addr → Prop) (σ : L2.St) (H : Hp) (δ : Pst) (d : D) (δ' : Pst), x δ = some (d, δ') → Rel π C σ H δ → ∀ Q : VK, (∀ v H', Chg π C σ H δ H' δ' → Dat C H' v d → Q v H') → te σ H Q
theorem SndQ.w {te : TE} {q : QE} (h : SndQ te q) : SndW te q := fun π C σ H δ d e r Q k => h π C σ H δ d e r Q fun v H' e' w => k v H' e' (.inl w)
def xq (q : QE) : XE := fun δ => (q δ).map fun d => (d, δ)
section
variable {π : List V} {C : Addr → Prop} {σ : L2.St} {H H' H1 H2 : Hp} {δ δ' δ1 δ2 : Pst}
theorem Rel.ownC (r : Rel π C σ H δ) {a : Addr} (h : Own σ δ a) : C a := by
  obtain ⟨i, w, c, h1, h2⟩ := h
  obtain ⟨ov, e1, b, e2, e3, _⟩ := r.slot i _ h1
  subst e2
  rw [h2] at e1
  cases e1
  exact e3
theorem Chg.he (r : Rel π C σ H δ) (e : HE H H') : Chg π C σ H δ H' δ := ⟨Evo.he e, r.he e, fun _ h => h⟩
theorem Chg.trans (a : Chg π C σ H δ H1 δ1) (b : Chg π C σ H1 δ1 H2 δ2) : Chg π C σ H δ H2 δ2 :=
  ⟨fun x o n h => b.evo x o (fun q => n (a.own x q)) (a.evo x o n h), b.rel, fun x h => a.own x (b.own x h)⟩
theorem Chg.dat (r : Rel π C σ H δ) (a : Chg π C σ H δ H1 δ1) {v : V} {d : D} (h : Dat C H v d) : Dat C H1 v d :=
  h.to fun x o hc ho => ⟨a.evo x o (fun q => hc (r.ownC q)) ho, hc⟩
theorem Chg.dats (r : Rel π C σ H δ) (a : Chg π C σ H δ H1 δ1) {v : List V} {d : List D} (h : Dats C H v d) : Dats C H1 v d :=
  h.to fun x o hc ho => ⟨a.evo x o (fun q => hc (r.ownC q)) ho, hc⟩
end
theorem SndQ.x {te : TE} {q : QE} (h : SndQ te q) : SndX te (xq q) := fun π C σ H δ d δ' e r Q k => by
  unfold xq at e
  cases hq : q δ with
  | none => rw [hq] at e; cases e
  | some d' =>
    rw [hq] at e
    have e' := Option.some.inj e
    injection e' with e1 e2
    subst e1
    subst e2
    exact h π C σ H δ _ hq r Q fun v H' e' w => k v H' (Chg.he r e') w

/-! values' operations -/
def OpF (r : R2) (f : D → D → Option D) : Prop := ∀ (C : Addr → Prop) (H : Hp) (x y : V) (a b d : D), f a b = some d → Good C H → Wat C H x a → Wat C H y b → ∀ Q : VK, (∀ v H', HE H H' → Dat C H' v d → Q v H') → r x y H Q
def UnF (r : V → Hp → VK → Prop) (f : D → Option D) : Prop := ∀ (C : Addr → Prop) (H : Hp) (x : V) (a d : D), f a = some d → Good C H → Wat C H x a → ∀ Q : VK, (∀ v H', HE H H' → Dat C H' v d → Q v H') → r x H Q
inductive Wats (C : Addr → Prop) (H : Hp) : List V → List D → Prop
  | nil : Wats C H [] []
  | cons {v : V} {vs : List V} {d : D} {ds : List D} : Wat C H v d → Wats C H vs ds → Wats C H (v :: vs) (d :: ds)
def CaF (r : List V → Hp → VK → Prop) (f : List D → Option D) : Prop := ∀ (C : Addr → Prop) (H : Hp) (xs : List V) (as : List D) (d : D), f as = some d → Good C H → Wats C H xs as → ∀ Q : VK, (∀ v H', HE H H' → Dat C H' v d → Q v H') → r xs H Q
theorem Wats.he {C : Addr → Prop} {H H' : Hp} : ∀ {v : List V} {d : List D}, Wats C H v d → HE H H' → Wats C H' v d
  | _, _, .nil, _ => .nil
  | _, _, .cons a b, e => .cons (a.he e) (Wats.he b e)
theorem Dats.wats {C : Addr → Prop} {H : Hp} : ∀ {v : List V} {d : List D}, Dats C H v d → Wats C H v d
  | _, _, .nil => .nil
  | _, _, .cons a b => .cons (.inl a) (Dats.wats b)
def q2 (f : D → D → Option D) (a b : QE) : QE := fun δ => (a δ).bind fun x => (b δ).bind fun y => f x y
def q1 (f : D → Option D) (a : QE) : QE := fun δ => (a δ).bind f
def x2 (f : D → D → Option D) (a b : XE) : XE := fun δ => (a δ).bind fun p => (b p.2).bind fun q => (f p.1 q.1).map fun d => (d, q.2)
def x1 (f : D → Option D) (a : XE) : XE := fun δ => (a δ).bind fun p => (f p.1).map fun d => (d, p.2)
section
variable {ta tb tc te : TE} {qa qb qc : QE} {xa xb xc : XE} {r : R2} {f : D → D → Option D}
theorem q_op (hr : OpF r f) (ha : SndW ta qa) (hb : SndW tb qb) : SndQ (tOp r ta tb) (q2 f qa qb) := fun π C σ H δ d e rel Q k => by
  unfold q2 at e
  obtain ⟨x, e1, e⟩ := Option.bind_eq_some_iff.mp e
  obtain ⟨y, e2, e⟩ := Option.bind_eq_some_iff.mp e
  refine ha π C σ H δ x e1 rel _ fun v H1 h1 w1 => ?_
  refine hb π C σ H1 δ y e2 (rel.he h1) _ fun u H2 h2 w2 => ?_
  exact hr C H2 v u x y d e ((rel.he h1).he h2).good (w1.he h2) w2 Q fun z H3 h3 w3 => k z H3 ((h1.trans h2).trans h3) w3
theorem x_op (hr : OpF r f) (ha : SndX ta xa) (hb : SndX tb xb) : SndX (tOp r ta tb) (x2 f xa xb) := fun π C σ H δ d δ' e rel Q k => by
  unfold x2 at e
  obtain ⟨⟨x, δ1⟩, e1, e⟩ := Option.bind_eq_some_iff.mp e
  obtain ⟨⟨y, δ2⟩, e2, e⟩ := Option.bind_eq_some_iff.mp e
  obtain ⟨z, e3, e4⟩ := Option.map_eq_some_iff.mp e
  injection e4 with e4 e5
  subst e4
  subst e5
  refine ha π C σ H δ x δ1 e1 rel _ fun v H1 c1 w1 => ?_
  refine hb π C σ H1 δ1 y δ2 e2 c1.rel _ fun u H2 c2 w2 => ?_
  exact hr C H2 v u x y z e3 c2.rel.good (.inl (c2.dat c1.rel w1)) (.inl w2) Q fun z H3 h3 w3 => k z H3 ((c1.trans c2).trans (Chg.he c2.rel h3)) w3
theorem q_un {r : V → Hp → VK → Prop} {f : D → Option D} (hr : UnF r f) (ha : SndW ta qa) : SndQ (tUn r ta) (q1 f qa) := fun π C σ H δ d e rel Q k => by
  unfold q1 at e
  obtain ⟨x, e1, e⟩ := Option.bind_eq_some_iff.mp e
  refine ha π C σ H δ x e1 rel _ fun v H1 h1 w1 => ?_
  exact hr C H1 v x d e (rel.he h1).good w1 Q fun z H3 h3 w3 => k z H3 (h1.trans h3) w3
theorem x_un {r : V → Hp → VK → Prop} {f : D → Option D} (hr : UnF r f) (ha : SndX ta xa) : SndX (tUn r ta) (x1 f xa) := fun π C σ H δ d δ' e rel Q k => by
  unfold x1 at e
  obtain ⟨⟨x, δ1⟩, e1, e⟩ := Option.bind_eq_some_iff.mp e
  obtain ⟨z, e3, e4⟩ := Option.map_eq_some_iff.mp e
  injection e4 with e4 e5
  subst e4
  subst e5
  refine ha π C σ H δ x δ1 e1 rel _ fun v H1 c1 w1 => ?_
  exact hr C H1 v x z e3 c1.rel.good (.inl w1) Q fun z H3 h3 w3 => k z H3 (c1.trans (Chg.he c1.rel h3)) w3
def qVar (i : Nat) : QE := fun δ => match δ[i]? with | some (.im d) => some d | _ => none
/-- a name that may hold a list which still changes -/
def qVarL (i : Nat) : QE := fun δ => match δ[i]? with | some (.im d) => some d | some (.ce _ (.l xs)) => some (.list xs) | _ => none
def qC (d : D) : QE := fun _ => some d
theorem q_var {i : Nat} : SndQ (tVar i) (qVar i) := fun π C σ H δ d e rel Q k => by
  unfold qVar at e
  split at e
  · rename_i d' h
    cases e
    obtain ⟨v, h1, h2⟩ := rel.get h
    exact ⟨v, h1, k v H HE.refl h2⟩
  · cases e
theorem w_var {i : Nat} : SndW (tVar i) (qVarL i) := fun π C σ H δ d e rel Q k => by
  unfold qVarL at e
  split at e
  · rename_i d' h
    cases e
    obtain ⟨v, h1, h2⟩ := rel.get h
    exact ⟨v, h1, k v H HE.refl (.inl h2)⟩
  · rename_i w xs h
    cases e
    obtain ⟨ov, h1, a, h2, h3, ⟨vs, h4, h5⟩, _⟩ := rel.slot i _ h
    subst h2
    exact ⟨_, h1, k _ H HE.refl (.inr ⟨a, vs, xs, rfl, rfl, h4, h5⟩)⟩
  · cases e
theorem q_int {i : Int} : SndQ (tC (.int i)) (qC (.int i)) := fun π C σ H δ d e rel Q k => by
  cases e
  exact k _ H HE.refl (.int i)
theorem q_str {i : Str} : SndQ (tC (.str i)) (qC (.str i)) := fun π C σ H δ d e rel Q k => by
  cases e
  exact k _ H HE.refl (.str i)
theorem q_bl {i : Bool} : SndQ (tC (.bl i)) (qC (.bool i)) := fun π C σ H δ d e rel Q k => by
  cases e
  exact k _ H HE.refl (.bl i)
theorem q_non : SndQ (tC .non) (qC .none) := fun π C σ H δ d e rel Q k => by
  cases e
  exact k _ H HE.refl .non
end

/-! arguments -/
abbrev QA := Pst → Option (List D)
abbrev XA := Pst → Option (List D × Pst)
def SndQA (ta : TA) (q : QA) : Prop := ∀ (π : List V) (C : Addr → Prop) (σ : L2.St) (H : Hp) (δ : Pst) (ds : List D), q δ = some ds → Rel π C σ H δ → ∀ Q : List V → Hp → Prop, (∀ vs H', HE H H' → Wats C H' vs ds → Q vs H') → ta σ H Q
def SndQD (ta : TA) (q : QA) : Prop := ∀ (π : List V) (C : Addr → Prop) (σ : L2.St) (H : Hp) (δ : Pst) (ds : List D), q δ = some ds → Rel π C σ H δ → ∀ Q : List V → Hp → Prop, (∀ vs H', HE H H' → Dats C H' vs ds → Q vs H') → ta σ H Q
def SndXA (ta : TA) (x : XA) : Prop := ∀ (π : List V) (C : Addr → Prop) (σ : L2.St) (H : Hp) (δ : Pst) (ds : List D) (δ' : Pst), x δ = some (ds, δ') → Rel π C σ H δ → ∀ Q : List V → Hp → Prop, (∀ vs H', Chg π C σ H δ H' δ' → Dats C H' vs ds → Q vs H') → ta σ H Q
def qNil : QA := fun _ => some []
def qCons (a : QE) (b : QA) : QA := fun δ => (a δ).bind fun x => (b δ).map fun xs => x :: xs
def xNil : XA := fun δ => some ([], δ)
def xCons (a : XE) (b : XA) : XA := fun δ => (a δ).bind fun p => (b p.2).map fun q => (p.1 :: q.1, q.2)
def xqA (q : QA) : XA := fun δ => (q δ).map fun d => (d, δ)
section
variable {ta tb tc te : TE} {tr : TA} {qa qb qc : QE} {xa xb xc : XE} {qr : QA} {xr : XA}
theorem qa_nil : SndQA tNil qNil := fun π C σ H δ d e rel Q k => by
  cases e
  exact k _ H HE.refl .nil
theorem qd_nil : SndQD tNil qNil := fun π C σ H δ d e rel Q k => by
  cases e
  exact k _ H HE.refl .nil
theorem xa_nil : SndXA tNil xNil := fun π C σ H δ d δ' e rel Q k => by
  cases e
  exact k _ H (Chg.he rel HE.refl) .nil
theorem qa_cons (ha : SndW ta qa) (hr : SndQA tr qr) : SndQA (tCons ta tr) (qCons qa qr) := fun π C σ H δ d e rel Q k => by
  unfold qCons at e
  obtain ⟨x, e1, e⟩ := Option.bind_eq_some_iff.mp e
  obtain ⟨xs, e2, e⟩ := Option.map_eq_some_iff.mp e
  subst e
  refine ha π C σ H δ x e1 rel _ fun v H1 h1 w1 => ?_
  refine hr π C σ H1 δ xs e2 (rel.he h1) _ fun vs H2 h2 w2 => ?_
  exact k _ H2 (h1.trans h2) (.cons (w1.he h2) w2)
theorem qd_cons (ha : SndQ ta qa) (hr : SndQD tr qr) : SndQD (tCons ta tr) (qCons qa qr) := fun π C σ H δ d e rel Q k => by
  unfold qCons at e
  obtain ⟨x, e1, e⟩ := Option.bind_eq_some_iff.mp e
  obtain ⟨xs, e2, e⟩ := Option.map_eq_some_iff.mp e
  subst e
  refine ha π C σ H δ x e1 rel _ fun v H1 h1 w1 => ?_
  refine hr π C σ H1 δ xs e2 (rel.he h1) _ fun vs H2 h2 w2 => ?_
  exact k _ H2 (h1.trans h2) (.cons (w1.he h2) w2)
theorem xa_cons (ha : SndX ta xa) (hr : SndXA tr xr) : SndXA (tCons ta tr) (xCons xa xr) := fun π C σ H δ d δ' e rel Q k => by
  unfold xCons at e
  obtain ⟨⟨x, δ1⟩, e1, e⟩ := Option.bind_eq_some_iff.mp e
  obtain ⟨⟨xs, δ2⟩, e2, e⟩ := Option.map_eq_some_iff.mp e
  injection e with e4 e5
  subst e4
  subst e5
  refine ha π C σ H δ x δ1 e1 rel _ fun v H1 c1 w1 => ?_
  refine hr π C σ H1 δ1 xs δ2 e2 c1.rel _ fun vs H2 c2 w2 => ?_
  exact k _ H2 (c1.trans c2) (.cons (c2.dat c1.rel w1) w2)
theorem SndQD.a (h : SndQD tr qr) : SndQA tr qr := fun π C σ H δ d e rel Q k => h π C σ H δ d e rel Q fun vs H' h' w => k vs H' h' w.wats
theorem SndQD.x (h : SndQD tr qr) : SndXA tr (xqA qr) := fun π C σ H δ d δ' e rel Q k => by
  unfold xqA at e
  obtain ⟨d', e1, e⟩ := Option.map_eq_some_iff.mp e
  injection e with e4 e5
  subst e4
  subst e5
  exact h π C σ H δ _ e1 rel Q fun v H' e' w => k v H' (Chg.he rel e') w
/-! displays -/
def dTup (ds : List D) : Option D := if ds.length ≤ 100000 then some (.tuple ds) else none
def dLst (ds : List D) : Option D := if ds.length ≤ 100000 then some (.list ds) else none
def qTup (a : QA) : QE := fun δ => (a δ).bind dTup
def qLst (a : QA) : QE := fun δ => (a δ).bind dLst
def xTup (a : XA) : XE := fun δ => (a δ).bind fun p => (dTup p.1).map fun d => (d, p.2)
def xLst (a : XA) : XE := fun δ => (a δ).bind fun p => (dLst p.1).map fun d => (d, p.2)
theorem sz_of {n : Nat} (h : n ≤ 100000) : n ≤ sizeLine := Nat.le_trans h (by decide)
theorem sz_lt {n : Nat} (h : n < 100000) : n < sizeLine := Nat.lt_of_lt_of_le h (by decide)
theorem new_tup {C : Addr → Prop} {H : Hp} {vs : List V} {ds : List D} (g : Good C H) (h : Dats C H vs ds) {p : Addr} (n : H p = none) : Dat C (upd H p (.tup vs)) (.ref p) (.tuple ds) :=
  .tup (fun hc => by
    obtain ⟨o, q⟩ := g p hc
    rw [n] at q
    cases q) upd_same (h.he (HE.new n))
theorem new_lst {C : Addr → Prop} {H : Hp} {vs : List V} {ds : List D} (g : Good C H) (h : Dats C H vs ds) {p : Addr} (n : H p = none) : Dat C (upd H p (.lst vs)) (.ref p) (.list ds) :=
  .lst (fun hc => by
    obtain ⟨o, q⟩ := g p hc
    rw [n] at q
    cases q) upd_same (h.he (HE.new n))
theorem dTup_some {ds : List D} {d : D} (h : dTup ds = some d) : ds.length ≤ 100000 ∧ d = .tuple ds := by
  unfold dTup at h
  split at h
  · cases h
    exact ⟨by assumption, rfl⟩
  · cases h
theorem dLst_some {ds : List D} {d : D} (h : dLst ds = some d) : ds.length ≤ 100000 ∧ d = .list ds := by
  unfold dLst at h
  split at h
  · cases h
    exact ⟨by assumption, rfl⟩
  · cases h
theorem q_tup (h : SndQD tr qr) : SndQ (tTup tr) (qTup qr) := fun π C σ H δ d e rel Q k => by
  obtain ⟨ds, e1, e⟩ := Option.bind_eq_some_iff.mp e
  obtain ⟨hl, e⟩ := dTup_some e
  subst e
  refine h π C σ H δ ds e1 rel _ fun vs H1 h1 w1 => ⟨by rw [w1.length]; exact sz_of hl, fun p hp => ?_⟩
  exact k _ _ (h1.trans (HE.new hp)) (new_tup (rel.he h1).good w1 hp)
theorem q_lst (h : SndQD tr qr) : SndQ (tLst tr) (qLst qr) := fun π C σ H δ d e rel Q k => by
  obtain ⟨ds, e1, e⟩ := Option.bind_eq_some_iff.mp e
  obtain ⟨hl, e⟩ := dLst_some e
  subst e
  refine h π C σ H δ ds e1 rel _ fun vs H1 h1 w1 => ⟨by rw [w1.length]; exact sz_of hl, fun p hp => ?_⟩
  exact k _ _ (h1.trans (HE.new hp)) (new_lst (rel.he h1).good w1 hp)
theorem x_tup (h : SndXA tr xr) : SndX (tTup tr) (xTup xr) := fun π C σ H δ d δ' e rel Q k => by
  obtain ⟨⟨ds, δ1⟩, e1, e⟩ := Option.bind_eq_some_iff.mp e
  obtain ⟨d', e2, e⟩ := Option.map_eq_some_iff.mp e
  injection e with e4 e5
  subst e4
  subst e5
  obtain ⟨hl, e⟩ := dTup_some e2
  subst e
  refine h π C σ H δ ds δ1 e1 rel _ fun vs H1 c1 w1 => ⟨by rw [w1.length]; exact sz_of hl, fun p hp => ?_⟩
  exact k _ _ (c1.trans (Chg.he c1.rel (HE.new hp))) (new_tup c1.rel.good w1 hp)
theorem x_lst (h : SndXA tr xr) : SndX (tLst tr) (xLst xr) := fun π C σ H δ d δ' e rel Q k => by
  obtain ⟨⟨ds, δ1⟩, e1, e⟩ := Option.bind_eq_some_iff.mp e
  obtain ⟨d', e2, e⟩ := Option.map_eq_some_iff.mp e
  injection e with e4 e5
  subst e4
  subst e5
  obtain ⟨hl, e⟩ := dLst_some e2
  subst e
  refine h π C σ H δ ds δ1 e1 rel _ fun vs H1 c1 w1 => ⟨by rw [w1.length]; exact sz_of hl, fun p hp => ?_⟩
  exact k _ _ (c1.trans (Chg.he c1.rel (HE.new hp))) (new_lst c1.rel.good w1 hp)
/-! calls of built-ins -/
def qCall (f : List D → Option D) (a : QA) : QE := fun δ => (a δ).bind f
def xCallB (f : List D → Option D) (a : XA) : XE := fun δ => (a δ).bind fun p => (f p.1).map fun d => (d, p.2)
theorem q_cb {r : List V → Hp → VK → Prop} {f : List D → Option D} (hr : CaF r f) (h : SndQA tr qr) : SndQ (tCB r tr) (qCall f qr) := fun π C σ H δ d e rel Q k => by
  obtain ⟨ds, e1, e⟩ := Option.bind_eq_some_iff.mp e
  refine h π C σ H δ ds e1 rel _ fun vs H1 h1 w1 => ?_
  exact hr C H1 vs ds d e (rel.he h1).good w1 Q fun z H3 h3 w3 => k z H3 (h1.trans h3) w3
theorem x_cb {r : List V → Hp → VK → Prop} {f : List D → Option D} (hr : CaF r f) (h : SndXA tr xr) : SndX (tCB r tr) (xCallB f xr) := fun π C σ H δ d δ' e rel Q k => by
  obtain ⟨⟨ds, δ1⟩, e1, e⟩ := Option.bind_eq_some_iff.mp e
  obtain ⟨d', e2, e⟩ := Option.map_eq_some_iff.mp e
  injection e with e4 e5
  subst e4
  subst e5
  refine h π C σ H δ ds δ1 e1 rel _ fun vs H1 c1 w1 => ?_
  exact hr C H1 vs ds _ e2 c1.rel.good w1.wats Q fun z H3 h3 w3 => k z H3 (c1.trans (Chg.he c1.rel h3)) w3
/-! tests, conditional expressions, and, or, not -/
abbrev QT := Pst → Option Bool
abbrev XT := Pst → Option (Bool × Pst)
end
def SndT (tt : TT) (q : QT) : Prop := ∀ (π : List V) (C : Addr → Prop) (σ : L2.St) (H : Hp) (δ : Pst) (b : Bool), q δ = some b → Rel π C σ H δ → ∀ Q : Bool → Hp → Prop, (∀ H', HE H H' → Q b H') → tt σ H Q
def SndXT (tt : TT) (x : XT) : Prop := ∀ (π : List V) (C : Addr → Prop) (σ : L2.St) (H : Hp) (δ : Pst) (b : Bool) (δ' : Pst), x δ = some (b, δ') → Rel π C σ H δ → ∀ Q : Bool → Hp → Prop, (∀ H', Chg π C σ H δ H' δ' → Q b H') → tt σ H Q
def asB : D → Option Bool
  | .bool b => some b
  | _ => none
def qTest (a : QE) : QT := fun δ => (a δ).bind asB
def xTest (a : XE) : XT := fun δ => (a δ).bind fun p => (asB p.1).map fun b => (b, p.2)
theorem asB_some {d : D} {b : Bool} (h : asB d = some b) : d = .bool b := by
  unfold asB at h
  split at h
  · cases h; rfl
  · cases h
section
variable {ta tb tc te : TE} {qa qb qc : QE} {xa xb xc : XE} {t u : TT} {qt qu : QT} {xt xu : XT}
theorem t_test (h : SndQ ta qa) : SndT (tTest ta) (qTest qa) := fun π C σ H δ b e rel Q k => by
  obtain ⟨d, e1, e⟩ := Option.bind_eq_some_iff.mp e
  have e := asB_some e
  subst e
  refine h π C σ H δ _ e1 rel _ fun v H1 h1 w1 => ⟨b, w1.bool_eq, k H1 h1⟩
theorem t_B (h : SndQ ta qa) : SndT (tB ta) (qTest qa) := fun π C σ H δ b e rel Q k => by
  obtain ⟨d, e1, e⟩ := Option.bind_eq_some_iff.mp e
  have e := asB_some e
  subst e
  refine h π C σ H δ _ e1 rel _ fun v H1 h1 w1 => ⟨b, w1.bool_eq, k H1 h1⟩
theorem xt_test (h : SndX ta xa) : SndXT (tTest ta) (xTest xa) := fun π C σ H δ b δ' e rel Q k => by
  obtain ⟨⟨d, δ1⟩, e1, e⟩ := Option.bind_eq_some_iff.mp e
  obtain ⟨b', e2, e⟩ := Option.map_eq_some_iff.mp e
  injection e with e4 e5
  subst e4
  subst e5
  have e := asB_some e2
  subst e
  refine h π C σ H δ _ _ e1 rel _ fun v H1 h1 w1 => ⟨_, w1.bool_eq, k H1 h1⟩
theorem xt_B (h : SndX ta xa) : SndXT (tB ta) (xTest xa) := xt_test h
def xqT (q : QT) : XT := fun δ => (q δ).map fun b => (b, δ)
theorem SndT.x (h : SndT t qt) : SndXT t (xqT qt) := fun π C σ H δ d δ' e rel Q k => by
  obtain ⟨d', e1, e⟩ := Option.map_eq_some_iff.mp e
  injection e with e4 e5
  subst e4
  subst e5
  exact h π C σ H δ _ e1 rel Q fun H' e' => k H' (Chg.he rel e')
def qAnd (a b : QT) : QT := fun δ => (a δ).bind fun x => if x = true then b δ else some false
def qOr (a b : QT) : QT := fun δ => (a δ).bind fun x => if x = true then some true else b δ
def qNot (a : QT) : QT := fun δ => (a δ).map fun x => !x
def xAnd (a b : XT) : XT := fun δ => (a δ).bind fun x => if x.1 = true then b x.2 else some (false, x.2)
def xOr (a b : XT) : XT := fun δ => (a δ).bind fun x => if x.1 = true then some (true, x.2) else b x.2
def xNot (a : XT) : XT := fun δ => (a δ).map fun x => (!x.1, x.2)
theorem t_and (ha : SndT t qt) (hb : SndT u qu) : SndT (tAnd t u) (qAnd qt qu) := fun π C σ H δ b e rel Q k => by
  obtain ⟨x, e1, e⟩ := Option.bind_eq_some_iff.mp e
  refine ha π C σ H δ x e1 rel _ fun H1 h1 => ?_
  cases x with
  | true => exact iteT (hb π C σ H1 δ b e (rel.he h1) Q fun H2 h2 => k H2 (h1.trans h2))
  | false =>
    cases e
    exact iteF (k H1 h1)
theorem t_or (ha : SndT t qt) (hb : SndT u qu) : SndT (tOr t u) (qOr qt qu) := fun π C σ H δ b e rel Q k => by
  obtain ⟨x, e1, e⟩ := Option.bind_eq_some_iff.mp e
  refine ha π C σ H δ x e1 rel _ fun H1 h1 => ?_
  cases x with
  | false => exact iteF (hb π C σ H1 δ b e (rel.he h1) Q fun H2 h2 => k H2 (h1.trans h2))
  | true =>
    cases e
    exact iteT (k H1 h1)
theorem t_not (ha : SndT t qt) : SndT (tNot t) (qNot qt) := fun π C σ H δ b e rel Q k => by
  obtain ⟨x, e1, e⟩ := Option.map_eq_some_iff.mp e
  subst e
  exact ha π C σ H δ x e1 rel _ fun H1 h1 => k H1 h1
theorem xt_and (ha : SndXT t xt) (hb : SndXT u xu) : SndXT (tAnd t u) (xAnd xt xu) := fun π C σ H δ b δ' e rel Q k => by
  obtain ⟨⟨x, δ1⟩, e1, e⟩ := Option.bind_eq_some_iff.mp e
  refine ha π C σ H δ x δ1 e1 rel _ fun H1 h1 => ?_
  cases x with
  | true => exact iteT (hb π C σ H1 δ1 b δ' e h1.rel Q fun H2 h2 => k H2 (h1.trans h2))
  | false =>
    cases e
    exact iteF (k H1 h1)
theorem xt_or (ha : SndXT t xt) (hb : SndXT u xu) : SndXT (tOr t u) (xOr xt xu) := fun π C σ H δ b δ' e rel Q k => by
  obtain ⟨⟨x, δ1⟩, e1, e⟩ := Option.bind_eq_some_iff.mp e
  refine ha π C σ H δ x δ1 e1 rel _ fun H1 h1 => ?_
  cases x with
  | false => exact iteF (hb π C σ H1 δ1 b δ' e h1.rel Q fun H2 h2 => k H2 (h1.trans h2))
  | true =>
    cases e
    exact iteT (k H1 h1)
theorem xt_not (ha : SndXT t xt) : SndXT (tNot t) (xNot xt) := fun π C σ H δ b δ' e rel Q k => by
  obtain ⟨⟨x, δ1⟩, e1, e⟩ := Option.map_eq_some_iff.mp e
  injection e with e4 e5
  subst e4
  subst e5
  exact ha π C σ H δ x δ1 e1 rel _ fun H1 h1 => k H1 h1
def qIf (t : QT) (a b : QE) : QE := fun δ => (t δ).bind fun x => if x = true then a δ else b δ
def xIf (t : XT) (a b : XE) : XE := fun δ => (t δ).bind fun x => if x.1 = true then a x.2 else b x.2
theorem q_if (ht : SndT t qt) (ha : SndQ ta qa) (hb : SndQ tb qb) : SndQ (tIf t ta tb) (qIf qt qa qb) := fun π C σ H δ d e rel Q k => by
  obtain ⟨x, e1, e⟩ := Option.bind_eq_some_iff.mp e
  refine ht π C σ H δ x e1 rel _ fun H1 h1 => ?_
  cases x with
  | true => exact iteT (ha π C σ H1 δ d e (rel.he h1) Q fun v H2 h2 => k v H2 (h1.trans h2))
  | false => exact iteF (hb π C σ H1 δ d e (rel.he h1) Q fun v H2 h2 => k v H2 (h1.trans h2))
theorem x_if (ht : SndXT t xt) (ha : SndX ta xa) (hb : SndX tb xb) : SndX (tIf t ta tb) (xIf xt xa xb) := fun π C σ H δ d δ' e rel Q k => by
  obtain ⟨⟨x, δ1⟩, e1, e⟩ := Option.bind_eq_some_iff.mp e
  refine ht π C σ H δ x δ1 e1 rel _ fun H1 h1 => ?_
  cases x with
  | true => exact iteT (ha π C σ H1 δ1 d δ' e h1.rel Q fun v H2 h2 => k v H2 (h1.trans h2))
  | false => exact iteF (hb π C σ H1 δ1 d δ' e h1.rel Q fun v H2 h2 => k v H2 (h1.trans h2))
/-- and, or, not as values, all but the last True or False -/
def qAndV (a b : QE) : QE := fun δ => (a δ).bind fun x => (asB x).bind fun c => if c = true then b δ else some (.bool false)
def qOrV (a b : QE) : QE := fun δ => (a δ).bind fun x => (asB x).bind fun c => if c = true then some (.bool true) else b δ
def qNotV (a : QE) : QE := fun δ => (a δ).bind fun x => (asB x).map fun c => .bool (!c)
def xAndV (a b : XE) : XE := fun δ => (a δ).bind fun x => (asB x.1).bind fun c => if c = true then b x.2 else some (.bool false, x.2)
def xOrV (a b : XE) : XE := fun δ => (a δ).bind fun x => (asB x.1).bind fun c => if c = true then some (.bool true, x.2) else b x.2
def xNotV (a : XE) : XE := fun δ => (a δ).bind fun x => (asB x.1).map fun c => (.bool (!c), x.2)
theorem q_andV (ha : SndQ ta qa) (hb : SndQ tb qb) : SndQ (tAndV ta tb) (qAndV qa qb) := fun π C σ H δ d e rel Q k => by
  obtain ⟨x, e1, e⟩ := Option.bind_eq_some_iff.mp e
  obtain ⟨c, e2, e⟩ := Option.bind_eq_some_iff.mp e
  have e2 := asB_some e2
  subst e2
  refine ha π C σ H δ _ e1 rel _ fun v H1 h1 w1 => ⟨c, w1.bool_eq, ?_⟩
  cases c with
  | true => exact iteT (hb π C σ H1 δ d e (rel.he h1) Q fun v H2 h2 => k v H2 (h1.trans h2))
  | false =>
    cases e
    exact iteF (k _ H1 h1 (.bl false))
theorem q_orV (ha : SndQ ta qa) (hb : SndQ tb qb) : SndQ (tOrV ta tb) (qOrV qa qb) := fun π C σ H δ d e rel Q k => by
  obtain ⟨x, e1, e⟩ := Option.bind_eq_some_iff.mp e
  obtain ⟨c, e2, e⟩ := Option.bind_eq_some_iff.mp e
  have e2 := asB_some e2
  subst e2
  refine ha π C σ H δ _ e1 rel _ fun v H1 h1 w1 => ⟨c, w1.bool_eq, ?_⟩
  cases c with
  | false => exact iteF (hb π C σ H1 δ d e (rel.he h1) Q fun v H2 h2 => k v H2 (h1.trans h2))
  | true =>
    cases e
    exact iteT (k _ H1 h1 (.bl true))
theorem q_notV (ha : SndQ ta qa) : SndQ (tNotV ta) (qNotV qa) := fun π C σ H δ d e rel Q k => by
  obtain ⟨x, e1, e⟩ := Option.bind_eq_some_iff.mp e
  obtain ⟨c, e2, e⟩ := Option.map_eq_some_iff.mp e
  subst e
  have e2 := asB_some e2
  subst e2
  exact ha π C σ H δ _ e1 rel _ fun v H1 h1 w1 => ⟨c, w1.bool_eq, k _ H1 h1 (.bl _)⟩
theorem x_andV (ha : SndX ta xa) (hb : SndX tb xb) : SndX (tAndV ta tb) (xAndV xa xb) := fun π C σ H δ d δ' e rel Q k => by
  obtain ⟨⟨x, δ1⟩, e1, e⟩ := Option.bind_eq_some_iff.mp e
  obtain ⟨c, e2, e⟩ := Option.bind_eq_some_iff.mp e
  have e2 := asB_some e2
  subst e2
  refine ha π C σ H δ _ _ e1 rel _ fun v H1 h1 w1 => ⟨c, w1.bool_eq, ?_⟩
  cases c with
  | true => exact iteT (hb π C σ H1 δ1 d δ' e h1.rel Q fun v H2 h2 => k v H2 (h1.trans h2))
  | false =>
    cases e
    exact iteF (k _ H1 h1 (.bl false))
theorem x_orV (ha : SndX ta xa) (hb : SndX tb xb) : SndX (tOrV ta tb) (xOrV xa xb) := fun π C σ H δ d δ' e rel Q k => by
  obtain ⟨⟨x, δ1⟩, e1, e⟩ := Option.bind_eq_some_iff.mp e
  obtain ⟨c, e2, e⟩ := Option.bind_eq_some_iff.mp e
  have e2 := asB_some e2
  subst e2
  refine ha π C σ H δ _ _ e1 rel _ fun v H1 h1 w1 => ⟨c, w1.bool_eq, ?_⟩
  cases c with
  | false => exact iteF (hb π C σ H1 δ1 d δ' e h1.rel Q fun v H2 h2 => k v H2 (h1.trans h2))
  | true =>
    cases e
    exact iteT (k _ H1 h1 (.bl true))
theorem x_notV (ha : SndX ta xa) : SndX (tNotV ta) (xNotV xa) := fun π C σ H δ d δ' e rel Q k => by
  obtain ⟨⟨x, δ1⟩, e1, e⟩ := Option.bind_eq_some_iff.mp e
  obtain ⟨c, e2, e⟩ := Option.map_eq_some_iff.mp e
  injection e with e4 e5
  subst e4
  subst e5
  have e2 := asB_some e2
  subst e2
  exact ha π C σ H δ _ _ e1 rel _ fun v H1 h1 w1 => ⟨c, w1.bool_eq, k _ H1 h1 (.bl _)⟩
end
end Pu

namespace Pu
open PySem L2
section
variable {K : PySem.W.Frag} {C : Addr → Prop} {H : Hp}
theorem sqL {a : Addr} {xs : List V} (h : H a = some (.lst xs)) : SqL K H a xs := .inl (.inl h)
theorem sqT {a : Addr} {xs : List V} (h : H a = some (.tup xs)) : SqT K H a xs := .inl (.inl h)
mutual
theorem Dat.dp : ∀ {v : V} {d : D}, Dat C H v d → PyData.canLay0 d = true → Dp K H v d
  | _, _, .non, _ => .non
  | _, _, .bl b, _ => .bl b
  | _, _, .int i, _ => .int i
  | _, _, .str x, _ => .str x
  | _, _, .lst _ h t, c => .lst (sqL h) (Dats.dp t (by rw [PyData.canLay0] at c; exact c))
  | _, _, .tup _ h t, c => .tup (sqT h) (Dats.dp t (by rw [PyData.canLay0] at c; exact c))
  | _, _, .exc _ _ _ _ _, c => by rw [PyData.canLay0] at c; cases c
  | _, _, .ex0 _ _, c => by rw [PyData.canLay0] at c; cases c
theorem Dats.dp : ∀ {v : List V} {d : List D}, Dats C H v d → PyData.canLayAll0 d = true → DpAll K H v d
  | _, _, .nil, _ => .nil
  | _, _, .cons h t, c => by
    rw [PyData.canLayAll0] at c
    obtain ⟨c1, c2⟩ := Bool.and_eq_true_iff.mp c
    exact .cons (Dat.dp h c1) (Dats.dp t c2)
end
theorem Wat.dp {v : V} {d : D} (h : Wat C H v d) (c : PyData.canLay0 d = true) : Dp K H v d := by
  rcases h with h | ⟨a, vs, xs, rfl, rfl, h3, h4⟩
  · exact h.dp c
  · exact .lst (sqL h3) (h4.dp (by rw [PyData.canLay0] at c; exact c))
theorem Wat.flat {v : V} {d : D} (h : Wat C H v d) : (match d with | .list _ => False | .tuple _ => False | _ => True) → Dat C H v d := by
  rcases h with h | ⟨a, vs, xs, rfl, rfl, h3, h4⟩
  · exact fun _ => h
  · exact fun z => z.elim
end
/-! ints -/
def dI (f : Int → Int → Option D) : D → D → Option D
  | .int i, .int j => f i j
  | _, _ => none
theorem dI_some {f : Int → Int → Option D} {a b d : D} (h : dI f a b = some d) : ∃ i j, a = .int i ∧ b = .int j ∧ f i j = some d := by
  unfold dI at h
  split at h
  · exact ⟨_, _, rfl, rfl, h⟩
  · cases h
def dSub : D → D → Option D := dI fun i j => some (.int (i - j))
def dLt : D → D → Option D := dI fun i j => some (.bool (decide (i < j)))
def dLe : D → D → Option D := dI fun i j => some (.bool (decide (i ≤ j)))
def dGt : D → D → Option D := dI fun i j => some (.bool (decide (j < i)))
def dGe : D → D → Option D := dI fun i j => some (.bool (decide (j ≤ i)))
def CMulA (i j : Int) : Prop := CMul i j ∨ CMulW i j
instance (i j : Int) : Decidable (CMulA i j) := by unfold CMulA CMul CMulW; infer_instance
def dMod : D → D → Option D := dI fun i j => if 0 < j then some (.int (i % j)) else none
instance (i j : Int) : Decidable (CDivW i j) := by unfold CDivW; infer_instance
instance (i j : Int) : Decidable (CDivN i j) := by unfold CDivN; infer_instance
instance (i j : Int) : Decidable (CPow i j) := by unfold CPow; infer_instance
def dDiv : D → D → Option D := dI fun i j => if CDivW i j then some (.int (i / j)) else if CDivN i j then some (.int (i.fdiv j)) else none
def dPow : D → D → Option D := dI fun i j => if CPow i j then some (.int (i ^ j.toNat)) else none
theorem o_I0 {g : Int → Int → V} {f : Int → Int → Option D} (hg : ∀ i j d C H, f i j = some d → Dat C H (g i j) d) : OpF (rI0 g) (dI f) := fun C H x y a b d e g0 wa wb Q k => by
  obtain ⟨i, j, e1, e2, e3⟩ := dI_some e
  subst e1
  subst e2
  exact ⟨i, j, wa.int, wb.int, k _ H HE.refl (hg i j d C H e3)⟩
theorem o_sub : OpF (rI0 fun i j => .int (i - j)) dSub := o_I0 fun i j d C H h => by cases h; exact .int _
theorem o_lt : OpF (rI0 fun i j => .bl (decide (i < j))) dLt := o_I0 fun i j d C H h => by cases h; exact .bl _
theorem o_le : OpF (rI0 fun i j => .bl (decide (i ≤ j))) dLe := o_I0 fun i j d C H h => by cases h; exact .bl _
theorem o_gt : OpF (rI0 fun i j => .bl (decide (j < i))) dGt := o_I0 fun i j d C H h => by cases h; exact .bl _
theorem o_ge : OpF (rI0 fun i j => .bl (decide (j ≤ i))) dGe := o_I0 fun i j d C H h => by cases h; exact .bl _
theorem o_mod : OpF (rI (fun _ j => 0 < j) fun i j => .int (i % j)) dMod := fun C H x y a b d e g0 wa wb Q k => by
  obtain ⟨i, j, e1, e2, e3⟩ := dI_some e
  subst e1
  subst e2
  split at e3
  · cases e3
    exact ⟨i, j, wa.int, wb.int, by assumption, k _ H HE.refl (.int _)⟩
  · cases e3
theorem o_pow : OpF (rI CPow fun i j => .int (i ^ j.toNat)) dPow := fun C H x y a b d e g0 wa wb Q k => by
  obtain ⟨i, j, e1, e2, e3⟩ := dI_some e
  subst e1
  subst e2
  split at e3
  · cases e3
    exact ⟨i, j, wa.int, wb.int, by assumption, k _ H HE.refl (.int _)⟩
  · cases e3
def rDivA : R2 := fun x y H Q => rI CDivW (fun i j => .int (i / j)) x y H Q ∨ rI CDivN (fun i j => .int (i.fdiv j)) x y H Q
theorem op_divA {X : Cx} : OpR X (binaryOp .FloorDiv) rDivA := op_fdivW.or op_fdivN
theorem o_div : OpF rDivA dDiv := fun C H x y a b d e g0 wa wb Q k => by
  obtain ⟨i, j, e1, e2, e3⟩ := dI_some e
  subst e1
  subst e2
  split at e3
  · cases e3
    exact .inl ⟨i, j, wa.int, wb.int, by assumption, k _ H HE.refl (.int _)⟩
  · split at e3
    · cases e3
      exact .inr ⟨i, j, wa.int, wb.int, by assumption, k _ H HE.refl (.int _)⟩
    · cases e3
/-! + -/
def dAdd : D → D → Option D
  | .int i, .int j => some (.int (i + j))
  | .str x, .str y => if x.length + y.length ≤ 100000 then some (.str (x ++ y)) else none
  | .tuple xs, .tuple ys => if xs.length + ys.length ≤ 100000 then some (.tuple (xs ++ ys)) else none
  | .list xs, .list ys => if xs.length + ys.length ≤ 100000 then some (.list (xs ++ ys)) else none
  | _, _ => none
def rAddS : R2 := fun x y H Q => ∃ i j, x = .str i ∧ y = .str j ∧ i.length + j.length ≤ sizeLine ∧ Q (.str (i ++ j)) H
def rAddA (K : PySem.W.Frag) : R2 := fun x y H Q => rI0 (fun i j => .int (i + j)) x y H Q ∨ rAddS x y H Q ∨ rCatA K x y H Q ∨ rCat x y H Q
theorem op_addA {X : Cx} : OpR X (binaryOp .Add) (rAddA X.K) := op_add.or (OpR.or (r := rAddS) op_add_str (op_catA.or op_cat))
theorem Dats.nil_r {C : Addr → Prop} {H : Hp} {vs : List V} {ds : List D} (h : Dats C H vs ds) : vs = [] ↔ ds = [] := by
  cases h with
  | nil => exact ⟨fun _ => rfl, fun _ => rfl⟩
  | cons _ _ =>
    constructor
    · intro z
      cases z
    · intro z
      cases z
theorem o_add {K : PySem.W.Frag} : OpF (rAddA K) dAdd := fun C H x y a b d e g0 wa wb Q k => by
  unfold dAdd at e
  split at e
  · cases e
    exact .inl ⟨_, _, wa.int, wb.int, k _ H HE.refl (.int _)⟩
  · split at e
    · cases e
      exact .inr (.inl ⟨_, _, wa.str, wb.str, sz_of (by assumption), k _ H HE.refl (.str _)⟩)
    · cases e
  · rename_i xs ys
    split at e
    · rename_i hl
      cases e
      obtain ⟨p, vs, e1, c1, h1, d1⟩ := wa.tup
      obtain ⟨q, us, e2, c2, h2, d2⟩ := wb.tup
      refine .inr (.inr (.inl ⟨p, q, vs, us, e1, e2, sqT h1, sqT h2, by rw [d1.length, d2.length]; exact sz_of hl, fun z => ?_, fun z1 z2 => ?_, fun z1 z2 t ht => ?_⟩))
      · have z' := d1.nil_r.mp z
        subst z'
        exact k _ H HE.refl (.tup c2 h2 d2)
      · have z' := d2.nil_r.mp z2
        subst z'
        refine k _ H HE.refl ?_
        rw [List.append_nil]
        exact .tup c1 h1 d1
      · exact k _ _ (HE.new ht) (new_tup g0 (d1.append d2) ht)
    · cases e
  · rename_i xs ys
    split at e
    · rename_i hl
      cases e
      obtain ⟨p, vs, e1, h1, d1⟩ := wa.list
      obtain ⟨q, us, e2, h2, d2⟩ := wb.list
      exact .inr (.inr (.inr ⟨p, q, vs, us, e1, e2, h1, h2, by rw [d1.length, d2.length]; exact sz_of hl, fun t ht => k _ _ (HE.new ht) (new_lst g0 (d1.append d2) ht)⟩))
    · cases e
  · cases e
/-! * -/
def dMul : D → D → Option D := dI fun i j => if CMulA i j then some (.int (i * j)) else none
def rMulA : R2 := fun x y H Q => rI CMul (fun i j => .int (i * j)) x y H Q ∨ rI CMulW (fun i j => .int (i * j)) x y H Q
theorem op_mulA {X : Cx} : OpR X (binaryOp .Mult) rMulA := op_mul.or op_mulW
theorem o_mul : OpF rMulA dMul := fun C H x y a b d e g0 wa wb Q k => by
  obtain ⟨i, j, e1, e2, e3⟩ := dI_some e
  subst e1
  subst e2
  split at e3
  · rename_i hc
    cases e3
    rcases hc with hc | hc
    · exact .inl ⟨i, j, wa.int, wb.int, hc, k _ H HE.refl (.int _)⟩
    · exact .inr ⟨i, j, wa.int, wb.int, hc, k _ H HE.refl (.int _)⟩
  · cases e3
/-! -x -/
def dNeg : D → Option D
  | .int i => some (.int (-i))
  | _ => none
theorem u_neg : UnF (rU fun i => .int (-i)) dNeg := fun C H x a d e g0 wa Q k => by
  unfold dNeg at e
  split at e
  · cases e
    exact ⟨_, wa.int, k _ H HE.refl (.int _)⟩
  · cases e
/-! == , in -/
def dEqv (a b : D) : Option Bool := match a, b with
  | .int i, .int j => some (decide (i = j))
  | .str i, .str j => some (decide (i = j))
  | a, b => if SeqAt.shaped a = true ∧ SeqAt.shaped b = true then some (PyData.eqv a b) else none
def dEq (a b : D) : Option D := (dEqv a b).map .bool
def dNe (a b : D) : Option D := (dEqv a b).map fun c => .bool (!c)
def rEqA (K : PySem.W.Frag) : R2 := fun x y H Q => rEq x y H Q ∨ rEqD K x y H Q
def rNeA (K : PySem.W.Frag) : R2 := fun x y H Q => rNe x y H Q ∨ rNeD K x y H Q
theorem op_eqA {X : Cx} (hu : X.A.units + 64 < cLine) : OpR X (compareOp .Eq) (rEqA X.K) := op_eq.or (op_eqD hu)
theorem op_neA {X : Cx} (hu : X.A.units + 64 < cLine) : OpR X (compareOp .NotEq) (rNeA X.K) := op_ne.or (op_neD hu)
theorem o_eq {K : PySem.W.Frag} : OpF (rEqA K) dEq := fun C H x y a b d e g0 wa wb Q k => by
  obtain ⟨c, e1, e2⟩ := Option.map_eq_some_iff.mp e
  subst e2
  unfold dEqv at e1
  split at e1
  · cases e1
    refine .inl ⟨?_, ?_⟩
    · rw [wa.int, wb.int]; rfl
    · rw [wa.int, wb.int]
      refine k _ H HE.refl ?_
      rw [dec_int, Bool.beq_eq_decide_eq]
      exact .bl _
  · cases e1
    refine .inl ⟨?_, ?_⟩
    · rw [wa.str, wb.str]; rfl
    · rw [wa.str, wb.str]
      refine k _ H HE.refl ?_
      rw [dec_str, Bool.beq_eq_decide_eq]
      exact .bl _
  · split at e1
    · rename_i hs
      cases e1
      exact .inr ⟨_, _, wa.dp (SeqAt.canLay_of_shaped hs.1), wb.dp (SeqAt.canLay_of_shaped hs.2), hs.1, hs.2, k _ H HE.refl (.bl _)⟩
    · cases e1
theorem o_ne {K : PySem.W.Frag} : OpF (rNeA K) dNe := fun C H x y a b d e g0 wa wb Q k => by
  obtain ⟨c, e1, e2⟩ := Option.map_eq_some_iff.mp e
  subst e2
  unfold dEqv at e1
  split at e1
  · cases e1
    refine .inl ⟨?_, ?_⟩
    · rw [wa.int, wb.int]; rfl
    · rw [wa.int, wb.int]
      refine k _ H HE.refl ?_
      rw [dec_int, Bool.beq_eq_decide_eq]
      exact .bl _
  · cases e1
    refine .inl ⟨?_, ?_⟩
    · rw [wa.str, wb.str]; rfl
    · rw [wa.str, wb.str]
      refine k _ H HE.refl ?_
      rw [dec_str, Bool.beq_eq_decide_eq]
      exact .bl _
  · split at e1
    · rename_i hs
      cases e1
      exact .inr ⟨_, _, wa.dp (SeqAt.canLay_of_shaped hs.1), wb.dp (SeqAt.canLay_of_shaped hs.2), hs.1, hs.2, k _ H HE.refl (.bl _)⟩
    · cases e1
def dItems : D → Option (List D)
  | .list xs => some xs
  | .tuple xs => some xs
  | _ => none
def rInS : R2 := fun x y H Q => ∃ (c : Nat) (z : Str), x = .str ⟨#[c]⟩ ∧ y = .str z ∧ Q (.bl (decide (c ∈ z.cps.toList))) H
def rNotInS : R2 := fun x y H Q => ∃ (c : Nat) (z : Str), x = .str ⟨#[c]⟩ ∧ y = .str z ∧ Q (.bl (!decide (c ∈ z.cps.toList))) H
/-- one sign in a text -/
def dInSg (a b : D) : Option Bool := match a, b with
  | .str s, .str z => match s.cps.toList with
    | [c] => some (decide (c ∈ z.cps.toList))
    | _ => none
  | _, _ => none
theorem dInSg_some {a b : D} {r : Bool} (h : dInSg a b = some r) : ∃ c z, a = .str ⟨#[c]⟩ ∧ b = .str z ∧ r = decide (c ∈ z.cps.toList) := by
  unfold dInSg at h
  split at h
  · rename_i s z
    split at h
    · rename_i c hc
      cases h
      refine ⟨c, z, ?_, rfl, rfl⟩
      obtain ⟨arr⟩ := s
      have : arr = #[c] := by
        apply Array.toList_inj.mp
        rw [hc]
      rw [this]
    · cases h
  · cases h
def dInB (a b : D) : Option Bool := (dItems b).bind fun xs => if SeqAt.shaped a = true ∧ SeqAt.shaped b = true then some (xs.any fun z => PyData.eqv z a) else none
def dInA (a b : D) : Option Bool := match dInSg a b with
  | some r => some r
  | none => dInB a b
def dIn (a b : D) : Option D := (dInA a b).map .bool
def dNotIn (a b : D) : Option D := (dInA a b).map fun c => .bool (!c)
def rInT (K : PySem.W.Frag) : R2 := fun x y H Q => ∃ d ds, Dp K H x d ∧ Dp K H y (.tuple ds) ∧ SeqAt.shaped d = true ∧ SeqAt.shaped (.tuple ds) = true ∧ Q (.bl (ds.any fun z => PyData.eqv z d)) H
def rNotInT (K : PySem.W.Frag) : R2 := fun x y H Q => ∃ d ds, Dp K H x d ∧ Dp K H y (.tuple ds) ∧ SeqAt.shaped d = true ∧ SeqAt.shaped (.tuple ds) = true ∧ Q (.bl (!ds.any fun z => PyData.eqv z d)) H
theorem room_t {A : Around} {xs : List D} {d : D} (sd : SeqAt.shaped d = true) (hu : A.units + 65 < cLine) : A.units + 1 + min (PyData.depthAll xs) d.depth < cLine := by
  have h1 := SeqAt.depth_of_shaped sd
  have h2 : min (PyData.depthAll xs) d.depth ≤ d.depth := Nat.min_le_right _ _
  omega
theorem lay_t {xs : List D} (s : SeqAt.shaped (.tuple xs) = true) : PyData.canLayAll0 xs = true := SeqAt.canLay_of_shaped s
theorem op_inT {X : Cx} (hu : X.A.units + 65 < cLine) : OpR X (compareOp .In) (rInT X.K) := fun pins s σ H x y v u Q I rx ry ⟨d, ds, a1, a2, a3, a4, a5⟩ => by
  obtain ⟨as, r1⟩ := Dp.reads I _ _ _ a1 rx
  obtain ⟨bs, r2⟩ := Dp.reads I _ _ _ a2 ry
  exact SeqAt.in_tuple_reads r2 r1 (lay_t a4) (SeqAt.canLay_of_shaped a3) (room_t a3 hu) ⟨.bl _, H, I, rfl, a5⟩
theorem op_notInT {X : Cx} (hu : X.A.units + 65 < cLine) : OpR X (compareOp .NotIn) (rNotInT X.K) := fun pins s σ H x y v u Q I rx ry ⟨d, ds, a1, a2, a3, a4, a5⟩ => by
  obtain ⟨as, r1⟩ := Dp.reads I _ _ _ a1 rx
  obtain ⟨bs, r2⟩ := Dp.reads I _ _ _ a2 ry
  exact SeqAt.notIn_tuple_reads r2 r1 (lay_t a4) (SeqAt.canLay_of_shaped a3) (room_t a3 hu) ⟨.bl _, H, I, rfl, a5⟩
def rInA (K : PySem.W.Frag) : R2 := fun x y H Q => rInS x y H Q ∨ rInD K x y H Q ∨ rInT K x y H Q
def rNotInA (K : PySem.W.Frag) : R2 := fun x y H Q => rNotInS x y H Q ∨ rNotInD K x y H Q ∨ rNotInT K x y H Q
theorem op_inA {X : Cx} (hu : X.A.units + 65 < cLine) : OpR X (compareOp .In) (rInA X.K) := OpR.or (r := rInS) op_in_sign ((op_inD hu).or (op_inT hu))
theorem op_notInA {X : Cx} (hu : X.A.units + 65 < cLine) : OpR X (compareOp .NotIn) (rNotInA X.K) := OpR.or (r := rNotInS) op_notIn_sign ((op_notInD hu).or (op_notInT hu))
theorem o_in {K : PySem.W.Frag} : OpF (rInA K) dIn := fun C H x y a b d e g0 wa wb Q k => by
  obtain ⟨c, e1, e2⟩ := Option.map_eq_some_iff.mp e
  subst e2
  unfold dInA at e1
  split at e1
  · rename_i r hr
    cases e1
    obtain ⟨c', z, ea, eb, er⟩ := dInSg_some hr
    subst ea eb er
    exact .inl ⟨c', z, wa.str, wb.str, k _ H HE.refl (.bl _)⟩
  · obtain ⟨xs, e3, e4⟩ := Option.bind_eq_some_iff.mp e1
    split at e4
    · rename_i hs
      cases e4
      unfold dItems at e3
      split at e3
      · cases e3
        exact .inr (.inl ⟨_, _, wa.dp (SeqAt.canLay_of_shaped hs.1), wb.dp (SeqAt.canLay_of_shaped hs.2), hs.1, hs.2, k _ H HE.refl (.bl _)⟩)
      · cases e3
        exact .inr (.inr ⟨_, _, wa.dp (SeqAt.canLay_of_shaped hs.1), wb.dp (SeqAt.canLay_of_shaped hs.2), hs.1, hs.2, k _ H HE.refl (.bl _)⟩)
      · cases e3
    · cases e4
theorem o_notIn {K : PySem.W.Frag} : OpF (rNotInA K) dNotIn := fun C H x y a b d e g0 wa wb Q k => by
  obtain ⟨c, e1, e2⟩ := Option.map_eq_some_iff.mp e
  subst e2
  unfold dInA at e1
  split at e1
  · rename_i r hr
    cases e1
    obtain ⟨c', z, ea, eb, er⟩ := dInSg_some hr
    subst ea eb er
    exact .inl ⟨c', z, wa.str, wb.str, k _ H HE.refl (.bl _)⟩
  · obtain ⟨xs, e3, e4⟩ := Option.bind_eq_some_iff.mp e1
    split at e4
    · rename_i hs
      cases e4
      unfold dItems at e3
      split at e3
      · cases e3
        exact .inr (.inl ⟨_, _, wa.dp (SeqAt.canLay_of_shaped hs.1), wb.dp (SeqAt.canLay_of_shaped hs.2), hs.1, hs.2, k _ H HE.refl (.bl _)⟩)
      · cases e3
        exact .inr (.inr ⟨_, _, wa.dp (SeqAt.canLay_of_shaped hs.1), wb.dp (SeqAt.canLay_of_shaped hs.2), hs.1, hs.2, k _ H HE.refl (.bl _)⟩)
      · cases e3
    · cases e4
/-! is None -/
def isNon : D → Bool
  | .none => true
  | _ => false
def dIsN (a : D) (b : D) : Option D := if isNon b then some (.bool (isNon a)) else none
def dNotN (a : D) (b : D) : Option D := if isNon b then some (.bool (!isNon a)) else none
theorem Wat.isNon {C : Addr → Prop} {H : Hp} {v : V} {d : D} (h : Wat C H v d) : decide (v = .non) = isNon d := by
  rcases h with h | ⟨a, vs, xs, rfl, rfl, h3, h4⟩
  · cases h <;> rfl
  · rfl
theorem isNon_v {C : Addr → Prop} {H : Hp} {v : V} {d : D} (h : Wat C H v d) (e : isNon d = true) : v = .non := by
  have q := h.isNon
  rw [e] at q
  exact of_decide_eq_true q
theorem o_isN : OpF (fun x y H Q => y = .non ∧ Q (.bl (decide (x = .non))) H) dIsN := fun C H x y a b d e g0 wa wb Q k => by
  unfold dIsN at e
  split at e
  · rename_i hb
    cases e
    exact ⟨isNon_v wb hb, by rw [wa.isNon]; exact k _ H HE.refl (.bl _)⟩
  · cases e
theorem o_notN : OpF (fun x y H Q => y = .non ∧ Q (.bl (!decide (x = .non))) H) dNotN := fun C H x y a b d e g0 wa wb Q k => by
  unfold dNotN at e
  split at e
  · rename_i hb
    cases e
    exact ⟨isNon_v wb hb, by rw [wa.isNon]; exact k _ H HE.refl (.bl _)⟩
  · cases e
/-! items -/
def dIx : D → D → Option D
  | .list xs, .int i => atI xs i
  | .tuple xs, .int i => atI xs i
  | .str z, .int i => if z.length ≤ 100000 then (atI z.cps.toList i).map fun c => .str ⟨#[c]⟩ else none
  | _, _ => none
theorem Dats.atI {C : Addr → Prop} {H : Hp} {vs : List V} {ds : List D} {i : Int} {d : D} (h : Dats C H vs ds) (e : atI ds i = some d) : ∃ v, atI vs i = some v ∧ Dat C H v d := by
  unfold L2.atI at e ⊢
  obtain ⟨j, e1, e2⟩ := Option.bind_eq_some_iff.mp e
  obtain ⟨v, e3, e4⟩ := h.get e2
  exact ⟨v, by rw [h.length, e1]; exact e3, e4⟩
theorem o_ix {K : PySem.W.Frag} : OpF (rIx K) dIx := fun C H x y a b d e g0 wa wb Q k => by
  unfold dIx at e
  split at e
  · obtain ⟨p, vs, e1, h1, d1⟩ := wa.list
    obtain ⟨v, e2, w2⟩ := d1.atI e
    exact .inl ⟨p, vs, _, v, e1, wb.int, sqL h1, e2, k v H HE.refl w2⟩
  · obtain ⟨p, vs, e1, _, h1, d1⟩ := wa.tup
    obtain ⟨v, e2, w2⟩ := d1.atI e
    exact .inr (.inl ⟨p, vs, _, v, e1, wb.int, sqT h1, e2, k v H HE.refl w2⟩)
  · split at e
    · rename_i hl
      obtain ⟨c, e2, e3⟩ := Option.map_eq_some_iff.mp e
      subst e3
      exact .inr (.inr ⟨_, _, c, wa.str, wb.int, sz_of hl, e2, k _ H HE.refl (.str _)⟩)
    · cases e
  · cases e
/-! built-ins -/
def dLen : List D → Option D
  | [.list xs] => some (.int xs.length)
  | [.tuple xs] => some (.int xs.length)
  | [.str z] => if z.length ≤ 100000 then some (.int z.length) else none
  | _ => none
theorem wats1 {C : Addr → Prop} {H : Hp} {vs : List V} {d : D} (h : Wats C H vs [d]) : ∃ v, vs = [v] ∧ Wat C H v d := by
  cases h with
  | cons h t =>
    cases t
    exact ⟨_, rfl, h⟩
theorem wats2 {C : Addr → Prop} {H : Hp} {vs : List V} {d d' : D} (h : Wats C H vs [d, d']) : ∃ v v', vs = [v, v'] ∧ Wat C H v d ∧ Wat C H v' d' := by
  cases h with
  | cons h t =>
    obtain ⟨v, e, w⟩ := wats1 t
    subst e
    exact ⟨_, _, rfl, h, w⟩
theorem c_len {K : PySem.W.Frag} : CaF (fun xs H Q => ∃ x n, xs = [x] ∧ LenV K x H n ∧ Q (.int n) H) dLen := fun C H xs as d e g0 w Q k => by
  unfold dLen at e
  split at e
  · cases e
    obtain ⟨v, rfl, wA⟩ := wats1 w
    obtain ⟨p, vs, e1, h1, d1⟩ := wA.list
    subst e1
    exact ⟨_, vs.length, rfl, .inl ⟨vs, sqL h1, rfl⟩, by rw [d1.length]; exact k _ H HE.refl (.int _)⟩
  · cases e
    obtain ⟨v, rfl, wA⟩ := wats1 w
    obtain ⟨p, vs, e1, _, h1, d1⟩ := wA.tup
    subst e1
    exact ⟨_, vs.length, rfl, .inr ⟨vs, sqT h1, rfl⟩, by rw [d1.length]; exact k _ H HE.refl (.int _)⟩
  · split at e
    · rename_i hl
      cases e
      obtain ⟨v, rfl, wA⟩ := wats1 w
      have e1 := wA.str
      subst e1
      exact ⟨_, _, rfl, ⟨sz_of hl, rfl⟩, k _ H HE.refl (.int _)⟩
    · cases e
  · cases e
def dInt1 : List D → Option D
  | [.int i] => some (.int i)
  | _ => none
theorem c_int : CaF (fun xs H Q => (∃ i, xs = [.int i] ∧ Q (.int i) H) ∨ ∃ k, xs = [.bl k] ∧ Q (.int (if k then 1 else 0)) H) dInt1 := fun C H xs as d e g0 w Q k => by
  unfold dInt1 at e
  split at e
  · cases e
    obtain ⟨v, rfl, wA⟩ := wats1 w
    exact .inl ⟨_, by rw [wA.int], k _ H HE.refl (.int _)⟩
  · cases e
def dAbs : List D → Option D
  | [.int i] => some (.int (if i < 0 then -i else i))
  | _ => none
theorem c_abs : CaF (fun xs H Q => ∃ i, xs = [.int i] ∧ Q (.int (if i < 0 then -i else i)) H) dAbs := fun C H xs as d e g0 w Q k => by
  unfold dAbs at e
  split at e
  · cases e
    obtain ⟨v, rfl, wA⟩ := wats1 w
    exact ⟨_, by rw [wA.int], k _ H HE.refl (.int _)⟩
  · cases e
def dGcd : List D → Option D
  | [.int i, .int j] => some (.int ((Nat.gcd i.natAbs j.natAbs : Nat) : Int))
  | _ => none
theorem c_gcd : CaF rGcd dGcd := fun C H xs as d e g0 w Q k => by
  unfold dGcd at e
  split at e
  · cases e
    obtain ⟨v, v', rfl, w1, w2⟩ := wats2 w
    exact ⟨_, _, by rw [w1.int, w2.int], k _ H HE.refl (.int _)⟩
  · cases e
def dTuple : List D → Option D
  | [.list xs] => some (.tuple xs)
  | [.tuple xs] => some (.tuple xs)
  | _ => none
theorem c_tuple {K : PySem.W.Frag} : CaF (fun xs H Q => ∃ p ys, xs = [.ref p] ∧ ((SqL K H p ys ∧ ∀ l, H l = none → Q (.ref l) (upd H l (.tup ys))) ∨ (SqT K H p ys ∧ Q (.ref p) H))) dTuple := fun C H xs as d e g0 w Q k => by
  unfold dTuple at e
  split at e
  · cases e
    obtain ⟨v, rfl, wA⟩ := wats1 w
    obtain ⟨p, vs, e1, h1, d1⟩ := wA.list
    subst e1
    exact ⟨p, vs, rfl, .inl ⟨sqL h1, fun l hl => k _ _ (HE.new hl) (new_tup g0 d1 hl)⟩⟩
  · cases e
    obtain ⟨v, rfl, wA⟩ := wats1 w
    obtain ⟨p, vs, e1, c1, h1, d1⟩ := wA.tup
    subst e1
    exact ⟨p, vs, rfl, .inr ⟨sqT h1, k _ H HE.refl (.tup c1 h1 d1)⟩⟩
  · cases e
def dList : List D → Option D
  | [.list xs] => some (.list xs)
  | [.tuple xs] => some (.list xs)
  | _ => none
theorem c_list {K : PySem.W.Frag} : CaF (fun xs H Q => ∃ p ys, xs = [.ref p] ∧ (SqL K H p ys ∨ SqT K H p ys) ∧ ∀ l, H l = none → Q (.ref l) (upd H l (.lst ys))) dList := fun C H xs as d e g0 w Q k => by
  unfold dList at e
  split at e
  · cases e
    obtain ⟨v, rfl, wA⟩ := wats1 w
    obtain ⟨p, vs, e1, h1, d1⟩ := wA.list
    subst e1
    exact ⟨p, vs, rfl, .inl (sqL h1), fun l hl => k _ _ (HE.new hl) (new_lst g0 d1 hl)⟩
  · cases e
    obtain ⟨v, rfl, wA⟩ := wats1 w
    obtain ⟨p, vs, e1, c1, h1, d1⟩ := wA.tup
    subst e1
    exact ⟨p, vs, rfl, .inr (sqT h1), fun l hl => k _ _ (HE.new hl) (new_lst g0 d1 hl)⟩
  · cases e
/-- a list's ints -/
def dInts : List D → Option (List Int)
  | [] => some []
  | .int i :: r => (dInts r).map fun t => i :: t
  | _ :: _ => none
theorem Dats.ints {C : Addr → Prop} {H : Hp} : ∀ {vs : List V} {ds : List D} {ns : List Int}, Dats C H vs ds → dInts ds = some ns → vs = ns.map V.int
  | _, _, ns, .nil, e => by
    cases e
    rfl
  | _, _, ns, .cons h t, e => by
    unfold dInts at e
    split at e
    · cases ‹_ = []›
    · rename_i i r e1
      injection e1 with e1 e2
      subst e1
      subst e2
      obtain ⟨ms, e3, e4⟩ := Option.map_eq_some_iff.mp e
      subst e4
      rw [List.map_cons, Dats.ints t e3, h.int_eq]
    · cases e
def iMax : List Int → Option Int
  | [] => none
  | x :: r => some (r.foldl max x)
def iMin : List Int → Option Int
  | [] => none
  | x :: r => some (r.foldl min x)
theorem foldl_max_ge : ∀ (r : List Int) (x : Int), x ≤ r.foldl max x ∧ ∀ y ∈ r, y ≤ r.foldl max x
  | [], x => ⟨Int.le_refl _, fun y hy => nomatch hy⟩
  | z :: r, x => by
    obtain ⟨h1, h2⟩ := foldl_max_ge r (max x z)
    rw [List.foldl_cons]
    refine ⟨by omega, fun y hy => ?_⟩
    rcases List.mem_cons.mp hy with rfl | hy
    · omega
    · exact h2 y hy
theorem foldl_max_mem : ∀ (r : List Int) (x : Int), r.foldl max x = x ∨ r.foldl max x ∈ r
  | [], x => .inl rfl
  | z :: r, x => by
    rw [List.foldl_cons]
    rcases foldl_max_mem r (max x z) with h | h
    · rw [h]
      by_cases q : x ≤ z
      · right; rw [show max x z = z by omega]; exact List.mem_cons_self
      · left; omega
    · exact .inr (List.mem_cons_of_mem _ h)
theorem foldl_min_le : ∀ (r : List Int) (x : Int), r.foldl min x ≤ x ∧ ∀ y ∈ r, r.foldl min x ≤ y
  | [], x => ⟨Int.le_refl _, fun y hy => nomatch hy⟩
  | z :: r, x => by
    obtain ⟨h1, h2⟩ := foldl_min_le r (min x z)
    rw [List.foldl_cons]
    refine ⟨by omega, fun y hy => ?_⟩
    rcases List.mem_cons.mp hy with rfl | hy
    · omega
    · exact h2 y hy
theorem foldl_min_mem : ∀ (r : List Int) (x : Int), r.foldl min x = x ∨ r.foldl min x ∈ r
  | [], x => .inl rfl
  | z :: r, x => by
    rw [List.foldl_cons]
    rcases foldl_min_mem r (min x z) with h | h
    · rw [h]
      by_cases q : z ≤ x
      · right; rw [show min x z = z by omega]; exact List.mem_cons_self
      · left; omega
    · exact .inr (List.mem_cons_of_mem _ h)
theorem iMax_some {ns : List Int} {m : Int} (h : iMax ns = some m) : m ∈ ns ∧ ∀ y ∈ ns, y ≤ m := by
  cases ns with
  | nil => cases h
  | cons x r =>
    cases h
    obtain ⟨h1, h2⟩ := foldl_max_ge r x
    refine ⟨?_, fun y hy => ?_⟩
    · rcases foldl_max_mem r x with h | h
      · rw [h]; exact List.mem_cons_self
      · exact List.mem_cons_of_mem _ h
    · rcases List.mem_cons.mp hy with rfl | hy
      · exact h1
      · exact h2 y hy
theorem iMin_some {ns : List Int} {m : Int} (h : iMin ns = some m) : m ∈ ns ∧ ∀ y ∈ ns, m ≤ y := by
  cases ns with
  | nil => cases h
  | cons x r =>
    cases h
    obtain ⟨h1, h2⟩ := foldl_min_le r x
    refine ⟨?_, fun y hy => ?_⟩
    · rcases foldl_min_mem r x with h | h
      · rw [h]; exact List.mem_cons_self
      · exact List.mem_cons_of_mem _ h
    · rcases List.mem_cons.mp hy with rfl | hy
      · exact h1
      · exact h2 y hy
def dMaxL : List D → Option D
  | [.list xs] => (dInts xs).bind fun ns => (iMax ns).map .int
  | _ => none
def dMinL : List D → Option D
  | [.list xs] => (dInts xs).bind fun ns => (iMin ns).map .int
  | _ => none
theorem c_maxL {K : PySem.W.Frag} : CaF (rMax K) dMaxL := fun C H xs as d e g0 w Q k => by
  unfold dMaxL at e
  split at e
  · obtain ⟨ns, e1, e⟩ := Option.bind_eq_some_iff.mp e
    obtain ⟨m, e2, e⟩ := Option.map_eq_some_iff.mp e
    subst e
    obtain ⟨v, rfl, wA⟩ := wats1 w
    obtain ⟨p, vs, e3, h1, d1⟩ := wA.list
    subst e3
    have e4 := d1.ints e1
    subst e4
    obtain ⟨m1, m2⟩ := iMax_some e2
    refine ⟨p, ns, rfl, sqL h1, List.length_pos_of_mem m1, fun m' hm hle => ?_⟩
    have e5 : m' = m := Int.le_antisymm (m2 m' hm) (hle m m1)
    subst e5
    exact k _ H HE.refl (.int _)
  · cases e
theorem c_minL {K : PySem.W.Frag} : CaF (rMin K) dMinL := fun C H xs as d e g0 w Q k => by
  unfold dMinL at e
  split at e
  · obtain ⟨ns, e1, e⟩ := Option.bind_eq_some_iff.mp e
    obtain ⟨m, e2, e⟩ := Option.map_eq_some_iff.mp e
    subst e
    obtain ⟨v, rfl, wA⟩ := wats1 w
    obtain ⟨p, vs, e3, h1, d1⟩ := wA.list
    subst e3
    have e4 := d1.ints e1
    subst e4
    obtain ⟨m1, m2⟩ := iMin_some e2
    refine ⟨p, ns, rfl, sqL h1, List.length_pos_of_mem m1, fun m' hm hle => ?_⟩
    have e5 : m' = m := Int.le_antisymm (hle m m1) (m2 m' hm)
    subst e5
    exact k _ H HE.refl (.int _)
  · cases e
/-- a list's truth values -/
def dBls : List D → Option (List Bool)
  | [] => some []
  | .bool i :: r => (dBls r).map fun t => i :: t
  | _ :: _ => none
theorem Dats.bls {C : Addr → Prop} {H : Hp} : ∀ {vs : List V} {ds : List D} {ns : List Bool}, Dats C H vs ds → dBls ds = some ns → vs = ns.map V.bl
  | _, _, ns, .nil, e => by
    cases e
    rfl
  | _, _, ns, .cons h t, e => by
    unfold dBls at e
    split at e
    · cases ‹_ = []›
    · rename_i i r e1
      injection e1 with e1 e2
      subst e1
      subst e2
      obtain ⟨ms, e3, e4⟩ := Option.map_eq_some_iff.mp e
      subst e4
      rw [List.map_cons, Dats.bls t e3, h.bool_eq]
    · cases e
def dAll : List D → Option D
  | [.list xs] => (dBls xs).map fun bs => .bool (bs.all id)
  | _ => none
theorem c_all {K : PySem.W.Frag} : CaF (rAll K) dAll := fun C H xs as d e g0 w Q k => by
  unfold dAll at e
  split at e
  · obtain ⟨bs, e1, e⟩ := Option.map_eq_some_iff.mp e
    subst e
    obtain ⟨v, rfl, wA⟩ := wats1 w
    obtain ⟨p, vs, e3, h1, d1⟩ := wA.list
    subst e3
    have e4 := d1.bls e1
    subst e4
    exact ⟨p, bs, rfl, sqL h1, k _ H HE.refl (.bl _)⟩
  · cases e
theorem call_max2_or {X : Cx} (hc : X.calm = true) : CallR X (.builtin "max") (fun xs H Q => (∃ i j, xs = [.int i, .int j] ∧ Q (.int (if j > i then j else i)) H) ∨ rMax X.K xs H Q) := (call_max2 hc).or (cr_max hc)
theorem call_min2_or {X : Cx} (hc : X.calm = true) : CallR X (.builtin "min") (fun xs H Q => (∃ i j, xs = [.int i, .int j] ∧ Q (.int (if j < i then j else i)) H) ∨ rMin X.K xs H Q) := (call_min2 hc).or (cr_min hc)
def dMax : List D → Option D
  | [.int i, .int j] => some (.int (if j > i then j else i))
  | as => dMaxL as
def dMin : List D → Option D
  | [.int i, .int j] => some (.int (if j < i then j else i))
  | as => dMinL as
theorem c_max {K : PySem.W.Frag} : CaF (fun xs H Q => (∃ i j, xs = [.int i, .int j] ∧ Q (.int (if j > i then j else i)) H) ∨ rMax K xs H Q) dMax := fun C H xs as d e g0 w Q k => by
  unfold dMax at e
  split at e
  · cases e
    obtain ⟨v, v', rfl, w1, w2⟩ := wats2 w
    exact .inl ⟨_, _, by rw [w1.int, w2.int], k _ H HE.refl (.int _)⟩
  · exact .inr (c_maxL C H xs as d e g0 w Q k)
theorem c_min {K : PySem.W.Frag} : CaF (fun xs H Q => (∃ i j, xs = [.int i, .int j] ∧ Q (.int (if j < i then j else i)) H) ∨ rMin K xs H Q) dMin := fun C H xs as d e g0 w Q k => by
  unfold dMin at e
  split at e
  · cases e
    obtain ⟨v, v', rfl, w1, w2⟩ := wats2 w
    exact .inl ⟨_, _, by rw [w1.int, w2.int], k _ H HE.refl (.int _)⟩
  · exact .inr (c_minL C H xs as d e g0 w Q k)
end Pu

namespace Pu
open PySem L2
/-! slices -/
def SndO (to : TO) (q : Pst → Option (Option Int)) : Prop := ∀ (π : List V) (C : Addr → Prop) (σ : L2.St) (H : Hp) (δ : Pst) (o : Option Int), q δ = some o → Rel π C σ H δ → ∀ Q : Option Int → Hp → Prop, (∀ H', HE H H' → Q o H') → to σ H Q
def qoNone : Pst → Option (Option Int) := fun _ => some none
def asI : D → Option Int
  | .int i => some i
  | _ => none
theorem asI_some {d : D} {b : Int} (h : asI d = some b) : d = .int b := by
  unfold asI at h
  split at h
  · cases h; rfl
  · cases h
def qoSome (a : QE) : Pst → Option (Option Int) := fun δ => (a δ).bind fun d => (asI d).map some
theorem so_none : SndO tNoPart qoNone := fun π C σ H δ o e rel Q k => by
  cases e
  exact k H HE.refl
theorem so_some {ta : TE} {qa : QE} (h : SndQ ta qa) : SndO (tPart ta) (qoSome qa) := fun π C σ H δ o e rel Q k => by
  obtain ⟨d, e1, e⟩ := Option.bind_eq_some_iff.mp e
  obtain ⟨i, e2, e⟩ := Option.map_eq_some_iff.mp e
  have e2 := asI_some e2
  subst e
  subst e2
  exact h π C σ H δ _ e1 rel _ fun v H1 h1 w1 => ⟨i, w1.int_eq, k H1 h1⟩
def cutD (xs : List D) (lo hi : Option Int) : List D := (xs.drop (HT.sIx xs.length 0 lo)).take (HT.sIx xs.length xs.length hi - HT.sIx xs.length 0 lo)
theorem Dats.cut {C : Addr → Prop} {H : Hp} {vs : List V} {ds : List D} (lo hi : Option Int) (h : Dats C H vs ds) : Dats C H (cutV vs lo hi) (cutD ds lo hi) := by
  unfold cutV cutD
  rw [h.length]
  exact (h.drop _).take _
def dCut : D → Option Int → Option Int → Option D
  | .list xs, lo, hi => some (.list (cutD xs lo hi))
  | .tuple xs, lo, hi => some (.tuple (cutD xs lo hi))
  | .str z, lo, hi => if z.length ≤ 100000 then some (.str (cutS z lo hi)) else none
  | _, _, _ => none
def rSlM (K : PySem.W.Frag) : V → Option Int → Option Int → Hp → VK → Prop := fun x lo hi H Q => rSlL K x lo hi H Q ∨ rSlA K x lo hi H Q ∨ rSlS x lo hi H Q
theorem sl_M {X : Cx} : SlR X (rSlM X.K) := sl_list.or (sl_tupA.or sl_str)
def qSl (a : QE) (lo hi : Pst → Option (Option Int)) : QE := fun δ => (a δ).bind fun d => (lo δ).bind fun l => (hi δ).bind fun h => dCut d l h
theorem q_sl {K : PySem.W.Frag} {ta : TE} {qa : QE} {tl th : TO} {ql qh : Pst → Option (Option Int)} (ha : SndW ta qa) (hl : SndO tl ql) (hh : SndO th qh) : SndQ (tSl (rSlM K) ta tl th) (qSl qa ql qh) := fun π C σ H δ d e rel Q k => by
  obtain ⟨x, e1, e⟩ := Option.bind_eq_some_iff.mp e
  obtain ⟨l, e2, e⟩ := Option.bind_eq_some_iff.mp e
  obtain ⟨h, e3, e⟩ := Option.bind_eq_some_iff.mp e
  refine ha π C σ H δ x e1 rel _ fun v H1 h1 w1 => ?_
  refine hl π C σ H1 δ l e2 (rel.he h1) _ fun H2 h2 => ?_
  refine hh π C σ H2 δ h e3 ((rel.he h1).he h2) _ fun H3 h3 => ?_
  have w3 := (w1.he h2).he h3
  have g3 := (((rel.he h1).he h2).he h3).good
  have h13 := (h1.trans h2).trans h3
  unfold dCut at e
  split at e
  · cases e
    obtain ⟨p, vs, e4, r4, d4⟩ := w3.list
    exact .inl ⟨p, vs, e4, sqL r4, fun t ht => k _ _ (h13.trans (HE.new ht)) (new_lst g3 (d4.cut _ _) ht)⟩
  · cases e
    obtain ⟨p, vs, e4, c4, r4, d4⟩ := w3.tup
    refine .inr (.inl ⟨p, vs, e4, sqT r4, fun z => ?_, fun z t ht => k _ _ (h13.trans (HE.new ht)) (new_tup g3 (d4.cut _ _) ht)⟩)
    refine k _ _ h13 ?_
    have e5 : cutV vs l h = vs := by
      unfold cutV
      rw [z.1, z.2]
      simp
    have d5 := d4.cut l h
    rw [e5] at d5
    exact .tup c4 r4 d5
  · split at e
    · rename_i hl
      cases e
      exact .inr (.inr ⟨_, w3.str, sz_of hl, k _ _ h13 (.str _)⟩)
    · cases e
  · cases e
/-! chains -/
def qChain (f g : D → D → Option D) (a b c : QE) : QE := fun δ => (a δ).bind fun x => (b δ).bind fun y => (f x y).bind fun z => (asB z).bind fun k => if k = true then (c δ).bind fun w => g y w else some (.bool false)
theorem q_chain {r r' : R2} {f g : D → D → Option D} {ta tb tc : TE} {qa qb qc : QE} (hr : OpF r f) (hr' : OpF r' g) (ha : SndQ ta qa) (hb : SndQ tb qb) (hc : SndQ tc qc) : SndQ (tChain r r' ta tb tc) (qChain f g qa qb qc) := fun π C σ H δ d e rel Q k => by
  obtain ⟨x, e1, e⟩ := Option.bind_eq_some_iff.mp e
  obtain ⟨y, e2, e⟩ := Option.bind_eq_some_iff.mp e
  obtain ⟨z, e3, e⟩ := Option.bind_eq_some_iff.mp e
  obtain ⟨c, e4, ee⟩ := Option.bind_eq_some_iff.mp e
  refine ha π C σ H δ x e1 rel _ fun v H1 h1 w1 => ?_
  refine hb π C σ H1 δ y e2 (rel.he h1) _ fun u H2 h2 w2 => ?_
  have r2 := (rel.he h1).he h2
  refine hr C H2 v u x y z e3 r2.good (.inl (w1.he h2)) (.inl w2) _ fun t H3 h3 w3 => ?_
  have e4 := asB_some e4
  subst e4
  refine ⟨c, w3.bool_eq, ?_⟩
  cases c with
  | false =>
    cases ee
    exact iteF (k _ H3 ((h1.trans h2).trans h3) (.bl _))
  | true =>
    obtain ⟨s, e5, e⟩ := Option.bind_eq_some_iff.mp ee
    refine iteT (hc π C σ H3 δ s e5 (r2.he h3) _ fun t4 H4 h4 w4 => ?_)
    exact hr' C H4 u t4 y s d e ((r2.he h3).he h4).good (.inl ((w2.he h3).he h4)) (.inl w4) Q fun t5 H5 h5 w5 => k t5 H5 ((((h1.trans h2).trans h3).trans h4).trans h5) w5
/-! isinstance -/
def tyOf : D → String
  | .none => "NoneType"
  | .bool _ => "bool"
  | .int _ => "int"
  | .str _ => "str"
  | .list _ => "list"
  | .tuple _ => "tuple"
  | .dict _ => "dict"
def isTy (n : String) (d : D) : Bool := tyOf d == n || (tyOf d == "bool" && n == "int")
def tyOk (n : String) : Bool := n == "int" || n == "bool" || n == "str" || n == "list" || n == "tuple"
def noDc : D → Bool
  | .dict _ => false
  | _ => true
theorem Wat.ty {K : PySem.W.Frag} {C : Addr → Prop} {H : Hp} {v : V} {d : D} (h : Wat C H v d) (nd : noDc d = true) : TyX K H v (.type (tyOf d)) := by
  rcases h with h | ⟨a, vs, xs, rfl, rfl, h3, h4⟩
  · cases h with
    | exc _ _ _ _ _ => cases nd
    | ex0 _ _ => cases nd
    | non => exact .base .non
    | bl b => exact .base (.bl b)
    | int i => exact .base (.int i)
    | str x => exact .base (.str x)
    | lst _ h _ => exact .base (.lst h)
    | tup _ h _ => exact .base (.tup h)
  · exact .base (.lst h3)
theorem ty_cases {C : Addr → Prop} {H : Hp} {v : V} {d : D} (h : Wat C H v d) (nd : noDc d = true) : tyOf d = "NoneType" ∨ tyOf d = "bool" ∨ tyOf d = "int" ∨ tyOf d = "str" ∨ tyOf d = "list" ∨ tyOf d = "tuple" := by
  rcases h with h | ⟨a, vs, xs, rfl, rfl, h3, h4⟩
  · cases h <;> first | (cases nd; done) | simp [tyOf]
  · simp [tyOf]
theorem kit_ok {K : PySem.W.Frag} {C : Addr → Prop} {H : Hp} {v : V} {d : D} (h : Wat C H v d) (nd : noDc d = true) {n : String} (hn : tyOk n = true) : PySem.W.kitOne K (.type (tyOf d)) (.type n) = some (isTy n d) := by
  have hn' : n = "int" ∨ n = "bool" ∨ n = "str" ∨ n = "list" ∨ n = "tuple" := by
    unfold tyOk at hn
    simp only [Bool.or_eq_true, beq_iff_eq] at hn
    rcases hn with (((h | h) | h) | h) | h <;> simp [h]
  unfold isTy
  rcases ty_cases h nd with e | e | e | e | e | e <;> rw [e] <;> rcases hn' with q | q | q | q | q <;> subst q <;> exact kit_ty (by decide +kernel)
def dIs (n : String) (d : D) : Option D := if noDc d = true then some (.bool (isTy n d)) else none
def tIs (K : PySem.W.Frag) (ta : TE) (n : String) : TE := tCB (rIsi K) (tCons ta (tCons (tC (.ty n)) tNil))
theorem q_is {K : PySem.W.Frag} {ta : TE} {qa : QE} {n : String} (ha : SndW ta qa) (hn : tyOk n = true) : SndQ (tIs K ta n) (q1 (dIs n) qa) := fun π C σ H δ d e rel Q k => by
  obtain ⟨x, e1, e⟩ := Option.bind_eq_some_iff.mp e
  unfold dIs at e
  split at e
  · rename_i nd
    cases e
    exact ha π C σ H δ x e1 rel _ fun v H1 h1 w1 => ⟨v, .ty n, _, _, _, rfl, .ty n, w1.ty nd, kit_ok w1 nd hn, k _ H1 h1 (.bl _)⟩
  · cases e
def dIs2 (n m : String) (d : D) : Option D := if noDc d = true then some (.bool (isTy n d || isTy m d)) else none
def tIs2 (K : PySem.W.Frag) (ta : TE) (n m : String) : TE := tCB (rIsiT K) (tCons ta (tCons (tTup (tCons (tC (.ty n)) (tCons (tC (.ty m)) tNil))) tNil))
theorem q_is2 {K : PySem.W.Frag} {ta : TE} {qa : QE} {n m : String} (ha : SndQ ta qa) (hn : tyOk n = true) (hm : tyOk m = true) : SndQ (tIs2 K ta n m) (q1 (dIs2 n m) qa) := fun π C σ H δ d e rel Q k => by
  obtain ⟨x, e1, e⟩ := Option.bind_eq_some_iff.mp e
  unfold dIs2 at e
  split at e
  case isFalse => cases e
  rename_i nd
  cases e
  refine ha π C σ H δ x e1 rel _ fun v H1 h1 w1 => ⟨by show 2 ≤ sizeLine; decide, fun p hp => ?_⟩
  have w2 := w1.he (HE.new (o := .tup [.ty n, .ty m]) hp)
  refine ⟨v, p, [.ty n, .ty m], _, [.type n, .type m], isTy n x || isTy m x, rfl, upd_same, .cons (.ty n) (.cons (.ty m) .nil), (SndQ_ty w2 nd), kitAny_cons (kit_ok (.inl w2) nd hn) (fun z => kitAny_cons (kit_ok (.inl w2) nd hm) (fun z2 => ?_) (fun z2 => ?_)) (fun z => ?_), k _ _ (h1.trans (HE.new hp)) (.bl _)⟩
  · rw [z, z2]; exact kitAny_nil
  · rw [z2, Bool.or_true]
  · rw [z, Bool.true_or]
where SndQ_ty {K : PySem.W.Frag} {C : Addr → Prop} {H : Hp} {v : V} {d : D} (h : Dat C H v d) (nd : noDc d = true) : TyX K H v (.type (tyOf d)) := Wat.ty (.inl h) nd
/-! targets -/
abbrev GE := D → Pst → Option Pst
theorem wipe_set (σ : L2.St) (j : Nat) (y : Option V) : ∀ vs : List Nat, j ∈ vs → wipe (σ.set j y) vs = wipe σ vs
  | [], h => nomatch h
  | v :: vs, h => by
    unfold wipe
    by_cases e : v = j
    · subst e
      have : ∀ ws : List Nat, (wipe (σ.set v y) ws).set v none = (wipe σ ws).set v none := by
        intro ws
        induction ws with
        | nil => unfold wipe; rw [List.set_set]
        | cons w ws ih =>
          unfold wipe
          by_cases ew : w = v
          · subst ew
            rw [ih]
          · rw [List.set_comm _ _ ew, ih, List.set_comm _ _ ew]
      exact this vs
    · rcases List.mem_cons.mp h with h | h
      · exact absurd h.symm e
      · rw [wipe_set σ j y vs h]
theorem wipe_wipe (σ : L2.St) : ∀ vs ws : List Nat, (∀ v ∈ vs, v ∈ ws) → wipe (wipe σ vs) ws = wipe σ ws
  | [], _, _ => rfl
  | v :: vs, ws, h => by
    rw [show wipe σ (v :: vs) = (wipe σ vs).set v none from rfl, wipe_set _ _ _ _ (h v List.mem_cons_self), wipe_wipe σ vs ws fun x hx => h x (List.mem_cons_of_mem _ hx)]
/-- σ' differs from σ at these places alone -/
def SetOn (js : List Nat) (σ σ' : L2.St) : Prop := ∀ vs : List Nat, (∀ j ∈ js, j ∈ vs) → wipe σ' vs = wipe σ vs
def SndG (g : TG) (p : GE) (js : List Nat) : Prop := ∀ (π : List V) (C : Addr → Prop) (σ : L2.St) (H : Hp) (δ : Pst) (x : V) (d : D) (δ' : Pst), p d δ = some δ' → Rel π C σ H δ → Dat C H x d →
  ∀ Q : L2.St → Hp → Prop, (∀ σ' H', HE H H' → Rel π C σ' H' δ' → SetOn js σ σ' → (∀ a, Own σ' δ' a → Own σ δ a) → Q σ' H') → g x σ H Q
def SndGs (g : TGs) (p : List D → Pst → Option Pst) (js : List Nat) : Prop := ∀ (π : List V) (C : Addr → Prop) (σ : L2.St) (H : Hp) (δ : Pst) (xs : List V) (ds : List D) (δ' : Pst), p ds δ = some δ' → Rel π C σ H δ → Dats C H xs ds →
  ∀ Q : L2.St → Hp → Prop, (∀ σ' H', HE H H' → Rel π C σ' H' δ' → SetOn js σ σ' → (∀ a, Own σ' δ' a → Own σ δ a) → Q σ' H') → g xs σ H Q
/-- a slot is set -/
def setD (i : Nat) (d : D) (δ : Pst) : Option Pst := if i < δ.length then some (δ.set i (.im d)) else none
theorem own_set {σ : L2.St} {δ : Pst} {i : Nat} {x : V} {d : D} {a : Addr} (h : Own (σ.set i (some x)) (δ.set i (.im d)) a) : Own σ δ a := by
  obtain ⟨j, w, c, h1, h2⟩ := h
  by_cases e : i = j
  · subst e
    by_cases hl : i < δ.length
    · rw [List.getElem?_set_self hl] at h1
      cases h1
    · rw [List.getElem?_eq_none (by simp; omega)] at h1
      cases h1
  · rw [List.getElem?_set_ne e] at h1 h2
    exact ⟨j, w, c, h1, h2⟩
theorem Rel.set {π : List V} {C : Addr → Prop} {σ : L2.St} {H : Hp} {δ : Pst} {i : Nat} {x : V} {d : D} (r : Rel π C σ H δ) (hi : i < δ.length) (w : Dat C H x d) : Rel π C (σ.set i (some x)) H (δ.set i (.im d)) := by
  refine ⟨by simp [r.len], fun j s hs => ?_, r.good, r.par, fun j k a w w' c c' h1 h2 h3 h4 => ?_⟩
  · by_cases e : i = j
    · subst e
      rw [List.getElem?_set_self hi] at hs
      cases hs
      exact ⟨some x, by rw [List.getElem?_set_self (by rw [r.len]; exact hi)], x, rfl, w⟩
    · rw [List.getElem?_set_ne e] at hs
      rw [List.getElem?_set_ne e]
      exact r.slot j s hs
  · have ne : ∀ k w c, (δ.set i (Sv.im d))[k]? = some (Sv.ce w c) → i ≠ k := fun k w c h e => by
      subst e
      rw [List.getElem?_set_self hi] at h
      cases h
    have e1 := ne _ _ _ h1
    have e2 := ne _ _ _ h2
    rw [List.getElem?_set_ne e1] at h1 h3
    rw [List.getElem?_set_ne e2] at h2 h4
    exact r.own j k a w w' c c' h1 h2 h3 h4
theorem g_name {i : Nat} : SndG (gName i) (setD i) [i] := fun π C σ H δ x d δ' e rel w Q k => by
  unfold setD at e
  split at e
  · rename_i hi
    cases e
    exact k _ H HE.refl (rel.set hi w) (fun vs hv => wipe_set _ _ _ _ (hv i List.mem_cons_self)) fun a h => own_set h
  · cases e
def gsNil : List D → Pst → Option Pst
  | [], δ => some δ
  | _ :: _, _ => none
def gsCons (g : GE) (gs : List D → Pst → Option Pst) : List D → Pst → Option Pst
  | [], _ => none
  | d :: ds, δ => (g d δ).bind fun δ1 => gs ds δ1
theorem gs_nil : SndGs gNil gsNil [] := fun π C σ H δ xs ds δ' e rel w Q k => by
  cases w with
  | nil =>
    cases e
    exact ⟨rfl, k σ H HE.refl rel (fun _ _ => rfl) fun a h => h⟩
  | cons _ _ => cases e
theorem gs_cons {g : TG} {gs : TGs} {p : GE} {ps : List D → Pst → Option Pst} {js ks : List Nat} (h1 : SndG g p js) (h2 : SndGs gs ps ks) : SndGs (gCons g gs) (gsCons p ps) (js ++ ks) := fun π C σ H δ xs ds δ' e rel w Q k => by
  cases w with
  | nil => cases e
  | cons w1 wr =>
    obtain ⟨δ1, e1, e⟩ := Option.bind_eq_some_iff.mp e
    refine ⟨_, _, rfl, h1 π C σ H δ _ _ δ1 e1 rel w1 _ fun σ1 H1 he1 r1 s1 o1 => ?_⟩
    refine h2 π C σ1 H1 δ1 _ _ δ' e r1 (wr.he he1) _ fun σ2 H2 he2 r2 s2 o2 => ?_
    exact k σ2 H2 (he1.trans he2) r2 (fun vs hv => (s2 vs fun j hj => hv j (List.mem_append_right _ hj)).trans (s1 vs fun j hj => hv j (List.mem_append_left _ hj))) fun a h => o1 a (o2 a h)
def gtTup (n : Nat) (p : List D → Pst → Option Pst) : GE
  | .tuple ds, δ => if ds.length = n then p ds δ else none
  | .list ds, δ => if ds.length = n then p ds δ else none
  | _, _ => none
/-- a, b, .. = a tuple or a list of that length -/
def gTupA (K : PySem.W.Frag) (n : Nat) (t : TGs) : TG := fun v σ H Q => gTup K n t v σ H Q ∨ gUnl K n t v σ H Q
theorem pg_tupA {X : Cx} {pos : Pos} {es : List Expr} {k : Nat} {t : TGs} {n : Nat} (hc : X.calm = true) (h : PGs X es t) (hn : (assignEach es X.env).length = n := by rfl) (hst : (assignEach es X.env).findIdx? (·.1) = none := by rfl) : PG X (.Tuple es k pos) (gTupA X.K n t) :=
  ⟨fun pins s σ H v u Q I r hw => hw.elim (fun z => (pg_tup hc h hn hst).run pins s σ H v u Q I r z) fun z => (pg_unl hc h hn hst).run pins s σ H v u Q I r z⟩
theorem g_tup {K : PySem.W.Frag} {n : Nat} {gs : TGs} {p : List D → Pst → Option Pst} {js : List Nat} (h : SndGs gs p js) : SndG (gTupA K n gs) (gtTup n p) js := fun π C σ H δ x d δ' e rel w Q k => by
  unfold gtTup at e
  split at e
  · split at e
    · rename_i ds hl
      obtain ⟨a, vs, e1, c1, h1, d1⟩ := (Wat.tup (.inl w))
      exact .inl ⟨a, vs, e1, sqT h1, by rw [d1.length]; exact hl, h π C σ H δ vs _ δ' e rel d1 Q k⟩
    · cases e
  · split at e
    · rename_i ds hl
      obtain ⟨a, vs, e1, h1, d1⟩ := (Wat.list (.inl w))
      exact .inr ⟨a, vs, e1, sqL h1, by rw [d1.length]; exact hl, h π C σ H δ vs _ δ' e rel d1 Q k⟩
    · cases e
  · cases e
end Pu

namespace Pu
open PySem L2
/-! what is walked -/
def Src (O C : Addr → Prop) (J : It) (H1 : Hp) (ds : List D) : Prop := ∀ (C' : Addr → Prop) (H : Hp), (∀ a o, ¬ O a → H1 a = some o → H a = some o ∧ (C' a ↔ C a)) → Good C' H →
  ∀ i : Nat, (i < ds.length → J.go i H) ∧ (i = ds.length → J.stop i H) ∧ (∀ x H', i < ds.length → J.yld i H x H' → HE H H' ∧ ∃ d, ds[i]? = some d ∧ Dat C' H' x d)
theorem Dats.pres {O C C' : Addr → Prop} {H1 H : Hp} (hO : ∀ a, O a → C a) (h : ∀ a o, ¬ O a → H1 a = some o → H a = some o ∧ (C' a ↔ C a)) {vs : List V} {ds : List D} (w : Dats C H1 vs ds) : Dats C' H vs ds :=
  w.to fun a o hc ho => let q := h a o (fun z => hc (hO a z)) ho; ⟨q.1, fun z => hc (q.2.mp z)⟩
theorem src_list {K : PySem.W.Frag} {O C : Addr → Prop} {H1 : Hp} {a : Addr} {vs : List V} {ds : List D} (hO : ∀ a, O a → C a) (ha : ¬ O a) (h : H1 a = some (.lst vs)) (w : Dats C H1 vs ds) : Src O C (Itl K a) H1 ds := fun C' H pr g i => by
  have ha' : H a = some (.lst vs) := (pr a _ ha h).1
  have w' := w.pres hO pr
  refine ⟨fun hi => ⟨vs, vs[i]'(by rw [w.length]; exact hi), sqL ha', by simp⟩, fun hi => ⟨vs, sqL ha', by rw [w.length, hi]; exact Nat.le_refl _⟩, fun x H' hi y => ?_⟩
  obtain ⟨rfl, y⟩ := y
  obtain ⟨d, e1, e2⟩ := w'.getV (y vs (sqL ha'))
  exact ⟨HE.refl, d, e1, e2⟩
theorem src_tup {K : PySem.W.Frag} {O C : Addr → Prop} {H1 : Hp} {a : Addr} {vs : List V} {ds : List D} (hO : ∀ a, O a → C a) (ha : ¬ O a) (h : H1 a = some (.tup vs)) (w : Dats C H1 vs ds) : Src O C (Itt K a) H1 ds := fun C' H pr g i => by
  have ha' : H a = some (.tup vs) := (pr a _ ha h).1
  have w' := w.pres hO pr
  refine ⟨fun hi => ⟨vs, vs[i]'(by rw [w.length]; exact hi), sqT ha', by simp⟩, fun hi => ⟨vs, sqT ha', by rw [w.length, hi]; exact Nat.le_refl _⟩, fun x H' hi y => ?_⟩
  obtain ⟨rfl, y⟩ := y
  obtain ⟨d, e1, e2⟩ := w'.getV (y vs (sqT ha'))
  exact ⟨HE.refl, d, e1, e2⟩
def dRange (lo : Int) (n : Nat) : List D := (List.range n).map fun i => .int (lo + (i : Nat))
theorem src_range {O C : Addr → Prop} {H1 : Hp} {lo : Int} {n : Nat} : Src O C (Itr lo n) H1 (dRange lo n) := fun C' H pr g i => by
  have hl : (dRange lo n).length = n := by simp [dRange]
  rw [hl]
  refine ⟨fun hi => hi, fun hi => by rw [hi]; exact Nat.le_refl _, fun x H' hi y => ?_⟩
  obtain ⟨rfl, rfl⟩ := y
  refine ⟨HE.refl, .int (lo + (i : Nat)), ?_, .int _⟩
  simp [dRange, hi]
def dChars (z : Str) : List D := z.cps.toList.map fun c => .str ⟨#[c]⟩
theorem src_str {O C : Addr → Prop} {H1 : Hp} {z : Str} : Src O C (Its z) H1 (dChars z) := fun C' H pr g i => by
  have hl : (dChars z).length = z.cps.size := by simp [dChars]
  rw [hl]
  refine ⟨fun hi => hi, fun hi => by rw [hi]; exact Nat.le_refl _, fun x H' hi y => ?_⟩
  obtain ⟨rfl, c, e, rfl⟩ := y
  refine ⟨HE.refl, .str ⟨#[c]⟩, ?_, .str _⟩
  simp [dChars, e]
def SndI (wi : TI) (q : QA) : Prop := ∀ (π : List V) (C : Addr → Prop) (σ : L2.St) (H : Hp) (δ : Pst) (ds : List D), q δ = some ds → Rel π C σ H δ → ∀ R : It → Hp → Prop, (∀ J H1, HE H H1 → (∀ O : Addr → Prop, (∀ a, O a → C a) → Src O C J H1 ds) → R J H1) → wi σ H R
def SndIW (wi : TI) (q : QA) : Prop := ∀ (π : List V) (C : Addr → Prop) (σ : L2.St) (H : Hp) (δ : Pst) (ds : List D), q δ = some ds → Rel π C σ H δ → ∀ R : It → Hp → Prop, (∀ J H1, HE H H1 → Src (fun _ => False) C J H1 ds → R J H1) → wi σ H R
theorem SndI.w {wi : TI} {q : QA} (h : SndI wi q) : SndIW wi q := fun π C σ H δ ds e rel R k => h π C σ H δ ds e rel R fun J H1 h1 s => k J H1 h1 (s _ fun _ z => z.elim)
section
variable {X : Cx} {tg : Expr}
/-- a list, a tuple, a text -/
def iSeq (K : PySem.W.Frag) (tl : TE) : TI := fun σ H R => tl σ H fun x H1 => (∃ a, x = .ref a ∧ (∃ xs, SqL K H1 a xs) ∧ R (Itl K a) H1) ∨ (∃ a, x = .ref a ∧ (∃ xs, SqT K H1 a xs) ∧ R (Itt K a) H1) ∨ (∃ z, x = .str z ∧ R (Its z) H1)
theorem one_fp {pins : List (Addr × Obj)} {σ : L2.St} {H : Hp} {s : Shared} (I : Inv X pins σ H s) : ∀ b ∈ [s.heap.objs.size], FpOk X pins H b := fun b hb => by
  rw [List.mem_singleton] at hb
  rw [hb]
  exact I.fpOk (Nat.le_refl _) (I.hok.fresh (Nat.le_refl _))
theorem pi_seq {l : Expr} {tl : TE} (hl : PE X l tl) : PI X tg l (iSeq X.K tl) where
  run := fun pins s σ H R I h => thn (hl.run pins s σ H _ I h) fun v s1 ⟨x, H1, I1, r1, q1⟩ => by
    rcases q1 with ⟨a, rfl, ⟨xs, hq⟩, q⟩ | ⟨a, rfl, ⟨xs, hq⟩, q⟩ | ⟨z, rfl, q⟩
    · cases r1
      obtain ⟨its, rv, p, hz⟩ := I1.list hq
      exact wpAny_pyIter_list p.isList ⟨s1.heap.objs.size, [s1.heap.objs.size], _, _, H1, rfl,
        I1.kept (t' := s1.toks) fun b o e => Heap.get?_push_of_some _ e, turn_list a _,
        ⟨_, Heap.get?_push_size _ rfl, rfl, rfl⟩, one_fp I1, q⟩
    · cases r1
      obtain ⟨its, rv, p, hz⟩ := I1.tuple hq
      exact wpAny_pyIter_tuple (show s1.heap.IsTuple a its.toArray from p) ⟨s1.heap.objs.size, [s1.heap.objs.size], _, _, H1, rfl,
        I1.kept (t' := s1.toks) fun b o e => Heap.get?_push_of_some _ e, turn_tuple a _,
        ⟨_, Heap.get?_push_size _ rfl, rfl, rfl⟩, one_fp I1, q⟩
    · obtain ⟨t, rfl⟩ := r1
      cases ha : z.cps.all (· < 128)
      · exact wpAny_pyIter_wide ha (pi_one (tk := s1.toks) I1 _
          (turn_str _ z t "str_iterator" (.inr rfl)) ⟨_, Heap.get?_push_size _ rfl, rfl, rfl⟩ q)
      · exact wpAny_pyIter_ascii ha (pi_one (tk := s1.toks) I1 _
          (turn_str _ z t "str_ascii_iterator" (.inl rfl)) ⟨_, Heap.get?_push_size _ rfl, rfl, rfl⟩ q)
end
def dSeq : D → Option (List D)
  | .list xs => some xs
  | .tuple xs => some xs
  | .str z => some (dChars z)
  | _ => none
def qSeq (q : QE) : QA := fun δ => (q δ).bind dSeq
theorem i_seq {K : PySem.W.Frag} {te : TE} {q : QE} (h : SndQ te q) : SndI (iSeq K te) (qSeq q) := fun π C σ H δ ds e rel R k => by
  obtain ⟨d, e1, e⟩ := Option.bind_eq_some_iff.mp e
  refine h π C σ H δ d e1 rel _ fun v H1 h1 w1 => ?_
  unfold dSeq at e
  split at e
  · cases e
    cases w1 with
    | lst c1 l1 d1 => exact .inl ⟨_, rfl, ⟨_, sqL l1⟩, k _ H1 h1 fun O hO => src_list hO (fun z => c1 (hO _ z)) l1 d1⟩
  · cases e
    cases w1 with
    | tup c1 l1 d1 => exact .inr (.inl ⟨_, rfl, ⟨_, sqT l1⟩, k _ H1 h1 fun O hO => src_tup hO (fun z => c1 (hO _ z)) l1 d1⟩)
  · cases e
    exact .inr (.inr ⟨_, w1.str_eq, k _ H1 h1 fun O hO => src_str⟩)
  · cases e
theorem iw_seq {K : PySem.W.Frag} {te : TE} {q : QE} (h : SndW te q) : SndIW (iSeq K te) (qSeq q) := fun π C σ H δ ds e rel R k => by
  obtain ⟨d, e1, e⟩ := Option.bind_eq_some_iff.mp e
  refine h π C σ H δ d e1 rel _ fun v H1 h1 w1 => ?_
  unfold dSeq at e
  split at e
  · cases e
    obtain ⟨a, vs, e2, l1, d1⟩ := w1.list
    exact .inl ⟨_, e2, ⟨_, sqL l1⟩, k _ H1 h1 (src_list (fun _ z => z.elim) (fun z => z) l1 d1)⟩
  · cases e
    obtain ⟨a, vs, e2, _, l1, d1⟩ := w1.tup
    exact .inr (.inl ⟨_, e2, ⟨_, sqT l1⟩, k _ H1 h1 (src_tup (fun _ z => z.elim) (fun z => z) l1 d1)⟩)
  · cases e
    exact .inr (.inr ⟨_, w1.str, k _ H1 h1 src_str⟩)
  · cases e
def dRng1 : List D → Option (List D)
  | [.int j] => if -(2 ^ 62) ≤ j ∧ j < 2 ^ 62 then some (dRange 0 j.toNat) else none
  | _ => none
def dRng2 : List D → Option (List D)
  | [.int i, .int j] => if -(2 ^ 62) ≤ i ∧ i < 2 ^ 62 ∧ -(2 ^ 62) ≤ j ∧ j < 2 ^ 62 then some (dRange i (j - i).toNat) else none
  | _ => none
def qRng (f : List D → Option (List D)) (a : QA) : QA := fun δ => (a δ).bind f
theorem i_rng1 {ta : TA} {q : QA} (h : SndQA ta q) : SndI (iRng1 ta) (qRng dRng1 q) := fun π C σ H δ ds e rel R k => by
  obtain ⟨as, e1, e⟩ := Option.bind_eq_some_iff.mp e
  refine h π C σ H δ as e1 rel _ fun vs H1 h1 w1 => ?_
  unfold dRng1 at e
  split at e
  · split at e
    · rename_i hb
      cases e
      obtain ⟨v, rfl, wA⟩ := wats1 w1
      exact ⟨_, by rw [wA.int], hb.1, hb.2, k _ H1 h1 fun O hO => src_range⟩
    · cases e
  · cases e
theorem i_rng2 {ta : TA} {q : QA} (h : SndQA ta q) : SndI (iRng2 ta) (qRng dRng2 q) := fun π C σ H δ ds e rel R k => by
  obtain ⟨as, e1, e⟩ := Option.bind_eq_some_iff.mp e
  refine h π C σ H δ as e1 rel _ fun vs H1 h1 w1 => ?_
  unfold dRng2 at e
  split at e
  · split at e
    · rename_i hb
      cases e
      obtain ⟨v, v', rfl, wA, wB⟩ := wats2 w1
      exact ⟨_, _, by rw [wA.int, wB.int], hb, k _ H1 h1 fun O hO => src_range⟩
    · cases e
  · cases e
/-- enumerate of a list -/
def dEnum (ds : List D) : List D := ds.zipIdx.map fun p => .tuple [.int (p.2 : Nat), p.1]
theorem src_enum {K : PySem.W.Frag} {O C : Addr → Prop} {H1 : Hp} {a : Addr} {vs : List V} {ds : List D} (hO : ∀ a, O a → C a) (ha : ¬ O a) (h : H1 a = some (.lst vs)) (w : Dats C H1 vs ds) : Src O C (Ite K a) H1 (dEnum ds) := fun C' H pr g i => by
  have ha' : H a = some (.lst vs) := (pr a _ ha h).1
  have w' := w.pres hO pr
  have hl : (dEnum ds).length = ds.length := by simp [dEnum]
  rw [hl]
  refine ⟨fun hi => ⟨vs, vs[i]'(by rw [w.length]; exact hi), sqL ha', by simp⟩, fun hi => ⟨vs, sqL ha', by rw [w.length, hi]; exact Nat.le_refl _⟩, fun x H' hi y => ?_⟩
  obtain ⟨T, z, rfl, nT, rfl, y⟩ := y
  obtain ⟨d, e1, e2⟩ := w'.getV (y vs (sqL ha'))
  refine ⟨HE.new nT, .tuple [.int (i : Nat), d], ?_, new_tup g (.cons (.int _) (.cons e2 .nil)) nT⟩
  simp [dEnum, List.getElem?_zipIdx, e1]
def dEnumA : List D → Option (List D)
  | [.list xs] => some (dEnum xs)
  | _ => none
theorem iw_enum {K : PySem.W.Frag} {ta : TA} {q : QA} (h : SndQA ta q) : SndIW (iEnum K ta) (qRng dEnumA q) := fun π C σ H δ ds e rel R k => by
  obtain ⟨as, e1, e⟩ := Option.bind_eq_some_iff.mp e
  refine h π C σ H δ as e1 rel _ fun vs H1 h1 w1 => ?_
  unfold dEnumA at e
  split at e
  · cases e
    obtain ⟨v, rfl, wA⟩ := wats1 w1
    obtain ⟨a, us, e2, l1, d1⟩ := wA.list
    exact ⟨a, us, by rw [e2], sqL l1, k _ H1 h1 (src_enum (fun _ z => z.elim) (fun z => z) l1 d1)⟩
  · cases e
theorem i_enum {K : PySem.W.Frag} {ta : TA} {q : QA} (h : SndQD ta q) : SndI (iEnum K ta) (qRng dEnumA q) := fun π C σ H δ ds e rel R k => by
  obtain ⟨as, e1, e⟩ := Option.bind_eq_some_iff.mp e
  refine h π C σ H δ as e1 rel _ fun vs H1 h1 w1 => ?_
  unfold dEnumA at e
  split at e
  · cases e
    cases w1 with
    | cons wA wt =>
      cases wt
      cases wA with
      | lst c1 l1 d1 => exact ⟨_, _, rfl, sqL l1, k _ H1 h1 fun O hO => src_enum hO (fun z => c1 (hO _ z)) l1 d1⟩
  · cases e
/-! comprehensions whose parts change nothing -/
def wipeD (δ : Pst) : List Nat → Pst
  | [] => δ
  | v :: vs => (wipeD δ vs).set v .no
theorem wipeD_length (δ : Pst) : ∀ vs : List Nat, (wipeD δ vs).length = δ.length
  | [] => rfl
  | v :: vs => by unfold wipeD; rw [List.length_set, wipeD_length δ vs]
theorem Rel.wipe1 {π : List V} {C : Addr → Prop} {σ : L2.St} {H : Hp} {δ : Pst} (r : Rel π C σ H δ) (v : Nat) : Rel π C (σ.set v none) H (δ.set v .no) := by
  refine ⟨by simp [r.len], fun j s hs => ?_, r.good, r.par, fun j k a w w' c c' h1 h2 h3 h4 => ?_⟩
  · by_cases e : v = j
    · subst e
      by_cases hi : v < δ.length
      · rw [List.getElem?_set_self hi] at hs
        cases hs
        exact ⟨none, by rw [List.getElem?_set_self (by rw [r.len]; exact hi)], trivial⟩
      · rw [List.getElem?_eq_none (by simp; omega)] at hs
        cases hs
    · rw [List.getElem?_set_ne e] at hs
      rw [List.getElem?_set_ne e]
      exact r.slot j s hs
  · have ne : ∀ k w c, (δ.set v Sv.no)[k]? = some (Sv.ce w c) → v ≠ k := fun k w c h e => by
      subst e
      by_cases hi : v < δ.length
      · rw [List.getElem?_set_self hi] at h
        cases h
      · rw [List.getElem?_eq_none (by simp; omega)] at h
        cases h
    have e1 := ne _ _ _ h1
    have e2 := ne _ _ _ h2
    rw [List.getElem?_set_ne e1] at h1 h3
    rw [List.getElem?_set_ne e2] at h2 h4
    exact r.own j k a w w' c c' h1 h2 h3 h4
theorem Rel.wipe {π : List V} {C : Addr → Prop} {σ : L2.St} {H : Hp} {δ : Pst} (r : Rel π C σ H δ) : ∀ vs : List Nat, Rel π C (L2.wipe σ vs) H (wipeD δ vs)
  | [] => r
  | v :: vs => (Rel.wipe r vs).wipe1 v
/-- one more address may change -/
theorem Rel.more {π : List V} {C : Addr → Prop} {σ : L2.St} {H H' : Hp} {δ : Pst} (r : Rel π C σ H δ) {p : Addr} (n : H p = none) (he : HE H H') (hp : ∃ o, H' p = some o) : Rel π (fun a => C a ∨ a = p) σ H' δ := by
  have k : ∀ a o, ¬ C a → H a = some o → H' a = some o ∧ ¬ (C a ∨ a = p) := fun a o hc ho => ⟨he a o ho, fun z => z.elim hc fun z => by rw [z, n] at ho; cases ho⟩
  refine ⟨r.len, fun i s hs => ?_, fun a h => ?_, fun k a h => let ⟨o, q⟩ := r.par k a h; ⟨o, he a o q⟩, r.own⟩
  · obtain ⟨ov, h1, h2⟩ := r.slot i s hs
    refine ⟨ov, h1, ?_⟩
    cases s with
    | no => trivial
    | im d =>
      obtain ⟨v, e1, e2⟩ := h2
      exact ⟨v, e1, e2.to k⟩
    | ce w c =>
      obtain ⟨a, e1, e2, e3, e4⟩ := h2
      obtain ⟨o, q⟩ := r.good a e2
      exact ⟨a, e1, .inl e2, e3.to k (by rw [q, he a o q]), e4⟩
  · rcases h with h | h
    · obtain ⟨o, q⟩ := r.good a h
      exact ⟨o, he a o q⟩
    · rw [h]; exact hp
def lcGo (g : GE) (t : QT) (e : QE) (base : Pst) : List D → Option (List D)
  | [] => some []
  | d :: ds => (g d base).bind fun δ1 => (t δ1).bind fun b => if b = true then (e δ1).bind fun x => (lcGo g t e base ds).map fun r => x :: r else lcGo g t e base ds
def qLc (it : QA) (g : GE) (t : QT) (e : QE) (vs : List Nat) : QE := fun δ => (it δ).bind fun ds => if ds.length ≤ 100000 then (lcGo g t e (wipeD δ vs) ds).map .list else none
def qYes : QT := fun _ => some true
theorem t_yes : SndT tYes qYes := fun π C σ H δ b e rel Q k => by
  cases e
  exact k H HE.refl
theorem q_lc {wi : TI} {qi : QA} {g : TG} {pg : GE} {js vs : List Nat} {tt : TT} {qt : QT} {te : TE} {qe : QE} (hi : SndIW wi qi) (hg : SndG g pg js) (hj : ∀ j ∈ js, j ∈ vs) (ht : SndT tt qt) (he : SndQ te qe) : SndQ (tLc wi g tt te vs) (qLc qi pg qt qe vs) := fun π C σ H δ d e rel Q k => by
  obtain ⟨ds, e1, e⟩ := Option.bind_eq_some_iff.mp e
  split at e
  · rename_i hlen
    obtain ⟨res, e2, e⟩ := Option.map_eq_some_iff.mp e
    subst e
    refine hi π C σ H δ ds e1 rel _ fun J H1 h1 src => fun Dl hD => ?_
    have rel1 := rel.he h1
    let C2 : Addr → Prop := fun a => C a ∨ a = Dl
    refine ⟨fun i m Hc => m = ds.length - i ∧ i ≤ ds.length ∧ HE H1 Hc ∧ ∃ acc as rest, Hc Dl = some (.lst acc) ∧ Dats C2 Hc acc as ∧ acc.length ≤ i ∧ lcGo pg qt qe (wipeD δ vs) (ds.drop i) = some rest ∧ as ++ rest = res,
      ⟨ds.length, by omega, Nat.zero_le _, HE.new hD, [], [], res, upd_same, .nil, Nat.le_refl _, by simpa using e2, rfl⟩, fun i m Hc w => ?_⟩
    obtain ⟨em, hil, hx, acc, as, rest, hacc, hds, hal, hgo, hres⟩ := w
    have relc : Rel π C2 σ Hc δ := rel1.more hD hx ⟨_, hacc⟩
    have sr := src C2 Hc (fun a o _ ha => ⟨hx a o ha, ⟨fun z => z.elim id (fun z => absurd (z ▸ ha) (by rw [hD]; exact fun q => nomatch q)), Or.inl⟩⟩) relc.good i
    by_cases hlt : i < ds.length
    · refine .inr ⟨sr.1 hlt, fun Hn => i + 1 ≤ ds.length ∧ HE H1 Hn ∧ ∃ acc as rest, Hn Dl = some (.lst acc) ∧ Dats C2 Hn acc as ∧ acc.length ≤ i + 1 ∧ lcGo pg qt qe (wipeD δ vs) (ds.drop (i + 1)) = some rest ∧ as ++ rest = res, fun Hn q => ⟨ds.length - (i + 1), by omega, rfl, q⟩, fun x Hy hy => ?_⟩
      obtain ⟨hHE, d1, ed, wd⟩ := sr.2.2 x Hy hlt hy
      have edrop : ds.drop i = d1 :: ds.drop (i + 1) := by
        obtain ⟨hb, he'⟩ := List.getElem?_eq_some_iff.mp ed
        rw [List.drop_eq_getElem_cons hb, he']
      rw [edrop] at hgo
      unfold lcGo at hgo
      obtain ⟨δ1, g1, hgo⟩ := Option.bind_eq_some_iff.mp hgo
      obtain ⟨b, g2, hgo⟩ := Option.bind_eq_some_iff.mp hgo
      refine hg π C2 (L2.wipe σ vs) Hy (wipeD δ vs) x d1 δ1 g1 ((relc.he hHE).wipe vs) wd _ fun σ2 H2 he2 r2 s2 _ => ⟨(s2 vs hj).trans (wipe_wipe σ vs vs fun _ z => z), ?_⟩
      refine ht π C2 σ2 H2 δ1 b g2 r2 _ fun H3 h3 => ?_
      have h03 : HE Hc H3 := (hHE.trans he2).trans h3
      cases b with
      | false =>
        have hgo' : lcGo pg qt qe (wipeD δ vs) (ds.drop (i + 1)) = some rest := hgo
        exact iteF ⟨by omega, hx.trans h03, acc, as, rest, h03 _ _ hacc, hds.he h03, by omega, hgo', hres⟩
      | true =>
        obtain ⟨y, g3, hgo⟩ := Option.bind_eq_some_iff.mp (show (qe δ1).bind _ = some rest from hgo)
        obtain ⟨rest', g4, g5⟩ := Option.map_eq_some_iff.mp hgo
        refine iteT (he π C2 σ2 H3 δ1 y g3 (r2.he h3) _ fun v H4 h4 w4 => ⟨acc, h4 _ _ (h03 _ _ hacc), sz_lt (by omega), by omega, ?_, acc ++ [v], as ++ [y], rest', upd_same, ?_, by simp; omega, g4, by rw [← hres, ← g5]; simp⟩)
        · exact fun a o ha => by
            rw [upd_ne (ne_of_none ha hD)]
            exact h4 a o (h03 a o (hx a o ha))
        · have kk : ∀ a o, ¬ C2 a → H4 a = some o → (upd H4 Dl (.lst (acc ++ [v]))) a = some o ∧ ¬ C2 a := fun a o hc ho => ⟨by rw [upd_ne (fun z => hc (.inr z))]; exact ho, hc⟩
          exact ((hds.he (h03.trans h4)).to kk).append (.cons (w4.to kk) .nil)
    · have ei : i = ds.length := by omega
      subst ei
      refine .inl ⟨sr.2.1 rfl, k _ Hc (h1.trans hx) ?_⟩
      rw [List.drop_length] at hgo
      cases hgo
      rw [List.append_nil] at hres
      subst hres
      exact .lst (rel1.fresh hD) hacc (hds.to fun a o hc ho => ⟨ho, fun z => hc (.inl z)⟩)
  · cases e
end Pu

namespace Pu
open PySem L2
inductive Out where
  | nx | rt (d : D) | bk | ct
abbrev SE := Pst → Option (Out × Pst)
def Done (C : Addr → Prop) (o : Out) (D : Ends) (σ : L2.St) (H : Hp) : Prop := match o with
  | .nx => D.nx σ H
  | .rt d => ∀ v, Dat C H v d → D.rt v H
  | .bk => D.bk σ H
  | .ct => D.ct σ H
structure Stp (π : List V) (C : Addr → Prop) (σ : L2.St) (H : Hp) (δ : Pst) (C' : Addr → Prop) (σ' : L2.St) (H' : Hp) (δ' : Pst) : Prop where
  keep : ∀ a o, ¬ Own σ δ a → H a = some o → H' a = some o ∧ ¬ Own σ' δ' a ∧ (C' a ↔ C a)
  par : ∀ (k : Nat) (a : Addr), π[k]? = some (V.ref a) → C a → C' a
  rel : Rel π C' σ' H' δ'
def SndS (ts : TS) (p : SE) : Prop := ∀ (π : List V) (C : Addr → Prop) (σ : L2.St) (H : Hp) (δ : Pst) (o : Out) (δ' : Pst), p δ = some (o, δ') → Rel π C σ H δ → ∀ D : Ends, (∀ C' σ' H', Stp π C σ H δ C' σ' H' δ' → Done C' o D σ' H') → ts D σ H
section
variable {π : List V} {C C1 C2 : Addr → Prop} {σ σ1 σ2 : L2.St} {H H1 H2 : Hp} {δ δ1 δ2 : Pst}
theorem Stp.refl (r : Rel π C σ H δ) : Stp π C σ H δ C σ H δ := ⟨fun a o n h => ⟨h, n, Iff.rfl⟩, fun _ _ _ h => h, r⟩
theorem Stp.trans (a : Stp π C σ H δ C1 σ1 H1 δ1) (b : Stp π C1 σ1 H1 δ1 C2 σ2 H2 δ2) : Stp π C σ H δ C2 σ2 H2 δ2 := by
  refine ⟨fun x o n h => ?_, fun k x h hc => b.par k x h (a.par k x h hc), b.rel⟩
  obtain ⟨h1, n1, c1⟩ := a.keep x o n h
  obtain ⟨h2, n2, c2⟩ := b.keep x o n1 h1
  exact ⟨h2, n2, c2.trans c1⟩
theorem Stp.chg (c : Chg π C σ H δ H1 δ1) : Stp π C σ H δ C σ H1 δ1 := ⟨fun x o n h => ⟨c.evo x o n h, fun z => n (c.own x z), Iff.rfl⟩, fun _ _ _ h => h, c.rel⟩
theorem Stp.he (r : Rel π C σ H δ) (e : HE H H1) : Stp π C σ H δ C σ H1 δ := .chg (.he r e)
theorem Stp.set (r : Rel π C σ H δ) (r1 : Rel π C σ1 H1 δ1) (e : HE H H1) (o : ∀ a, Own σ1 δ1 a → Own σ δ a) : Stp π C σ H δ C σ1 H1 δ1 := ⟨fun x ob n h => ⟨e x ob h, fun z => n (o x z), Iff.rfl⟩, fun _ _ _ h => h, r1⟩
/-- values that the frame does not own stay -/
theorem Stp.dat (r : Rel π C σ H δ) (s : Stp π C σ H δ C1 σ1 H1 δ1) {v : V} {d : D} (w : Dat C H v d) : Dat C1 H1 v d := w.to fun a o hc ho =>
  let q := s.keep a o (fun z => hc (r.ownC z)) ho
  ⟨q.1, fun z => hc (q.2.2.mp z)⟩
end
def sNx : SE := fun δ => some (.nx, δ)
def sBk : SE := fun δ => some (.bk, δ)
def sCt : SE := fun δ => some (.ct, δ)
def sNever : SE := fun _ => none
def sSeq (p q : SE) : SE := fun δ => (p δ).bind fun r => match r.1 with | .nx => q r.2 | o => some (o, r.2)
def sAsg (q : QE) (g : GE) : SE := fun δ => (q δ).bind fun d => (g d δ).map fun δ' => (.nx, δ')
def sAsgX (x : XE) (g : GE) : SE := fun δ => (x δ).bind fun p => (g p.1 p.2).map fun δ' => (.nx, δ')
def sRet (q : QE) : SE := fun δ => (q δ).map fun d => (.rt d, δ)
def sRetX (x : XE) : SE := fun δ => (x δ).map fun p => (.rt p.1, p.2)
def sDropX (x : XE) : SE := fun δ => (x δ).map fun p => (.nx, p.2)
def sIf (t : QT) (p q : SE) : SE := fun δ => (t δ).bind fun b => if b = true then p δ else q δ
def sIfX (t : XT) (p q : SE) : SE := fun δ => (t δ).bind fun b => if b.1 = true then p b.2 else q b.2
section
variable {t u : TS} {p q : SE} {te : TE} {qe : QE} {xe : XE} {g : TG} {pg : GE} {js : List Nat} {tt : TT} {qt : QT} {xt : XT}
theorem s_nx : SndS tNext sNx := fun π C σ H δ o δ' e rel D k => by
  cases e
  exact k C σ H (Stp.refl rel)
theorem s_bk : SndS tBreak sBk := fun π C σ H δ o δ' e rel D k => by
  cases e
  exact k C σ H (Stp.refl rel)
theorem s_ct : SndS tCont sCt := fun π C σ H δ o δ' e rel D k => by
  cases e
  exact k C σ H (Stp.refl rel)
theorem s_never : SndS tNever sNever := fun π C σ H δ o δ' e rel D k => by cases e
theorem s_seq (hp : SndS t p) (hq : SndS u q) : SndS (tSeq t u) (sSeq p q) := fun π C σ H δ o δ' e rel D k => by
  obtain ⟨⟨o1, δ1⟩, e1, e⟩ := Option.bind_eq_some_iff.mp e
  refine hp π C σ H δ o1 δ1 e1 rel { D with nx := u D } fun C1 σ1 H1 s1 => ?_
  cases o1 with
  | nx => exact hq π C1 σ1 H1 δ1 o δ' e s1.rel D fun C2 σ2 H2 s2 => k C2 σ2 H2 (s1.trans s2)
  | rt d =>
    cases e
    exact k C1 σ1 H1 s1
  | bk =>
    cases e
    exact k C1 σ1 H1 s1
  | ct =>
    cases e
    exact k C1 σ1 H1 s1
theorem s_asg (he : SndQ te qe) (hg : SndG g pg js) : SndS (tAsg te g) (sAsg qe pg) := fun π C σ H δ o δ' e rel D k => by
  obtain ⟨d, e1, e⟩ := Option.bind_eq_some_iff.mp e
  obtain ⟨δ1, e2, e⟩ := Option.map_eq_some_iff.mp e
  cases e
  refine he π C σ H δ d e1 rel _ fun v H1 h1 w1 => ?_
  refine hg π C σ H1 δ v d _ e2 (rel.he h1) w1 _ fun σ2 H2 he2 r2 _ o2 => ?_
  exact k C σ2 H2 ((Stp.he rel h1).trans (Stp.set (rel.he h1) r2 he2 o2))
theorem s_asgX (he : SndX te xe) (hg : SndG g pg js) : SndS (tAsg te g) (sAsgX xe pg) := fun π C σ H δ o δ' e rel D k => by
  obtain ⟨⟨d, δ0⟩, e1, e⟩ := Option.bind_eq_some_iff.mp e
  obtain ⟨δ1, e2, e⟩ := Option.map_eq_some_iff.mp e
  cases e
  refine he π C σ H δ d δ0 e1 rel _ fun v H1 c1 w1 => ?_
  refine hg π C σ H1 δ0 v d _ e2 c1.rel w1 _ fun σ2 H2 he2 r2 _ o2 => ?_
  exact k C σ2 H2 ((Stp.chg c1).trans (Stp.set c1.rel r2 he2 o2))
theorem s_ret (he : SndQ te qe) : SndS (tRet te) (sRet qe) := fun π C σ H δ o δ' e rel D k => by
  obtain ⟨d, e1, e⟩ := Option.map_eq_some_iff.mp e
  cases e
  exact he π C σ H δ d e1 rel _ fun v H1 h1 w1 => k C σ H1 (Stp.he rel h1) v w1
theorem s_retX (he : SndX te xe) : SndS (tRet te) (sRetX xe) := fun π C σ H δ o δ' e rel D k => by
  obtain ⟨⟨d, δ1⟩, e1, e⟩ := Option.map_eq_some_iff.mp e
  cases e
  exact he π C σ H δ d δ1 e1 rel _ fun v H1 c1 w1 => k C σ H1 (Stp.chg c1) v w1
theorem s_dropX (he : SndX te xe) : SndS (tDrop te) (sDropX xe) := fun π C σ H δ o δ' e rel D k => by
  obtain ⟨⟨d, δ1⟩, e1, e⟩ := Option.map_eq_some_iff.mp e
  cases e
  exact he π C σ H δ d δ1 e1 rel _ fun v H1 c1 w1 => k C σ H1 (Stp.chg c1)
theorem s_if (ht : SndT tt qt) (hp : SndS t p) (hq : SndS u q) : SndS (tIfS tt t u) (sIf qt p q) := fun π C σ H δ o δ' e rel D k => by
  obtain ⟨b, e1, e⟩ := Option.bind_eq_some_iff.mp e
  refine ht π C σ H δ b e1 rel _ fun H1 h1 => ?_
  cases b with
  | true => exact iteT (hp π C σ H1 δ o δ' e (rel.he h1) D fun C2 σ2 H2 s2 => k C2 σ2 H2 ((Stp.he rel h1).trans s2))
  | false => exact iteF (hq π C σ H1 δ o δ' e (rel.he h1) D fun C2 σ2 H2 s2 => k C2 σ2 H2 ((Stp.he rel h1).trans s2))
theorem s_ifX (ht : SndXT tt xt) (hp : SndS t p) (hq : SndS u q) : SndS (tIfS tt t u) (sIfX xt p q) := fun π C σ H δ o δ' e rel D k => by
  obtain ⟨⟨b, δ1⟩, e1, e⟩ := Option.bind_eq_some_iff.mp e
  refine ht π C σ H δ b δ1 e1 rel _ fun H1 c1 => ?_
  cases b with
  | true => exact iteT (hp π C σ H1 δ1 o δ' e c1.rel D fun C2 σ2 H2 s2 => k C2 σ2 H2 ((Stp.chg c1).trans s2))
  | false => exact iteF (hq π C σ H1 δ1 o δ' e c1.rel D fun C2 σ2 H2 s2 => k C2 σ2 H2 ((Stp.chg c1).trans s2))
/-- a, b = e, f -/
def setPar (i j : Nat) : List D → Pst → Option Pst
  | [d, d'], δ => (setD i d δ).bind fun δ1 => setD j d' δ1
  | _, _ => none
def sPar (i j : Nat) (a : QA) : SE := fun δ => (a δ).bind fun ds => (setPar i j ds δ).map fun δ' => (.nx, δ')
def sParX (i j : Nat) (a : XA) : SE := fun δ => (a δ).bind fun p => (setPar i j p.1 p.2).map fun δ' => (.nx, δ')
theorem setD_some {i : Nat} {d : D} {δ δ' : Pst} (h : setD i d δ = some δ') : i < δ.length ∧ δ' = δ.set i (.im d) := by
  unfold setD at h
  split at h
  · cases h
    exact ⟨by assumption, rfl⟩
  · cases h
theorem par_ok {π : List V} {C : Addr → Prop} {σ : L2.St} {H : Hp} {δ : Pst} {i j : Nat} {vs : List V} {ds : List D} {δ' : Pst} (e : setPar i j ds δ = some δ') (rel : Rel π C σ H δ) (w : Dats C H vs ds) :
    ∃ v v', vs = [v, v'] ∧ Stp π C σ H δ C ((σ.set i (some v)).set j (some v')) H δ' := by
  unfold setPar at e
  split at e
  · obtain ⟨δ1, e1, e2⟩ := Option.bind_eq_some_iff.mp e
    obtain ⟨h1, q1⟩ := setD_some e1
    subst q1
    obtain ⟨h2, q2⟩ := setD_some e2
    subst q2
    cases w with
    | cons w1 wt =>
      cases wt with
      | cons w2 wt =>
        cases wt
        refine ⟨_, _, rfl, Stp.set rel ((rel.set h1 w1).set h2 w2) HE.refl fun a h => own_set (own_set h)⟩
  · cases e
theorem s_par {i j : Nat} {ta : TA} {qa : QA} (ha : SndQD ta qa) : SndS (tPar i j ta) (sPar i j qa) := fun π C σ H δ o δ' e rel D k => by
  obtain ⟨ds, e1, e⟩ := Option.bind_eq_some_iff.mp e
  obtain ⟨δ1, e2, e⟩ := Option.map_eq_some_iff.mp e
  cases e
  refine ha π C σ H δ ds e1 rel _ fun vs H1 h1 w1 => ?_
  obtain ⟨v, v', ev, s⟩ := par_ok e2 (rel.he h1) w1
  exact ⟨v, v', ev, k C _ H1 ((Stp.he rel h1).trans s)⟩
theorem s_parX {i j : Nat} {ta : TA} {xa : XA} (ha : SndXA ta xa) : SndS (tPar i j ta) (sParX i j xa) := fun π C σ H δ o δ' e rel D k => by
  obtain ⟨⟨ds, δ0⟩, e1, e⟩ := Option.bind_eq_some_iff.mp e
  obtain ⟨δ1, e2, e⟩ := Option.map_eq_some_iff.mp e
  cases e
  refine ha π C σ H δ ds δ0 e1 rel _ fun vs H1 c1 w1 => ?_
  obtain ⟨v, v', ev, s⟩ := par_ok e2 c1.rel w1
  exact ⟨v, v', ev, k C _ H1 ((Stp.chg c1).trans s)⟩
end
theorem ne_c {C : Addr → Prop} {a b : Addr} (h : C a) (n : ¬ C b) : b ≠ a := fun z => by
  subst z
  exact n h
/-! lists of one's own -/
def setOwn (i : Nat) (c : Cn) (δ : Pst) : Option Pst := if i < δ.length then some (δ.set i (.ce none c)) else none
/-- a fresh object becomes a slot's own -/
theorem own_new {π : List V} {C : Addr → Prop} {σ : L2.St} {H : Hp} {δ : Pst} (rel : Rel π C σ H δ) {i : Nat} (hi : i < δ.length) {p : Addr} (hp : H p = none) {o : HO} {c : Cn} (hc : ∀ C', (∀ a o', ¬ C a → H a = some o' → (upd H p o) a = some o' ∧ ¬ C' a) → CnOk C' (upd H p o) p c) :
    Stp π C σ H δ (fun a => C a ∨ a = p) (σ.set i (some (.ref p))) (upd H p o) (δ.set i (.ce none c)) := by
  have he : HE H (upd H p o) := HE.new hp
  have kk : ∀ a o', ¬ C a → H a = some o' → (upd H p o) a = some o' ∧ ¬ (C a ∨ a = p) := fun a o' h1 h2 => ⟨he a o' h2, fun z => z.elim h1 fun z => by rw [z, hp] at h2; cases h2⟩
  have rm := rel.more hp he ⟨o, upd_same⟩
  have hσ : i < σ.length := by rw [rel.len]; exact hi
  have nopar : ∀ k : Nat, π[k]? ≠ some (V.ref p) := fun k z => by
    obtain ⟨o', q⟩ := rel.par k p z
    rw [hp] at q
    cases q
  have nown : ∀ (j : Nat) w c', δ[j]? = some (Sv.ce w c') → σ[j]? ≠ some (some (V.ref p)) := fun j w c' h z => by
    have := rel.ownC ⟨j, w, c', h, z⟩
    obtain ⟨o', q⟩ := rel.good p this
    rw [hp] at q
    cases q
  refine ⟨fun a ob n h => ⟨he a ob h, fun ⟨j, w, c', h1, h2⟩ => ?_, ⟨fun z => z.elim id (fun z => absurd (z ▸ h) (by rw [hp]; exact fun q => nomatch q)), Or.inl⟩⟩, fun _ _ _ h => .inl h, ?_⟩
  · by_cases e : i = j
    · subst e
      rw [List.getElem?_set_self hσ] at h2
      cases h2
      rw [hp] at h
      cases h
    · rw [List.getElem?_set_ne e] at h1 h2
      exact n ⟨j, w, c', h1, h2⟩
  · refine ⟨by simp [rel.len], fun j s hs => ?_, rm.good, rm.par, fun j k a w w' c1 c2 h1 h2 h3 h4 => ?_⟩
    · by_cases e : i = j
      · subst e
        rw [List.getElem?_set_self hi] at hs
        cases hs
        exact ⟨_, List.getElem?_set_self hσ, p, rfl, .inr rfl, hc _ kk, (fun k z => nomatch z), fun _ => nopar⟩
      · rw [List.getElem?_set_ne e] at hs ⊢
        exact rm.slot j s hs
    · by_cases e : i = j
      · subst e
        rw [List.getElem?_set_self hσ] at h3
        cases h3
        by_cases e' : i = k
        · exact e'
        · rw [List.getElem?_set_ne e'] at h2 h4
          exact absurd h4 (nown k _ _ h2)
      · rw [List.getElem?_set_ne e] at h1 h3
        by_cases e' : i = k
        · subst e'
          rw [List.getElem?_set_self hσ] at h4
          cases h4
          exact absurd h3 (nown j _ _ h1)
        · rw [List.getElem?_set_ne e'] at h2 h4
          exact rel.own j k a w w' c1 c2 h1 h2 h3 h4
/-- x = [..] -/
def sOwn (i : Nat) (a : QA) : SE := fun δ => (a δ).bind fun ds => if ds.length ≤ 100000 then (setOwn i (.l ds) δ).map fun δ' => (.nx, δ') else none
theorem setOwn_some {i : Nat} {c : Cn} {δ δ' : Pst} (h : setOwn i c δ = some δ') : i < δ.length ∧ δ' = δ.set i (.ce none c) := by
  unfold setOwn at h
  split at h
  · cases h
    exact ⟨by assumption, rfl⟩
  · cases h
theorem s_own {i : Nat} {ta : TA} {qa : QA} (ha : SndQD ta qa) : SndS (tAsg (tLst ta) (gName i)) (sOwn i qa) := fun π C σ H δ o δ' e rel D k => by
  obtain ⟨ds, e1, e⟩ := Option.bind_eq_some_iff.mp e
  split at e
  · rename_i hl
    obtain ⟨δ1, e2, e⟩ := Option.map_eq_some_iff.mp e
    cases e
    obtain ⟨hi, q1⟩ := setOwn_some e2
    subst q1
    refine ha π C σ H δ ds e1 rel _ fun vs H1 h1 w1 => ⟨by rw [w1.length]; exact sz_of hl, fun p hp => ?_⟩
    exact k _ _ _ ((Stp.he rel h1).trans (own_new (rel.he h1) hi hp fun C' kk => ⟨vs, upd_same, w1.to kk⟩))
  · cases e
/-- x = {} -/
def sOwnD (i : Nat) : SE := fun δ => (setOwn i (.k []) δ).map fun δ' => (.nx, δ')
/-- a slot's own list is written anew -/
theorem own_put {π : List V} {C : Addr → Prop} {σ : L2.St} {H : Hp} {δ : Pst} (rel : Rel π C σ H δ) {i : Nat} {w : Option Nat} {c c' : Cn} (hs : δ[i]? = some (.ce w c)) :
    ∃ a, σ[i]? = some (some (.ref a)) ∧ CnOk C H a c ∧ ∀ o, CnOk C (upd H a o) a c' → Chg π C σ H δ (upd H a o) (δ.set i (.ce w c')) := by
  obtain ⟨ov, h1, a, e1, e2, e3, e4, e5⟩ := rel.slot i _ hs
  subst e1
  have hi : i < δ.length := (List.getElem?_eq_some_iff.mp hs).1
  have kk : ∀ (o : HO) b o', ¬ C b → H b = some o' → (upd H a o) b = some o' ∧ ¬ C b := fun o b o' hc ho => ⟨by rw [upd_ne (ne_c e2 hc)]; exact ho, hc⟩
  refine ⟨a, h1, e3, fun o hc => ?_⟩
  have ownq : ∀ b, Own σ (δ.set i (.ce w c')) b ↔ Own σ δ b := fun b => by
    constructor
    · rintro ⟨j, w1, c1, h2, h3⟩
      by_cases e : i = j
      · subst e
        exact ⟨i, w, c, hs, h3⟩
      · rw [List.getElem?_set_ne e] at h2
        exact ⟨j, w1, c1, h2, h3⟩
    · rintro ⟨j, w1, c1, h2, h3⟩
      by_cases e : i = j
      · subst e
        exact ⟨i, w, c', List.getElem?_set_self hi, h3⟩
      · exact ⟨j, w1, c1, by rw [List.getElem?_set_ne e]; exact h2, h3⟩
  have back : ∀ (j : Nat) w1 c1, (δ.set i (Sv.ce w c'))[j]? = some (Sv.ce w1 c1) → ∃ c2, δ[j]? = some (Sv.ce w1 c2) := fun j w1 c1 h => by
    by_cases e : i = j
    · subst e
      rw [List.getElem?_set_self hi] at h
      cases h
      exact ⟨c, hs⟩
    · rw [List.getElem?_set_ne e] at h
      exact ⟨c1, h⟩
  refine ⟨fun b o' n h => ?_, ⟨by simp [rel.len], fun j s hj => ?_, fun b hb => ?_, fun k b hb => ?_, fun j k b w1 w2 c1 c2 h2 h3 h4 h5 => ?_⟩, fun b => (ownq b).mp⟩
  · rw [upd_ne (ne_c (C := Own σ δ) ⟨i, w, c, hs, h1⟩ n)]
    exact h
  · by_cases e : i = j
    · subst e
      rw [List.getElem?_set_self hi] at hj
      cases hj
      exact ⟨_, h1, a, rfl, e2, hc, e4, e5⟩
    · rw [List.getElem?_set_ne e] at hj
      obtain ⟨ov, q1, q2⟩ := rel.slot j s hj
      refine ⟨ov, q1, ?_⟩
      cases s with
      | no => trivial
      | im d =>
        obtain ⟨v, r1, r2⟩ := q2
        exact ⟨v, r1, r2.to (kk o)⟩
      | ce w1 c1 =>
        obtain ⟨b, r1, r2, r3, r4⟩ := q2
        subst r1
        refine ⟨b, rfl, r2, r3.to (kk o) (upd_ne fun z => ?_), r4⟩
        subst z
        exact e (rel.own i j b w w1 c c1 hs hj h1 q1)
  · by_cases z : b = a
    · exact ⟨o, by rw [z]; exact upd_same⟩
    · obtain ⟨o', q⟩ := rel.good b hb
      exact ⟨o', by rw [upd_ne z]; exact q⟩
  · by_cases z : b = a
    · exact ⟨o, by rw [z]; exact upd_same⟩
    · obtain ⟨o', q⟩ := rel.par k b hb
      exact ⟨o', by rw [upd_ne z]; exact q⟩
  · obtain ⟨c3, h2⟩ := back j w1 c1 h2
    obtain ⟨c4, h3⟩ := back k w2 c2 h3
    exact rel.own j k b w1 w2 c3 c4 h2 h3 h4 h5
def getL (i : Nat) (δ : Pst) : Option (Option Nat × List D) := match δ[i]? with
  | some (.ce w (.l xs)) => some (w, xs)
  | _ => none
theorem getL_some {i : Nat} {δ : Pst} {w : Option Nat} {xs : List D} (h : getL i δ = some (w, xs)) : δ[i]? = some (.ce w (.l xs)) := by
  unfold getL at h
  split at h
  · cases h
    assumption
  · cases h
/-- x.append(e) -/
def sApp (i : Nat) (q : QE) : SE := fun δ => (q δ).bind fun d => (getL i δ).bind fun r => if r.2.length < 100000 then some (.nx, δ.set i (.ce r.1 (.l (r.2 ++ [d])))) else none
theorem tyL {K : PySem.W.Frag} {H : Hp} {a : Addr} {vs : List V} (h : H a = some (.lst vs)) : tyV K "list" (.ref a) H := .inl ⟨rfl, _, sqL h⟩
theorem s_app {K : PySem.W.Frag} {i : Nat} {te : TE} {qe : QE} (he : SndQ te qe) : SndS (tDrop (tBM K "list" rAppend (tVar i) (tCons te tNil))) (sApp i qe) := fun π C σ H δ o δ' e rel D k => by
  obtain ⟨d, e1, e⟩ := Option.bind_eq_some_iff.mp e
  obtain ⟨⟨w, xs⟩, e2, e⟩ := Option.bind_eq_some_iff.mp e
  split at e
  · rename_i hl
    cases e
    have hs := getL_some e2
    obtain ⟨a, h1, ⟨vs, h2, h3⟩, _⟩ := own_put (c' := .l xs) rel hs
    refine ⟨_, h1, tyL h2, he π C σ H δ d e1 rel _ fun v H1 he1 w1 => ?_⟩
    obtain ⟨a', h1', ⟨vs', h2', h3'⟩, hc⟩ := own_put (c' := .l (xs ++ [d])) (rel.he he1) hs
    have ea : a' = a := by
      rw [h1] at h1'
      cases h1'
      rfl
    subst ea
    have ca := (rel.he he1).ownC ⟨i, w, _, hs, h1'⟩
    refine ⟨a', vs', v, rfl, rfl, h2', by rw [h3'.length]; exact sz_lt hl, ?_⟩
    refine k C σ _ ((Stp.he rel he1).trans (Stp.chg (hc (.lst (vs' ++ [v])) ⟨_, upd_same, ?_⟩)))
    have kk : ∀ b o', ¬ C b → H1 b = some o' → (upd H1 a' (.lst (vs' ++ [v]))) b = some o' ∧ ¬ C b := fun b o' hc ho => ⟨by rw [upd_ne (ne_c ca hc)]; exact ho, hc⟩
    exact (h3'.to kk).append (.cons (w1.to kk) .nil)
  · cases e
/-- x[e] = f, x a list of one's own -/
def sPut (i : Nat) (qi qe : QE) : SE := fun δ => (qe δ).bind fun d => (qi δ).bind fun j => (asI j).bind fun j => (getL i δ).bind fun r => (ixN r.2.length j).map fun n => (.nx, δ.set i (.ce r.1 (.l (r.2.set n d))))
theorem s_put {i : Nat} {te ti : TE} {qe qi : QE} (he : SndQ te qe) (hi : SndQ ti qi) : SndS (tAsg te (gSub (tVar i) ti rSetL)) (sPut i qi qe) := fun π C σ H δ o δ' e rel D k => by
  obtain ⟨d, e1, e⟩ := Option.bind_eq_some_iff.mp e
  obtain ⟨j', e2, e⟩ := Option.bind_eq_some_iff.mp e
  obtain ⟨j, e3, e⟩ := Option.bind_eq_some_iff.mp e
  obtain ⟨⟨w, xs⟩, e4, e⟩ := Option.bind_eq_some_iff.mp e
  obtain ⟨n, e5, e⟩ := Option.map_eq_some_iff.mp e
  cases e
  have e3 := asI_some e3
  subst e3
  have hs := getL_some e4
  refine he π C σ H δ d e1 rel _ fun v H1 he1 w1 => ?_
  obtain ⟨a, h1, _, _⟩ := own_put (c' := .l xs) rel hs
  refine ⟨_, h1, hi π C σ H1 δ _ e2 (rel.he he1) _ fun z H2 he2 w2 => ?_⟩
  have rel2 := (rel.he he1).he he2
  obtain ⟨a', h1', ⟨vs', h2', h3'⟩, hc⟩ := own_put (c' := .l (xs.set n d)) rel2 hs
  have ea : a' = a := by
    rw [h1] at h1'
    cases h1'
    rfl
  subst ea
  have ca := rel2.ownC ⟨i, w, _, hs, h1'⟩
  refine ⟨a', vs', j, n, rfl, w2.int_eq, h2', by rw [h3'.length]; exact e5, ?_⟩
  refine k C σ _ ((Stp.he rel (he1.trans he2)).trans (Stp.chg (hc (.lst (vs'.set n v)) ⟨_, upd_same, ?_⟩)))
  have kk : ∀ b o', ¬ C b → H2 b = some o' → (upd H2 a' (.lst (vs'.set n v))) b = some o' ∧ ¬ C b := fun b o' hc ho => ⟨by rw [upd_ne (ne_c ca hc)]; exact ho, hc⟩
  exact Dats.set ((w1.he he2).to kk) n (h3'.to kk)
/-- x.pop() as a statement -/
def sPop (i : Nat) : SE := fun δ => (getL i δ).bind fun r => if r.2.length = 0 then none else some (.nx, δ.set i (.ce r.1 (.l r.2.dropLast)))
theorem Dats.dropLast {C : Addr → Prop} {H : Hp} {vs : List V} {ds : List D} (h : Dats C H vs ds) : Dats C H vs.dropLast ds.dropLast := by
  rw [List.dropLast_eq_take, List.dropLast_eq_take, h.length]
  exact h.take _
theorem s_pop {K : PySem.W.Frag} {i : Nat} : SndS (tDrop (tBM0 K "list" rPop (tVar i))) (sPop i) := fun π C σ H δ o δ' e rel D k => by
  obtain ⟨⟨w, xs⟩, e2, e⟩ := Option.bind_eq_some_iff.mp e
  split at e
  · cases e
  · rename_i hl
    cases e
    have hs := getL_some e2
    obtain ⟨a, h1, ⟨vs, h2, h3⟩, hc⟩ := own_put (c' := .l xs.dropLast) rel hs
    have ca := rel.ownC ⟨i, w, _, hs, h1⟩
    have hn : vs.length ≠ 0 := by rw [h3.length]; exact hl
    refine ⟨_, h1, tyL h2, a, vs, vs[vs.length - 1]'(by omega), rfl, rfl, h2, by simp, ?_⟩
    refine k C σ _ (Stp.chg (hc (.lst vs.dropLast) ⟨_, upd_same, ?_⟩))
    exact (h3.to fun b o' hc ho => ⟨by rw [upd_ne (ne_c ca hc)]; exact ho, hc⟩).dropLast
/-- a list of one's own is no longer changed -/
def sFrz (i : Nat) (p : SE) : SE := fun δ => match δ[i]? with
  | some (.ce none (.l xs)) => p (δ.set i (.im (.list xs)))
  | _ => none
theorem frz_ok {π : List V} {C : Addr → Prop} {σ : L2.St} {H : Hp} {δ : Pst} (rel : Rel π C σ H δ) {i : Nat} {xs : List D} (hs : δ[i]? = some (.ce none (.l xs))) : ∃ C', Stp π C σ H δ C' σ H (δ.set i (.im (.list xs))) := by
  obtain ⟨ov, h1, a, e1, e2, ⟨vs, e3, e3'⟩, e4, e5⟩ := rel.slot i _ hs
  subst e1
  have hi : i < δ.length := (List.getElem?_eq_some_iff.mp hs).1
  have hσ : i < σ.length := by rw [rel.len]; exact hi
  have kk : ∀ b o', ¬ C b → H b = some o' → H b = some o' ∧ ¬ (C b ∧ b ≠ a) := fun b o' hc ho => ⟨ho, fun z => hc z.1⟩
  have ne : ∀ (j : Nat) w c, (δ.set i (Sv.im (.list xs)))[j]? = some (Sv.ce w c) → i ≠ j ∧ δ[j]? = some (Sv.ce w c) := fun j w c h => by
    by_cases e : i = j
    · subst e
      rw [List.getElem?_set_self hi] at h
      cases h
    · rw [List.getElem?_set_ne e] at h
      exact ⟨e, h⟩
  refine ⟨fun b => C b ∧ b ≠ a, fun b o n h => ⟨h, fun ⟨j, w, c, q1, q2⟩ => n ⟨j, w, c, (ne j w c q1).2, q2⟩, ⟨fun z => z.1, fun z => ⟨z, fun e => n ⟨i, none, _, hs, by rw [e]; exact h1⟩⟩⟩⟩, fun k b hb hc => ⟨hc, fun e => e5 rfl k (by rw [← e]; exact hb)⟩,
    by simp [rel.len], fun j s hj => ?_, fun b hb => rel.good b hb.1, rel.par, fun j k b w w' c c' q1 q2 q3 q4 => rel.own j k b w w' c c' (ne j w c q1).2 (ne k w' c' q2).2 q3 q4⟩
  by_cases e : i = j
  · subst e
    rw [List.getElem?_set_self hi] at hj
    cases hj
    exact ⟨_, h1, .ref a, rfl, .lst (fun z => z.2 rfl) e3 (e3'.to kk)⟩
  · rw [List.getElem?_set_ne e] at hj
    obtain ⟨ov, q1, q2⟩ := rel.slot j s hj
    refine ⟨ov, q1, ?_⟩
    cases s with
    | no => trivial
    | im d =>
      obtain ⟨v, r1, r2⟩ := q2
      exact ⟨v, r1, r2.to kk⟩
    | ce w1 c1 =>
      obtain ⟨b, r1, r2, r3, r4⟩ := q2
      subst r1
      refine ⟨b, rfl, ⟨r2, fun z => ?_⟩, r3.to kk rfl, r4⟩
      subst z
      exact e (rel.own i j b none w1 _ c1 hs hj h1 q1)
theorem s_frz {i : Nat} {t : TS} {p : SE} (h : SndS t p) : SndS t (sFrz i p) := fun π C σ H δ o δ' e rel D k => by
  unfold sFrz at e
  split at e
  · rename_i xs hs
    obtain ⟨C1, s1⟩ := frz_ok rel hs
    exact h π C1 σ H _ o δ' e s1.rel D fun C2 σ2 H2 s2 => k C2 σ2 H2 (s1.trans s2)
  · cases e
/-! loops -/
def forGo (g : GE) (b : SE) : List D → SE
  | [], δ => some (.nx, δ)
  | d :: ds, δ => (g d δ).bind fun δ1 => (b δ1).bind fun r => match r.1 with
    | .nx => forGo g b ds r.2
    | .ct => forGo g b ds r.2
    | .bk => some (.nx, r.2)
    | .rt d => some (.rt d, r.2)
def sFor (it : QA) (g : GE) (b : SE) : SE := fun δ => (it δ).bind fun ds => forGo g b ds δ
/-- the loop itself, over what is walked -/
theorem for_core {g : TG} {pg : GE} {js : List Nat} {tb : TS} {pb : SE} (hg : SndG g pg js) (hb : SndS tb pb) {π : List V} {C : Addr → Prop} {σ : L2.St} {H1 : Hp} {δ : Pst} {ds : List D} {o : Out} {δ' : Pst} (e : forGo pg pb ds δ = some (o, δ')) (rel1 : Rel π C σ H1 δ)
    {J : It} (src : Src (Own σ δ) C J H1 ds) {D : Ends} (k : ∀ C' σ' H', Stp π C σ H1 δ C' σ' H' δ' → Done C' o D σ' H') :
    ∃ W : Nat → Nat → L2.St → Hp → Prop, (∃ m, W 0 m σ H1) ∧ ∀ i m σ H, W i m σ H →
      (J.stop i H ∧ D.nx σ H) ∨ (J.go i H ∧ ∃ N : L2.St → Hp → Prop, (∀ σ' H', N σ' H' → ∃ m', m' < m ∧ W (i + 1) m' σ' H') ∧ ∀ x H', J.yld i H x H' → g x σ H' fun σ2 H2 => tb { D with nx := N, ct := N, bk := D.nx } σ2 H2) := by
  refine ⟨fun i m σc Hc => m = ds.length - i ∧ i ≤ ds.length ∧ ∃ Cc δc, Stp π C σ H1 δ Cc σc Hc δc ∧ forGo pg pb (ds.drop i) δc = some (o, δ'), ⟨ds.length, by omega, Nat.zero_le _, C, δ, Stp.refl rel1, by simpa using e⟩, fun i m σc Hc w => ?_⟩
  obtain ⟨em, hil, Cc, δc, sc, hgo⟩ := w
  have sr := src Cc Hc (fun a ob n ha => let q := sc.keep a ob n ha; ⟨q.1, q.2.2⟩) sc.rel.good i
  by_cases hlt : i < ds.length
  · refine .inr ⟨sr.1 hlt, fun σn Hn => ∃ Cc δc, Stp π C σ H1 δ Cc σn Hn δc ∧ forGo pg pb (ds.drop (i + 1)) δc = some (o, δ'), fun σn Hn q => ⟨ds.length - (i + 1), by omega, rfl, hlt, q⟩, fun x Hy hy => ?_⟩
    obtain ⟨hHE, d1, ed, wd⟩ := sr.2.2 x Hy hlt hy
    have edrop : ds.drop i = d1 :: ds.drop (i + 1) := by
      obtain ⟨hb', he'⟩ := List.getElem?_eq_some_iff.mp ed
      rw [List.drop_eq_getElem_cons hb', he']
    rw [edrop] at hgo
    unfold forGo at hgo
    obtain ⟨δ1, g1, hgo⟩ := Option.bind_eq_some_iff.mp hgo
    obtain ⟨⟨o2, δ2⟩, g2, hgo⟩ := Option.bind_eq_some_iff.mp hgo
    refine hg π Cc σc Hy δc x d1 δ1 g1 (sc.rel.he hHE) wd _ fun σ2 H2 he2 r2 _ ow2 => ?_
    have st2 := (sc.trans (Stp.he sc.rel hHE)).trans (Stp.set (sc.rel.he hHE) r2 he2 ow2)
    refine hb π Cc σ2 H2 δ1 o2 δ2 g2 r2 _ fun C3 σ3 H3 s3 => ?_
    have st3 := st2.trans s3
    cases o2 with
    | nx => exact ⟨C3, δ2, st3, hgo⟩
    | ct => exact ⟨C3, δ2, st3, hgo⟩
    | bk =>
      cases hgo
      exact k C3 σ3 H3 st3
    | rt d =>
      cases hgo
      exact k C3 σ3 H3 st3
  · have ei : i = ds.length := by omega
    subst ei
    rw [List.drop_length] at hgo
    cases hgo
    exact .inl ⟨sr.2.1 rfl, k Cc σc Hc sc⟩
theorem s_for {wi : TI} {qi : QA} {g : TG} {pg : GE} {js : List Nat} {tb : TS} {pb : SE} (hi : SndI wi qi) (hg : SndG g pg js) (hb : SndS tb pb) : SndS (tFor wi g tb) (sFor qi pg pb) := fun π C σ H δ o δ' e rel D k => by
  obtain ⟨ds, e1, e⟩ := Option.bind_eq_some_iff.mp e
  refine hi π C σ H δ ds e1 rel _ fun J H1 h1 src => ?_
  have rel1 := rel.he h1
  exact for_core hg hb e rel1 (src (Own σ δ) fun a => rel1.ownC) fun C' σ' H' s => k C' σ' H' ((Stp.he rel h1).trans s)
end Pu

namespace Pu
open PySem L2
abbrev FE := List Sv → Option (D × List Sv)
/-- a def's promise: what it gives from data and lists that it may change -/
def spX (f : FE) : Sp := fun vs H Q _ => ∃ (C : Addr → Prop) (as : List Sv) (d : D) (as' : List Sv), f as = some (d, as') ∧ Rel [] C (vs.map some) H as ∧ ∀ v H', Chg [] C (vs.map some) H as H' as' → Dat C H' v d → Q v H'
def mark : Nat → List Sv → Option (List Sv)
  | _, [] => some []
  | k, .im d :: r => (mark (k + 1) r).map fun t => .im d :: t
  | k, .ce _ c :: r => (mark (k + 1) r).map fun t => .ce (some k) c :: t
  | _, .no :: _ => none
def fin : Nat → List Sv → Pst → Option (List Sv)
  | _, [], _ => some []
  | k, .ce w _ :: r, δ => match δ[k]? with
    | some (.ce (some k') c) => if k' = k then (fin (k + 1) r δ).map fun t => .ce w c :: t else none
    | _ => none
  | k, s :: r, δ => (fin (k + 1) r δ).map fun t => s :: t
def runF (N : Nat) (body : SE) : FE := fun as => (mark 0 as).bind fun ms => (body (ms ++ List.replicate (N - as.length) .no)).bind fun r => match r.1 with
  | .rt d => (fin 0 as r.2).map fun as' => (d, as')
  | .nx => (fin 0 as r.2).map fun as' => (.none, as')
  | _ => none
/-- a def of n parameters with N names in all -/
def fnF (n N : Nat) (body : SE) : FE := fun as => if as.length = n then runF N body as else none
def markOf (k : Nat) : Sv → Sv
  | .ce _ c => .ce (some k) c
  | s => s
theorem mark_get : ∀ {as : List Sv} {k : Nat} {ms : List Sv}, mark k as = some ms → ms.length = as.length ∧ ∀ (i : Nat) (s : Sv), as[i]? = some s → s ≠ .no ∧ ms[i]? = some (markOf (k + i) s)
  | [], k, ms, h => by
    cases h
    exact ⟨rfl, fun i s h => by simp at h⟩
  | .im d :: r, k, ms, h => by
    obtain ⟨t, e1, rfl⟩ := Option.map_eq_some_iff.mp h
    obtain ⟨h1, h2⟩ := mark_get e1
    refine ⟨by simp [h1], fun i s hs => ?_⟩
    cases i with
    | zero =>
      cases hs
      exact ⟨fun z => (nomatch z), rfl⟩
    | succ i =>
      have q := h2 i s hs
      rw [show k + 1 + i = k + (i + 1) by omega] at q
      exact q
  | .ce w c :: r, k, ms, h => by
    obtain ⟨t, e1, rfl⟩ := Option.map_eq_some_iff.mp h
    obtain ⟨h1, h2⟩ := mark_get e1
    refine ⟨by simp [h1], fun i s hs => ?_⟩
    cases i with
    | zero =>
      cases hs
      exact ⟨fun z => (nomatch z), rfl⟩
    | succ i =>
      have q := h2 i s hs
      rw [show k + 1 + i = k + (i + 1) by omega] at q
      exact q
  | .no :: r, k, ms, h => by cases h
def finOf (k : Nat) (δ : Pst) (s s' : Sv) : Prop := match s with
  | .ce w _ => ∃ c, δ[k]? = some (.ce (some k) c) ∧ s' = .ce w c
  | s => s' = s
theorem fin_get : ∀ {as : List Sv} {k : Nat} {δ : Pst} {as' : List Sv}, fin k as δ = some as' → as'.length = as.length ∧ ∀ (i : Nat) (s : Sv), as[i]? = some s → ∃ s', as'[i]? = some s' ∧ finOf (k + i) δ s s'
  | [], k, δ, as', h => by
    cases h
    exact ⟨rfl, fun i s h => by simp at h⟩
  | .ce w c0 :: r, k, δ, as', h => by
    unfold fin at h
    split at h
    · rename_i k' c hk
      split at h
      · rename_i ek
        subst ek
        obtain ⟨t, e1, rfl⟩ := Option.map_eq_some_iff.mp h
        obtain ⟨h1, h2⟩ := fin_get e1
        refine ⟨by simp [h1], fun i s hs => ?_⟩
        cases i with
        | zero =>
          cases hs
          exact ⟨_, rfl, c, hk, rfl⟩
        | succ i =>
          have q := h2 i s hs
          rw [show k' + 1 + i = k' + (i + 1) by omega] at q
          exact q
      · cases h
    · cases h
  | .im d :: r, k, δ, as', h => by
    obtain ⟨t, e1, rfl⟩ := Option.map_eq_some_iff.mp h
    obtain ⟨h1, h2⟩ := fin_get e1
    refine ⟨by simp [h1], fun i s hs => ?_⟩
    cases i with
    | zero =>
      cases hs
      exact ⟨_, rfl, rfl⟩
    | succ i =>
      have q := h2 i s hs
      rw [show k + 1 + i = k + (i + 1) by omega] at q
      exact q
  | .no :: r, k, δ, as', h => by
    obtain ⟨t, e1, rfl⟩ := Option.map_eq_some_iff.mp h
    obtain ⟨h1, h2⟩ := fin_get e1
    refine ⟨by simp [h1], fun i s hs => ?_⟩
    cases i with
    | zero =>
      cases hs
      exact ⟨_, rfl, rfl⟩
    | succ i =>
      have q := h2 i s hs
      rw [show k + 1 + i = k + (i + 1) by omega] at q
      exact q
theorem get_app_no {α : Type} {l : List α} {m : Nat} {x y : α} {i : Nat} (h : (l ++ List.replicate m x)[i]? = some y) : l[i]? = some y ∨ y = x := by
  by_cases hi : i < l.length
  · rw [List.getElem?_append_left hi] at h
    exact .inl h
  · rw [List.getElem?_append_right (by omega), List.getElem?_replicate] at h
    split at h
    · cases h
      exact .inr rfl
    · cases h
theorem app_get {α : Type} {l r : List α} {y : α} {i : Nat} (h : l[i]? = some y) : (l ++ r)[i]? = some y := by
  rw [List.getElem?_append_left (List.getElem?_eq_some_iff.mp h).1]
  exact h
section
variable {C : Addr → Prop} {H : Hp} {vs : List V} {as ms : List Sv}
theorem map_get {i : Nat} {v : V} : (vs.map some)[i]? = some (some v) ↔ vs[i]? = some v := by
  rw [List.getElem?_map]
  cases vs[i]? with
  | none => simp
  | some x => simp
theorem mark_ce {i : Nat} {w : Option Nat} {c : Cn} {l : Nat} (hm : mark 0 as = some ms) (h : (ms ++ List.replicate l Sv.no)[i]? = some (.ce w c)) : w = some i ∧ ∃ w', as[i]? = some (.ce w' c) := by
  rcases get_app_no h with h | h
  · have hi : i < as.length := by
      rw [← (mark_get hm).1]
      exact (List.getElem?_eq_some_iff.mp h).1
    obtain ⟨_, q⟩ := (mark_get hm).2 i _ (List.getElem?_eq_getElem hi)
    rw [h] at q
    cases hs : as[i] with
    | no =>
      rw [hs] at q
      cases q
    | im d =>
      rw [hs] at q
      cases q
    | ce w1 c1 =>
      rw [hs, Nat.zero_add] at q
      cases q
      exact ⟨rfl, w1, by rw [List.getElem?_eq_getElem hi, hs]⟩
  · cases h
/-- the state at a def's entry -/
theorem rel_start (rel : Rel [] C (vs.map some) H as) (hm : mark 0 as = some ms) {N : Nat} (m : Nat) (hmn : m = N - vs.length) : Rel vs C (vs.map some ++ List.replicate m none) H (ms ++ List.replicate (N - as.length) .no) := by
  have hl : vs.length = as.length := by simpa using rel.len
  obtain ⟨h1, h2⟩ := mark_get hm
  refine ⟨by simp [h1, hl, hmn], fun i s hs => ?_, rel.good, fun k a hk => ?_, fun i j a w w' c c' q1 q2 q3 q4 => ?_⟩
  · rcases get_app_no hs with hs | hs
    · have hi : i < as.length := by
        rw [← h1]
        exact (List.getElem?_eq_some_iff.mp hs).1
      obtain ⟨n1, q⟩ := h2 i _ (List.getElem?_eq_getElem hi)
      rw [hs, Nat.zero_add] at q
      obtain ⟨ov, e1, e2⟩ := rel.slot i _ (List.getElem?_eq_getElem hi)
      refine ⟨ov, app_get e1, ?_⟩
      have q' := Option.some.inj q
      subst q'
      cases hs' : as[i] with
      | no => exact absurd hs' n1
      | im d =>
        rw [hs'] at e2
        exact e2
      | ce w c =>
        rw [hs'] at e2
        obtain ⟨a, f1, f2, f3, f4, f5⟩ := e2
        subst f1
        exact ⟨a, rfl, f2, f3, fun k hk => by
          cases hk
          exact map_get.mp e1, fun z => nomatch z⟩
    · subst hs
      have hi : i < (vs.map some ++ List.replicate m (none : Option V)).length := by
        have := (List.getElem?_eq_some_iff.mp ‹(ms ++ List.replicate (N - as.length) Sv.no)[i]? = some Sv.no›).1
        simp [h1] at this
        simp [hl, hmn]
        omega
      exact ⟨_, List.getElem?_eq_getElem hi, trivial⟩
  · have hi : k < as.length := by
      rw [← hl]
      exact (List.getElem?_eq_some_iff.mp hk).1
    obtain ⟨n1, _⟩ := h2 k _ (List.getElem?_eq_getElem hi)
    obtain ⟨ov, e1, e2⟩ := rel.slot k _ (List.getElem?_eq_getElem hi)
    rw [map_get.mpr hk] at e1
    cases e1
    cases hs' : as[k] with
    | no => exact absurd hs' n1
    | im d =>
      rw [hs'] at e2
      obtain ⟨v, f1, f2⟩ := e2
      cases f1
      cases f2 with
      | exc _ _ h _ _ => exact ⟨_, h⟩
      | ex0 _ h => exact ⟨_, h⟩
      | lst _ h _ => exact ⟨_, h⟩
      | tup _ h _ => exact ⟨_, h⟩
    | ce w c =>
      rw [hs'] at e2
      obtain ⟨b, f1, f2, _⟩ := e2
      cases f1
      exact rel.good _ f2
  · obtain ⟨_, w1, r1⟩ := mark_ce hm q1
    obtain ⟨_, w2, r2⟩ := mark_ce hm q2
    have g : ∀ (k : Nat) (w : Option Nat) (c : Cn), as[k]? = some (.ce w c) → (vs.map some ++ List.replicate m none)[k]? = some (some (V.ref a)) → (vs.map some)[k]? = some (some (V.ref a)) := fun k w c r q => by
      rcases get_app_no q with z | z
      · exact z
      · cases z
    exact rel.own i j a _ _ _ _ r1 r2 (g i _ _ r1 q3) (g j _ _ r2 q4)
/-- the state where a def ends, for its caller -/
theorem rel_end (rel : Rel [] C (vs.map some) H as) (hm : mark 0 as = some ms) {N m : Nat} {C' : Addr → Prop} {σ' : L2.St} {H' : Hp} {δ' : Pst} {as' : List Sv}
    (s : Stp vs C (vs.map some ++ List.replicate m none) H (ms ++ List.replicate (N - as.length) .no) C' σ' H' δ') (hf : fin 0 as δ' = some as') :
    Chg [] C (vs.map some) H as H' as' ∧ ∀ v d, Dat C' H' v d → Dat C H' v d := by
  obtain ⟨f1, f2⟩ := fin_get hf
  have ownA : ∀ a, Own (vs.map some ++ List.replicate m none) (ms ++ List.replicate (N - as.length) .no) a → Own (vs.map some) as a := fun a ⟨i, w, c, q1, q2⟩ => by
    obtain ⟨_, w1, r1⟩ := mark_ce hm q1
    refine ⟨i, w1, c, r1, ?_⟩
    rcases get_app_no q2 with z | z
    · exact z
    · cases z
  have conv : ∀ a o, ¬ C' a → H' a = some o → H' a = some o ∧ ¬ C a := fun a o hc ho => ⟨ho, fun hC => by
    obtain ⟨o1, g1⟩ := rel.good a hC
    by_cases ow : Own (vs.map some) as a
    · obtain ⟨i, w, c, q1, q2⟩ := ow
      exact hc (s.par i a (map_get.mp q2) hC)
    · exact hc ((s.keep a o1 (fun z => ow (ownA a z)) g1).2.2.mpr hC)⟩
  have keep : ∀ a o, ¬ C a → H a = some o → H' a = some o ∧ ¬ C a := fun a o hc ho => ⟨(s.keep a o (fun z => hc (rel.ownC (ownA a z))) ho).1, hc⟩
  -- what stands at a list's place behind the call
  have cell : ∀ (i : Nat) (w : Option Nat) (c : Cn) (a : Addr), as[i]? = some (.ce w c) → vs[i]? = some (V.ref a) → ∃ c', as'[i]? = some (.ce w c') ∧ CnOk C H' a c' := fun i w c a h hv => by
    obtain ⟨s', e1, c', e2, e3⟩ := f2 i _ h
    subst e3
    rw [Nat.zero_add] at e2
    obtain ⟨ov, g1, b, g2, g3, g4, g5, g6⟩ := s.rel.slot i _ e2
    have g7 := g5 i rfl
    rw [hv] at g7
    cases g7
    refine ⟨c', e1, ?_⟩
    exact g4.to conv rfl
  have noneW : ∀ (i : Nat) (w : Option Nat) (c : Cn), as[i]? = some (.ce w c) → w = none := fun i w c h => by
    obtain ⟨ov, _, b, _, _, _, g5, _⟩ := rel.slot i _ h
    cases w with
    | none => rfl
    | some k =>
      have := g5 k rfl
      simp at this
  have back : ∀ (i : Nat) (w : Option Nat) (c : Cn), as'[i]? = some (.ce w c) → ∃ c0, as[i]? = some (.ce w c0) := fun i w c h => by
    have hi : i < as.length := by
      rw [← f1]
      exact (List.getElem?_eq_some_iff.mp h).1
    obtain ⟨s', e1, e2⟩ := f2 i _ (List.getElem?_eq_getElem hi)
    rw [h] at e1
    cases e1
    cases hs : as[i] with
    | no =>
      rw [hs] at e2
      cases e2
    | im d =>
      rw [hs] at e2
      cases e2
    | ce w1 c1 =>
      rw [hs] at e2
      obtain ⟨c2, _, e3⟩ := e2
      cases e3
      exact ⟨c1, by rw [List.getElem?_eq_getElem hi, hs]⟩
  refine ⟨⟨fun a o n h => (s.keep a o (fun z => n (ownA a z)) h).1, ⟨by rw [f1]; exact rel.len, fun i t ht => ?_, fun a hC => ?_, fun k a hk => by simp at hk, fun i j a w w' c c' q1 q2 q3 q4 => ?_⟩, fun a ⟨i, w, c, q1, q2⟩ => ?_⟩, fun v d h => h.to conv⟩
  · have hi : i < as.length := by
      rw [← f1]
      exact (List.getElem?_eq_some_iff.mp ht).1
    obtain ⟨ov, g1, g2⟩ := rel.slot i _ (List.getElem?_eq_getElem hi)
    refine ⟨ov, g1, ?_⟩
    obtain ⟨t', e1, e2⟩ := f2 i _ (List.getElem?_eq_getElem hi)
    rw [ht] at e1
    cases e1
    cases hs : as[i] with
    | no =>
      rw [hs] at e2
      cases e2
      trivial
    | im d =>
      rw [hs] at e2 g2
      cases e2
      obtain ⟨v, r1, r2⟩ := g2
      exact ⟨v, r1, r2.to keep⟩
    | ce w c =>
      have hs' : as[i]? = some (.ce w c) := by rw [List.getElem?_eq_getElem hi, hs]
      rw [hs] at g2
      obtain ⟨a, r1, r2, r3, r4⟩ := g2
      subst r1
      obtain ⟨c', h5, h6⟩ := cell i w c a hs' (map_get.mp g1)
      rw [ht] at h5
      cases h5
      exact ⟨a, rfl, r2, h6, r4⟩
  · obtain ⟨o1, g1⟩ := rel.good a hC
    by_cases ow : Own (vs.map some) as a
    · obtain ⟨i, w, c, q1, q2⟩ := ow
      obtain ⟨c', _, h6⟩ := cell i w c a q1 (map_get.mp q2)
      cases c' with
      | l xs =>
        obtain ⟨us, h7, _⟩ := h6
        exact ⟨_, h7⟩
      | k kvs =>
        obtain ⟨us, h7, _⟩ := h6
        exact ⟨_, h7⟩
    · exact ⟨o1, (s.keep a o1 (fun z => ow (ownA a z)) g1).1⟩
  · obtain ⟨c0, r1⟩ := back i w c q1
    obtain ⟨c1, r2⟩ := back j w' c' q2
    exact rel.own i j a w w' c0 c1 r1 r2 q3 q4
  · obtain ⟨c0, r1⟩ := back i w c q1
    exact ⟨i, w, c0, r1, q2⟩
end
section
variable {P : Program} {w : World} {K : PySem.W.Frag} {mg : Str → Option Value} {base : Heap}
/-- a def keeps the promise of its body -/
theorem fn_ok {x qual : Str} {st : Stmt} {f : Addr} {fd : FuncData} {N ps : List Str} {k : Nat} {p : SE} (F : Fun K x qual st f fd) (S : FnScope N ps (defScope st))
    (hb : ∀ (cdv : Value) (A : Around) (outer : List Env) (s : Shared) (H : Hp) (E : XK), Room k (A.deeper (PyProof.Rows.envOfC qual (defScope st) s.heap.objs.size f cdv)) →
      ∃ t, PSs (cxOf CX0 P w K mg base N qual (defScope st) f cdv A outer s H E).nox (defBody st) t ∧ SndS t p) :
    FnOk P w K mg base CX0 (k + 1) f fd ps (spX (fnF ps.length N.length p)) := by
  refine F.ok S (fun vs H Q E h => ?_) (fun cdv A outer s H vs Q E hr h => ?_)
  · obtain ⟨C, as, d, as', h1, h2, _⟩ := h
    unfold fnF at h1
    split at h1
    · rename_i hl
      rw [← hl]
      simpa using h2.len
    · cases h1
  · obtain ⟨C, as, d, as', h1, rel, q⟩ := h
    unfold fnF at h1
    split at h1
    · rename_i hl
      have hlv : vs.length = as.length := by simpa using rel.len
      obtain ⟨t, ht, snd⟩ := hb cdv A outer s H E hr
      refine ⟨t, ht, ?_⟩
      obtain ⟨ms, e1, h1⟩ := Option.bind_eq_some_iff.mp h1
      obtain ⟨⟨o, δ'⟩, e2, h1⟩ := Option.bind_eq_some_iff.mp h1
      refine snd vs C (start N vs) H _ o δ' e2 (rel_start rel e1 (N.length - vs.length) rfl) _ fun C' σ' H' st => ?_
      cases o with
      | rt d1 =>
        obtain ⟨as1, e3, e4⟩ := Option.map_eq_some_iff.mp h1
        cases e4
        obtain ⟨c1, c2⟩ := rel_end rel e1 st e3
        exact fun v wv => q v H' c1 (c2 v _ wv)
      | nx =>
        obtain ⟨as1, e3, e4⟩ := Option.map_eq_some_iff.mp h1
        cases e4
        obtain ⟨c1, c2⟩ := rel_end rel e1 st e3
        exact q .non H' c1 .non
      | bk => cases h1
      | ct => cases h1
    · cases h1
end
/-! calls -/
def qCallF (f : FE) (a : QA) : QE := fun δ => (a δ).bind fun ds => (f (ds.map .im)).map (·.1)
theorem rel_args {C : Addr → Prop} {H : Hp} {vs : List V} {ds : List D} (g : Good C H) (w : Dats C H vs ds) : Rel [] C (vs.map some) H (ds.map .im) := by
  have noce : ∀ (i : Nat) w c, (ds.map Sv.im)[i]? ≠ some (Sv.ce w c) := fun i w c h => by
    rw [List.getElem?_map] at h
    cases hd : ds[i]? with
    | none => rw [hd] at h; cases h
    | some d => rw [hd] at h; cases h
  refine ⟨by simp [w.length], fun i s hs => ?_, g, fun k a hk => by simp at hk, fun i j a w w' c c' q1 => absurd q1 (noce _ _ _)⟩
  rw [List.getElem?_map] at hs
  cases hd : ds[i]? with
  | none => rw [hd] at hs; cases hs
  | some d =>
    rw [hd] at hs
    cases hs
    obtain ⟨v, h1, h2⟩ := w.get hd
    exact ⟨some v, map_get.mpr h1, v, rfl, h2⟩
theorem own_args {vs : List V} {ds : List D} {a : Addr} : ¬ Own (vs.map some) (ds.map .im) a := fun ⟨i, w, c, h, _⟩ => by
  rw [List.getElem?_map] at h
  cases hd : ds[i]? with
  | none => rw [hd] at h; cases h
  | some d => rw [hd] at h; cases h
theorem q_call {f : FE} {ta : TA} {qa : QA} {E : XK} (ha : SndQD ta qa) : SndQ (tCall (spX f) [] E ta) (qCallF f qa) := fun π C σ H δ d e rel Q k => by
  obtain ⟨ds, e1, e⟩ := Option.bind_eq_some_iff.mp e
  obtain ⟨⟨d', as'⟩, e2, e⟩ := Option.map_eq_some_iff.mp e
  cases e
  refine ha π C σ H δ ds e1 rel _ fun vs H1 h1 w1 => ?_
  refine ⟨C, ds.map .im, d', as', e2, by rw [List.append_nil]; exact rel_args (rel.he h1).good w1, fun v H' c wv => k v H' (h1.trans fun a o ho => c.evo a o (by rw [List.append_nil]; exact own_args) ho) wv⟩
inductive Ar where
  | d (x : D)
  | s (i : Nat)
  | e
abbrev XR := Pst → Option (List Ar × Pst)
/-- behind a list of arguments: an object or two more that may change -/
structure Grow (π : List V) (C : Addr → Prop) (σ : L2.St) (H : Hp) (δ : Pst) (C' : Addr → Prop) (H' : Hp) (δ' : Pst) : Prop where
  sub : ∀ a, C a → C' a
  new : ∀ a, C' a → C a ∨ H a = none
  evo : Evo (Own σ δ) H H'
  rel : Rel π C' σ H' δ'
  own : ∀ a, Own σ δ' a → Own σ δ a
def ArOk (C : Addr → Prop) (σ : L2.St) (H0 H : Hp) (δ : Pst) (v : V) : Ar → Prop
  | .d x => Dat C H v x
  | .s i => σ[i]? = some (some v)
  | .e => ∃ p, v = .ref p ∧ C p ∧ H p = some (.dK []) ∧ ¬ Own σ δ p ∧ H0 p = none
def SndXR (ta : TA) (x : XR) : Prop := ∀ (π : List V) (C : Addr → Prop) (σ : L2.St) (H : Hp) (δ : Pst) (ds : List Ar) (δ' : Pst), x δ = some (ds, δ') → Rel π C σ H δ → ∀ Q : List V → Hp → Prop, (∀ vs H' C', Grow π C σ H δ C' H' δ' → Paired (ArOk C' σ H H' δ') vs ds → Q vs H') → ta σ H Q
section
variable {π : List V} {C C1 C2 : Addr → Prop} {σ : L2.St} {H H1 H2 : Hp} {δ δ1 δ2 : Pst}
theorem Grow.chg (c : Chg π C σ H δ H1 δ1) : Grow π C σ H δ C H1 δ1 := ⟨fun _ h => h, fun _ h => .inl h, c.evo, c.rel, c.own⟩
theorem Grow.none_back (r : Rel π C σ H δ) (g : Grow π C σ H δ C1 H1 δ1) {p : Addr} (h : H1 p = none) : H p = none := by
  cases q : H p with
  | none => rfl
  | some o =>
    exfalso
    by_cases z : Own σ δ p
    · obtain ⟨o', q'⟩ := g.rel.good p (g.sub p (r.ownC z))
      rw [h] at q'
      cases q'
    · have := g.evo p o z q
      rw [h] at this
      cases this
theorem Grow.trans (r : Rel π C σ H δ) (a : Grow π C σ H δ C1 H1 δ1) (b : Grow π C1 σ H1 δ1 C2 H2 δ2) : Grow π C σ H δ C2 H2 δ2 :=
  ⟨fun x h => b.sub x (a.sub x h), fun x h => (b.new x h).elim (a.new x) fun z => .inr (a.none_back r z), fun x o n h => b.evo x o (fun q => n (a.own x q)) (a.evo x o n h), b.rel, fun x h => a.own x (b.own x h)⟩
theorem Grow.dat (r : Rel π C σ H δ) (a : Grow π C σ H δ C1 H1 δ1) {v : V} {d : D} (w : Dat C H v d) : Dat C1 H1 v d :=
  w.to fun x o hc ho => ⟨a.evo x o (fun q => hc (r.ownC q)) ho, fun z => (a.new x z).elim hc fun z => by rw [z] at ho; cases ho⟩
end
def rNil : XR := fun δ => some ([], δ)
def rCons (a : XE) (b : XR) : XR := fun δ => (a δ).bind fun p => (b p.2).map fun q => (.d p.1 :: q.1, q.2)
def rConsS (i : Nat) (b : XR) : XR := fun δ => match δ[i]? with
  | some (.ce _ _) => (b δ).map fun q => (.s i :: q.1, q.2)
  | _ => none
def rConsE (b : XR) : XR := fun δ => (b δ).map fun q => (.e :: q.1, q.2)
theorem r_nil : SndXR tNil rNil := fun π C σ H δ d δ' e rel Q k => by
  cases e
  exact k _ H C (Grow.chg (Chg.he rel HE.refl)) .nil
theorem paired_imp {α β : Type} {F G : α → β → Prop} (h : ∀ a b, F a b → G a b) : ∀ {l : List α} {m : List β}, Paired F l m → Paired G l m
  | _, _, .nil => .nil
  | _, _, .cons r t => .cons (h _ _ r) (paired_imp h t)
theorem r_cons {ta : TE} {xa : XE} {tr : TA} {xr : XR} (ha : SndX ta xa) (hr : SndXR tr xr) : SndXR (tCons ta tr) (rCons xa xr) := fun π C σ H δ d δ' e rel Q k => by
  obtain ⟨⟨x, δ1⟩, e1, e⟩ := Option.bind_eq_some_iff.mp e
  obtain ⟨⟨xs, δ2⟩, e2, e⟩ := Option.map_eq_some_iff.mp e
  cases e
  refine ha π C σ H δ x δ1 e1 rel _ fun v H1 c1 w1 => ?_
  refine hr π C σ H1 δ1 xs _ e2 c1.rel _ fun vs H2 C2 c2 w2 => ?_
  refine k _ H2 C2 ((Grow.chg c1).trans rel c2) (.cons (show ArOk C2 σ H H2 _ v (.d x) from c2.dat c1.rel w1) (paired_imp (fun u a h => ?_) w2))
  cases a with
  | d x => exact h
  | s i => exact h
  | e =>
    obtain ⟨p, h1, h2, h3, h4, h5⟩ := h
    exact ⟨p, h1, h2, h3, h4, (Grow.chg c1).none_back rel h5⟩
theorem r_consS {i : Nat} {tr : TA} {xr : XR} (hr : SndXR tr xr) : SndXR (tCons (tVar i) tr) (rConsS i xr) := fun π C σ H δ d δ' e rel Q k => by
  unfold rConsS at e
  split at e
  · rename_i w c hs
    obtain ⟨⟨xs, δ2⟩, e2, e⟩ := Option.map_eq_some_iff.mp e
    cases e
    obtain ⟨ov, h1, a, h2, _⟩ := rel.slot i _ hs
    subst h2
    refine ⟨.ref a, h1, hr π C σ H δ xs _ e2 rel _ fun vs H2 C2 c2 w2 => ?_⟩
    exact k _ H2 C2 c2 (.cons (show ArOk C2 σ H H2 _ (.ref a) (.s i) from h1) w2)
  · cases e
theorem r_consE {tr : TA} {xr : XR} (hr : SndXR tr xr) : SndXR (tCons (fun _ H Q => ∀ p, H p = none → Q (.ref p) (upd H p (.dK []))) tr) (rConsE xr) := fun π C σ H δ d δ' e rel Q k => by
  obtain ⟨⟨xs, δ2⟩, e2, e⟩ := Option.map_eq_some_iff.mp e
  cases e
  intro p hp
  have he : HE H (upd H p (.dK [])) := HE.new hp
  have rm := rel.more hp he ⟨_, upd_same⟩
  have g1 : Grow π C σ H δ (fun a => C a ∨ a = p) (upd H p (.dK [])) δ := ⟨fun a h => .inl h, fun a h => h.elim .inl fun z => .inr (by rw [z]; exact hp), Evo.he he, rm, fun _ h => h⟩
  have no : ¬ Own σ δ p := fun z => by
    obtain ⟨o, q⟩ := rel.good p (rel.ownC z)
    rw [hp] at q
    cases q
  refine hr π _ σ _ δ xs _ e2 rm _ fun vs H2 C2 c2 w2 => ?_
  refine k _ H2 C2 (g1.trans rel c2) (.cons (show ArOk C2 σ H H2 _ (.ref p) .e from ⟨p, rfl, c2.sub p (.inr rfl), c2.evo p _ no upd_same, fun z => no (c2.own p z), hp⟩) (paired_imp (fun u a h => ?_) w2))
  cases a with
  | d x => exact h
  | s i => exact h
  | e =>
    obtain ⟨q, h1, h2, h3, h4, h5⟩ := h
    exact ⟨q, h1, h2, h3, h4, g1.none_back rel h5⟩
def mkAs (δ : Pst) : List Ar → Option (List Sv)
  | [] => some []
  | .d x :: r => (mkAs δ r).map fun t => .im x :: t
  | .s i :: r => match δ[i]? with
    | some (.ce _ c) => (mkAs δ r).map fun t => .ce none c :: t
    | _ => none
  | .e :: r => (mkAs δ r).map fun t => .ce none (.k []) :: t
def putAs : Pst → List Ar → List Sv → Option Pst
  | δ, [], _ => some δ
  | δ, .d _ :: r, _ :: as => putAs δ r as
  | δ, .e :: r, _ :: as => putAs δ r as
  | δ, .s i :: r, .ce _ c :: as => match δ[i]? with
    | some (.ce w _) => putAs (δ.set i (.ce w c)) r as
    | _ => none
  | _, _, _ => none
def slotsOf : List Ar → List Nat
  | [] => []
  | .d _ :: r => slotsOf r
  | .e :: r => slotsOf r
  | .s i :: r => i :: slotsOf r
def newsOf : List Ar → Nat
  | [] => 0
  | .d _ :: r => newsOf r
  | .e :: r => newsOf r + 1
  | .s _ :: r => newsOf r
def xCall (f : FE) (x : XR) : XE := fun δ => (x δ).bind fun p => if (slotsOf p.1).Nodup ∧ newsOf p.1 ≤ 1 then (mkAs p.2 p.1).bind fun as => (f as).bind fun r => (putAs p.2 p.1 r.2).map fun δ2 => (r.1, δ2) else none
theorem mem_slots : ∀ {ars : List Ar} {k i : Nat}, ars[k]? = some (.s i) → i ∈ slotsOf ars
  | [], k, i, h => by simp at h
  | .d x :: r, 0, i, h => by cases h
  | .d x :: r, k + 1, i, h => mem_slots (ars := r) (k := k) h
  | .e :: r, 0, i, h => by cases h
  | .e :: r, k + 1, i, h => mem_slots (ars := r) (k := k) h
  | .s j :: r, 0, i, h => by
    cases h
    exact List.mem_cons_self
  | .s j :: r, k + 1, i, h => List.mem_cons_of_mem _ (mem_slots (ars := r) (k := k) h)
theorem mk_get {δ : Pst} : ∀ {ars : List Ar} {as : List Sv}, mkAs δ ars = some as → as.length = ars.length ∧ ∀ (k : Nat) (a : Ar), ars[k]? = some a → match a with
    | .d x => as[k]? = some (.im x)
    | .s i => ∃ w c, δ[i]? = some (.ce w c) ∧ as[k]? = some (.ce none c)
    | .e => as[k]? = some (.ce none (.k []))
  | [], as, h => by
    cases h
    exact ⟨rfl, fun k a h => by simp at h⟩
  | .d x :: r, as, h => by
    obtain ⟨t, e1, rfl⟩ := Option.map_eq_some_iff.mp h
    obtain ⟨h1, h2⟩ := mk_get e1
    refine ⟨by simp [h1], fun k a ha => ?_⟩
    cases k with
    | zero =>
      cases ha
      rfl
    | succ k => exact h2 k a ha
  | .e :: r, as, h => by
    obtain ⟨t, e1, rfl⟩ := Option.map_eq_some_iff.mp h
    obtain ⟨h1, h2⟩ := mk_get e1
    refine ⟨by simp [h1], fun k a ha => ?_⟩
    cases k with
    | zero =>
      cases ha
      rfl
    | succ k => exact h2 k a ha
  | .s i :: r, as, h => by
    unfold mkAs at h
    split at h
    · rename_i w c hs
      obtain ⟨t, e1, rfl⟩ := Option.map_eq_some_iff.mp h
      obtain ⟨h1, h2⟩ := mk_get e1
      refine ⟨by simp [h1], fun k a ha => ?_⟩
      cases k with
      | zero =>
        cases ha
        exact ⟨w, c, hs, rfl⟩
      | succ k => exact h2 k a ha
    · cases h
theorem put_get : ∀ {ars : List Ar} {as : List Sv} {δ δ2 : Pst}, putAs δ ars as = some δ2 → (slotsOf ars).Nodup → δ2.length = δ.length ∧ (∀ j : Nat, j ∉ slotsOf ars → δ2[j]? = δ[j]?) ∧
    ∀ (k i : Nat), ars[k]? = some (.s i) → ∃ w c w' c', δ[i]? = some (.ce w c) ∧ as[k]? = some (.ce w' c') ∧ δ2[i]? = some (.ce w c')
  | [], as, δ, δ2, h, _ => by
    unfold putAs at h
    have h := Option.some.inj h
    subst h
    exact ⟨rfl, fun _ _ => rfl, fun k i h => by simp at h⟩
  | .d x :: r, [], δ, δ2, h, _ => by cases h
  | .d x :: r, s :: as, δ, δ2, h, hn => by
    obtain ⟨h1, h2, h3⟩ := put_get (ars := r) (as := as) h hn
    refine ⟨h1, h2, fun k i hk => ?_⟩
    cases k with
    | zero => cases hk
    | succ k => exact h3 k i hk
  | .e :: r, [], δ, δ2, h, _ => by cases h
  | .e :: r, s :: as, δ, δ2, h, hn => by
    obtain ⟨h1, h2, h3⟩ := put_get (ars := r) (as := as) h hn
    refine ⟨h1, h2, fun k i hk => ?_⟩
    cases k with
    | zero => cases hk
    | succ k => exact h3 k i hk
  | .s i :: r, [], δ, δ2, h, _ => by cases h
  | .s i :: r, .no :: as, δ, δ2, h, _ => by cases h
  | .s i :: r, .im _ :: as, δ, δ2, h, _ => by cases h
  | .s i :: r, .ce w' c' :: as, δ, δ2, h, hn => by
    unfold putAs at h
    split at h
    · rename_i w c hs
      have hi : i < δ.length := (List.getElem?_eq_some_iff.mp hs).1
      obtain ⟨hn1, hn2⟩ := List.nodup_cons.mp hn
      obtain ⟨h1, h2, h3⟩ := put_get (ars := r) (as := as) h hn2
      refine ⟨by rw [h1, List.length_set], fun j hj => ?_, fun k j hk => ?_⟩
      · rw [h2 j fun z => hj (List.mem_cons_of_mem _ z), List.getElem?_set_ne fun z => hj (by rw [z]; exact List.mem_cons_self)]
      · cases k with
        | zero =>
          cases hk
          exact ⟨w, c, w', c', hs, rfl, by rw [h2 i hn1, List.getElem?_set_self hi]⟩
        | succ k =>
          have ne : i ≠ j := fun z => hn1 (by rw [z]; exact mem_slots (k := k) hk)
          obtain ⟨w1, c1, w2, c2, q1, q2, q3⟩ := h3 k j hk
          rw [List.getElem?_set_ne ne] at q1
          exact ⟨w1, c1, w2, c2, q1, q2, q3⟩
    · cases h
theorem Paired.get' {α β : Type} {F : α → β → Prop} : ∀ {l : List α} {m : List β} {k : Nat} {b : β}, Paired F l m → m[k]? = some b → ∃ a, l[k]? = some a ∧ F a b
  | _, _, _, _, .nil, h => by simp at h
  | _, _, 0, _, .cons r _, h => by
    cases h
    exact ⟨_, rfl, r⟩
  | _, _, k + 1, _, .cons _ t, h => Paired.get' (k := k) t h
theorem mem_slots' : ∀ {ars : List Ar} {i : Nat}, i ∈ slotsOf ars → ∃ k : Nat, ars[k]? = some (.s i)
  | [], i, h => by cases h
  | .d x :: r, i, h => by
    obtain ⟨k, e⟩ := mem_slots' (ars := r) h
    exact ⟨k + 1, e⟩
  | .e :: r, i, h => by
    obtain ⟨k, e⟩ := mem_slots' (ars := r) h
    exact ⟨k + 1, e⟩
  | .s j :: r, i, h => by
    rcases List.mem_cons.mp h with h | h
    · subst h
      exact ⟨0, rfl⟩
    · obtain ⟨k, e⟩ := mem_slots' (ars := r) h
      exact ⟨k + 1, e⟩
/-- two places of one slot are one -/
theorem slots_one : ∀ {ars : List Ar} {i k k' : Nat}, (slotsOf ars).Nodup → ars[k]? = some (.s i) → ars[k']? = some (.s i) → k = k'
  | [], _, _, _, _, h, _ => by simp at h
  | .d _ :: r, i, 0, _, _, h, _ => by cases h
  | .d _ :: r, i, _ + 1, 0, _, _, h => by cases h
  | .d _ :: r, i, k + 1, k' + 1, n, h, h' => by rw [slots_one (ars := r) n h h']
  | .e :: r, i, 0, _, _, h, _ => by cases h
  | .e :: r, i, _ + 1, 0, _, _, h => by cases h
  | .e :: r, i, k + 1, k' + 1, n, h, h' => by rw [slots_one (ars := r) n h h']
  | .s j :: r, i, 0, 0, _, _, _ => rfl
  | .s j :: r, i, 0, k' + 1, n, h, h' => by
    cases h
    exact absurd (mem_slots (ars := r) (k := k') h') (List.nodup_cons.mp n).1
  | .s j :: r, i, k + 1, 0, n, h, h' => by
    cases h'
    exact absurd (mem_slots (ars := r) (k := k) h) (List.nodup_cons.mp n).1
  | .s j :: r, i, k + 1, k' + 1, n, h, h' => by rw [slots_one (ars := r) (List.nodup_cons.mp n).2 h h']
theorem news_pos : ∀ {ars : List Ar} {k : Nat}, ars[k]? = some .e → 1 ≤ newsOf ars
  | [], _, h => by simp at h
  | .d _ :: r, 0, h => by cases h
  | .d _ :: r, k + 1, h => news_pos (ars := r) (k := k) h
  | .s _ :: r, 0, h => by cases h
  | .s _ :: r, k + 1, h => news_pos (ars := r) (k := k) h
  | .e :: r, _, _ => by
    unfold newsOf
    omega
theorem news_one : ∀ {ars : List Ar} {k k' : Nat}, newsOf ars ≤ 1 → ars[k]? = some .e → ars[k']? = some .e → k = k'
  | [], _, _, _, h, _ => by simp at h
  | .d _ :: r, 0, _, _, h, _ => by cases h
  | .d _ :: r, _ + 1, 0, _, _, h => by cases h
  | .d _ :: r, k + 1, k' + 1, n, h, h' => by rw [news_one (ars := r) n h h']
  | .s _ :: r, 0, _, _, h, _ => by cases h
  | .s _ :: r, _ + 1, 0, _, _, h => by cases h
  | .s _ :: r, k + 1, k' + 1, n, h, h' => by rw [news_one (ars := r) n h h']
  | .e :: r, 0, 0, _, _, _ => rfl
  | .e :: r, 0, k' + 1, n, _, h' => by
    have := news_pos (ars := r) (k := k') h'
    unfold newsOf at n
    omega
  | .e :: r, k + 1, 0, n, h, _ => by
    have := news_pos (ars := r) (k := k) h
    unfold newsOf at n
    omega
  | .e :: r, k + 1, k' + 1, n, h, h' => by
    have := news_pos (ars := r) (k := k) h
    unfold newsOf at n
    omega
/-- fewer that may change -/
theorem Rel.less {π : List V} {C C' : Addr → Prop} {σ : L2.St} {H : Hp} {δ : Pst} (r : Rel π C' σ H δ) (sub : ∀ a, C a → C' a) (own : ∀ a, Own σ δ a → C a) : Rel π C σ H δ := by
  have cv : ∀ a o, ¬ C' a → H a = some o → H a = some o ∧ ¬ C a := fun a o hc ho => ⟨ho, fun z => hc (sub a z)⟩
  refine ⟨r.len, fun j s hs => ?_, fun a h => r.good a (sub a h), r.par, r.own⟩
  obtain ⟨ov, q1, q2⟩ := r.slot j s hs
  refine ⟨ov, q1, ?_⟩
  cases s with
  | no => trivial
  | im dd =>
    obtain ⟨u, f1, f2⟩ := q2
    exact ⟨u, f1, f2.to cv⟩
  | ce w c =>
    obtain ⟨a, f1, f2, f3, f4⟩ := q2
    subst f1
    exact ⟨a, rfl, own a ⟨j, w, c, hs, q1⟩, f3.to cv rfl, f4⟩
theorem x_call {f : FE} {ta : TA} {xa : XR} {E : XK} (ha : SndXR ta xa) : SndX (tCall (spX f) [] E ta) (xCall f xa) := fun π C0 σ H δ d δ' e rel Q k => by
  obtain ⟨⟨ars, δ1⟩, e1, e⟩ := Option.bind_eq_some_iff.mp e
  split at e
  · rename_i hnd0
    obtain ⟨hnd, hnews⟩ := hnd0
    obtain ⟨as, e2, e⟩ := Option.bind_eq_some_iff.mp e
    obtain ⟨⟨d', as'⟩, e3, e⟩ := Option.bind_eq_some_iff.mp e
    obtain ⟨δ2, e4, e⟩ := Option.map_eq_some_iff.mp e
    cases e
    refine ha π C0 σ H δ ars δ1 e1 rel _ fun vs H1 C c1 w1 => ?_
    have rel1 := c1.rel
    obtain ⟨m1, m2⟩ := mk_get e2
    obtain ⟨p1, p2, p3⟩ := put_get e4 hnd
    have hlen : vs.length = ars.length := Paired.length w1
    have arOf : ∀ (k : Nat) (s : Sv), as[k]? = some s → ∃ v, vs[k]? = some v ∧ ((∃ x, ars[k]? = some (.d x) ∧ s = .im x ∧ Dat C H1 v x) ∨ (∃ i w c, ars[k]? = some (.s i) ∧ s = .ce none c ∧ δ1[i]? = some (.ce w c) ∧ σ[i]? = some (some v)) ∨
        ∃ p, ars[k]? = some .e ∧ s = .ce none (.k []) ∧ v = .ref p ∧ C p ∧ H1 p = some (.dK []) ∧ ¬ Own σ δ1 p ∧ H p = none) := fun k s hs => by
      have hk : k < ars.length := by
        rw [← m1]
        exact (List.getElem?_eq_some_iff.mp hs).1
      obtain ⟨v, q1, q2⟩ := Paired.get' w1 (List.getElem?_eq_getElem hk)
      have q3 := m2 k _ (List.getElem?_eq_getElem hk)
      refine ⟨v, q1, ?_⟩
      cases ha' : ars[k] with
      | d x =>
        rw [ha'] at q2 q3
        have q3 : as[k]? = some (.im x) := q3
        rw [hs] at q3
        cases q3
        exact .inl ⟨x, by rw [List.getElem?_eq_getElem hk, ha'], rfl, q2⟩
      | s i =>
        rw [ha'] at q2 q3
        obtain ⟨w, c, q4, q5⟩ := (show ∃ w c, δ1[i]? = some (.ce w c) ∧ as[k]? = some (.ce none c) from q3)
        rw [hs] at q5
        cases q5
        exact .inr (.inl ⟨i, w, c, by rw [List.getElem?_eq_getElem hk, ha'], rfl, q4, q2⟩)
      | e =>
        rw [ha'] at q2 q3
        have q3 : as[k]? = some (.ce none (.k [])) := q3
        rw [hs] at q3
        cases q3
        obtain ⟨p, z1, z2, z3, z4, z5⟩ := q2
        exact .inr (.inr ⟨p, by rw [List.getElem?_eq_getElem hk, ha'], rfl, z1, z2, z3, z4, z5⟩)
    have relA : Rel [] C (vs.map some) H1 as := by
      refine ⟨by simp [hlen, m1], fun k s hs => ?_, rel1.good, fun k a hk => by simp at hk, fun k j a w w' c c' q1 q2 q3 q4 => ?_⟩
      · obtain ⟨v, q1, q2⟩ := arOf k s hs
        refine ⟨some v, map_get.mpr q1, ?_⟩
        rcases q2 with ⟨x, _, rfl, q3⟩ | ⟨i, w, c, _, rfl, q3, q4⟩ | ⟨p, _, rfl, rfl, q4, q5, _, _⟩
        · exact ⟨v, rfl, q3⟩
        · obtain ⟨ov, r1, a, r2, r3, r4, _⟩ := rel1.slot i _ q3
          rw [q4] at r1
          cases r1
          cases r2
          exact ⟨a, rfl, r3, r4, fun z h => (nomatch h), fun _ k h => by simp at h⟩
        · exact ⟨p, rfl, q4, ⟨[], q5, .nil⟩, fun z h => (nomatch h), fun _ k h => by simp at h⟩
      · obtain ⟨v, t1, t2⟩ := arOf k _ q1
        obtain ⟨v', u1, u2⟩ := arOf j _ q2
        rw [map_get] at q3 q4
        rw [q3] at t1
        cases t1
        rw [q4] at u1
        cases u1
        rcases t2 with ⟨x, _, t3, _⟩ | ⟨i, w1, c1', t3, _, t4, t5⟩ | ⟨p, t3, _, t4, _, _, t5, _⟩
        · cases t3
        · rcases u2 with ⟨x, _, u3, _⟩ | ⟨i', w2, c2', u3, _, u4, u5⟩ | ⟨p', u3, _, u4, _, _, u5, _⟩
          · cases u3
          · have ei := rel1.own i i' a w1 w2 c1' c2' t4 u4 t5 u5
            subst ei
            exact slots_one hnd t3 u3
          · cases u4
            exact absurd ⟨i, w1, c1', t4, t5⟩ u5
        · rcases u2 with ⟨x, _, u3, _⟩ | ⟨i', w2, c2', u3, _, u4, u5⟩ | ⟨p', u3, _, u4, _, _, u5, _⟩
          · cases u3
          · cases t4
            exact absurd ⟨i', w2, c2', u4, u5⟩ t5
          · exact news_one hnews t3 u3
    refine ⟨C, as, d', as', e3, by rw [List.append_nil]; exact relA, fun v H' c wv => ?_⟩
    rw [List.append_nil] at c
    have kk : ∀ a o, ¬ C a → H1 a = some o → H' a = some o ∧ ¬ C a := fun a o hc ho => ⟨c.evo a o (fun z => hc (relA.ownC z)) ho, hc⟩
    -- a slot's list that was passed, or the new dict
    have isArg : ∀ a, Own (vs.map some) as a → (∃ (k i : Nat) (w : Option Nat) (c0 : Cn), ars[k]? = some (Ar.s i) ∧ δ1[i]? = some (Sv.ce w c0) ∧ σ[i]? = some (some (V.ref a)) ∧ vs[k]? = some (V.ref a)) ∨ (¬ Own σ δ1 a ∧ H a = none ∧ C a) := fun a ⟨k, w, c0, q1, q2⟩ => by
      rw [map_get] at q2
      obtain ⟨v, t1, t2⟩ := arOf k _ q1
      rw [q2] at t1
      cases t1
      rcases t2 with ⟨x, _, t3, _⟩ | ⟨i, w1, c1', t3, _, t4, t5⟩ | ⟨p, t3, _, t4, t6, _, t5, t7⟩
      · cases t3
      · exact .inl ⟨k, i, w1, c1', t3, t4, t5, q2⟩
      · cases t4
        exact .inr ⟨t5, t7, t6⟩
    have slotKind : ∀ (j : Nat) (w : Option Nat) (c2 : Cn), δ'[j]? = some (Sv.ce w c2) → ∃ c3, δ1[j]? = some (Sv.ce w c3) := fun j w c2 h => by
      by_cases hj : j ∈ slotsOf ars
      · obtain ⟨k, hk⟩ := mem_slots' hj
        obtain ⟨w1, c3, w2, c4, q1, q2, q3⟩ := p3 k j hk
        rw [h] at q3
        cases q3
        exact ⟨c3, q1⟩
      · rw [p2 j hj] at h
        exact ⟨c2, h⟩
    have ownB : ∀ a, Own σ δ' a → Own σ δ a := fun a ⟨j, w, c2, q1, q2⟩ => by
      obtain ⟨c3, r⟩ := slotKind j w c2 q1
      exact c1.own a ⟨j, w, c3, r, q2⟩
    have relB : Rel π C σ H' δ' := by
      refine ⟨by rw [p1]; exact rel1.len, fun j s hs => ?_, c.rel.good, fun k a hk => ?_, fun i j a w w' c2 c3 q1 q2 q3 q4 => ?_⟩
      · by_cases hj : j ∈ slotsOf ars
        · obtain ⟨k, hk⟩ := mem_slots' hj
          obtain ⟨w, c2, w2, c3, q1, q2, q3⟩ := p3 k j hk
          rw [hs] at q3
          cases q3
          obtain ⟨ov, r1, a, r2, r3, _, r5, r6⟩ := rel1.slot j _ q1
          subst r2
          refine ⟨_, r1, a, rfl, r3, ?_, r5, r6⟩
          obtain ⟨ov', t1, b, t2, _, t4, _⟩ := c.rel.slot k _ q2
          subst t2
          obtain ⟨v', u1, u2⟩ := Paired.get' w1 hk
          have u3 : σ[j]? = some (some v') := u2
          rw [r1] at u3
          cases u3
          rw [map_get, u1] at t1
          cases t1
          exact t4
        · rw [p2 j hj] at hs
          obtain ⟨ov, r1, r2⟩ := rel1.slot j s hs
          refine ⟨ov, r1, ?_⟩
          cases s with
          | no => trivial
          | im d =>
            obtain ⟨v, t1, t2⟩ := r2
            exact ⟨v, t1, t2.to kk⟩
          | ce w c2 =>
            obtain ⟨a, t1, t2, t3, t4⟩ := r2
            subst t1
            obtain ⟨o, ho⟩ := rel1.good a t2
            refine ⟨a, rfl, t2, t3.to kk ?_, t4⟩
            rw [ho]
            refine c.evo a o (fun z => ?_) ho
            rcases isArg a z with ⟨k, i, w1, c0, q1, q2, q3, _⟩ | ⟨n1, _⟩
            · have := rel1.own i j a w1 w c0 c2 q2 hs q3 r1
              subst this
              exact hj (mem_slots q1)
            · exact n1 ⟨j, w, c2, hs, r1⟩
      · obtain ⟨o, ho⟩ := rel1.par k a hk
        by_cases z : Own (vs.map some) as a
        · exact c.rel.good a (relA.ownC z)
        · exact ⟨o, c.evo a o z ho⟩
      · obtain ⟨c4, r1⟩ := slotKind i w c2 q1
        obtain ⟨c5, r2⟩ := slotKind j w' c3 q2
        exact rel1.own i j a w w' c4 c5 r1 r2 q3 q4
    refine k v H' ⟨fun a o n h => ?_, relB.less c1.sub fun a h => rel.ownC (ownB a h), ownB⟩ (wv.to fun a o hc ho => ⟨ho, fun z => hc (c1.sub a z)⟩)
    refine c.evo a o (fun z => ?_) (c1.evo a o n h)
    rcases isArg a z with ⟨_, i, w, c0, _, q2, q3, _⟩ | ⟨_, n2, _⟩
    · exact n (c1.own a ⟨i, w, c0, q2, q3⟩)
    · rw [h] at n2
      cases n2
  · cases e
end Pu

namespace Pu
open PySem L2
/-! what is walked, where its making changes lists -/
def SndIX (wi : TI) (x : XA) : Prop := ∀ (π : List V) (C : Addr → Prop) (σ : L2.St) (H : Hp) (δ : Pst) (ds : List D) (δ' : Pst), x δ = some (ds, δ') → Rel π C σ H δ → ∀ R : It → Hp → Prop, (∀ J H1, Chg π C σ H δ H1 δ' → (∀ O : Addr → Prop, (∀ a, O a → C a) → Src O C J H1 ds) → R J H1) → wi σ H R
theorem SndI.x {wi : TI} {q : QA} (h : SndI wi q) : SndIX wi (xqA q) := fun π C σ H δ ds δ' e rel R k => by
  obtain ⟨d', e1, e⟩ := Option.map_eq_some_iff.mp e
  cases e
  exact h π C σ H δ _ e1 rel R fun J H1 h1 s => k J H1 (Chg.he rel h1) s
def xRng (f : List D → Option (List D)) (a : XA) : XA := fun δ => (a δ).bind fun p => (f p.1).map fun ds => (ds, p.2)
theorem ix_rng1 {ta : TA} {x : XA} (h : SndXA ta x) : SndIX (iRng1 ta) (xRng dRng1 x) := fun π C σ H δ ds δ' e rel R k => by
  obtain ⟨⟨as, δ1⟩, e1, e⟩ := Option.bind_eq_some_iff.mp e
  obtain ⟨ds', e2, e⟩ := Option.map_eq_some_iff.mp e
  cases e
  refine h π C σ H δ as _ e1 rel _ fun vs H1 c1 w1 => ?_
  have e2 : dRng1 as = _ := e2
  unfold dRng1 at e2
  split at e2
  · split at e2
    · rename_i hb
      cases e2
      obtain ⟨v, rfl, wA⟩ := wats1 w1.wats
      exact ⟨_, by rw [wA.int], hb.1, hb.2, k _ H1 c1 fun O hO => src_range⟩
    · cases e2
  · cases e2
theorem ix_rng2 {ta : TA} {x : XA} (h : SndXA ta x) : SndIX (iRng2 ta) (xRng dRng2 x) := fun π C σ H δ ds δ' e rel R k => by
  obtain ⟨⟨as, δ1⟩, e1, e⟩ := Option.bind_eq_some_iff.mp e
  obtain ⟨ds', e2, e⟩ := Option.map_eq_some_iff.mp e
  cases e
  refine h π C σ H δ as _ e1 rel _ fun vs H1 c1 w1 => ?_
  have e2 : dRng2 as = _ := e2
  unfold dRng2 at e2
  split at e2
  · split at e2
    · rename_i hb
      cases e2
      obtain ⟨v, v', rfl, wA, wB⟩ := wats2 w1.wats
      exact ⟨_, _, by rw [wA.int, wB.int], hb, k _ H1 c1 fun O hO => src_range⟩
    · cases e2
  · cases e2
def sForX (it : XA) (g : GE) (b : SE) : SE := fun δ => (it δ).bind fun p => forGo g b p.1 p.2
theorem s_forX {wi : TI} {xi : XA} {g : TG} {pg : GE} {js : List Nat} {tb : TS} {pb : SE} (hi : SndIX wi xi) (hg : SndG g pg js) (hb : SndS tb pb) : SndS (tFor wi g tb) (sForX xi pg pb) := fun π C σ H δ o δ' e rel D k => by
  obtain ⟨⟨ds, δ1⟩, e1, e⟩ := Option.bind_eq_some_iff.mp e
  refine hi π C σ H δ ds δ1 e1 rel _ fun J H1 c1 src => ?_
  exact for_core hg hb e c1.rel (src (Own σ δ1) fun a => c1.rel.ownC) fun C' σ' H' s => k C' σ' H' ((Stp.chg c1).trans s)
/-- x.append(e), e changes lists -/
def sAppX (i : Nat) (x : XE) : SE := fun δ => (x δ).bind fun p => (getL i p.2).bind fun r => if r.2.length < 100000 then some (.nx, p.2.set i (.ce r.1 (.l (r.2 ++ [p.1])))) else none
theorem s_appX {K : PySem.W.Frag} {i : Nat} {te : TE} {xe : XE} (he : SndX te xe) (hi : ∀ δ p, xe δ = some p → ∀ w c, p.2[i]? = some (.ce w c) → ∃ w' c', δ[i]? = some (.ce w' (.l c'))) : SndS (tDrop (tBM K "list" rAppend (tVar i) (tCons te tNil))) (sAppX i xe) := fun π C σ H δ o δ' e rel D k => by
  obtain ⟨⟨d, δ1⟩, e1, e⟩ := Option.bind_eq_some_iff.mp e
  obtain ⟨⟨w, xs⟩, e2, e⟩ := Option.bind_eq_some_iff.mp e
  split at e
  · rename_i hl
    cases e
    have hs := getL_some e2
    obtain ⟨w', c', hs0⟩ := hi δ _ e1 _ _ hs
    obtain ⟨a, h1, ⟨vs, h2, h3⟩, _⟩ := own_put (c' := .l c') rel hs0
    refine ⟨_, h1, tyL h2, he π C σ H δ d δ1 e1 rel _ fun v H1 c1 w1 => ?_⟩
    obtain ⟨a', h1', ⟨vs', h2', h3'⟩, hc⟩ := own_put (c' := .l (xs ++ [d])) c1.rel hs
    have ea : a' = a := by
      rw [h1] at h1'
      cases h1'
      rfl
    subst ea
    have ca := c1.rel.ownC ⟨i, w, _, hs, h1'⟩
    refine ⟨a', vs', v, rfl, rfl, h2', by rw [h3'.length]; exact sz_lt hl, ?_⟩
    refine k C σ _ ((Stp.chg c1).trans (Stp.chg (hc (.lst (vs' ++ [v])) ⟨_, upd_same, ?_⟩)))
    have kk : ∀ b o', ¬ C b → H1 b = some o' → (upd H1 a' (.lst (vs' ++ [v]))) b = some o' ∧ ¬ C b := fun b o' hc ho => ⟨by rw [upd_ne (ne_c ca hc)]; exact ho, hc⟩
    exact (h3'.to kk).append (.cons (w1.to kk) .nil)
  · cases e
/-- x.insert(i, e) -/
def sIns (i : Nat) (qi qe : QE) : SE := fun δ => (qi δ).bind fun j => (qe δ).bind fun d => (asI j).bind fun j => (getL i δ).bind fun r => if r.2.length < 100000 ∧ 0 ≤ j ∧ j < 2 ^ 63 then some (.nx, δ.set i (.ce r.1 (.l (r.2.take j.toNat ++ [d] ++ r.2.drop j.toNat)))) else none
def rIns : V → List V → Hp → VK → Prop := fun x vs H Q => ∃ (l : Addr) (xs : List V) (i : Int) (y : V), x = .ref l ∧ vs = [.int i, y] ∧ H l = some (.lst xs) ∧ xs.length < sizeLine ∧ 0 ≤ i ∧ i < 2 ^ 63 ∧
    Q .non (upd H l (.lst (xs.take i.toNat ++ [y] ++ xs.drop i.toNat)))
theorem s_ins {K : PySem.W.Frag} {i : Nat} {te ti : TE} {qe qi : QE} (hi : SndQ ti qi) (he : SndQ te qe) : SndS (tDrop (tBM K "list" rIns (tVar i) (tCons ti (tCons te tNil)))) (sIns i qi qe) := fun π C σ H δ o δ' e rel D k => by
  obtain ⟨j', e1, e⟩ := Option.bind_eq_some_iff.mp e
  obtain ⟨d, e2, e⟩ := Option.bind_eq_some_iff.mp e
  obtain ⟨j, e3, e⟩ := Option.bind_eq_some_iff.mp e
  obtain ⟨⟨w, xs⟩, e4, e⟩ := Option.bind_eq_some_iff.mp e
  split at e
  · rename_i hl
    cases e
    have e3 := asI_some e3
    subst e3
    have hs := getL_some e4
    obtain ⟨a, h1, ⟨vs, h2, h3⟩, _⟩ := own_put (c' := .l xs) rel hs
    refine ⟨_, h1, tyL h2, hi π C σ H δ _ e1 rel _ fun z H1 he1 w1 => he π C σ H1 δ d e2 (rel.he he1) _ fun v H2 he2 w2 => ?_⟩
    have rel2 := (rel.he he1).he he2
    obtain ⟨a', h1', ⟨vs', h2', h3'⟩, hc⟩ := own_put (c' := .l (xs.take j.toNat ++ [d] ++ xs.drop j.toNat)) rel2 hs
    have ea : a' = a := by
      rw [h1] at h1'
      cases h1'
      rfl
    subst ea
    have ca := rel2.ownC ⟨i, w, _, hs, h1'⟩
    refine ⟨a', vs', j, v, rfl, by rw [(w1.he he2).int_eq], h2', by rw [h3'.length]; exact sz_lt hl.1, hl.2.1, hl.2.2, ?_⟩
    refine k C σ _ ((Stp.he rel (he1.trans he2)).trans (Stp.chg (hc (.lst (vs'.take j.toNat ++ [v] ++ vs'.drop j.toNat)) ⟨_, upd_same, ?_⟩)))
    have kk : ∀ b o', ¬ C b → H2 b = some o' → (upd H2 a' (.lst (vs'.take j.toNat ++ [v] ++ vs'.drop j.toNat))) b = some o' ∧ ¬ C b := fun b o' hc ho => ⟨by rw [upd_ne (ne_c ca hc)]; exact ho, hc⟩
    exact ((((h3'.to kk).take _).append (.cons (w2.to kk) .nil))).append ((h3'.to kk).drop _)
  · cases e
/-! comprehensions whose elements change lists -/
def restore (δ δ3 : Pst) : List Nat → Pst
  | [] => δ3
  | v :: vs => (restore δ δ3 vs).set v (δ.getD v .no)
def noCe (δ : Pst) (vs : List Nat) : Bool := vs.all fun v => match δ[v]? with
  | some (.ce _ _) => false
  | _ => true
def xlcGo (g : GE) (t : QT) (e : XE) (vs : List Nat) : List D → Pst → Option (List D × Pst)
  | [], δ => some ([], δ)
  | d :: ds, δ => (g d (wipeD δ vs)).bind fun δ1 => (t δ1).bind fun b => if b = true then (e δ1).bind fun p => (xlcGo g t e vs ds (restore δ p.2 vs)).map fun r => (p.1 :: r.1, r.2) else xlcGo g t e vs ds δ
def xLc (it : QA) (g : GE) (t : QT) (e : XE) (vs : List Nat) : XE := fun δ => (it δ).bind fun ds => if ds.length ≤ 100000 ∧ noCe δ vs = true then (xlcGo g t e vs ds δ).map fun r => (.list r.1, r.2) else none
theorem restore_length (δ δ3 : Pst) : ∀ vs : List Nat, (restore δ δ3 vs).length = δ3.length
  | [] => rfl
  | v :: vs => by unfold restore; rw [List.length_set, restore_length δ δ3 vs]
theorem restore_out {δ δ3 : Pst} {j : Nat} : ∀ {vs : List Nat}, j ∉ vs → (restore δ δ3 vs)[j]? = δ3[j]?
  | [], _ => rfl
  | v :: vs, h => by
    unfold restore
    rw [List.getElem?_set_ne fun z => h (by rw [z]; exact List.mem_cons_self)]
    exact restore_out fun z => h (List.mem_cons_of_mem _ z)
theorem restore_in {δ δ3 : Pst} {j : Nat} (hj : j < δ3.length) : ∀ {vs : List Nat}, j ∈ vs → (restore δ δ3 vs)[j]? = some (δ.getD j .no)
  | [], h => nomatch h
  | v :: vs, h => by
    unfold restore
    by_cases e : v = j
    · subst e
      rw [List.getElem?_set_self (by rw [restore_length]; exact hj)]
    · rw [List.getElem?_set_ne e]
      rcases List.mem_cons.mp h with h | h
      · exact absurd h.symm e
      · exact restore_in hj h
theorem wipe_get {σ : L2.St} {j : Nat} : ∀ {vs : List Nat}, j ∉ vs → (L2.wipe σ vs)[j]? = σ[j]?
  | [], _ => rfl
  | v :: vs, h => by
    unfold L2.wipe
    rw [List.getElem?_set_ne fun z => h (by rw [z]; exact List.mem_cons_self)]
    exact wipe_get fun z => h (List.mem_cons_of_mem _ z)
theorem wipeD_get {δ : Pst} {j : Nat} : ∀ {vs : List Nat}, j ∉ vs → (wipeD δ vs)[j]? = δ[j]?
  | [], _ => rfl
  | v :: vs, h => by
    unfold wipeD
    rw [List.getElem?_set_ne fun z => h (by rw [z]; exact List.mem_cons_self)]
    exact wipeD_get fun z => h (List.mem_cons_of_mem _ z)
theorem wipeD_in {δ : Pst} {j : Nat} {s : Sv} : ∀ {vs : List Nat}, j ∈ vs → (wipeD δ vs)[j]? = some s → s = .no
  | [], h, _ => nomatch h
  | v :: vs, h, q => by
    unfold wipeD at q
    by_cases e : v = j
    · subst e
      by_cases hl : v < (wipeD δ vs).length
      · rw [List.getElem?_set_self hl] at q
        cases q
        rfl
      · rw [List.getElem?_eq_none (by simpa using hl)] at q
        cases q
    · rw [List.getElem?_set_ne e] at q
      rcases List.mem_cons.mp h with h | h
      · exact absurd h.symm e
      · exact wipeD_in h q
theorem own_wipe {σ : L2.St} {δ : Pst} {vs : List Nat} {a : Addr} (h : Own (L2.wipe σ vs) (wipeD δ vs) a) : Own σ δ a := by
  obtain ⟨j, w, c, h1, h2⟩ := h
  by_cases hj : j ∈ vs
  · cases wipeD_in hj h1
  · rw [wipeD_get hj] at h1
    rw [wipe_get hj] at h2
    exact ⟨j, w, c, h1, h2⟩
theorem noCe_at {δ : Pst} {vs : List Nat} (h : noCe δ vs = true) {j : Nat} (hj : j ∈ vs) {w : Option Nat} {c : Cn} : δ[j]? ≠ some (.ce w c) := fun z => by
  have := List.all_eq_true.mp h j hj
  rw [z] at this
  cases this
theorem Dat.evo {C : Addr → Prop} {O : Addr → Prop} {H H' : Hp} (hO : ∀ a, O a → C a) (e : Evo O H H') {v : V} {d : D} (w : Dat C H v d) : Dat C H' v d := w.to fun a o hc ho => ⟨e a o (fun z => hc (hO a z)) ho, hc⟩
/-- behind an element: the def's own frame again -/
theorem rel_restore {π : List V} {C : Addr → Prop} {σ σ2 : L2.St} {H H' : Hp} {δ δ3 : Pst} {vs : List Nat} (r : Rel π C σ H δ) (r2 : Rel π C σ2 H' δ3) (hw : L2.wipe σ2 vs = L2.wipe σ vs) (hn : noCe δ vs = true) (hev : Evo (Own σ δ) H H') (ho : ∀ a, Own σ2 δ3 a → Own σ δ a) : Chg π C σ H δ H' (restore δ δ3 vs) := by
  have hl : σ2.length = σ.length := by
    have := congrArg List.length hw
    rwa [wipe_length, wipe_length] at this
  have sg : ∀ j : Nat, j ∉ vs → σ2[j]? = σ[j]? := fun j hj => by
    have := congrArg (fun l : L2.St => l[j]?) hw
    simp only [wipe_get hj] at this
    exact this
  have back : ∀ (j : Nat) w c, (restore δ δ3 vs)[j]? = some (.ce w c) → j ∉ vs ∧ δ3[j]? = some (.ce w c) := fun j w c h => by
    by_cases hj : j ∈ vs
    · have hlt : j < δ3.length := by
        rw [← restore_length δ δ3 vs]
        exact (List.getElem?_eq_some_iff.mp h).1
      rw [restore_in hlt hj] at h
      have h := Option.some.inj h
      rw [List.getD_eq_getElem?_getD] at h
      cases q : δ[j]? with
      | none => rw [q] at h; cases h
      | some s =>
        rw [q] at h
        have h : s = .ce w c := h
        subst h
        exact absurd q (noCe_at hn hj)
    · rw [restore_out hj] at h
      exact ⟨hj, h⟩
  refine ⟨hev, ⟨by rw [restore_length, ← r2.len, hl], fun j s hs => ?_, r2.good, r2.par, fun i j a w w' c c' q1 q2 q3 q4 => ?_⟩, fun a ⟨j, w, c, h1, h2⟩ => ?_⟩
  · by_cases hj : j ∈ vs
    · have hlt : j < δ3.length := by
        rw [← restore_length δ δ3 vs]
        exact (List.getElem?_eq_some_iff.mp hs).1
      rw [restore_in hlt hj] at hs
      have hs := Option.some.inj hs
      rw [List.getD_eq_getElem?_getD] at hs
      have hlt2 : j < δ.length := by
        rw [← r.len, ← hl, r2.len]
        exact hlt
      rw [List.getElem?_eq_getElem hlt2] at hs
      have hs : δ[j] = s := hs
      obtain ⟨ov, e1, e2⟩ := r.slot j s (by rw [List.getElem?_eq_getElem hlt2, hs])
      refine ⟨ov, e1, ?_⟩
      cases s with
      | no => trivial
      | im d =>
        obtain ⟨v, f1, f2⟩ := e2
        exact ⟨v, f1, f2.evo (fun a => r.ownC) hev⟩
      | ce w c => exact absurd (by rw [List.getElem?_eq_getElem hlt2, hs]) (noCe_at hn hj (w := w) (c := c))
    · rw [restore_out hj] at hs
      obtain ⟨ov, e1, e2⟩ := r2.slot j s hs
      rw [sg j hj] at e1
      exact ⟨ov, e1, e2⟩
  · obtain ⟨n1, r1⟩ := back i w c q1
    obtain ⟨n2, r2'⟩ := back j w' c' q2
    exact r2.own i j a w w' c c' r1 r2' (by rw [sg i n1]; exact q3) (by rw [sg j n2]; exact q4)
  · obtain ⟨n1, r1⟩ := back j w c h1
    exact ho a ⟨j, w, c, r1, by rw [sg j n1]; exact h2⟩
theorem noCe_keep {σ : L2.St} {δ δ3 : Pst} {vs : List Nat} (hn : noCe δ vs = true) : noCe (restore δ δ3 vs) vs = true := by
  refine List.all_eq_true.mpr fun j hj => ?_
  cases q : (restore δ δ3 vs)[j]? with
  | none => rfl
  | some s =>
    have hlt : j < δ3.length := by
      rw [← restore_length δ δ3 vs]
      exact (List.getElem?_eq_some_iff.mp q).1
    rw [restore_in hlt hj] at q
    have q := Option.some.inj q
    rw [List.getD_eq_getElem?_getD] at q
    cases q2 : δ[j]? with
    | none =>
      rw [q2] at q
      subst q
      rfl
    | some s2 =>
      rw [q2] at q
      have q : s2 = s := q
      subst q
      cases s2 with
      | ce w c => exact absurd q2 (noCe_at hn hj)
      | no => rfl
      | im d => rfl
theorem x_lc {wi : TI} {qi : QA} {g : TG} {pg : GE} {js vs : List Nat} {tt : TT} {qt : QT} {te : TE} {xe : XE} (hi : SndI wi qi) (hg : SndG g pg js) (hj : ∀ j ∈ js, j ∈ vs) (ht : SndT tt qt) (he : SndX te xe) : SndX (tLc wi g tt te vs) (xLc qi pg qt xe vs) := fun π C σ H δ d δ' e rel Q k => by
  obtain ⟨ds, e1, e⟩ := Option.bind_eq_some_iff.mp e
  split at e
  · rename_i hlen
    obtain ⟨⟨res, δe⟩, e2, e⟩ := Option.map_eq_some_iff.mp e
    cases e
    refine hi π C σ H δ ds e1 rel _ fun J H1 h1 src => fun Dl hD => ?_
    have rel1 := rel.he h1
    have src := src (Own σ δ) fun a => rel1.ownC
    let C2 : Addr → Prop := fun a => C a ∨ a = Dl
    have ownD : ∀ a, Own σ δ a → a ≠ Dl := fun a h z => by
      obtain ⟨o, q⟩ := rel1.good a (rel1.ownC h)
      rw [z, hD] at q
      cases q
    refine ⟨fun i m Hc => m = ds.length - i ∧ i ≤ ds.length ∧ ∃ δc acc as rest, Evo (Own σ δ) H1 Hc ∧ Rel π C2 σ Hc δc ∧ (∀ a, Own σ δc a → Own σ δ a) ∧ noCe δc vs = true ∧ Hc Dl = some (.lst acc) ∧ Dats C2 Hc acc as ∧ acc.length ≤ i ∧ xlcGo pg qt xe vs (ds.drop i) δc = some (rest, δe) ∧ as ++ rest = res,
      ⟨ds.length, by omega, Nat.zero_le _, δ, [], [], res, Evo.he (HE.new hD), rel1.more hD (HE.new hD) ⟨_, upd_same⟩, fun a h => h, hlen.2, upd_same, .nil, Nat.le_refl _, by simpa using e2, rfl⟩, fun i m Hc w => ?_⟩
    obtain ⟨em, hil, δc, acc, as, rest, hev, relc, how, hnc, hacc, hds, hal, hgo, hres⟩ := w
    have sr := src C2 Hc (fun a o hn ha => ⟨hev a o hn ha, ⟨fun z => z.elim id (fun z => absurd (z ▸ ha) (by rw [hD]; exact fun q => nomatch q)), Or.inl⟩⟩) relc.good i
    by_cases hlt : i < ds.length
    · refine .inr ⟨sr.1 hlt, fun Hn => i + 1 ≤ ds.length ∧ ∃ δc acc as rest, Evo (Own σ δ) H1 Hn ∧ Rel π C2 σ Hn δc ∧ (∀ a, Own σ δc a → Own σ δ a) ∧ noCe δc vs = true ∧ Hn Dl = some (.lst acc) ∧ Dats C2 Hn acc as ∧ acc.length ≤ i + 1 ∧ xlcGo pg qt xe vs (ds.drop (i + 1)) δc = some (rest, δe) ∧ as ++ rest = res, fun Hn q => ⟨ds.length - (i + 1), by omega, rfl, q⟩, fun x Hy hy => ?_⟩
      obtain ⟨hHE, d1, ed, wd⟩ := sr.2.2 x Hy hlt hy
      have edrop : ds.drop i = d1 :: ds.drop (i + 1) := by
        obtain ⟨hb, he'⟩ := List.getElem?_eq_some_iff.mp ed
        rw [List.drop_eq_getElem_cons hb, he']
      rw [edrop] at hgo
      unfold xlcGo at hgo
      obtain ⟨δ1, g1, hgo⟩ := Option.bind_eq_some_iff.mp hgo
      obtain ⟨b, g2, hgo⟩ := Option.bind_eq_some_iff.mp hgo
      refine hg π C2 (L2.wipe σ vs) Hy (wipeD δc vs) x d1 δ1 g1 ((relc.he hHE).wipe vs) wd _ fun σ2 H2 he2 r2 s2 o2 => ⟨(s2 vs hj).trans (wipe_wipe σ vs vs fun _ z => z), ?_⟩
      have hw2 : L2.wipe σ2 vs = L2.wipe σ vs := (s2 vs hj).trans (wipe_wipe σ vs vs fun _ z => z)
      refine ht π C2 σ2 H2 δ1 b g2 r2 _ fun H3 h3 => ?_
      have h03 : HE Hc H3 := (hHE.trans he2).trans h3
      cases b with
      | false =>
        have hgo' : xlcGo pg qt xe vs (ds.drop (i + 1)) δc = some (rest, δe) := hgo
        exact iteF ⟨by omega, δc, acc, as, rest, hev.trans (Evo.he h03), relc.he h03, how, hnc, h03 _ _ hacc, hds.he h03, by omega, hgo', hres⟩
      | true =>
        obtain ⟨⟨y, δ3⟩, g3, hgo⟩ := Option.bind_eq_some_iff.mp (show (xe δ1).bind _ = some (rest, δe) from hgo)
        obtain ⟨⟨rest', δ4⟩, g4, g5⟩ := Option.map_eq_some_iff.mp hgo
        cases g5
        refine iteT (he π C2 σ2 H3 δ1 y δ3 g3 (r2.he h3) _ fun v H4 c4 w4 => ?_)
        have own1 : ∀ a, Own σ2 δ1 a → Own σ δc a := fun a h => own_wipe (o2 a h)
        have ev4 : Evo (Own σ δc) Hc H4 := fun a o n h => c4.evo a o (fun z => n (own1 a z)) (h03 a o h)
        have nD : ¬ Own σ2 δ1 Dl := fun z => ownD _ (how _ (own1 _ z)) rfl
        have hacc4 : H4 Dl = some (.lst acc) := c4.evo Dl _ nD (h03 _ _ hacc)
        have R4 := rel_restore relc c4.rel hw2 hnc ev4 fun a h => own1 a (c4.own a h)
        have k4 : ∀ a o, ¬ C2 a → H4 a = some o → (upd H4 Dl (.lst (acc ++ [v]))) a = some o ∧ ¬ C2 a := fun a o hc ho => ⟨by rw [upd_ne (fun z => hc (.inr z))]; exact ho, hc⟩
        have hds4 : Dats C2 H4 acc as := hds.to fun a o hc ho => ⟨ev4 a o (fun z => hc (relc.ownC z)) ho, hc⟩
        refine ⟨acc, hacc4, sz_lt (by omega), by omega, restore δc δ3 vs, acc ++ [v], as ++ [y], rest', fun a o n h => ?_, ?_, fun a h => how a (R4.own a h), noCe_keep (σ := σ) hnc, upd_same, (hds4.to k4).append (.cons (w4.to k4) .nil), by simp; omega, g4, by rw [← hres]; simp⟩
        · rw [upd_ne (ne_of_none h hD)]
          exact ev4 a o (fun z => n (how a z)) (hev a o n h)
        · -- the new list is written: no slot's own
          have R := R4.rel
          refine ⟨R.len, fun j s hs => ?_, fun a h => ?_, fun kk a h => ?_, R.own⟩
          · obtain ⟨ov, q1, q2⟩ := R.slot j s hs
            refine ⟨ov, q1, ?_⟩
            cases s with
            | no => trivial
            | im dd =>
              obtain ⟨u, f1, f2⟩ := q2
              exact ⟨u, f1, f2.to k4⟩
            | ce w c =>
              obtain ⟨a, f1, f2, f3, f4⟩ := q2
              subst f1
              have : a ≠ Dl := ownD a (how a (R4.own a ⟨j, w, c, hs, q1⟩))
              exact ⟨a, rfl, f2, f3.to k4 (upd_ne this), f4⟩
          · by_cases z : a = Dl
            · exact ⟨_, by rw [z]; exact upd_same⟩
            · obtain ⟨o, q⟩ := R.good a h
              exact ⟨o, by rw [upd_ne z]; exact q⟩
          · by_cases z : a = Dl
            · exact ⟨_, by rw [z]; exact upd_same⟩
            · obtain ⟨o, q⟩ := R.par kk a h
              exact ⟨o, by rw [upd_ne z]; exact q⟩
    · have ei : i = ds.length := by omega
      subst ei
      rw [List.drop_length] at hgo
      cases hgo
      rw [List.append_nil] at hres
      subst hres
      have cv : ∀ a o, ¬ C2 a → Hc a = some o → Hc a = some o ∧ ¬ C a := fun a o hc ho => ⟨ho, fun z => hc (.inl z)⟩
      refine .inl ⟨sr.2.1 rfl, k _ Hc ⟨fun a o n h => hev a o n (h1 a o h), ?_, how⟩ (.lst (rel1.fresh hD) hacc (hds.to cv))⟩
      -- the new list is an ordinary value again
      refine ⟨relc.len, fun j s hs => ?_, fun a h => relc.good a (.inl h), relc.par, relc.own⟩
      obtain ⟨ov, q1, q2⟩ := relc.slot j s hs
      refine ⟨ov, q1, ?_⟩
      cases s with
      | no => trivial
      | im dd =>
        obtain ⟨u, f1, f2⟩ := q2
        exact ⟨u, f1, f2.to cv⟩
      | ce w c =>
        obtain ⟨a, f1, f2, f3, f4⟩ := q2
        subst f1
        exact ⟨a, rfl, rel1.ownC (how a ⟨j, w, c, hs, q1⟩), f3.to cv rfl, f4⟩
  · cases e
end Pu

namespace Pu
open PySem L2
def isPr : D → Bool
  | .tuple [.int _, .int _] => true
  | _ => false
theorem isPr_some {d : D} (h : isPr d = true) : ∃ a b, d = .tuple [.int a, .int b] := by
  unfold isPr at h
  split at h
  · exact ⟨_, _, rfl⟩
  · cases h
theorem alike_pr {d d' : D} (h : isPr d = true) (h' : isPr d' = true) : PySem.W.alike d d' = true := by
  obtain ⟨a, b, rfl⟩ := isPr_some h
  obtain ⟨a', b', rfl⟩ := isPr_some h'
  simp [PySem.W.alike, PySem.W.alikeAll]
theorem depth_pr {d : D} (h : isPr d = true) : d.depth ≤ 2 := by
  obtain ⟨a, b, rfl⟩ := isPr_some h
  simp [PyData.depth, PyData.depthAll]
theorem depthAll_pr : ∀ {ds : List D}, (∀ d ∈ ds, isPr d = true) → PyData.depthAll ds ≤ 2
  | [], _ => by simp [PyData.depthAll]
  | d :: ds, h => by
    have h1 := depth_pr (h d List.mem_cons_self)
    have h2 := depthAll_pr (ds := ds) fun x hx => h x (List.mem_cons_of_mem _ hx)
    simp only [PyData.depthAll]
    omega
theorem isPr_lay {d : D} (h : isPr d = true) : PyData.canLay0 d = true := by
  obtain ⟨a, b, rfl⟩ := isPr_some h
  simp [PyData.canLay0, PyData.canLayAll0]
theorem prs_lay : ∀ {l : List D}, (∀ d ∈ l, isPr d = true) → PyData.canLayAll0 l = true
  | [], _ => by rw [PyData.canLayAll0]
  | d :: l, h => by
    rw [PyData.canLayAll0, isPr_lay (h d List.mem_cons_self), prs_lay fun x hx => h x (List.mem_cons_of_mem _ hx)]
    rfl
/-! min of pairs -/
def rMinP : List V → Hp → VK → Prop := fun xs H Q => ∃ (p : Addr) (vs : List V) (x : D) (ds : List D), xs = [.ref p] ∧ (H p = some (.lst vs) ∨ H p = some (.tup vs)) ∧ (∃ C, Dats C H vs (x :: ds)) ∧ (∀ d ∈ x :: ds, isPr d = true) ∧
  ∀ (i : Nat) v, vs[i]? = some v → (x :: ds)[i]? = some (PySem.W.minD x ds) → Q v H
theorem call_minP {X : Cx} (hu : X.A.units + 65 < cLine) (hc : X.calm = true) : CallR X (.builtin "min") rMinP := fun pins s σ H xs us Q I r h => by
  obtain ⟨p, vs, x, ds, rfl, hp, ⟨C, hd⟩, hpr, q⟩ := h
  obtain ⟨u, rfl, ru⟩ := vals1 r
  obtain rfl : u = Value.ref p := ru
  have hal : PySem.W.AlikeAll (x :: ds) := ⟨fun a ha b hb => alike_pr (hpr a ha) (hpr b hb), fun a ha e => by
    have := hpr a ha
    rw [e] at this
    cases this⟩
  have hdep := depthAll_pr hpr
  have fin : ∀ (its : List Value) as, Vals vs its → ReadsAll s.heap its (x :: ds) as → ∀ (i : Nat) v h' tk bs, its.toArray[i]? = some v → Reads h' v (PySem.W.minD x ds) bs → (∀ b o, s.heap.get? b = some o → h'.get? b = some o) → EP X pins σ Q v { s with heap := h', toks := tk } := fun its as rv hr i v h' tk bs hi hb hk => by
    have hi' : its[i]? = some v := by simpa using hi
    have hlt : i < vs.length := by
      rw [rv.length]
      exact (List.getElem?_eq_some_iff.mp hi').1
    obtain ⟨u, e1, r1⟩ := rv.get (List.getElem?_eq_getElem hlt)
    rw [hi'] at e1
    cases e1
    obtain ⟨d, e2, w2⟩ := hd.getV (List.getElem?_eq_getElem hlt)
    obtain ⟨as', r2⟩ := Dp.reads I d _ v (w2.dp (isPr_lay (hpr _ (List.mem_of_getElem? e2)))) r1
    have m1 : d ∈ x :: ds := List.mem_of_getElem? e2
    have r3 : Reads h' v d as' := PyProof.Rows.Reads.keeps hk r2
    have m2 : PySem.W.minD x ds ∈ x :: ds := by
      unfold PySem.W.minD
      have gen : ∀ (l : List D) (a : D), l.foldl (fun a y => if PySem.W.dataLt y a then y else a) a ∈ a :: l := by
        intro l
        induction l with
        | nil => exact fun a => List.mem_cons_self
        | cons y l ih =>
          intro a
          rw [List.foldl_cons]
          rcases List.mem_cons.mp (ih (if PySem.W.dataLt y a then y else a)) with e | e
          · rw [e]
            split
            · exact List.mem_cons_of_mem _ List.mem_cons_self
            · exact List.mem_cons_self
          · exact List.mem_cons_of_mem _ (List.mem_cons_of_mem _ e)
      exact gen ds x
    have e3 := PySem.W.alike_unique _ _ _ _ _ (alike_pr (hpr _ m1) (hpr _ m2)) r3 hb
    subst e3
    exact ⟨_, H, I.kept (t' := tk) hk, r1, q i _ (List.getElem?_eq_getElem hlt) e2⟩
  rcases hp with hp | hp
  · obtain ⟨its, rv, pl, hz⟩ := I.list (sqL hp)
    obtain ⟨as, hr⟩ := Dp.readsAll I (x :: ds) vs its (hd.dp (prs_lay hpr)) rv
    exact PySem.W.min_list_data (I.ok.hd hc) pl.isList (by simpa using hr) hal (by omega) (fin its as rv hr)
  · obtain ⟨its, rv, pt, hz⟩ := I.tuple (sqT hp)
    obtain ⟨as, hr⟩ := Dp.readsAll I (x :: ds) vs its (hd.dp (prs_lay hpr)) rv
    exact PySem.W.min_tuple_data (I.ok.hd hc) (show s.heap.IsTuple p its.toArray from pt) (by simpa using hr) hal (by omega) (fin its as rv hr)
def dMinP : List D → Option D
  | x :: ds => if (x :: ds).all isPr = true then some (PySem.W.minD x ds) else none
  | [] => none
def dMinA : List D → Option D
  | [.int i, .int j] => some (.int (if j < i then j else i))
  | [.list ds] => match dMinL [.list ds] with
    | some m => some m
    | none => dMinP ds
  | [.tuple ds] => dMinP ds
  | _ => none
def rMinA (K : PySem.W.Frag) : List V → Hp → VK → Prop := fun xs H Q => ((∃ i j, xs = [.int i, .int j] ∧ Q (.int (if j < i then j else i)) H) ∨ rMin K xs H Q) ∨ rMinP xs H Q
theorem call_min_or {X : Cx} (hu : X.A.units + 65 < cLine) (hc : X.calm = true) : CallR X (.builtin "min") (rMinA X.K) := (call_min2_or hc).or (call_minP hu hc)
theorem minP_ok {C : Addr → Prop} {H : Hp} {p : Addr} {vs : List V} {ds : List D} {d : D} (hp : H p = some (.lst vs) ∨ H p = some (.tup vs)) (w : Dats C H vs ds) (e : dMinP ds = some d) {Q : VK} (k : ∀ v, Dat C H v d → Q v H) : rMinP [.ref p] H Q := by
  unfold dMinP at e
  split at e
  · split at e
    · rename_i x r hall
      cases e
      refine ⟨p, vs, x, r, rfl, hp, ⟨C, w⟩, fun d hd => List.all_eq_true.mp hall d hd, fun i v hv hi => ?_⟩
      obtain ⟨d, e1, e2⟩ := w.getV hv
      rw [hi] at e1
      cases e1
      exact k v e2
    · cases e
  · cases e
theorem c_minA {K : PySem.W.Frag} : CaF (rMinA K) dMinA := fun C H xs as d e g0 w Q k => by
  unfold dMinA at e
  split at e
  · cases e
    obtain ⟨v, v', rfl, w1, w2⟩ := wats2 w
    exact .inl (.inl ⟨_, _, by rw [w1.int, w2.int], k _ H HE.refl (.int _)⟩)
  · split at e
    · rename_i m hm
      cases e
      exact .inl (.inr (c_minL C H xs _ _ hm g0 w Q k))
    · obtain ⟨v, rfl, wA⟩ := wats1 w
      obtain ⟨p, vs, e1, h1, d1⟩ := wA.list
      subst e1
      exact .inr (minP_ok (.inl h1) d1 e fun v wv => k v H HE.refl wv)
  · obtain ⟨v, rfl, wA⟩ := wats1 w
    obtain ⟨p, vs, e1, _, h1, d1⟩ := wA.tup
    subst e1
    exact .inr (minP_ok (.inr h1) d1 e fun v wv => k v H HE.refl wv)
  · cases e
/-! sorted over a tuple -/
section
open PyProof.Rows PySem.W
variable {prog : Program} {w : World} {A : Around} {E : Value → Shared → Prop} {s : Shared} {β : Type} {vs : List Value} {bs : List β} {enc : β → PyData} {R : Value → β → Prop}
theorem gatherT {l : Addr} {Q : List Value → Shared → Prop} (hl : s.heap.IsTuple l vs.toArray) (hsz : vs.length ≤ sizeLine)
    (h : Q vs { s with heap := (s.heap.push (seqObj "list" #[] 0)).update s.heap.objs.size (Obj.mapSeq (· ++ vs.toArray)) }) :
    wpAny (model prog w) A (collect (.ref l)) Q E s := by
  obtain ⟨o, ho, hc, n, hd⟩ := id hl; unfold collect
  refine wpAny_bind (wpAny_runValue (codeAny_builtin entry_proto_collect' ?_)); show wpAny _ _ (do again (.builtin "list.__iadd__" ⟨[← newList [], .ref l], []⟩)) _ _ s
  refine wpAny_bind (wpAny_newList (wpAny_pure ⟨Code.quiet_builtin _ (by decide +kernel), codeAny_builtin entry_list_iadd' ?_⟩)); show wpAny _ _ (Builtin.List.listExtendWith (.ref s.heap.objs.size) (.ref l) (.ref s.heap.objs.size)) _ _ { s with heap := s.heap.push (seqObj "list" #[] 0) }
  unfold Builtin.List.listExtendWith; have ho' : (s.heap.push (seqObj "list" #[] 0)).get? l = some o := Heap.get?_push_of_some _ ho
  refine wpAny_bind (wpAny_typeOf (T := "tuple") ⟨o, ho', hc⟩ ?_); have ht : (Value.type "tuple" == Value.type "tuple") = true := by rfl
  rw [if_pos (by rw [ht]; simp)]; refine wpAny_bind (listItems_at ho' hd (wpAny_bind (listItems_at (xs := #[]) (n := 0) (Heap.get?_push_size _ rfl) rfl ?_)))
  rw [if_neg (by simp)]; refine wpAny_bind (listUpdate_at (xs := #[]) (n := 0) (Heap.get?_push_size _ rfl) rfl (wpAny_pure ?_) (Nat.zero_le _) (by show (#[] ++ vs.toArray).size ≤ sizeLine + 1; simp only [Array.size_append, List.size_toArray, List.length_nil]; omega))
  show wpAny (model prog w) A (do
      let o ← load s.heap.objs.size
      match o.data with
      | .seq xs _ => pure xs.toList
      | _ => unsupported "internal:collect") Q E { s with heap := (s.heap.push (seqObj "list" #[] 0)).update s.heap.objs.size (Obj.mapSeq (· ++ vs.toArray)) }
  refine wpAny_bind (wpAny_load (get?_update_seq (Heap.get?_push_size _ rfl) _) ?_); show wpAny _ _ (pure ((#[] : Array Value) ++ vs.toArray).toList) Q E _
  rw [show ((#[] : Array Value) ++ vs.toArray).toList = vs by simp]; exact wpAny_pure h
theorem sortedT {l : Addr} {Q : Value → Shared → Prop} (hl : s.heap.IsTuple l vs.toArray) (hL : vs.length ≤ sizeLine)
    (body : ∀ E' : Value → Shared → Prop, wpAny (model prog w) A.in1.in1 (Builtin.«list.sort» ⟨[.ref (s.heap.objs.size + 1)], []⟩) (fun f s' => f = .done (.ret .none) ∧ Q (.ref (s.heap.objs.size + 1)) s') E' { s with heap := copyHeap s.heap vs }) :
    wpAny (model prog w) A (call (.builtin "sorted") [.ref l]) Q E s := by
  refine Calls.call_function_entry kind_sorted plain_sorted entry_sorted (args_sorted1 _) ?_
  unfold Builtin.«sorted»; refine wpAny_bind (m := checkCount "sorted" 1 1 _) (wpAny_pure (wpAny_bind (gatherT hl hL (wpAny_bind (wpAny_newList ?_ hL)))))
  have hsz : ((s.heap.push (seqObj "list" #[] 0)).update s.heap.objs.size (Obj.mapSeq (· ++ vs.toArray))).objs.size = s.heap.objs.size + 1 := by rw [Heap.size_update, size_push']
  show wpAny _ _ _ _ _ { s with heap := copyHeap s.heap vs }
  rw [hsz]; refine wpAny_bind (wpAny_holding (wpAny_call_entry_kw slot_list_sort ⟨_, copyHeap_at s.heap vs, rfl⟩ entry_list_sort ?body (args_list_sort _)))
  case body =>
    show wpAny (model prog w) A.in1.in1 (Builtin.«list.sort» ⟨[.ref (s.heap.objs.size + 1)], []⟩) _ _ _
    refine wpAny_mono (body _) (fun f s' hf => ?_) fun _ _ e => e
    obtain ⟨rfl, hq⟩ := hf; exact ⟨_, rfl, wpAny_pure ⟨_, rfl, hq⟩⟩
theorem sorted_dataT {l : Addr} {Q : Value → Shared → Prop} (hl : s.heap.IsTuple l vs.toArray) (e : EachIs R vs bs) (er : EachIs (fun v b => ∃ as, Reads s.heap v (enc b) as) vs bs) (hal : AllAlike (bs.map enc)) (hk : Sortable (bs.map enc)) (hL : bs.length ≤ sizeLine) (hu : ∀ b, b ∈ bs → A.units + 2 + (enc b).depth < cLine)
    (h : ∀ out, out.length = bs.length → EachIs R out (bs.mergeSort (dataLe false enc)) → Q (.ref (s.heap.objs.size + 1)) { s with heap := sortedAll s.heap vs (List.toArray out) }) : wpAny (model prog w) A (call (.builtin "sorted") [.ref l]) Q E s := by
  have er' : EachIs (fun v b => ∃ as, Reads (sortingHeap (copyHeap s.heap vs) (s.heap.objs.size + 1) vs) v (enc b) as) vs bs := er.mono fun _ _ ⟨as, r⟩ => ⟨as, PyProof.Rows.Reads.keeps (fun _ _ => sorting_copy_old) r⟩
  have S := SortsAt.data (prog := prog) (w := w) (A := A.in1.in1) (s := { s with heap := sortingHeap (copyHeap s.heap vs) (s.heap.objs.size + 1) vs }) (each_map (R := fun v d => ∃ as, Reads (sortingHeap (copyHeap s.heap vs) (s.heap.objs.size + 1) vs) v d as) enc er') hal hk (bound_map hu)
  have hl' : vs.length ≤ sizeLine := by rw [e.length]; exact hL
  exact sortedT hl hl' fun _ => list_sort_vals (s := { s with heap := copyHeap s.heap vs }) (copyHeap_at s.heap vs) S hl' ⟨rfl, h _ (by rw [sortVals_length false rfl]; exact e.length) (sortVals_data false e er' hal)⟩
theorem sorted_dataA {l : Addr} {Q : Value → Shared → Prop} (hl : s.heap.IsList l vs.toArray ∨ s.heap.IsTuple l vs.toArray) (e : EachIs R vs bs) (er : EachIs (fun v b => ∃ as, Reads s.heap v (enc b) as) vs bs) (hal : AllAlike (bs.map enc)) (hk : Sortable (bs.map enc)) (hL : bs.length ≤ sizeLine) (hu : ∀ b, b ∈ bs → A.units + 2 + (enc b).depth < cLine)
    (h : ∀ out, out.length = bs.length → EachIs R out (bs.mergeSort (dataLe false enc)) → Q (.ref (s.heap.objs.size + 1)) { s with heap := sortedAll s.heap vs (List.toArray out) }) : wpAny (model prog w) A (call (.builtin "sorted") [.ref l]) Q E s := by
  rcases hl with hl | hl
  · exact sorted_data hl e er hal hk hL hu h
  · exact sorted_dataT hl e er hal hk hL hu h
end
/-! sorted of pairs -/
def dSort (ds : List D) : List D := ds.mergeSort (PySem.W.dataLe false id)
def dSorted : List D → Option D
  | [.list ds] => if ds.all isPr = true ∧ ds.length ≤ 100000 then some (.list (dSort ds)) else none
  | [.tuple ds] => if ds.all isPr = true ∧ ds.length ≤ 100000 then some (.list (dSort ds)) else none
  | _ => none
def rSortP : List V → Hp → VK → Prop := fun xs H Q => ∃ (p : Addr) (vs : List V) (ds : List D), xs = [.ref p] ∧ (H p = some (.lst vs) ∨ H p = some (.tup vs)) ∧ (∃ C, Dats C H vs ds) ∧ (∀ d ∈ ds, isPr d = true) ∧ ds.length ≤ 100000 ∧
  ∀ (q : Addr) (ws : List V), H q = none → (∀ C, Dats C H vs ds → Dats C H ws (dSort ds)) → Q (.ref q) (upd H q (.lst ws))
theorem each_vals {vs : List V} {its : List Value} (rv : Vals vs its) : ∀ {ds : List D}, vs.length = ds.length → PySem.W.EachIs (fun (u : Value) (b : V × D) => RelV b.1 u) its (vs.zip ds) := by
  induction rv with
  | nil =>
    intro ds _
    exact .nil
  | cons r _ ih =>
    intro ds h
    cases ds with
    | nil => cases h
    | cons d ds => exact .cons r (ih (Nat.succ.inj h))
theorem vals_each : ∀ {its : List Value} {bs : List (V × D)}, PySem.W.EachIs (fun (u : Value) (b : V × D) => RelV b.1 u) its bs → Vals (bs.map (·.1)) its
  | _, _, .nil => .nil
  | _, _, .cons r t => .cons r (vals_each t)
theorem call_sortP {X : Cx} (hu : X.A.units + 65 < cLine) : CallR X (.builtin "sorted") rSortP := fun pins s σ H xs us Q I r h => by
  obtain ⟨p, vs, ds, rfl, hp, ⟨C, hd⟩, hpr, hlen, q⟩ := h
  obtain ⟨u, rfl, ru⟩ := vals1 r
  obtain rfl : u = Value.ref p := ru
  obtain ⟨its, rv, pl⟩ : ∃ its, Vals vs its ∧ (s.heap.IsList p its.toArray ∨ s.heap.IsTuple p its.toArray) := by
    rcases hp with hp | hp
    · obtain ⟨its, rv, pl, hz⟩ := I.list (sqL hp)
      exact ⟨its, rv, .inl pl.isList⟩
    · obtain ⟨its, rv, pt, hz⟩ := I.tuple (sqT hp)
      exact ⟨its, rv, .inr pt⟩
  obtain ⟨as, hr⟩ := Dp.readsAll I ds vs its (hd.dp (prs_lay hpr)) rv
  have hl := hd.length
  have hm : (vs.zip ds).map (·.2) = ds := List.map_snd_zip (by omega)
  have hr' : ReadsAll s.heap its ((vs.zip ds).map (·.2)) as := by rw [hm]; exact hr
  have hmem : ∀ b ∈ vs.zip ds, isPr b.2 = true := fun b hb => hpr _ (by rw [← hm]; exact List.mem_map_of_mem hb)
  have hll : (vs.zip ds).length = ds.length := by rw [List.length_zip]; omega
  refine sorted_dataA (enc := fun b : V × D => b.2) (bs := vs.zip ds) (R := fun u b => RelV b.1 u) pl (each_vals rv hl) (PySem.W.readsAll_each (fun b : V × D => b.2) hr') ?_ ?_ (by rw [hll]; exact sz_of hlen) (fun b hb => ?_) fun out ho he => ?_
  · intro d hd' d' hd''
    obtain ⟨b, hb, rfl⟩ := List.mem_map.mp hd'
    obtain ⟨b', hb', rfl⟩ := List.mem_map.mp hd''
    exact alike_pr (hmem b hb) (hmem b' hb')
  · refine .inl fun d hd' => ?_
    obtain ⟨b, hb, rfl⟩ := List.mem_map.mp hd'
    obtain ⟨x, y, e⟩ := isPr_some (hmem b hb)
    exact ⟨_, _, e⟩
  · have := depth_pr (hmem b hb)
    omega
  · obtain ⟨n, hn⟩ := PyProof.Rows.sortedAll_at s.heap its out.toArray
    have hv := vals_each he
    have hol : ((vs.zip ds).mergeSort (PySem.W.dataLe false fun b : V × D => b.2)).length ≤ sizeLine := by
      rw [List.length_mergeSort, hll]
      exact sz_of hlen
    have kp : ∀ b o, s.heap.get? b = some o → (PyProof.Rows.sortedAll s.heap its out.toArray).get? b = some o := fun b o => PyProof.Rows.sortedAll_old
    refine ⟨.ref (s.heap.objs.size + 1), upd H (s.heap.objs.size + 1) (.lst (((vs.zip ds).mergeSort (PySem.W.dataLe false fun b : V × D => b.2)).map (·.1))), I.laid (t' := s.toks) kp (Nat.le_succ _) ⟨by rw [List.length_map]; exact hol, out, n, hv, hn⟩, rfl, q _ _ (I.hok.fresh (Nat.le_succ _)) fun C2 hd2 => ?_⟩
    have hs : dSort ds = ((vs.zip ds).mergeSort (PySem.W.dataLe false fun b : V × D => b.2)).map (·.2) := by
      have z := List.map_mergeSort (r := PySem.W.dataLe false fun b : V × D => b.2) (s := PySem.W.dataLe false id) (f := fun b : V × D => b.2) (l := vs.zip ds) (fun a _ b _ => rfl)
      rw [hm] at z
      exact z.symm
    rw [hs]
    have gen : ∀ bs : List (V × D), (∀ b ∈ bs, Dat C2 H b.1 b.2) → Dats C2 H (bs.map (·.1)) (bs.map (·.2)) := by
      intro bs
      induction bs with
      | nil => exact fun _ => .nil
      | cons b bs ih => exact fun h => .cons (h b List.mem_cons_self) (ih fun x hx => h x (List.mem_cons_of_mem _ hx))
    refine gen _ fun b hb => ?_
    have hb' : b ∈ vs.zip ds := List.mem_mergeSort.mp hb
    obtain ⟨i, hi, e⟩ := List.mem_iff_getElem.mp hb'
    rw [List.getElem_zip] at e
    subst e
    have hi1 : i < vs.length := by rw [hll] at hi; omega
    obtain ⟨d, e1, e2⟩ := hd2.getV (List.getElem?_eq_getElem hi1)
    rw [List.getElem?_eq_getElem (by rw [hll] at hi; exact hi)] at e1
    cases e1
    exact e2
theorem call_sortedD {X : Cx} (hu : X.A.units + 65 < cLine) : CallR X (.builtin "sorted") rSortP := call_sortP hu
theorem c_sorted : CaF rSortP dSorted := fun C H xs as d e g0 w Q k => by
  unfold dSorted at e
  split at e
  · split at e
    · rename_i hall
      cases e
      obtain ⟨v, rfl, wA⟩ := wats1 w
      obtain ⟨p, vs, e1, h1, d1⟩ := wA.list
      subst e1
      exact ⟨p, vs, _, rfl, .inl h1, ⟨C, d1⟩, fun d hd => List.all_eq_true.mp hall.1 d hd, hall.2, fun q ws hq hw => k _ _ (HE.new hq) (new_lst g0 (hw C d1) hq)⟩
    · cases e
  · split at e
    · rename_i hall
      cases e
      obtain ⟨v, rfl, wA⟩ := wats1 w
      obtain ⟨p, vs, e1, _, h1, d1⟩ := wA.tup
      subst e1
      exact ⟨p, vs, _, rfl, .inr h1, ⟨C, d1⟩, fun d hd => List.all_eq_true.mp hall.1 d hd, hall.2, fun q ws hq hw => k _ _ (HE.new hq) (new_lst g0 (hw C d1) hq)⟩
    · cases e
  · cases e
/-! sum -/
def dSum : List D → Option D
  | [.list ds] => (dInts ds).map fun ns => .int ns.sum
  | _ => none
theorem c_sum {K : PySem.W.Frag} : CaF (rSum K) dSum := fun C H xs as d e g0 w Q k => by
  unfold dSum at e
  split at e
  · obtain ⟨ns, e1, e⟩ := Option.map_eq_some_iff.mp e
    subst e
    obtain ⟨v, rfl, wA⟩ := wats1 w
    obtain ⟨p, vs, e3, h1, d1⟩ := wA.list
    subst e3
    have e4 := d1.ints e1
    subst e4
    exact ⟨p, ns, rfl, sqL h1, k _ H HE.refl (.int _)⟩
  · cases e
/-! xs.index(x) -/
def dIndex (a b : D) : Option D := match a with
  | .list ds => if SeqAt.shaped (.list ds) = true ∧ SeqAt.shaped b = true then (ds.findIdx? fun z => PyData.eqv z b).map fun j => .int (j : Nat) else none
  | _ => none
theorem dIndex_some {a b d : D} (h : dIndex a b = some d) : ∃ (ds : List D) (j : Nat), a = .list ds ∧ SeqAt.shaped (.list ds) = true ∧ SeqAt.shaped b = true ∧ (ds.findIdx? fun z => PyData.eqv z b) = some j ∧ d = .int (j : Nat) := by
  unfold dIndex at h
  split at h
  · split at h
    · obtain ⟨j, e3, e⟩ := Option.map_eq_some_iff.mp h
      exact ⟨_, j, rfl, (by assumption : _ ∧ _).1, (by assumption : _ ∧ _).2, e3, e.symm⟩
    · cases h
  · cases h
theorem q_index {K : PySem.W.Frag} {ta tb : TE} {qa qb : QE} (ha : SndW ta qa) (hb : SndW tb qb) : SndQ (tBM K "list" (rIndexD K) ta (tCons tb tNil)) (q2 dIndex qa qb) := fun π C σ H δ d e rel Q k => by
  obtain ⟨x, e1, e⟩ := Option.bind_eq_some_iff.mp e
  obtain ⟨y, e2, e⟩ := Option.bind_eq_some_iff.mp e
  obtain ⟨ds, j, ex, hs1, hs2, e3, ed⟩ := dIndex_some e
  subst ex
  subst ed
  refine ha π C σ H δ _ e1 rel _ fun v H1 h1 w1 => ?_
  obtain ⟨p, vs, ev, hp, dp⟩ := w1.list
  subst ev
  refine ⟨tyL hp, hb π C σ H1 δ y e2 (rel.he h1) _ fun u H2 h2 w2 => ?_⟩
  obtain ⟨hj, hz, hno⟩ := List.findIdx?_eq_some_iff_getElem.mp e3
  refine ⟨p, u, y, ds, j, ds[j], rfl, rfl, .lst (sqL (h2 _ _ hp)) ((dp.he h2).dp (by have z := SeqAt.canLay_of_shaped hs1; rw [PyData.canLay0] at z; exact z)), w2.dp (SeqAt.canLay_of_shaped hs2), hs1, hs2, List.getElem?_eq_getElem hj, hz, fun m z' hm hz' => ?_, k _ H2 (h1.trans h2) (.int _)⟩
  have hm' : m < ds.length := by omega
  rw [List.getElem?_eq_getElem hm'] at hz'
  cases hz'
  have := hno m hm
  simpa using this
end Pu

namespace Pu
open PySem L2
/-! f(k = e, ..), all by name, in the def's own order -/
def KB (fd : FuncData) (ps : List Str) : Prop := ∀ (s : Shared) (us : List Value), us.length = ps.length → BindsTo s fd ⟨[], ps.zip us⟩ (ps.zip us)
theorem kb_of {K : PySem.W.Frag} {x qual : Str} {st : Stmt} {f : Addr} {fd : FuncData} {ps : List Str} (F : Fun K x qual st f fd)
    (h : ∀ (kV doc pm : Value) (an : Option Addr) (cdv ct : Value) (us : List Value), us.length = ps.length →
      bindArgs (PySem.W.fnOf x qual (defArgs st) (defBody st) (defScope st) .none kV doc pm an cdv ct) ⟨[], ps.zip us⟩ = pure (ps.zip us)) : KB fd ps := by
  obtain ⟨oc, od, kV, doc, pm, an, cdv, ct, osl, e, _, _⟩ := F.ex
  subst e
  exact fun s us hl => .of_eq (h kV doc pm an cdv ct us hl)
theorem pe_callK0 {X : Cx} {k : Nat} {f : Addr} {fd : FuncData} {ps : List Str} {sp : Sp} {CX : CXT} {x : Str} {E : XK} {kws : List Keyword} {tk : TA} {p pos : Pos} (F : FnOk X.prog X.w X.K X.mg X.base CX k f fd ps sp) (hr : Room k X.A) (hg : Gl X x) (hm : X.mg x = some (.ref f))
    (hk : PySem.W.keepIn X.K (.ref f) = true) (hb : KB fd ps) (hx : Passes CX X E) (hkw : PK X kws tk)
    (hall : (backToKw pos (keywordEach kws X.env)).all (·.1.isSome) = true := by rfl) (hks : (backToKw pos (keywordEach kws X.env)).filterMap (·.1) = ps := by rfl)
    (hdb : (x == ("__debug__" : Str)) = false := by decide)
    (hpl : ((backTo pos (starEach [] X.env)).any (·.1) || (backToKw pos (keywordEach kws X.env)).any (·.1.isNone)) = false := by rfl) :
    PE X (.Call (.Name x p) [] kws pos) (tCall sp [] E tk) where
  run := fun pins s σ H Q I h => wpAny_Call_Name_kw (ld_glob I hg hm
    (PySem.W.callWith_KW0 (h₀ := X.base) I.ok.mod.kin hk hall (thn (hkw.run pos pins s σ H _ I h) fun ws s2 ⟨zs, H2, I2, rz, q2⟩ => ⟨I2.kIn, by
      rw [hks]
      have q2 : sp (zs ++ []) H2 Q E := q2
      rw [List.append_nil] at q2
      have hl : ws.length = ps.length := by rw [← rz.length]; exact F.len _ _ _ _ q2
      exact wpAny_call (codeAny_mono (F.run X.A X.stack s2 H2 ⟨[], ps.zip ws⟩ ws zs Q E hr I2.env0 (hb s2 ws hl) rz q2) fun r s' hq => match r, hq with
        | .error e, hq => hx pins σ H2 s2 e s' I2 hq
        | .ok (.ret u), hq => I2.after hq
        | .ok .next, hq => hq.elim
        | .ok .brk, hq => hq.elim
        | .ok .cont, hq => hq.elim)⟩) hpl) hdb)
/-! a, b, *c = a tuple -/
theorem star_items {prog : Program} {w : World} {A : Around} {E : Value → Shared → Prop} {s : Shared} {l : Addr} {its : List Value} {i : Nat} {Q : List Value → Shared → Prop} (hl : PyProof.Rows.IsTup s.heap l its.toArray) (hh : A.handled = none) (hi : i ≤ its.length) (hz : its.length ≤ 16384)
    (h : ∀ (g : Heap) (tk : Nat), (∀ b o, s.heap.get? b = some o → g.get? b = some o) → Q (its.take i ++ [.ref g.objs.size]) { s with heap := g.push { cls := .type "list", data := .seq (its.drop i).toArray 0 }, toks := tk }) :
    wpAny (model prog w) A (unpackItems (.ref l) (i + 1) (some i)) Q E s := by
  obtain ⟨o0, ho0, hcls, n0, hdat⟩ := id hl
  have hll : l < s.heap.objs.size := Heap.lt_size ho0
  have hlt : l ≠ s.heap.objs.size := Nat.ne_of_lt hll
  unfold unpackItems
  refine wpAny_bind (show wpAny _ _ (notIterableAtAll (.ref l)) _ _ _ from ?_)
  unfold notIterableAtAll
  refine wpAny_bind (wpAny_specialOf (show s.TypeIs (.ref l) "tuple" from ⟨_, ho0, hcls⟩) PyProof.Rows.slot_tuple_iter.lookup (wpAny_pure ?_))
  simp only [Bool.false_eq_true, if_false]
  refine wpAny_bind (wpAny_holding (PyProof.Rows.iter_tuple hl ?_))
  refine wpAny_bind (wpAny_holding (PyProof.Rows.draw_tuple hlt i 0 _ _ ⟨_, Heap.get?_push_size _ rfl, rfl, rfl⟩ (hl.push _) (by simpa using hi) fun g1 it1 x1 => ?_))
  have t1 : PyProof.Rows.IsTup g1 l its.toArray := (hl.push _).extBut x1.extBut hlt
  rw [Nat.zero_add] at it1
  obtain ⟨oi, hoi, r1⟩ := id it1
  obtain ⟨ol, hol, r2⟩ := id t1
  rw [List.drop_zero]
  have len1 : (its.take i).length = i := by rw [List.length_take]; omega
  rw [if_neg (show ¬ ((its.toArray.toList.take i).length < i) by rw [len1]; omega)]
  refine wpAny_bind (wpAny_holding (PySem.W.kun_collect (s := { s with heap := g1 }) (T := "tuple_iterator") (.inr (.inr (.inr rfl))) (Walks.tuple (A := A.in1) hh s.heap.objs.size l hlt its.toArray)
    (fun j u st => st.1.typeIs) (k := i) (by simpa using hi) ⟨it1, t1⟩ (Heap.lt_size hoi) (Heap.lt_size hol) (fun g2 tk k2 => ?_) (by rw [sizeLine_eq]; simp; omega)))
  show wpAny _ _ (if (its.drop i).length < i + 1 - 1 - i then _ else _) _ _ _
  rw [if_neg (by omega)]
  show wpAny _ _ (newList ((its.drop i).take ((its.drop i).length - (i + 1 - 1 - i))) >>= fun d => pure (its.take i ++ [d] ++ (its.drop i).drop ((its.drop i).length - (i + 1 - 1 - i)))) _ _ _
  have z0 : (its.drop i).length - (i + 1 - 1 - i) = (its.drop i).length := by omega
  rw [z0, List.take_length, List.drop_length]
  have nil2 : ∀ d : Value, its.take i ++ [d] ++ [] = its.take i ++ [d] := fun d => List.append_nil _
  simp only [nil2]
  have old : ∀ b o, s.heap.get? b = some o → g2.get? b = some o := fun b o e => k2 b o (Nat.ne_of_lt (Heap.lt_size e)) (x1.extBut b o (Nat.ne_of_lt (Heap.lt_size e)) (Heap.get?_push_of_some _ e))
  unfold newList
  have hsz : (its.drop i).length ≤ sizeLine := by rw [List.length_drop, sizeLine_eq]; omega
  exact wpAny_bind (wpAny_newObj_type (wpAny_pure (h g2 tk old)) (by size_fits))
def gStar (K : PySem.W.Frag) (n : Nat) (t : TGs) : TG := fun v σ H Q => ∃ a xs, v = .ref a ∧ SqT K H a xs ∧ n ≤ xs.length ∧ xs.length ≤ 16384 ∧ ∀ p, H p = none → t (xs.take n ++ [.ref p]) σ (upd H p (.lst (xs.drop n))) Q
theorem pgs_last {X : Cx} {e : Expr} {p : Pos} {g : TG} (h : PG X e g) : PGs X [.Starred e p] (gCons g gNil) where
  run := fun pins s σ H vs us Q I r ⟨v, vr, e1, hg⟩ => by
    subst e1
    cases r with
    | cons r rr =>
      exact PyProof.Rows.assignInOrder_cons (thn (h.run pins s σ H _ _ _ I r hg) fun _ s1 ⟨σ1, H1, I1, q1⟩ => by
        obtain ⟨e2, q2⟩ := q1
        subst e2
        cases rr
        exact PyProof.Rows.assignInOrder_nil ⟨σ1, H1, I1, q2⟩)
theorem pg_star {X : Cx} {es : List Expr} {k : Nat} {t : TGs} {n : Nat} {pos : Pos} (hc : X.calm = true) (h : PGs X es t) (hn : (assignEach es X.env).length = n + 1 := by rfl) (hst : (assignEach es X.env).findIdx? (·.1) = some n := by rfl) : PG X (.Tuple es k pos) (gStar X.K n t) where
  run := fun pins s σ H v u Q I r ⟨a, xs, e1, hq, hl, hz, hw⟩ => by
    subst e1
    cases r
    obtain ⟨its, rv, ht, _⟩ := I.tuple hq
    rw [PyProof.Rows.assign_Tuple]
    refine wpAny_bind (wpAny_standAt ?_)
    unfold unpack
    rw [hn, hst]
    have el : xs.length = its.length := rv.length
    refine wpAny_bind (wpAny_holding (star_items ht (I.ok.hd hc) (by omega) (by omega) fun g tk hk => ?_))
    have I0 : Inv X pins σ H { s with heap := g, toks := tk } := I.kept (t' := tk) hk
    have I1 : Inv X pins σ (upd H g.objs.size (.lst (xs.drop n))) { s with heap := g.push { cls := .type "list", data := .seq (its.drop n).toArray 0 }, toks := tk } :=
      I0.laid (t' := tk) (fun b o e => Heap.get?_push_of_some _ e) (Nat.le_refl _) ⟨by rw [List.length_drop, sizeLine_eq]; omega, its.drop n, 0, rv.drop n, Heap.get?_push_size _ rfl⟩
    exact h.run pins _ σ _ (xs.take n ++ [.ref g.objs.size]) _ Q I1 ((rv.take n).append (.cons (show RelV (.ref _) _ from rfl) .nil)) (hw _ (I0.hok.fresh (Nat.le_refl _)))
def gtStar (n : Nat) (p : List D → Pst → Option Pst) : GE
  | .tuple ds, δ => if n ≤ ds.length ∧ ds.length ≤ 16384 then p (ds.take n ++ [.list (ds.drop n)]) δ else none
  | _, _ => none
theorem g_star {K : PySem.W.Frag} {n : Nat} {gs : TGs} {p : List D → Pst → Option Pst} {js : List Nat} (h : SndGs gs p js) : SndG (gStar K n gs) (gtStar n p) js := fun π C σ H δ x d δ' e rel w Q k => by
  unfold gtStar at e
  split at e
  · split at e
    · rename_i ds hl
      obtain ⟨a, vs, e1, c1, h1, d1⟩ := (Wat.tup (.inl w))
      refine ⟨a, vs, e1, sqT h1, by rw [d1.length]; exact hl.1, by rw [d1.length]; exact hl.2, fun p hp => ?_⟩
      have hN := HE.new (o := .lst (vs.drop n)) hp
      exact h π C σ _ δ _ _ δ' e (rel.he hN) (((d1.take n).he hN).append (.cons (new_lst rel.good (d1.drop n) hp) .nil)) Q fun σ' H' h' => k σ' H' (hN.trans h')
    · cases e
  · cases e
end Pu
namespace Pu
open PySem L2
theorem fn_none {P : Program} {w : World} {K : PySem.W.Frag} {mg : Str → Option Value} {base : Heap} {k : Nat} {f : Addr} {fd : FuncData} {ps : List Str} : FnOk P w K mg base CX0 k f fd ps (spX fun _ => none) where
  len := fun _ _ _ _ ⟨C, as, d, as', h, _⟩ => nomatch h
  run := fun _ _ _ _ _ _ _ _ _ _ _ _ _ ⟨C, as, d, as', h, _⟩ => nomatch h
theorem room65 {k : Nat} {A : Around} (hr : Room k A) : A.units + 65 < cLine := by
  have := hr.un
  omega
def dZipL (as bs : List D) : List D := (as.zip bs).map fun p => .tuple [p.1, p.2]
def dZip : List D → Option D
  | [.tuple as, .tuple bs] => if as.length ≤ 10000 ∧ as.length = bs.length then some (.list (dZipL as bs)) else none
  | [.list as, .list bs] => if as.length ≤ 10000 ∧ as.length = bs.length then some (.list (dZipL as bs)) else none
  | _ => none
end Pu

namespace Pu
open PySem L2
/-! two fors -/
def lc2In (g : GE) (t : QT) (e : QE) (base : Pst) : List D → Option (List D) := lcGo g t e base
def lc2Go (g : GE) (t : QT) (it1 : QA) (g1 : GE) (t1 : QT) (e : QE) (vs1 : List Nat) (base : Pst) : List D → Option (List D)
  | [] => some []
  | d :: ds => (g d base).bind fun δ1 => (t δ1).bind fun b => if b = true then (it1 δ1).bind fun es => if es.length ≤ 1000 then (lcGo g1 t1 e (wipeD δ1 vs1) es).bind fun r1 => (lc2Go g t it1 g1 t1 e vs1 base ds).map fun r => r1 ++ r else none else lc2Go g t it1 g1 t1 e vs1 base ds
def qLc2 (it : QA) (g : GE) (t : QT) (it1 : QA) (g1 : GE) (t1 : QT) (e : QE) (vs vs1 : List Nat) : QE := fun δ => (it δ).bind fun ds => if ds.length ≤ 50 then (lc2Go g t it1 g1 t1 e vs1 (wipeD δ vs) ds).map .list else none
theorem lcGo_len {g : GE} {t : QT} {e : QE} {base : Pst} : ∀ {ds r : List D}, lcGo g t e base ds = some r → r.length ≤ ds.length
  | [], r, h => by
    cases h
    exact Nat.le_refl _
  | d :: ds, r, h => by
    unfold lcGo at h
    obtain ⟨δ1, _, h⟩ := Option.bind_eq_some_iff.mp h
    obtain ⟨b, _, h⟩ := Option.bind_eq_some_iff.mp h
    split at h
    · obtain ⟨x, _, h⟩ := Option.bind_eq_some_iff.mp h
      obtain ⟨r', h1, h2⟩ := Option.map_eq_some_iff.mp h
      subst h2
      have := lcGo_len h1
      simp only [List.length_cons]
      omega
    · have := lcGo_len h
      simp only [List.length_cons]
      omega
theorem q_lc2 {wi wi1 : TI} {qi qi1 : QA} {g g1 : TG} {pg pg1 : GE} {js js1 vs vs1 : List Nat} {tt tt1 : TT} {qt qt1 : QT} {te : TE} {qe : QE} (hi : SndIW wi qi) (hg : SndG g pg js) (hj : ∀ j ∈ js, j ∈ vs) (ht : SndT tt qt)
    (hi1 : SndI wi1 qi1) (hg1 : SndG g1 pg1 js1) (hj1 : ∀ j ∈ js1, j ∈ vs1) (ht1 : SndT tt1 qt1) (he : SndQ te qe) : SndQ (tLc2 wi g tt wi1 g1 tt1 te vs vs1) (qLc2 qi pg qt qi1 pg1 qt1 qe vs vs1) := fun π C σ H δ d e rel Q k => by
  obtain ⟨ds, e1, e⟩ := Option.bind_eq_some_iff.mp e
  split at e
  · rename_i hlen
    obtain ⟨res, e2, e⟩ := Option.map_eq_some_iff.mp e
    subst e
    refine hi π C σ H δ ds e1 rel _ fun J H1 h1 src => fun Dl hD => ?_
    have rel1 := rel.he h1
    let C2 : Addr → Prop := fun a => C a ∨ a = Dl
    refine ⟨fun i m Hc => m = ds.length - i ∧ i ≤ ds.length ∧ HE H1 Hc ∧ ∃ acc as rest, Hc Dl = some (.lst acc) ∧ Dats C2 Hc acc as ∧ acc.length ≤ 1000 * i ∧ lc2Go pg qt qi1 pg1 qt1 qe vs1 (wipeD δ vs) (ds.drop i) = some rest ∧ as ++ rest = res,
      ⟨ds.length, by omega, Nat.zero_le _, HE.new hD, [], [], res, upd_same, .nil, Nat.le_refl _, by simpa using e2, rfl⟩, fun i m Hc w => ?_⟩
    obtain ⟨em, hil, hx, acc, as, rest, hacc, hds, hal, hgo, hres⟩ := w
    have relc : Rel π C2 σ Hc δ := rel1.more hD hx ⟨_, hacc⟩
    have sr := src C2 Hc (fun a o _ ha => ⟨hx a o ha, ⟨fun z => z.elim id (fun z => absurd (z ▸ ha) (by rw [hD]; exact fun q => nomatch q)), Or.inl⟩⟩) relc.good i
    by_cases hlt : i < ds.length
    · refine .inr ⟨sr.1 hlt, fun Hn => i + 1 ≤ ds.length ∧ HE H1 Hn ∧ ∃ acc as rest, Hn Dl = some (.lst acc) ∧ Dats C2 Hn acc as ∧ acc.length ≤ 1000 * (i + 1) ∧ lc2Go pg qt qi1 pg1 qt1 qe vs1 (wipeD δ vs) (ds.drop (i + 1)) = some rest ∧ as ++ rest = res, fun Hn q => ⟨ds.length - (i + 1), by omega, rfl, q⟩, fun x Hy hy => ?_⟩
      obtain ⟨hHE, d1, ed, wd⟩ := sr.2.2 x Hy hlt hy
      have edrop : ds.drop i = d1 :: ds.drop (i + 1) := by
        obtain ⟨hb, he'⟩ := List.getElem?_eq_some_iff.mp ed
        rw [List.drop_eq_getElem_cons hb, he']
      rw [edrop] at hgo
      unfold lc2Go at hgo
      obtain ⟨δ1, g1', hgo⟩ := Option.bind_eq_some_iff.mp hgo
      obtain ⟨b, g2, hgo⟩ := Option.bind_eq_some_iff.mp hgo
      refine hg π C2 (L2.wipe σ vs) Hy (wipeD δ vs) x d1 δ1 g1' ((relc.he hHE).wipe vs) wd _ fun σ2 H2 he2 r2 s2 _ => ⟨(s2 vs hj).trans (wipe_wipe σ vs vs fun _ z => z), ?_⟩
      refine ht π C2 σ2 H2 δ1 b g2 r2 _ fun H3 h3 => ?_
      have h03 : HE Hc H3 := (hHE.trans he2).trans h3
      cases b with
      | false =>
        have hgo' : lc2Go pg qt qi1 pg1 qt1 qe vs1 (wipeD δ vs) (ds.drop (i + 1)) = some rest := hgo
        exact iteF ⟨by omega, hx.trans h03, acc, as, rest, h03 _ _ hacc, hds.he h03, by omega, hgo', hres⟩
      | true =>
        obtain ⟨es, g3, hgo⟩ := Option.bind_eq_some_iff.mp (show (qi1 δ1).bind _ = some rest from hgo)
        split at hgo
        · rename_i hel
          obtain ⟨r1, g4, hgo⟩ := Option.bind_eq_some_iff.mp hgo
          obtain ⟨rest', g5, g6⟩ := Option.map_eq_some_iff.mp hgo
          refine iteT (hi1 π C2 σ2 H3 δ1 es g3 (r2.he h3) _ fun J1 H4 h4 src1 => ?_)
          have src1 := src1 (fun a => a = Dl) fun a z => .inr z
          have h04 : HE Hc H4 := h03.trans h4
          refine ⟨fun j m Hd => m = es.length - j ∧ j ≤ es.length ∧ (∀ a o, a ≠ Dl → H4 a = some o → Hd a = some o) ∧ ∃ acc1 as1 rst1, Hd Dl = some (.lst acc1) ∧ Dats C2 Hd acc1 as1 ∧ acc1.length ≤ 1000 * i + j ∧ lcGo pg1 qt1 qe (wipeD δ1 vs1) (es.drop j) = some rst1 ∧ as1 ++ rst1 = as ++ r1,
            ⟨es.length, by omega, Nat.zero_le _, fun _ _ _ z => z, acc, as, r1, h04 _ _ hacc, hds.he h04, by omega, by simpa using g4, rfl⟩, fun j m Hd w1 => ?_⟩
          obtain ⟨em1, hjl, hx1, acc1, as1, rst1, hacc1, hds1, hal1, hgo1, hres1⟩ := w1
          have back : HE H1 Hd := fun a o ha => hx1 a o (ne_of_none ha hD) (h04 a o (hx a o ha))
          have rel4 : Rel π C2 σ2 Hd δ1 := by
            have R := (r2.he h3).he h4
            have kk : ∀ a o, ¬ C2 a → H4 a = some o → Hd a = some o ∧ ¬ C2 a := fun a o hc ho => ⟨hx1 a o (fun z => hc (.inr z)) ho, hc⟩
            have noD : ∀ {a : Addr}, Own σ2 δ1 a → a ≠ Dl := fun {a} hOwn z => by
              have h5 : Own (L2.wipe σ vs) (wipeD δ vs) a := (by assumption : ∀ a, Own σ2 δ1 a → Own (L2.wipe σ vs) (wipeD δ vs) a) a hOwn
              obtain ⟨o, q⟩ := rel1.good a (rel1.ownC (own_wipe h5))
              rw [z, hD] at q
              cases q
            refine ⟨R.len, fun p s hs => ?_, fun a h => ?_, fun kx a h => ?_, R.own⟩
            · obtain ⟨ov, q1, q2⟩ := R.slot p s hs
              refine ⟨ov, q1, ?_⟩
              cases s with
              | no => trivial
              | im dd =>
                obtain ⟨u, f1, f2⟩ := q2
                exact ⟨u, f1, f2.to kk⟩
              | ce w c =>
                obtain ⟨a, f1, f2, f3, f4⟩ := q2
                subst f1
                have hn := noD ⟨p, w, c, hs, q1⟩
                obtain ⟨o, ho⟩ := R.good a f2
                exact ⟨a, rfl, f2, f3.to kk (by rw [ho, hx1 a o hn ho]), f4⟩
            · by_cases z : a = Dl
              · exact ⟨_, by rw [z]; exact hacc1⟩
              · obtain ⟨o, q⟩ := R.good a h
                exact ⟨o, hx1 a o z q⟩
            · by_cases z : a = Dl
              · exact ⟨_, by rw [z]; exact hacc1⟩
              · obtain ⟨o, q⟩ := R.par kx a h
                exact ⟨o, hx1 a o z q⟩
          have sr1 := src1 C2 Hd (fun a o hn ha => ⟨hx1 a o hn ha, Iff.rfl⟩) rel4.good j
          by_cases hlt1 : j < es.length
          · refine .inr ⟨sr1.1 hlt1, fun Hn => j + 1 ≤ es.length ∧ (∀ a o, a ≠ Dl → H4 a = some o → Hn a = some o) ∧ ∃ acc1 as1 rst1, Hn Dl = some (.lst acc1) ∧ Dats C2 Hn acc1 as1 ∧ acc1.length ≤ 1000 * i + (j + 1) ∧ lcGo pg1 qt1 qe (wipeD δ1 vs1) (es.drop (j + 1)) = some rst1 ∧ as1 ++ rst1 = as ++ r1, fun Hn q => ⟨es.length - (j + 1), by omega, rfl, q⟩, fun x1 Hy1 hy1 => ?_⟩
            obtain ⟨hHE1, dd, ed1, wd1⟩ := sr1.2.2 x1 Hy1 hlt1 hy1
            have edrop1 : es.drop j = dd :: es.drop (j + 1) := by
              obtain ⟨hb, he'⟩ := List.getElem?_eq_some_iff.mp ed1
              rw [List.drop_eq_getElem_cons hb, he']
            rw [edrop1] at hgo1
            unfold lcGo at hgo1
            obtain ⟨δ3, k1, hgo1⟩ := Option.bind_eq_some_iff.mp hgo1
            obtain ⟨b1, k2, hgo1⟩ := Option.bind_eq_some_iff.mp hgo1
            refine hg1 π C2 (L2.wipe σ2 vs1) Hy1 (wipeD δ1 vs1) x1 dd δ3 k1 ((rel4.he hHE1).wipe vs1) wd1 _ fun σ3 H5 he5 r5 s5 _ => ⟨(s5 vs1 hj1).trans (wipe_wipe σ2 vs1 vs1 fun _ z => z), ?_⟩
            refine ht1 π C2 σ3 H5 δ3 b1 k2 r5 _ fun H6 h6 => ?_
            have h16 : HE Hd H6 := (hHE1.trans he5).trans h6
            cases b1 with
            | false =>
              have hgo' : lcGo pg1 qt1 qe (wipeD δ1 vs1) (es.drop (j + 1)) = some rst1 := hgo1
              exact iteF ⟨by omega, fun a o hn ha => h16 a o (hx1 a o hn ha), acc1, as1, rst1, h16 _ _ hacc1, hds1.he h16, by omega, hgo', hres1⟩
            | true =>
              obtain ⟨y, k3, hgo1⟩ := Option.bind_eq_some_iff.mp (show (qe δ3).bind _ = some rst1 from hgo1)
              obtain ⟨rst2, k4, k5⟩ := Option.map_eq_some_iff.mp hgo1
              refine iteT (he π C2 σ3 H6 δ3 y k3 (r5.he h6) _ fun v H7 h7 w7 => ⟨acc1, h7 _ _ (h16 _ _ hacc1), sz_lt (by omega), by omega, fun a o hn ha => ?_, acc1 ++ [v], as1 ++ [y], rst2, upd_same, ?_, by simp; omega, k4, by rw [← hres1, ← k5]; simp⟩)
              · rw [upd_ne hn]
                exact h7 a o (h16 a o (hx1 a o hn ha))
              · have kk : ∀ a o, ¬ C2 a → H7 a = some o → (upd H7 Dl (.lst (acc1 ++ [v]))) a = some o ∧ ¬ C2 a := fun a o hc ho => ⟨by rw [upd_ne (fun z => hc (.inr z))]; exact ho, hc⟩
                exact ((hds1.he (h16.trans h7)).to kk).append (.cons (w7.to kk) .nil)
          · have ej : j = es.length := by omega
            subst ej
            rw [List.drop_length] at hgo1
            cases hgo1
            rw [List.append_nil] at hres1
            refine .inl ⟨sr1.2.1 rfl, by omega, back, acc1, as1, rest', hacc1, hds1, by omega, g5, by rw [← hres, ← g6, hres1]; simp⟩
        · cases hgo
    · have ei : i = ds.length := by omega
      subst ei
      rw [List.drop_length] at hgo
      cases hgo
      rw [List.append_nil] at hres
      subst hres
      refine .inl ⟨sr.2.1 rfl, k _ Hc (h1.trans hx) ?_⟩
      exact .lst (rel1.fresh hD) hacc (hds.to fun a o hc ho => ⟨ho, fun z => hc (.inl z)⟩)
  · cases e
end Pu

namespace Pu
open PySem PySem.Spec PyProof.Rows L2
abbrev freshSet (w : World) : Obj := { cls := .type "set", dict := none, data := .set #[] 0 (.fresh 0 0 (!w.params.followText "set-order")) }
set_option maxRecDepth 100000 in
set_option maxHeartbeats 6400000 in
/-- set(xs), xs a list of ints -/
theorem set_of_list {P : Program} {w : World} {A : Around} {E : Value → Shared → Prop} {s : Shared} {l : Addr} {its : Array Value} (ns : List Int) {Q : Value → Shared → Prop} (hh : A.handled = none) (hl : s.heap.IsList l its) (hit : IntsAre its.toList ns) (hb : ns.length + 1 < scanBound)
    (hq : ∀ (h' : Heap) (tk c : Nat), SetR w h' s.heap.objs.size (fun j => decide (j ∈ ns)) c → c ≤ ns.length → (∀ b o, s.heap.get? b = some o → h'.get? b = some o) → Q (.ref s.heap.objs.size) { s with heap := h', toks := tk }) :
    wpAny (model P w) A (call (.type "set") [.ref l]) Q E s := by
  have size0 : its.size = ns.length := by
    have z := IntsAre.length hit
    rwa [Array.length_toList] at z
  obtain ⟨cc, tt, mro0⟩ := PySem.F.called_set.mro
  have made0 := PySem.F.called_set.made
  have sub0 := PySem.F.called_set.sub
  refine wpAny_call (codeAny_of_tree (show wpAny _ _ (callAny (.type "set") _) _ _ _ from ?_))
  refine wpAny_pure ⟨Code.quiet_builtin _ (by decide +kernel), codeAny_builtin PySem.F.entry_type_call ?_⟩
  rw [Around.under_plain (weight_type_call_type "set" [.ref l] []) rfl]
  have nt0 := PySem.F.called_set.notType
  have cr0 := PySem.F.called_set.canCreate
  have tc0 := PySem.F.typeCall_set_1 (.ref l)
  repeat (any_goals (first | assumption | wp_step))
  refine codeAny_mono (code_set_led1 (.ref l) (E := E) (Q₁ := fun obj s1 => obj = .ref s.heap.objs.size ∧ s1 = { s with heap := s.heap.push (freshSet w) }) ⟨rfl, rfl⟩) fun r s1 hr => ?_
  match r, hr with
  | .error e, hr => exact hr
  | .ok .next, hr => exact hr
  | .ok .brk, hr => exact hr
  | .ok .cont, hr => exact hr
  | .ok (.ret obj), hr =>
    obtain ⟨rfl, rfl⟩ := hr
    have at0 : (s.heap.push (freshSet w)).get? s.heap.objs.size = some (freshSet w) := Heap.get?_push_size _ rfl
    have ty0 : Shared.TypeIs { s with heap := s.heap.push (freshSet w) } (.ref s.heap.objs.size) "set" := ⟨_, at0, rfl⟩
    have li0 := PySem.F.called_set.init.lookup
    have bi0 := PySem.F.called_set.init.bind (.ref s.heap.objs.size)
    repeat (any_goals (first | assumption | wp_step))
    refine codeAny_mono (codeAny_call_builtin (R := wants (fun r s2 => r = .none ∧ ∃ h' tk c, s2 = { s with heap := h', toks := tk } ∧ SetR w h' s.heap.objs.size (fun j => decide (j ∈ ns)) c ∧ c ≤ ns.length ∧
      (∀ b o, s.heap.get? b = some o → h'.get? b = some o)) E) PySem.F.called_set.init.plain PySem.F.entry_set_init (check_set_init_1 ty0 ?_)) fun r2 s2 hr2 => ?_
    · obtain ⟨⟨cl, dd, dt, sl⟩, get0, cls0, n0, dat0⟩ := hl
      simp only at cls0 dat0
      subst cls0 dat0
      have get1 := Heap.get?_push_of_some (freshSet w) get0
      have su0 := PySem.F.sub_list_set
      have sf0 := PySem.F.sub_list_frozenset
      have nd0 : (Value.type "list" == Value.type "dict") = false := by decide
      have isl : (s.heap.push (freshSet w)).IsList l its := ⟨_, get1, rfl, n0, rfl⟩
      unfold Builtin.«set.__init__» noKeywords Builtin.Frozenset.updateFrom
      generalize hIT : pyIter = IT
      wp_walk
      subst hIT
      refine wpAny_pyIter_list isl (wpAny_bind (wpAny_runValue ?_))
      have lt0 : l < s.heap.objs.size := Heap.lt_size get0
      have hd3 : A.in1.in1.in1.handled = none := by simp [hh]
      have sz1 : (s.heap.push (freshSet w)).objs.size = s.heap.objs.size + 1 := Heap.size_push ..
      have ne1 : l ≠ (s.heap.push (freshSet w)).objs.size := by rw [sz1]; exact Nat.ne_of_lt (Nat.lt_succ_of_lt lt0)
      have ne2 : s.heap.objs.size ∉ [(s.heap.push (freshSet w)).objs.size, l] := by
        simp only [List.mem_cons, List.not_mem_nil, or_false, not_or]
        rw [sz1]
        exact ⟨Nat.ne_of_lt (Nat.lt_succ_self _), Nat.ne_of_gt lt0⟩
      have val0 : ∀ (i : Nat) (v : Value), its[i]? = some v → ∃ k t, ns[i]? = some k ∧ v = .int k t := fun i v hv => by
        have hi : i < ns.length := by rw [← size0]; exact (Array.getElem?_eq_some_iff.mp hv).1
        obtain ⟨t, e⟩ := IntsAre.int_at hit i v (by rw [Array.getElem?_toList]; exact hv)
        exact ⟨ns[i], t, List.getElem?_eq_getElem hi, by rw [e, List.getD_eq_getElem?_getD, List.getElem?_eq_getElem hi] <;> rfl⟩
      refine set_update_ints ((Walks.list hd3 _ l ne1 its).toS) s.heap.objs.size ne2 ns size0 hb val0 (its.size - 0) 0 _ (by omega) (Nat.zero_le _)
        ⟨⟨_, Heap.get?_push_size _ rfl, rfl, rfl⟩, (isl.push _)⟩ ⟨0, Nat.le_refl 0, setR_new_at (Heap.get?_push_of_some _ at0)⟩ fun s3 c3 mv c3le sr3 => ?_
      obtain ⟨h3, g3, d3, t3, o3⟩ := s3
      have eg : g3 = s.gens := mv.gens
      have ed : d3 = s.drawn := mv.drawn
      have eo : o3 = s.os := mv.os
      subst eg ed eo
      show wpAny _ _ _ _ _ _
      refine wpAny_pure (show wpAny _ _ (ret Value.none) _ _ _ from ?_)
      rw [size0] at c3le
      refine wpAny_pure ⟨rfl, h3, t3, c3, rfl, sr3, c3le, fun b o e => ?_⟩
      have b0 : b < s.heap.objs.size := Heap.lt_size e
      refine mv.heap b o ?_ (Heap.get?_push_of_some _ (Heap.get?_push_of_some _ e))
      simp only [List.mem_cons, List.not_mem_nil, or_false, not_or]
      rw [sz1]
      exact ⟨Nat.ne_of_lt b0, Nat.ne_of_lt (Nat.lt_succ_of_lt b0)⟩
    · match r2, hr2 with
      | .error e, hr2 => exact hr2
      | .ok .next, hr2 => exact hr2
      | .ok .brk, hr2 => exact hr2
      | .ok .cont, hr2 => exact hr2
      | .ok (.ret v), hr2 =>
        obtain ⟨rfl, h', tk, c, rfl, sr, cle, kp⟩ := hr2
        repeat (any_goals (first | assumption | wp_step))
        exact hq h' tk c sr cle kp
/-- set(e) of ints -/
def rSetI (w : World) : List V → Hp → VK → Prop := fun xs H Q => ∃ (p : Addr) (ns : List Int), xs = [.ref p] ∧ (H p = some (.lst (ns.map V.int)) ∨ H p = some (.tup (ns.map V.int))) ∧ ns.length ≤ 60 ∧
  ∀ (q : Addr) (c : Nat), H q = none → c ≤ ns.length → Q (.ref q) (upd H q (SetO w q (fun j => decide (j ∈ ns)) c))
theorem cr_setI {X : Cx} (hc : X.calm = true) : CallR X (.type "set") (rSetI X.w) := fun pins s σ H xs us Q I r h => by
  obtain ⟨p, ns, rfl, hp, hl, q⟩ := h
  obtain ⟨u, rfl, ru⟩ := vals1 r
  obtain rfl : u = Value.ref p := ru
  have hb : ns.length + 1 < scanBound := by
    unfold scanBound
    omega
  have fin : ∀ (h' : Heap) (tk c : Nat), SetR X.w h' s.heap.objs.size (fun j => decide (j ∈ ns)) c → c ≤ ns.length → (∀ b o, s.heap.get? b = some o → h'.get? b = some o) → EP X pins σ Q (.ref s.heap.objs.size) { s with heap := h', toks := tk } := fun h' tk c sr cl kp =>
    ⟨.ref _, _, I.laid (t' := tk) kp (Nat.le_refl _) (setO_new sr), rfl, q _ c (I.hok.fresh (Nat.le_refl _)) cl⟩
  rcases hp with hp | hp
  · obtain ⟨its, rv, pl, hz⟩ := I.list (sqL (K := X.K) hp)
    exact set_of_list ns (I.ok.hd hc) pl.isList (by simpa using Vals.ints rv) hb fin
  · obtain ⟨its, rv, pt, hz⟩ := I.tuple (sqT (K := X.K) hp)
    exact call_set_tupI ns (I.ok.hd hc) (show s.heap.IsTuple p its.toArray from pt) (by simpa using Vals.ints rv) hb fin
/-- sorted(set(e)) of ints -/
def insU (x : Int) : List Int → List Int
  | [] => [x]
  | y :: r => if x < y then x :: y :: r else if x = y then y :: r else y :: insU x r
def sortU : List Int → List Int
  | [] => []
  | x :: r => insU x (sortU r)
theorem insU_mem {x z : Int} : ∀ {l : List Int}, z ∈ insU x l ↔ z = x ∨ z ∈ l
  | [] => by simp [insU]
  | y :: r => by
    unfold insU
    split
    · simp
    · split
      · rename_i h
        subst h
        simp
      · simp only [List.mem_cons, insU_mem (l := r)]
        constructor
        · rintro (h | h | h)
          · exact .inr (.inl h)
          · exact .inl h
          · exact .inr (.inr h)
        · rintro (h | h | h)
          · exact .inr (.inl h)
          · exact .inl h
          · exact .inr (.inr h)
theorem insU_up {x : Int} : ∀ {l : List Int}, l.Pairwise (· < ·) → (insU x l).Pairwise (· < ·)
  | [], _ => by simp [insU]
  | y :: r, h => by
    obtain ⟨h1, h2⟩ := List.pairwise_cons.mp h
    unfold insU
    split
    · refine List.pairwise_cons.mpr ⟨fun z hz => ?_, h⟩
      rcases List.mem_cons.mp hz with rfl | hz
      · assumption
      · have := h1 z hz
        omega
    · split
      · exact h
      · refine List.pairwise_cons.mpr ⟨fun z hz => ?_, insU_up h2⟩
        rcases insU_mem.mp hz with rfl | hz
        · omega
        · exact h1 z hz
theorem sortU_mem {z : Int} : ∀ {l : List Int}, z ∈ sortU l ↔ z ∈ l
  | [] => by simp [sortU]
  | x :: r => by
    unfold sortU
    rw [insU_mem, sortU_mem, List.mem_cons]
theorem sortU_up : ∀ {l : List Int}, (sortU l).Pairwise (· < ·)
  | [] => by simp [sortU]
  | x :: r => insU_up sortU_up
theorem up_one : ∀ {a b : List Int}, a.Pairwise (· < ·) → b.Pairwise (· < ·) → (∀ z, z ∈ a ↔ z ∈ b) → a = b
  | [], [], _, _, _ => rfl
  | [], y :: b, _, _, h => absurd ((h y).mpr List.mem_cons_self) (by simp)
  | x :: a, [], _, _, h => absurd ((h x).mp List.mem_cons_self) (by simp)
  | x :: a, y :: b, ha, hb, h => by
    obtain ⟨a1, a2⟩ := List.pairwise_cons.mp ha
    obtain ⟨b1, b2⟩ := List.pairwise_cons.mp hb
    have e : x = y := by
      rcases List.mem_cons.mp ((h x).mp List.mem_cons_self) with e | e
      · exact e
      · rcases List.mem_cons.mp ((h y).mpr List.mem_cons_self) with e' | e'
        · exact e'.symm
        · have := b1 x e
          have := a1 y e'
          omega
    subst e
    rw [up_one a2 b2 fun z => ?_]
    constructor
    · intro hz
      rcases List.mem_cons.mp ((h z).mp (List.mem_cons_of_mem _ hz)) with e | e
      · have := a1 z hz
        omega
      · exact e
    · intro hz
      rcases List.mem_cons.mp ((h z).mpr (List.mem_cons_of_mem _ hz)) with e | e
      · have := b1 z hz
        omega
      · exact e
def dSortSet (d : D) : Option D := (dItems d).bind fun ds => (dInts ds).bind fun ns => if ns.length ≤ 60 then some (.list ((sortU ns).map .int)) else none
def tSortSet (w : World) (te : TE) : TE := tCB (rSortedSet w) (tCons (tCB (rSetI w) (tCons te tNil)) tNil)
theorem dats_ints {C : Addr → Prop} {H : Hp} : ∀ {ns : List Int}, Dats C H (ns.map V.int) (ns.map .int)
  | [] => .nil
  | n :: r => .cons (.int n) dats_ints
theorem q_sortSet {w : World} {te : TE} {qe : QE} (h : SndW te qe) : SndQ (tSortSet w te) (q1 dSortSet qe) := fun π C σ H δ d e rel Q k => by
  obtain ⟨x, e1, e⟩ := Option.bind_eq_some_iff.mp e
  obtain ⟨ds, e2, e⟩ := Option.bind_eq_some_iff.mp e
  obtain ⟨ns, e3, e⟩ := Option.bind_eq_some_iff.mp e
  split at e
  · rename_i hl
    cases e
    refine h π C σ H δ x e1 rel _ fun v H1 h1 w1 => ?_
    have hp : ∃ p, v = .ref p ∧ (H1 p = some (.lst (ns.map V.int)) ∨ H1 p = some (.tup (ns.map V.int))) := by
      unfold dItems at e2
      split at e2
      · cases e2
        obtain ⟨p, vs, ev, hp, dp⟩ := w1.list
        have := dp.ints e3
        subst this
        exact ⟨p, ev, .inl hp⟩
      · cases e2
        obtain ⟨p, vs, ev, _, hp, dp⟩ := w1.tup
        have := dp.ints e3
        subst this
        exact ⟨p, ev, .inr hp⟩
      · cases e2
    obtain ⟨p, ev, hp⟩ := hp
    subst ev
    refine ⟨p, ns, rfl, hp, hl, fun q c hq hc => ⟨q, _, c, rfl, upd_same, by omega, fun ms r hup hmem hlen hr => ?_⟩⟩
    have em : ms = sortU ns := up_one hup sortU_up fun z => by rw [hmem z, sortU_mem]; simp
    subst em
    have h2 := h1.trans (HE.new (o := SetO w q (fun j => decide (j ∈ ns)) c) hq)
    have g := (rel.he h2).good
    exact k _ _ (h2.trans (HE.new hr)) (new_lst g dats_ints hr)
  · cases e
end Pu

namespace Pu
open PySem L2
/-! dicts of one's own, keys texts -/
def hasD (kvs : List (Str × D)) (s : Str) : Bool := kvs.any fun kv => decide (kv.1 = s)
def putD (kvs : List (Str × D)) (s : Str) (d : D) : List (Str × D) := if hasD kvs s = true then kvs.map (fun kv => if kv.1 = s then (kv.1, d) else kv) else kvs ++ [(s, d)]
def getK (i : Nat) (δ : Pst) : Option (Option Nat × List (Str × D)) := match δ[i]? with
  | some (.ce w (.k kvs)) => some (w, kvs)
  | _ => none
theorem getK_some {i : Nat} {δ : Pst} {w : Option Nat} {xs : List (Str × D)} (h : getK i δ = some (w, xs)) : δ[i]? = some (.ce w (.k xs)) := by
  unfold getK at h
  split at h
  · cases h
    assumption
  · cases h
theorem key_dec (s t : Str) : decide ((Sum.inr s : Key) = .inr t) = decide (s = t) := key_rr s t
theorem KDats.has {C : Addr → Prop} {H : Hp} {us : List (Key × V)} {kvs : List (Str × D)} (w : KDats C H us kvs) (s : Str) : (valV us (.inr s)).isSome = hasD kvs s := by
  rw [← valV_any]
  unfold hasD
  induction w with
  | nil => rfl
  | cons r _ ih => rw [List.any_cons, List.any_cons, ih, r.1, key_dec]
theorem KDats.put {C : Addr → Prop} {H : Hp} {us : List (Key × V)} {kvs : List (Str × D)} (w : KDats C H us kvs) (s : Str) {v : V} {d : D} (hv : Dat C H v d) : KDats C H (putK us (.inr s) v) (putD kvs s d) := by
  have hh : (us.any fun kv => decide (kv.1 = (.inr s : Key))) = hasD kvs s := by rw [valV_any]; exact w.has s
  unfold putK putD
  rw [hh]
  have rep : ∀ {us : List (Key × V)} {kvs : List (Str × D)}, KDats C H us kvs → KDats C H (us.map fun kv => if kv.1 = .inr s then (kv.1, v) else kv) (kvs.map fun kv => if kv.1 = s then (kv.1, d) else kv) := fun w => by
    induction w with
    | nil => exact .nil
    | @cons a b _ _ r t ih =>
      refine .cons ?_ ih
      obtain ⟨r1, r2⟩ := r
      show (if a.1 = .inr s then (a.1, v) else a).1 = .inr (if b.1 = s then (b.1, d) else b).1 ∧ Dat C H (if a.1 = .inr s then (a.1, v) else a).2 (if b.1 = s then (b.1, d) else b).2
      by_cases e : b.1 = s
      · rw [if_pos (by rw [r1, e]), if_pos e]
        exact ⟨r1, hv⟩
      · rw [if_neg (by rw [r1]; exact fun z => e (Sum.inr.inj z)), if_neg e]
        exact ⟨r1, r2⟩
  split
  · exact rep w
  · have app : ∀ {us : List (Key × V)} {kvs : List (Str × D)}, KDats C H us kvs → KDats C H (us ++ [(.inr s, v)]) (kvs ++ [(s, d)]) := fun w => by
      induction w with
      | nil => exact .cons ⟨rfl, hv⟩ .nil
      | cons r _ ih => exact .cons r ih
    exact app w
def asS : D → Option Str
  | .str s => some s
  | _ => none
theorem asS_some {d : D} {b : Str} (h : asS d = some b) : d = .str b := by
  unfold asS at h
  split at h
  · cases h; rfl
  · cases h
/-- e not in x -/
def qDNotIn (qe : QE) (i : Nat) : QE := fun δ => (qe δ).bind fun d => (asS d).bind fun s => (getK i δ).map fun r => .bool (!hasD r.2 s)
theorem q_dnotin {te : TE} {qe : QE} {i : Nat} (he : SndQ te qe) : SndQ (tDNotIn te (tVar i)) (qDNotIn qe i) := fun π C σ H δ d e rel Q k => by
  obtain ⟨x, e1, e⟩ := Option.bind_eq_some_iff.mp e
  obtain ⟨s, e2, e⟩ := Option.bind_eq_some_iff.mp e
  obtain ⟨⟨w, kvs⟩, e3, e⟩ := Option.map_eq_some_iff.mp e
  cases e
  have e2 := asS_some e2
  subst e2
  refine he π C σ H δ _ e1 rel _ fun v H1 h1 w1 => ?_
  obtain ⟨ov, q1, a, q2, q3, ⟨us, q4, q5⟩, _⟩ := (rel.he h1).slot i _ (getK_some e3)
  subst q2
  refine ⟨_, q1, a, _, rfl, by rw [w1.str_eq]; exact DGet.k (k := .inr s) q4, ?_⟩
  rw [q5.has s]
  exact k _ H1 h1 (.bl _)
/-- x[e] = f -/
def sDPutD (i : Nat) (qk qv : QE) : SE := fun δ => (qv δ).bind fun d => (qk δ).bind fun y => (asS y).bind fun s => (getK i δ).bind fun r => if r.2.length < 100000 then some (.nx, δ.set i (.ce r.1 (.k (putD r.2 s d)))) else none
theorem KDats.length {C : Addr → Prop} {H : Hp} {us : List (Key × V)} {kvs : List (Str × D)} (w : KDats C H us kvs) : us.length = kvs.length := Paired.length w
theorem s_dput {i : Nat} {tk tv : TE} {qk qv : QE} (hk : SndQ tk qk) (hv : SndQ tv qv) : SndS (sDPut (tVar i) tk tv) (sDPutD i qk qv) := fun π C σ H δ o δ' e rel D k => by
  obtain ⟨d, e1, e⟩ := Option.bind_eq_some_iff.mp e
  obtain ⟨y, e2, e⟩ := Option.bind_eq_some_iff.mp e
  obtain ⟨s, e3, e⟩ := Option.bind_eq_some_iff.mp e
  obtain ⟨⟨w, kvs⟩, e4, e⟩ := Option.bind_eq_some_iff.mp e
  split at e
  · rename_i hl
    cases e
    have e3 := asS_some e3
    subst e3
    have hs := getK_some e4
    refine hv π C σ H δ d e1 rel _ fun v H1 h1 w1 => ?_
    obtain ⟨a, q1, _, _⟩ := own_put (c' := .k kvs) (rel.he h1) hs
    refine ⟨_, q1, hk π C σ H1 δ _ e2 (rel.he h1) _ fun z H2 h2 w2 => ?_⟩
    have rel2 := (rel.he h1).he h2
    obtain ⟨a', q1', ⟨us, q2', q3'⟩, hc⟩ := own_put (c' := .k (putD kvs s d)) rel2 hs
    have ea : a' = a := by
      rw [q1] at q1'
      cases q1'
      rfl
    subst ea
    have ca := rel2.ownC ⟨i, w, _, hs, q1'⟩
    refine ⟨a', _, rfl, by rw [w2.str_eq]; exact DPut.k (k := .inr s) (v := v) q2' (by rw [q3'.length]; exact sz_lt hl), ?_⟩
    refine k C σ _ ((Stp.he rel (h1.trans h2)).trans (Stp.chg (hc (.dK (putK us (.inr s) v)) ⟨_, upd_same, ?_⟩)))
    have kk : ∀ b o', ¬ C b → H2 b = some o' → (upd H2 a' (.dK (putK us (.inr s) v))) b = some o' ∧ ¬ C b := fun b o' hc ho => ⟨by rw [upd_ne (ne_c ca hc)]; exact ho, hc⟩
    exact (q3'.to kk).put s ((w1.he h2).to kk)
  · cases e
/-- x = {} -/
theorem s_ownD {i : Nat} : SndS (tAsg tDNewK (gName i)) (sOwnD i) := fun π C σ H δ o δ' e rel D k => by
  obtain ⟨δ1, e2, e⟩ := Option.map_eq_some_iff.mp e
  cases e
  obtain ⟨hi, q1⟩ := setOwn_some e2
  subst q1
  exact fun p hp => k _ _ _ (own_new rel hi hp fun C' kk => ⟨[], upd_same, .nil⟩)
end Pu

namespace Pu
open PySem L2
/-! a law's numbers, drawn from the script; the law's end -/
def spNum (K : PySem.W.Frag) (f : List Int → Option D) : Sp := fun vs H Q _ => ∃ (a : Addr) (ns : List Int) (d : D), vs = [.ref a] ∧ SqL K H a (ns.map V.int) ∧ ns.length ≤ 63 ∧ f ns = some d ∧ ∀ v H', HE H H' → Dat (fun _ => False) H' v d → Q v H'
/-- the state ahead of the loop over the script: nothing but the list that is filled at place 1 -/
def numSt (N : Nat) : Pst := (List.replicate N Sv.no).set 1 (.ce none (.l []))
def numF (N : Nat) (g : GE) (b r : SE) (ns : List Int) : Option D := (forGo g b (ns.map .int) (numSt N)).bind fun x => match x.1 with
  | .nx => (r x.2).bind fun y => match y.1 with
    | .rt d => some d
    | _ => none
  | _ => none
theorem rel_nos (N : Nat) (a : Addr) (H : Hp) : Rel [] (fun _ => False) (some (.ref a) :: List.replicate N none) H (List.replicate (N + 1) Sv.no) := by
  have no : ∀ (i : Nat) s, (List.replicate (N + 1) Sv.no)[i]? = some s → s = .no := fun i s h => by
    rw [List.getElem?_replicate] at h
    split at h
    · cases h
      rfl
    · cases h
  refine ⟨by simp, fun i s hs => ?_, fun _ z => z.elim, fun k b h => by simp at h, fun i j b w w' c c' h => nomatch no _ _ h⟩
  have e := no i s hs
  subst e
  have hi : i < (some (V.ref a) :: List.replicate N none).length := by
    have := (List.getElem?_eq_some_iff.mp hs).1
    simpa using this
  exact ⟨_, List.getElem?_eq_getElem hi, trivial⟩
theorem cut63 {ns : List Int} (h : ns.length ≤ 63) : cutV (ns.map V.int) none (some 63) = ns.map V.int := by
  have h0 : HT.sIx (ns.map V.int).length 0 none = 0 := rfl
  have h1 : HT.sIx (ns.map V.int).length (ns.map V.int).length (some 63) = (ns.map V.int).length := by
    have e := HT.sIx_nat (ns.map V.int).length (ns.map V.int).length 63
    rw [show ((63 : Nat) : Int) = 63 from rfl] at e
    rw [e, List.length_map]
    omega
  unfold cutV
  rw [h0, h1]
  exact List.take_of_length_le (by simp)
theorem dats_ints' {C : Addr → Prop} {H : Hp} : ∀ (ns : List Int), Dats C H (ns.map V.int) (ns.map .int)
  | [] => .nil
  | n :: r => .cons (.int n) (dats_ints' r)
theorem num_read {K : PySem.W.Frag} {N : Nat} (hN : 0 < N) {g : TG} {pg : GE} {js : List Nat} {tb tr : TS} {pb pr : SE} (hg : SndG g pg js) (hb : SndS tb pb) (hr : SndS tr pr) {a : Addr} {ns : List Int} {d : D} {H : Hp} (hS : SqL K H a (ns.map V.int)) (hl : ns.length ≤ 63)
    (hf : numF (N + 1) pg pb pr ns = some d) {Q : VK} (q : ∀ v H', HE H H' → Dat (fun _ => False) H' v d → Q v H') :
    tSeq (tAsg (tLst tNil) (gName 1)) (tSeq (tFor (iSeq K (tSl (rSlM K) (tVar 0) tNoPart (tPart (tC (.int 63))))) g tb) tr) { nx := fun _ H' => Q .non H', rt := Q } (some (.ref a) :: List.replicate N none) H := by
  refine ⟨Nat.zero_le _, fun p hp => ?_⟩
  have r0 := rel_nos N a H
  have s1 := own_new r0 (i := 1) (by simp; omega) hp (o := .lst []) (c := .l []) fun C' kk => ⟨[], upd_same, .nil⟩
  have hS1 : SqL K (upd H p (.lst [])) a (ns.map V.int) := by
    rcases hS with (h | ⟨o, h⟩) | h
    · exact .inl (.inl (HE.new hp _ _ h))
    · exact .inl (.inr ⟨o, HE.new hp _ _ h⟩)
    · exact .inr h
  obtain ⟨⟨o, δ1⟩, e1, e2⟩ := Option.bind_eq_some_iff.mp hf
  refine ⟨.ref a, rfl, 63, rfl, .inl ⟨a, _, rfl, hS1, fun x hx => ?_⟩⟩
  rw [cut63 hl]
  refine .inl ⟨x, rfl, ⟨_, sqL upd_same⟩, ?_⟩
  have he := HE.new (o := .lst (ns.map V.int)) hx
  have r1 := s1.rel.he he
  have nC : ¬ (False ∨ x = p) := fun z => z.elim id fun z => by
    rw [z, upd_same] at hx
    cases hx
  have dn : Dats (fun b => False ∨ b = p) (upd (upd H p (.lst [])) x (.lst (ns.map V.int))) (ns.map V.int) (ns.map .int) := dats_ints' ns
  refine for_core hg hb e1 r1 (src_list (K := K) (a := x) (fun a => r1.ownC) (fun z => nC (r1.ownC z)) upd_same dn) fun C1 σ1 H1 st1 => ?_
  have st01 := (s1.trans (Stp.he s1.rel he)).trans st1
  cases o with
  | nx =>
    obtain ⟨⟨o2, δ2⟩, e3, e4⟩ := Option.bind_eq_some_iff.mp e2
    refine hr [] C1 σ1 H1 δ1 o2 δ2 e3 st1.rel _ fun C2 σ2 H2 st2 => ?_
    have st := st01.trans st2
    cases o2 with
    | rt d' =>
      cases e4
      refine fun v wv => q v H2 (fun b ob hb => (st.keep b ob (fun ⟨i, w, c, z, _⟩ => ?_) hb).1) (wv.to fun b ob hc ho => ⟨ho, fun z => z⟩)
      rw [List.getElem?_replicate] at z
      split at z <;> cases z
    | nx => cases e4
    | bk => cases e4
    | ct => cases e4
  | rt d' => cases e2
  | bk => cases e2
  | ct => cases e2
/-- the state behind the law's first row: the script, the numbers -/
def lawSt (N : Nat) (d : D) : Pst := (List.replicate N Sv.no).set 1 (.im d)
def spLawM (K : PySem.W.Frag) : Sp := fun vs H Q _ => ∃ (a : Addr) (ns : List Int), vs = [.ref a] ∧ SqL K H a (ns.map V.int) ∧ ns.length ≤ 63 ∧ ∀ H', Q (.bl true) H'
theorem law_read {K : PySem.W.Frag} {N : Nat} (hN : 0 < N) {f : List Int → Option D} {E : XK} {tr : TS} {pr : SE} (hr : SndS tr pr) {a : Addr} {ns : List Int} {d : D} {δ' : Pst} {H : Hp} (hS : SqL K H a (ns.map V.int)) (hl : ns.length ≤ 63)
    (hf : f ns = some d) (hp : pr (lawSt (N + 1) d) = some (.rt (.bool true), δ')) {Q : VK} (q : ∀ H', Q (.bl true) H') :
    tSeq (tAsg (tCall (spNum K f) [] E (tCons (tVar 0) tNil)) (gName 1)) tr { nx := fun _ H' => Q .non H', rt := Q } (some (.ref a) :: List.replicate N none) H := by
  refine ⟨.ref a, rfl, a, ns, d, rfl, hS, hl, hf, fun v H1 h1 w => ?_⟩
  have r1 := (rel_nos N a H).he h1
  exact hr [] (fun _ => False) _ H1 _ _ δ' hp (r1.set (i := 1) (by simp; omega) w) _ fun C' σ' H' st v' wv => by
    have e := wv.bool_eq
    subst e
    exact q H'
end Pu

set_option maxHeartbeats 4000000
namespace Pu
open PySem PySem.Spec PyProof.Rows L2 RZ
/-! list(zip(t, u)) of two tuples: the pairs are kept by the new list, so each turn makes a new one -/
section
variable {P : Program} {w : World} {A : Around} {E : Value → Shared → Prop} {s : Shared} {z ti to i1 i2 t u : Addr} {xs ys : Array Value}
/-- a zip over two tuples, k pairs given out; S: the list that keeps them -/
def ZlSt (h : Heap) (z ti to i1 i2 t u S : Addr) (xs ys : Array Value) (k : Nat) : Prop :=
  IsPair h ti (.ref i1) (.ref i2) ∧ h.IsTupleIter i1 t k ∧ h.IsTupleIter i2 u k ∧ h.IsTuple t xs ∧ h.IsTuple u ys ∧
    ((IsZip h z ti to .none ∧ ∃ a b, IsPair h to a b) ∨ ∃ T f oT, IsZipHeld h z ti to T f ∧ h.get? T = some oT ∧ T ≠ z ∧ T ≠ i1 ∧ T ≠ i2 ∧ T ≠ S)
theorem zl_held {T : Addr} {f : Bool} {oT : Obj} {k1 k2 : Nat} {x y : Value} {Q : Option Value → Shared → Prop} (D : ZipApart z ti to i1 i2 t u) (hz : IsZipHeld s.heap z ti to T f) (hT : s.heap.get? T = some oT)
    (hp : IsPair s.heap ti (.ref i1) (.ref i2)) (j1 : s.heap.IsTupleIter i1 t k1) (j2 : s.heap.IsTupleIter i2 u k2) (ht : s.heap.IsTuple t xs) (hu : s.heap.IsTuple u ys) (hx : xs[k1]? = some x) (hy : ys[k2]? = some y)
    (q : ∀ h', IsZipHeld h' z ti to T true → h'.IsTupleIter i1 t (k1 + 1) → h'.IsTupleIter i2 u (k2 + 1) → IsPair h' s.heap.objs.size x y → h'.objs.size = s.heap.objs.size + 1 →
      (∀ c o, c ≠ z → c ≠ i1 → c ≠ i2 → s.heap.get? c = some o → h'.get? c = some o) → Q (some (.ref s.heap.objs.size)) { s with heap := h' }) : wpAny (model P w) A (pyNext (.ref z)) Q E s := by
  have ty : s.TypeIs (.ref z) "zip" := ⟨_, hz, rfl⟩
  unfold pyNext
  refine wpAny_bind (wpAny_attempt (wpAny_callSpecial?_slot (name := Str.ofString "__next__") ty PySem.F.slot_zip_next (wpAny_call_entry PySem.F.slot_zip_next ty PySem.F.entry_zip_next ?_ (PySem.F.args_zip_next_1 _))))
  show wpAny (model P w) _ (field (.ref z) 2 >>= _) _ _ _
  refine wpAny_bind (wpAny_field hz rfl (x := .bool false) rfl ?_)
  show wpAny (model P w) _ (field (.ref z) 3 >>= _) _ _ _
  refine wpAny_bind (wpAny_field hz rfl (x := .ref ti) rfl ?_)
  refine wpAny_bind (wpAny_seqItems hp rfl ?_)
  refine wpAny_bind (wpAny_tupleHeld_zip hz hT fun g1 z1 b1 => ?_)
  simp only [Bool.false_eq_true, if_false]
  refine wpAny_bind ?_
  rw [← Array.forIn_toList]
  simp only [List.forIn_cons, List.forIn_nil]
  refine wpAny_bind (wpAny_bind (wpAny_holding ?_))
  refine wpAny_bind (nextOf_tuple_item (s := { s with heap := g1 }) (j1.extBut b1.extBut D.i1z) (ht.extBut b1.extBut D.l1z) hx fun g2 k2' b2 => wpAny_pure ?_)
  refine wpAny_pure ?_
  refine wpAny_bind (wpAny_bind (wpAny_holding ?_))
  refine wpAny_bind (nextOf_tuple_item (s := { s with heap := g2 }) ((j2.extBut b1.extBut D.i2z).extBut b2.extBut D.i12.symm) ((hu.extBut b1.extBut D.l2z).extBut b2.extBut D.l2i1) hy fun g3 k3' b3 => wpAny_pure ?_)
  refine wpAny_pure (wpAny_pure ?_)
  show wpAny (model P w) _ (newTuple [x, y] >>= _) _ _ _
  refine wpAny_bind (wpAny_newTuple (wpAny_pure ⟨_, rfl, wpAny_pure ?_⟩))
  have sz : g3.objs.size = s.heap.objs.size := by rw [b3.1, b2.1, b1.1]
  have z3 : IsZipHeld g3 z ti to T true := b3.extBut _ _ D.i2z.symm (b2.extBut _ _ D.i1z.symm z1)
  have kk : ∀ c o, c ≠ z → c ≠ i1 → c ≠ i2 → s.heap.get? c = some o → g3.get? c = some o := fun c o n1 n2 n3 e => b3.extBut _ _ n3 (b2.extBut _ _ n2 (b1.extBut _ _ n1 e))
  have m1 : g3.IsTupleIter i1 t (k1 + 1) := k2'.extBut b3.extBut D.i12
  have np : IsPair (g3.push { cls := .type "tuple", data := .seq #[x, y] }) g3.objs.size x y := Heap.get?_push_size _ rfl
  have ns : (g3.push { cls := .type "tuple", data := .seq #[x, y] }).objs.size = g3.objs.size + 1 := Heap.size_push ..
  show Q (some (.ref g3.objs.size)) _
  rw [sz] at np ns ⊢
  exact q _ (Heap.get?_push_of_some _ z3) (m1.at fun o e => Heap.get?_push_of_some _ e) (k3'.at fun o e => Heap.get?_push_of_some _ e) np ns fun c o n1 n2 n3 e => Heap.get?_push_of_some _ (kk c o n1 n2 n3 e)
theorem zl_end {T : Addr} {f : Bool} {oT : Obj} {k1 : Nat} {Q : Option Value → Shared → Prop} (hh : A.handled = none) (D : ZipApart z ti to i1 i2 t u) (hz : IsZipHeld s.heap z ti to T f) (hT : s.heap.get? T = some oT)
    (hp : IsPair s.heap ti (.ref i1) (.ref i2)) (j1 : s.heap.IsTupleIter i1 t k1) (ht : s.heap.IsTuple t xs) (hx : xs[k1]? = none)
    (q : ∀ h', (∀ c o, c ≠ z → c ≠ i1 → c ≠ i2 → s.heap.get? c = some o → h'.get? c = some o) → Q none { s with heap := h' }) : wpAny (model P w) A (pyNext (.ref z)) Q E s := by
  have ty : s.TypeIs (.ref z) "zip" := ⟨_, hz, rfl⟩
  unfold pyNext
  refine wpAny_bind (wpAny_attempt (wpAny_callSpecial?_slot (name := Str.ofString "__next__") ty PySem.F.slot_zip_next (wpAny_call_entry PySem.F.slot_zip_next ty PySem.F.entry_zip_next ?_ (PySem.F.args_zip_next_1 _))))
  show wpAny (model P w) _ (field (.ref z) 2 >>= _) _ _ _
  refine wpAny_bind (wpAny_field hz rfl (x := .bool false) rfl ?_)
  show wpAny (model P w) _ (field (.ref z) 3 >>= _) _ _ _
  refine wpAny_bind (wpAny_field hz rfl (x := .ref ti) rfl ?_)
  refine wpAny_bind (wpAny_seqItems hp rfl ?_)
  refine wpAny_bind (wpAny_tupleHeld_zip hz hT fun g1 z1 b1 => ?_)
  simp only [Bool.false_eq_true, if_false]
  refine wpAny_bind ?_
  rw [← Array.forIn_toList]
  simp only [List.forIn_cons, List.forIn_nil]
  refine wpAny_bind (wpAny_bind (wpAny_holding ?_))
  refine wpAny_bind (nextOf_tuple_end (s := { s with heap := g1 }) hh (j1.extBut b1.extBut D.i1z) (ht.extBut b1.extBut D.l1z) hx fun g2 e b2 he => ?_)
  obtain ⟨o, ho, hc⟩ := he
  refine wpAny_bind (wpAny_isInstance (T := "StopIteration") (b := true) ⟨o, ho, hc⟩ isSubtype_stop ?_)
  exact wpAny_pure (q _ fun c o n1 n2 n3 e => b2 _ _ n2 (b1.extBut _ _ n1 e))
theorem ZlSt.keep {h h' : Heap} {S : Addr} {k : Nat} (x : ZlSt h z ti to i1 i2 t u S xs ys k) (hk : ∀ b o, b ≠ S → h.get? b = some o → h'.get? b = some o) (n : ∀ b ∈ [z, ti, to, i1, i2, t, u], b ≠ S) : ZlSt h' z ti to i1 i2 t u S xs ys k := by
  obtain ⟨hp, j1, j2, ht, hu, hz⟩ := x
  refine ⟨hk _ _ (n _ (by simp)) hp, j1.at fun o => hk _ o (n _ (by simp)), j2.at fun o => hk _ o (n _ (by simp)), ht.at fun o => hk _ o (n _ (by simp)), hu.at fun o => hk _ o (n _ (by simp)), ?_⟩
  rcases hz with ⟨hz, a, b, hto⟩ | ⟨T, f, oT, hz, hT, r1, r2, r3, r4⟩
  · exact .inl ⟨hk _ _ (n _ (by simp)) hz, a, b, hk _ _ (n _ (by simp)) hto⟩
  · exact .inr ⟨T, f, oT, hk _ _ (n _ (by simp)) hz, hk _ _ r4 hT, r1, r2, r3, r4⟩
theorem zl_item {S : Addr} {k : Nat} {x y : Value} {Q : Option Value → Shared → Prop} (D : ZipApart z ti to i1 i2 t u) (st : ZlSt s.heap z ti to i1 i2 t u S xs ys k) (hS : S < s.heap.objs.size) (hx : xs[k]? = some x) (hy : ys[k]? = some y)
    (q : ∀ h', ZlSt h' z ti to i1 i2 t u S xs ys (k + 1) → IsPair h' s.heap.objs.size x y → h'.objs.size = s.heap.objs.size + 1 → (∀ c o, c ≠ z → c ≠ to → c ≠ i1 → c ≠ i2 → s.heap.get? c = some o → h'.get? c = some o) → Q (some (.ref s.heap.objs.size)) { s with heap := h' }) :
    wpAny (model P w) A (pyNext (.ref z)) Q E s := by
  obtain ⟨hp, j1, j2, ht, hu, hz⟩ := st
  have lt : ∀ {c o}, s.heap.get? c = some o → s.heap.objs.size ≠ c := fun e => Nat.ne_of_gt (Heap.lt_size e)
  have n1 : s.heap.objs.size ≠ i1 := let ⟨_, e, _⟩ := j1; lt e
  have n2 : s.heap.objs.size ≠ i2 := let ⟨_, e, _⟩ := j2; lt e
  rcases hz with ⟨hz, a, b, hto⟩ | ⟨T, f, oT, hz, hT, r1, r2, r3, r4⟩
  · refine pyNext_zipT_item D hz hp hto j1 j2 ht hu hx hy fun h' a1 a2 a3 a4 a5 a6 hk => ?_
    exact q h' ⟨hk _ _ D.TIz D.TITO D.TIi1 D.TIi2 hp, a3, a4, ht.at fun o => hk _ o D.l1z D.l1TO D.l1i1 D.l1i2, hu.at fun o => hk _ o D.l2z D.l2TO D.l2i1 D.l2i2, .inr ⟨_, false, _, a1, a5, lt hz, n1, n2, Nat.ne_of_gt hS⟩⟩ a5 a6 hk
  · refine zl_held D hz hT hp j1 j2 ht hu hx hy fun h' a1 a3 a4 a5 a6 hk => ?_
    exact q h' ⟨hk _ _ D.TIz D.TIi1 D.TIi2 hp, a3, a4, ht.at fun o => hk _ o D.l1z D.l1i1 D.l1i2, hu.at fun o => hk _ o D.l2z D.l2i1 D.l2i2, .inr ⟨T, true, oT, a1, hk _ _ r1 r2 r3 hT, r1, r2, r3, r4⟩⟩ a5 a6 fun c o c1 _ c3 c4 => hk c o c1 c3 c4
theorem zl_done {S : Addr} {k : Nat} {Q : Option Value → Shared → Prop} (hh : A.handled = none) (D : ZipApart z ti to i1 i2 t u) (st : ZlSt s.heap z ti to i1 i2 t u S xs ys k) (hx : xs[k]? = none)
    (q : ∀ h', (∀ c o, c ≠ z → c ≠ to → c ≠ i1 → c ≠ i2 → s.heap.get? c = some o → h'.get? c = some o) → Q none { s with heap := h' }) : wpAny (model P w) A (pyNext (.ref z)) Q E s := by
  obtain ⟨hp, j1, j2, ht, hu, hz⟩ := st
  rcases hz with ⟨hz, a, b, hto⟩ | ⟨T, f, oT, hz, hT, r1, r2, r3, r4⟩
  · exact pyNext_zipT_end hh D hz hp hto j1 j2 ht hu (.inl hx) q
  · exact zl_end hh D hz hT hp j1 ht hx fun h' hk => q h' fun c o c1 _ c3 c4 => hk c o c1 c3 c4
/-- the pairs that the list keeps -/
structure ZlG (xs ys : Array Value) (lo : Addr) (h : Heap) (as : List Addr) : Prop where
  rise : as.Pairwise (· < ·)
  above : ∀ a ∈ as, lo < a
  pairs : ∀ (j : Nat) (a : Addr), as[j]? = some a → ∃ x y, xs[j]? = some x ∧ ys[j]? = some y ∧ IsPair h a x y
theorem ZlG.there {lo : Addr} {h : Heap} {as : List Addr} (g : ZlG xs ys lo h as) {a : Addr} (ha : a ∈ as) : a < h.objs.size := by
  obtain ⟨j, hj⟩ := List.mem_iff_getElem?.mp ha
  obtain ⟨_, _, _, _, e⟩ := g.pairs j a hj
  exact Heap.lt_size e
theorem ZlG.mono {lo : Addr} {h h' : Heap} {as : List Addr} (g : ZlG xs ys lo h as) (k : ∀ a ∈ as, ∀ o, h.get? a = some o → h'.get? a = some o) : ZlG xs ys lo h' as :=
  ⟨g.rise, g.above, fun j a hj => by
    obtain ⟨x, y, e1, e2, e3⟩ := g.pairs j a hj
    exact ⟨x, y, e1, e2, k a (List.mem_of_getElem? hj) _ e3⟩⟩
theorem zl_loop {S lo : Addr} {R : Result → Shared → Prop} (hh : A.handled = none) (D : ZipApart z ti to i1 i2 t u) (hl : xs.size = ys.size) (hn : xs.size ≤ sizeLine) (hS : ∀ b ∈ [z, ti, to, i1, i2, t, u], b ≠ S) (hzS : ∀ b ∈ [S, z, to, i1, i2], b ≤ lo) {h0 : Heap}
    (hR : ∀ h' tk acc c as, (∀ b o, b ∉ [S, z, to, i1, i2] → h0.get? b = some o → h'.get? b = some o) → h'.get? S = some { cls := .type "list", dict := none, data := .seq acc c, slots := #[] } → as.length = xs.size → ZlG xs ys lo h' as →
      acc.toList = as.map Value.ref → R (.ok (.ret .none)) { s with heap := h', toks := tk }) :
    ∀ (m k : Nat) (h : Heap) (tk c : Nat) (acc : Array Value) (as : List Addr), xs.size - k = m → k ≤ xs.size → ZlSt h z ti to i1 i2 t u S xs ys k → (∀ b o, b ∉ [S, z, to, i1, i2] → h0.get? b = some o → h.get? b = some o) →
      h.get? S = some { cls := .type "list", dict := none, data := .seq acc c, slots := #[] } → acc.toList = as.map Value.ref → as.length = k → ZlG xs ys lo h as → lo < h.objs.size →
      codeAny (model P w) A (.builtin "list.extend.loop" ⟨[.ref S, .ref z, .none], []⟩) R { s with heap := h, toks := tk } := by
  have nz : S ≠ z := Ne.symm (hS z (by simp))
  have nto : S ≠ to := Ne.symm (hS to (by simp))
  have n1 : S ≠ i1 := Ne.symm (hS i1 (by simp))
  have n2 : S ≠ i2 := Ne.symm (hS i2 (by simp))
  have up4 : ∀ a, lo < a → a ≠ S ∧ a ≠ z ∧ a ≠ to ∧ a ≠ i1 ∧ a ≠ i2 := fun a ha => by
    have g : ∀ b ∈ [S, z, to, i1, i2], a ≠ b := fun b hb => Nat.ne_of_gt (Nat.lt_of_le_of_lt (hzS b hb) ha)
    exact ⟨g _ (by simp), g _ (by simp), g _ (by simp), g _ (by simp), g _ (by simp)⟩
  have out5 : ∀ {b : Addr}, b ∉ [S, z, to, i1, i2] → b ≠ S ∧ b ≠ z ∧ b ≠ to ∧ b ≠ i1 ∧ b ≠ i2 := fun {b} hb => by
    simpa only [List.mem_cons, List.not_mem_nil, or_false, not_or] using hb
  intro m
  induction m with
  | zero =>
    intro k h tk c acc as hm hk st hkeep hSg hacc hal hG hlo
    refine codeAny_builtin PySem.F.entry_extend_loop ?_
    rw [Around.under_plainId PySem.F.plain_extend_loop _]
    refine wpAny_bind (m := pyNext (.ref z)) (zl_done (s := { s with heap := h, toks := tk }) (A := A.in1) hh D st (Array.getElem?_eq_none (by omega)) fun h' he => ?_)
    refine wpAny_pure (hR h' tk acc c as (fun b o hb e => ?_) (he S _ nz nto n1 n2 hSg) (by omega) (hG.mono fun a ha o e => ?_) hacc)
    · obtain ⟨b1, b2, b3, b4, b5⟩ := out5 hb
      exact he b o b2 b3 b4 b5 (hkeep b o hb e)
    · obtain ⟨b1, b2, b3, b4, b5⟩ := up4 a (hG.above a ha)
      exact he a o b2 b3 b4 b5 e
  | succ m ih =>
    intro k h tk c acc as hm hk st hkeep hSg hacc hal hG hlo
    have hlt : k < xs.size := by omega
    have hlt2 : k < ys.size := by omega
    have hsz : acc.size = k := by rw [← Array.length_toList, hacc, List.length_map, hal]
    refine codeAny_builtin PySem.F.entry_extend_loop ?_
    rw [Around.under_plainId PySem.F.plain_extend_loop _]
    refine wpAny_bind (m := pyNext (.ref z)) (zl_item (s := { s with heap := h, toks := tk }) D st (Heap.lt_size hSg) (Array.getElem?_eq_getElem hlt) (Array.getElem?_eq_getElem hlt2) fun h' st' hp hz' hkp => ?_)
    dsimp only at hp hz' hkp ⊢
    have hS' := hkp S _ nz nto n1 n2 hSg
    have up : ∀ b o, b ≠ S → h'.get? b = some o → (h'.update S (Obj.mapSeq (·.push (Value.ref h.objs.size)))).get? b = some o := fun b o hb e => (Heap.get?_update_other _ _ (Ne.symm hb)).trans e
    have hSl : S < h.objs.size := Heap.lt_size hSg
    refine wpAny_bind (m := updateSeq S (·.push (Value.ref h.objs.size))) ?_
    refine wpAny_updateSeq hS' rfl (wpAny_pure ⟨plainId_quiet PySem.F.plain_extend_loop _, ih (k + 1) _ tk _ (acc.push (Value.ref h.objs.size)) (as ++ [h.objs.size]) (by omega) hlt (st'.keep up hS)
      (fun b o hb e => ?_) (Heap.get?_update_self _ hS' rfl) (by rw [Array.toList_push, hacc, List.map_append]; rfl) (by rw [List.length_append, hal]; rfl) ⟨?_, ?_, ?_⟩ ?_⟩) (by rw [hsz]; omega) (by show (acc.push (Value.ref h.objs.size)).size ≤ sizeLine + 1; rw [Array.size_push, hsz]; omega)
    · obtain ⟨b1, b2, b3, b4, b5⟩ := out5 hb
      exact up b o b1 (hkp b o b2 b3 b4 b5 (hkeep b o hb e))
    · refine List.pairwise_append.mpr ⟨hG.rise, List.pairwise_singleton _ _, fun a ha b hb => ?_⟩
      rw [List.mem_singleton.mp hb]
      exact hG.there ha
    · intro a ha
      rcases List.mem_append.mp ha with ha | ha
      · exact hG.above a ha
      · rw [List.mem_singleton.mp ha]; exact hlo
    · intro j b hj
      rcases Nat.lt_trichotomy j as.length with h1 | h1 | h1
      · rw [List.getElem?_append_left h1] at hj
        obtain ⟨x, y, e1, e2, e3⟩ := hG.pairs j b hj
        obtain ⟨b1, b2, b3, b4, b5⟩ := up4 b (hG.above b (List.mem_of_getElem? hj))
        exact ⟨x, y, e1, e2, up b _ b1 (hkp b _ b2 b3 b4 b5 e3)⟩
      · subst h1
        have hb : h.objs.size = b := by simpa using hj
        subst hb
        exact ⟨_, _, by rw [hal]; exact Array.getElem?_eq_getElem hlt, by rw [hal]; exact Array.getElem?_eq_getElem hlt2, up _ _ (Nat.ne_of_gt hSl) hp⟩
      · rw [List.getElem?_eq_none (by rw [List.length_append, List.length_singleton]; omega)] at hj
        cases hj
    · have e : (h'.update S (Obj.mapSeq (·.push (Value.ref h.objs.size)))).get? h.objs.size = _ := up _ _ (Nat.ne_of_gt hSl) hp
      exact Nat.lt_trans hlo (Heap.lt_size e)
end
theorem zl_nolen : typeLookup (.type "zip") "__len__" = pure none := am_miss_of_fast (by decide +kernel)
theorem zl_nohint : typeLookup (.type "zip") "__length_hint__" = pure none := am_miss_of_fast (by decide +kernel)
section
variable {P : Program} {w : World} {A : Around} {E : Value → Shared → Prop} {s : Shared} {z ti to i1 i2 t u : Addr} {xs ys : Array Value}
theorem zl_extend {S lo : Addr} {R : Result → Shared → Prop} (hh : A.handled = none) (D : ZipApart z ti to i1 i2 t u) (hl : xs.size = ys.size) (hn : xs.size ≤ sizeLine) (hS : ∀ b ∈ [z, ti, to, i1, i2, t, u], b ≠ S) (hzS : ∀ b ∈ [S, z, to, i1, i2], b ≤ lo) (c0 : Nat)
    (st : ZlSt s.heap z ti to i1 i2 t u S xs ys 0) (hz : s.heap.get? S = some { cls := .type "list", data := .seq #[] c0 }) (hlo : lo < s.heap.objs.size) (ht : s.TypeIs (.ref z) "zip") (hi : ∀ (f : Value) (Q : Value → Shared → Prop) (A' : Around) (E' : Value → Shared → Prop), Q (.ref z) s → wpAny (model P w) A' (pyIter (.ref z)) Q E' s)
    (hR : ∀ h' tk acc c as, (∀ b o, b ∉ [S, z, to, i1, i2] → s.heap.get? b = some o → h'.get? b = some o) → h'.get? S = some { cls := .type "list", dict := none, data := .seq acc c, slots := #[] } → as.length = xs.size → ZlG xs ys lo h' as →
      acc.toList = as.map Value.ref → R (.ok (.ret .none)) { s with heap := h', toks := tk }) :
    wpAny (model P w) A.in1 (Builtin.List.listExtendWith (.ref S) (.ref z) .none)
      (fun fin s' => match fin with | .done f => R (.ok f) s' | .again c' => c'.quiet = true ∧ codeAny (model P w) A c' R s') (fun e s' => R (.error e) s') s := by
  have zS : z ≠ S := hS z (by simp)
  have e1 : Builtin.List.listSameRef (.ref S) (.ref z) = false := by simp [Builtin.List.listSameRef, zS.symm]
  have e2 : (Value.type "zip" == Value.type "list") = false := by decide
  have e3 : (Value.type "zip" == Value.type "tuple") = false := by decide
  unfold Builtin.List.listExtendWith
  refine wpAny_bind (wpAny_typeOf ht ?_)
  simp only [e1, e2, e3, Bool.or_false, Bool.false_eq_true, if_false]
  refine wpAny_bind (hi .none _ _ _ ?_)
  refine wpAny_bind (wpAny_holding ?_)
  unfold Builtin.List.listLengthHint
  refine wpAny_bind (wpAny_specialOf ht zl_nolen ?_)
  show wpAny (model P w) A.in1 (specialOf (Value.ref z) (Str.ofString "__length_hint__") >>= _) _ _ _
  refine wpAny_bind (wpAny_specialOf ht zl_nohint (wpAny_pure ?_))
  show wpAny (model P w) A.in1 (rule "list.extend.makes-room" >>= fun _ => Builtin.List.listTouch (.ref S) >>= fun _ => again (.builtin "list.extend.loop" ⟨[.ref S, .ref z, .none], []⟩)) _ _ _
  refine wpAny_bind (wpAny_rule (wpAny_bind ?_))
  show wpAny (model P w) A.in1 (updateSeq S (·.push .none) >>= fun _ => updateSeq S (·.pop)) _ _ _
  refine wpAny_bind (wpAny_updateSeq hz rfl ?_)
  have z2 := Heap.get?_update_self (Obj.mapSeq (·.push Value.none)) hz rfl
  refine wpAny_updateSeq (hz := by seq_fits) z2 rfl ?_
  have z3 := Heap.get?_update_self (Obj.mapSeq (·.pop)) z2 rfl
  have kp : ∀ b o, b ≠ S → s.heap.get? b = some o → ((s.heap.update S (Obj.mapSeq (·.push Value.none))).update S (Obj.mapSeq (·.pop))).get? b = some o := fun b o hb e => (Heap.get?_update_other _ _ (Ne.symm hb)).trans ((Heap.get?_update_other _ _ (Ne.symm hb)).trans e)
  refine wpAny_pure ⟨plainId_quiet PySem.F.plain_extend_loop _, ?_⟩
  refine zl_loop (lo := lo) (h0 := s.heap) (s := s) hh D hl hn hS hzS hR (xs.size) 0 _ s.toks _ #[] [] (Nat.sub_zero _) (Nat.zero_le _) (st.keep kp hS) (fun b o hb e => kp b o (fun z => hb (by simp [z])) e) z3 rfl rfl ⟨List.Pairwise.nil, fun _ ha => (by cases ha), fun j a hj => (by simp at hj)⟩ ?_
  rw [Heap.size_update, Heap.size_update]
  exact hlo
/-- list(z), z such a zip, new -/
theorem zl_call {Q : Value → Shared → Prop} (hh : A.handled = none) (D : ZipApart z ti to i1 i2 t u) (hl : xs.size = ys.size) (hn : xs.size ≤ sizeLine) (hz : IsZip s.heap z ti to .none) (hp : IsPair s.heap ti (.ref i1) (.ref i2)) {a b : Value} (hto : IsPair s.heap to a b)
    (j1 : s.heap.IsTupleIter i1 t 0) (j2 : s.heap.IsTupleIter i2 u 0) (h1 : s.heap.IsTuple t xs) (h2 : s.heap.IsTuple u ys)
    (q : ∀ h' tk acc c as, (∀ b o, b ∉ [z, to, i1, i2] → s.heap.get? b = some o → h'.get? b = some o) → h'.get? s.heap.objs.size = some { cls := .type "list", dict := none, data := .seq acc c, slots := #[] } → as.length = xs.size → ZlG xs ys s.heap.objs.size h' as →
      acc.toList = as.map Value.ref → Q (.ref s.heap.objs.size) { s with heap := h', toks := tk }) : wpAny (model P w) A (call (.type "list") [.ref z]) Q E s := by
  refine callType_codes (Q₁ := fun obj s₁ => obj = .ref s.heap.objs.size ∧ s₁ = { s with heap := s.heap.push { cls := .type "list", data := .seq #[] } }) PySem.F.called_list (PySem.F.typeCall_list_1 _) PySem.F.entry_list_init
    (code_list_new _ ⟨rfl, rfl⟩) fun obj s1 e => ?_
  obtain ⟨rfl, rfl⟩ := e
  have new : (s.heap.push { cls := .type "list", data := .seq #[] }).get? s.heap.objs.size = some { cls := .type "list", data := .seq #[] } := Heap.get?_push_size _ rfl
  have old : ∀ b o, s.heap.get? b = some o → (s.heap.push { cls := .type "list", data := .seq #[] }).get? b = some o := fun b o e => Heap.get?_push_of_some _ e
  have lt : ∀ b ∈ [z, ti, to, i1, i2, t, u], b < s.heap.objs.size := fun b hb => by
    have e' : b = z ∨ b = ti ∨ b = to ∨ b = i1 ∨ b = i2 ∨ b = t ∨ b = u := by simpa using hb
    rcases e' with e | e | e | e | e | e | e <;> rw [e]
    · exact Heap.lt_size hz
    · exact Heap.lt_size hp
    · exact Heap.lt_size hto
    · exact let ⟨_, x, _⟩ := j1; Heap.lt_size x
    · exact let ⟨_, x, _⟩ := j2; Heap.lt_size x
    · exact let ⟨_, x, _⟩ := h1; Heap.lt_size x
    · exact let ⟨_, x, _⟩ := h2; Heap.lt_size x
  refine ⟨⟨_, new, rfl⟩, PySem.F.args_list_init_2 _ _, ?_⟩
  show wpAny (model P w) _ (do let old ← Builtin.List.listItems (.ref s.heap.objs.size); Builtin.List.listUpdate (.ref s.heap.objs.size) (fun _ => #[]); letGo old.toList.reverse; Builtin.List.listExtendWith (.ref s.heap.objs.size) (.ref z) .none) _ _ _
  refine wpAny_bind ?_
  unfold Builtin.List.listItems
  refine wpAny_bind (wpAny_seqItems new rfl (wpAny_pure ?_))
  show wpAny (model P w) _ (updateSeq s.heap.objs.size (fun _ => #[]) >>= fun _ => letGo (#[] : Array Value).toList.reverse >>= fun _ => Builtin.List.listExtendWith (.ref s.heap.objs.size) (.ref z) .none) _ _ _
  refine wpAny_bind (wpAny_updateSeq new rfl ?_)
  have new2 := Heap.get?_update_self (Obj.mapSeq (fun _ => (#[] : Array Value))) new rfl
  have oth : ∀ b o, b ≠ s.heap.objs.size → s.heap.get? b = some o → ((s.heap.push { cls := .type "list", data := .seq #[] }).update s.heap.objs.size (Obj.mapSeq (fun _ => (#[] : Array Value)))).get? b = some o :=
    fun b o hb e => (Heap.get?_update_other _ _ (Ne.symm hb)).trans (old b o e)
  have ne : ∀ b ∈ [z, ti, to, i1, i2, t, u], b ≠ s.heap.objs.size := fun b hb => Nat.ne_of_lt (lt b hb)
  have zz := oth z _ (ne z (by simp)) hz
  refine wpAny_bind (wpAny_letGo ?_)
  refine zl_extend (lo := s.heap.objs.size) (xs := xs) (ys := ys) hh D hl hn ne (fun b hb => ?_) _ ⟨oth _ _ (ne _ (by simp)) hp, j1.at fun o => oth _ o (ne _ (by simp)), j2.at fun o => oth _ o (ne _ (by simp)), h1.at fun o => oth _ o (ne _ (by simp)), h2.at fun o => oth _ o (ne _ (by simp)), .inl ⟨zz, a, b, oth _ _ (ne _ (by simp)) hto⟩⟩
    new2 ?_ ⟨_, zz, rfl⟩ (fun _ Q' A' E' hq => wpAny_pyIter_zip zz hq) fun h' tk acc c as hk hS' hal hG hacc => ?_
  · have e' : b = s.heap.objs.size ∨ b = z ∨ b = to ∨ b = i1 ∨ b = i2 := by simpa using hb
    rcases e' with e | e | e | e | e <;> rw [e]
    · exact Nat.le_refl _
    · exact Nat.le_of_lt (lt z (by simp))
    · exact Nat.le_of_lt (lt to (by simp))
    · exact Nat.le_of_lt (lt i1 (by simp))
    · exact Nat.le_of_lt (lt i2 (by simp))
  · rw [Heap.size_update, Heap.size_push]
    exact Nat.lt_succ_self _
  · refine ⟨rfl, q h' tk acc c as (fun b o hb e => hk b o (fun hm => ?_) (oth b o (Nat.ne_of_lt (Heap.lt_size e)) e)) hS' hal hG hacc⟩
    rcases List.mem_cons.mp hm with x | x
    · exact Nat.lt_irrefl _ (x ▸ Heap.lt_size e)
    · exact hb x
end
/-- the pairs tracked at their addresses -/
def putP : Hp → List Addr → List V → List V → Hp
  | H, a :: as, x :: xs, y :: ys => putP (upd H a (.tup [x, y])) as xs ys
  | H, _, _, _ => H
theorem putP_off {b : Addr} : ∀ (as : List Addr) (xs ys : List V) (H : Hp), b ∉ as → putP H as xs ys b = H b
  | [], _, _, _, _ => rfl
  | _ :: _, [], _, _, _ => rfl
  | _ :: _, _ :: _, [], _, _ => rfl
  | a :: as, x :: xs, y :: ys, H, n => by
    unfold putP
    rw [putP_off as xs ys _ (fun m => n (List.mem_cons_of_mem _ m)), upd_ne (fun e => n (by rw [e]; exact List.mem_cons_self))]
theorem putP_at : ∀ (as : List Addr) (xs ys : List V) (H : Hp), as.Nodup → ∀ (j : Nat) (a : Addr) (x y : V), as[j]? = some a → xs[j]? = some x → ys[j]? = some y → putP H as xs ys a = some (.tup [x, y])
  | [], _, _, _, _, _, _, _, _, e, _, _ => by cases e
  | _ :: _, [], _, _, _, _, _, _, _, _, e, _ => by cases e
  | _ :: _, _ :: _, [], _, _, _, _, _, _, _, _, e => by cases e
  | a :: as, x :: xs, y :: ys, H, nd, 0, b, u, v, e1, e2, e3 => by
    cases e1; cases e2; cases e3
    unfold putP
    rw [putP_off as xs ys _ (List.nodup_cons.mp nd).1, upd_same]
  | a :: as, x :: xs, y :: ys, H, nd, j + 1, b, u, v, e1, e2, e3 => putP_at as xs ys _ (List.nodup_cons.mp nd).2 j b u v e1 e2 e3
theorem zl_laid {X : Cx} {pins : List (Addr × Obj)} {σ : L2.St} {H : Hp} {s : Shared} {h' : Heap} {tk : Nat} {vs us : List V} {its itu : List Value} {acc : Array Value} {c : Nat} {as : List Addr} {lo : Addr} (I : Inv X pins σ H s) (hlo : s.heap.objs.size ≤ lo) (rx : Vals vs its) (ry : Vals us itu) (hl : vs.length = us.length) (hn : vs.length ≤ sizeLine)
    (hk : ∀ b o, s.heap.get? b = some o → h'.get? b = some o) (hS : h'.get? lo = some { cls := .type "list", dict := none, data := .seq acc c, slots := #[] }) (hal : as.length = vs.length) (hG : ZlG its.toArray itu.toArray lo h' as) (hacc : acc.toList = as.map Value.ref) :
    ∃ H' : Hp, HE H H' ∧ H lo = none ∧ (∀ t ∈ as, H t = none) ∧ H' lo = some (.lst (as.map V.ref)) ∧ (∀ (j : Nat) (a : Addr) (x y : V), as[j]? = some a → vs[j]? = some x → us[j]? = some y → H' a = some (.tup [x, y])) ∧ Inv X pins σ H' { s with heap := h', toks := tk } := by
  have n0 : lo ∉ as := fun m => Nat.lt_irrefl _ (hG.above _ m)
  have nd : as.Nodup := hG.rise.imp fun {a b} (h : a < b) => Nat.ne_of_lt h
  have fr : ∀ t ∈ as, H t = none := fun t m => I.hok.fresh (Nat.le_trans hlo (Nat.le_of_lt (hG.above t m)))
  have frl : H lo = none := I.hok.fresh hlo
  have off : ∀ b, b ∉ as → b ≠ lo → putP (upd H lo (.lst (as.map V.ref))) as vs us b = H b := fun b m1 m2 => by rw [putP_off as vs us _ m1, upd_ne m2]
  have low : ∀ b o, s.heap.get? b = some o → b ∉ as ∧ b ≠ lo := fun b o e => by
    have lt := Nat.lt_of_lt_of_le (Heap.lt_size e) hlo
    exact ⟨fun m => absurd lt (Nat.not_lt.mpr (Nat.le_of_lt (hG.above b m))), Nat.ne_of_lt lt⟩
  have ext : HE H (putP (upd H lo (.lst (as.map V.ref))) as vs us) := fun b u e => by
    rw [off b (fun m => by rw [fr b m] at e; cases e) (fun m => by rw [m, frl] at e; cases e)]
    exact e
  have atL : putP (upd H lo (.lst (as.map V.ref))) as vs us lo = some (.lst (as.map V.ref)) := by rw [putP_off as vs us _ n0, upd_same]
  refine ⟨_, ext, frl, fr, atL, putP_at as vs us _ nd, ?_⟩
  refine I.call' (ch := []) rfl ⟨fun b o q _ _ _ => hk b o q, fun b o q _ _ _ => ⟨o.slots, hk b o q⟩, fun b o q n _ => ?_, fun b o q _ => ⟨o, hk b o q⟩, fun b xs q => ext b _ q, fun b o u q => ext b _ q, fun b ps q => ⟨#[], by rw [ext b _ q]; simp⟩⟩ (fun b u q => ?_) I.bare fun b m => by simp at m
  · obtain ⟨m1, m2⟩ := low b o q
    rw [off b m1 m2]
    exact n
  · by_cases hb : b ∈ as
    · obtain ⟨j, hj⟩ := List.mem_iff_getElem?.mp hb
      have jl : j < as.length := (List.getElem?_eq_some_iff.mp hj).1
      have ex := List.getElem?_eq_getElem (l := vs) (i := j) (by omega)
      have ey := List.getElem?_eq_getElem (l := us) (i := j) (by omega)
      rw [putP_at as vs us _ nd j b _ _ hj ex ey] at q
      cases q
      obtain ⟨v1, v2, f1, f2, f3⟩ := hG.pairs j b hj
      obtain ⟨w1, g1, r1⟩ := rx.get ex
      obtain ⟨w2, g2, r2⟩ := ry.get ey
      rw [List.getElem?_toArray, g1] at f1
      rw [List.getElem?_toArray, g2] at f2
      have f1 := Option.some.inj f1
      have f2 := Option.some.inj f2
      subst f1
      subst f2
      exact ⟨by show 2 ≤ sizeLine; decide, [w1, w2], .cons r1 (.cons r2 .nil), ⟨_, f3, rfl, _, rfl⟩⟩
    · by_cases hb2 : b = lo
      · subst hb2
        rw [atL] at q
        cases q
        refine ⟨by rw [List.length_map]; omega, acc.toList, c, by rw [hacc]; exact LiI.vals_refs as, ?_⟩
        rw [Array.toArray_toList]
        exact hS
      · rw [off b hb hb2] at q
        exact (I.hok b u q).stay (fun d v _ y => hk d v y) (fun d y => ext d _ y) fun d xs y => ext d _ y
/-- list(zip(t, u)) -/
def tZipL (K : PySem.W.Frag) (ta : TA) : TE := fun σ H Q => ta σ H fun vs H1 => ∃ a b xs ys, vs = [.ref a, .ref b] ∧ SqT K H1 a xs ∧ SqT K H1 b ys ∧ xs.length = ys.length ∧ xs.length ≤ sizeLine ∧
  ∀ (H' : Hp) (p : Addr) (ts : List Addr), HE H1 H' → H1 p = none → (∀ t ∈ ts, H1 t = none) → ts.length = xs.length → H' p = some (.lst (ts.map V.ref)) → (∀ (j : Nat) (t : Addr) (x y : V), ts[j]? = some t → xs[j]? = some x → ys[j]? = some y → H' t = some (.tup [x, y])) → Q (.ref p) H'
theorem pe_listZip {X : Cx} {e e2 : Expr} {ta : TA} {p p2 pos pos2 : Pos} (hg : Gl X "list") (hm : X.mg "list" = none) (hg2 : Gl X "zip") (hm2 : X.mg "zip" = none) (ha : PA X [e, e2] ta) (hc : X.calm = true := by rfl)
    (hs : starEach [e, e2] X.env = (false, eval e X.env) :: starEach [e2] X.env := by rfl) (hpl : (backTo pos2 (starEach [e2] X.env)).any (·.1) = false := by rfl)
    (hs2 : starEach [.Call (.Name "zip" p2) [e, e2] [] pos2] X.env = (false, eval (.Call (.Name "zip" p2) [e, e2] [] pos2) X.env) :: starEach [] X.env := by rfl) :
    PE X (.Call (.Name "list" p) [.Call (.Name "zip" p2) [e, e2] [] pos2] [] pos) (tZipL X.K ta) := by
  refine ⟨fun pins s σ H Q I h => ?_⟩
  refine wpAny_Call_Name_kw (ld_blt I hg hm (show bootBuiltins "list" = some (.type "list") by decide +kernel) ?_)
  refine PyProof.Rows.callWith_type1 ?_ hs2 rfl
  rw [hs2]
  show wpAny _ _ (spliced ((false, eval (.Call (.Name "zip" p2) [e, e2] [] pos2) X.env) :: backTo pos (starEach [] X.env))) _ _ s
  refine Calls.spliced_cons ?_
  refine Call_ (ld_blt I hg2 hm2 PyProof.Rows.boot_zip (PyProof.Rows.callWith_type1 (thn (ha.run pos2 pins s σ H _ I h) fun us s1 ⟨vs, H1, I1, r1, q1⟩ => ?_) hs hpl))
  obtain ⟨a, b, xs, ys, ex, hqx, hqy, hl, hn, q⟩ := q1
  subst ex
  cases r1 with
  | cons r rr =>
    cases rr with
    | cons r' rr =>
      cases rr
      cases r
      cases r'
      obtain ⟨its, rv, p1, _⟩ := I1.tuple hqx
      obtain ⟨its2, rv2, p2', _⟩ := I1.tuple hqy
      obtain ⟨o1, ho1, _⟩ := id p1
      obtain ⟨o2, ho2, _⟩ := id p2'
      have l1 := rv.length
      have l2 := rv2.length
      refine call_zipT (show s1.heap.IsTuple a its.toArray from p1) (show s1.heap.IsTuple b its2.toArray from p2') fun h' hz hTI hTO h1 h2 hsz hk => ?_
      refine Calls.spliced_nil ?_
      have D := PySem.W.ktu_apart s1.heap.objs.size a b (Heap.lt_size ho1) (Heap.lt_size ho2)
      refine zl_call (s := { s1 with heap := h' }) (xs := its.toArray) (ys := its2.toArray) (I1.ok.hd hc) D (by simp; omega) (by simp; omega) hz hTI hTO h1 h2 (Heap.IsTuple.at (h := s1.heap) p1 fun o => hk _ o) (Heap.IsTuple.at (h := s1.heap) p2' fun o => hk _ o) fun h'' tk acc c as hkk hS hal hG hacc => ?_
      have out : ∀ b o, s1.heap.get? b = some o → h''.get? b = some o := fun b o e => hkk b o (fun m => by
        have lt := Heap.lt_size e
        have e' : b = s1.heap.objs.size + 4 ∨ b = s1.heap.objs.size + 3 ∨ b = s1.heap.objs.size ∨ b = s1.heap.objs.size + 1 := by simpa using m
        rcases e' with x | x | x | x <;> rw [x] at lt
        · exact absurd lt (Nat.not_lt.mpr (Nat.le_add_right _ _))
        · exact absurd lt (Nat.not_lt.mpr (Nat.le_add_right _ _))
        · exact Nat.lt_irrefl _ lt
        · exact absurd lt (Nat.not_lt.mpr (Nat.le_add_right _ _))) (hk b o e)
      obtain ⟨H', k1, k2, k3, k4, k5, J⟩ := zl_laid (tk := tk) I1 (lo := h'.objs.size) (by rw [hsz]; omega) rv rv2 hl hn out hS (by rw [hal]; simp [l1]) hG hacc
      exact ⟨.ref _, H', J, rfl, q H' _ as k1 k2 k3 (by rw [hal]; simp [l1]) k4 k5⟩
theorem dats_of {C : Addr → Prop} {H : Hp} : ∀ {vs : List V} {ds : List D}, vs.length = ds.length → (∀ (i : Nat) (v : V) (d : D), vs[i]? = some v → ds[i]? = some d → Dat C H v d) → Dats C H vs ds
  | [], [], _, _ => .nil
  | _ :: _, [], e, _ => by cases e
  | [], _ :: _, e, _ => by cases e
  | v :: vs, d :: ds, e, h => .cons (h 0 v d rfl rfl) (dats_of (Nat.succ.inj e) fun i v d e1 e2 => h (i + 1) v d e1 e2)
def dZip2 : List D → Option D
  | [.tuple as, .tuple bs] => if as.length ≤ 10000 ∧ as.length = bs.length then some (.list (dZipL as bs)) else none
  | _ => none
theorem q_listZip {K : PySem.W.Frag} {ta : TA} {qa : QA} (h : SndQD ta qa) : SndQ (tZipL K ta) (qCall dZip2 qa) := fun π C σ H δ d e rel Q k => by
  obtain ⟨ds, e1, e⟩ := Option.bind_eq_some_iff.mp e
  unfold dZip2 at e
  split at e
  · rename_i as bs
    split at e
    · rename_i hl
      cases e
      refine h π C σ H δ _ e1 rel _ fun vs H1 h1 w1 => ?_
      cases w1 with
      | cons wa wr =>
        cases wr with
        | cons wb wn =>
          cases wn
          cases wa with
          | @tup a xs _ ca ha da =>
            cases wb with
            | @tup b ys _ cb hb db =>
              have la := da.length
              have lb := db.length
              refine ⟨a, b, xs, ys, rfl, SqT.of ha, SqT.of hb, by omega, by rw [la]; exact sz_of (by omega), fun H' p ts he hp nt hlt hp' hat => ?_⟩
              have gd := (rel.he h1).good
              have nc : ∀ t, H1 t = none → ¬ C t := fun t e hc => by
                obtain ⟨o, q⟩ := gd t hc
                rw [e] at q
                cases q
              refine k _ _ (h1.trans he) (.lst (nc p hp) hp' (dats_of (by simp [dZipL]; omega) fun i v d e1 e2 => ?_))
              rw [List.getElem?_map] at e1
              obtain ⟨t, e3, e4⟩ := Option.map_eq_some_iff.mp e1
              subst e4
              unfold dZipL at e2
              rw [List.getElem?_map] at e2
              obtain ⟨⟨x, y⟩, e5, e6⟩ := Option.map_eq_some_iff.mp e2
              subst e6
              rw [List.getElem?_zip_eq_some] at e5
              obtain ⟨vx, f1, f2⟩ := da.get e5.1
              obtain ⟨vy, g1, g2⟩ := db.get e5.2
              exact .tup (nc t (nt t (List.mem_of_getElem? e3))) (hat i t vx vy e3 f1 g1) (.cons (f2.he he) (.cons (g2.he he) .nil))
    · cases e
  · cases e
end Pu

set_option maxHeartbeats 4000000
namespace Pu
open PySem PySem.Spec PyProof.Rows L2
/-! {e for x in ..}, e an int or a text, and its length -/
def growK (P : Program) (w : World) (D : Addr) (S : Key → Bool) (n : Nat) (k : Key) : HO := SetK P w D (fun j => S j || decide (j = k)) (if S k = true then n else n + 1)
def empK (P : Program) (w : World) (D : Addr) : HO := SetK P w D (fun _ => false) 0
section
variable {X : Cx}
theorem addK_ok {pins : List (Addr × Obj)} {σ : L2.St} {H : Hp} {s : Shared} {D : Addr} {S : Key → Bool} {n : Nat} {k : Key} {u : Value} {Q : Shared → Prop} (I : Inv X pins σ H s) (hD : H D = some (SetK X.prog X.w D S n)) (hr : n + 1 < scanBound) (ru : RelV (kV k) u) (q : ∀ s', Inv X pins σ (upd H D (growK X.prog X.w D S n k)) s' → Q s') :
    wpAny (model X.prog X.w) X.A (call (.builtin "set.add") [.ref D, u]) (fun _ s' => Q s') X.xe s := by
  have run := mt_saddK (X := X) pins s σ H (.ref D) [kV k] (.ref D) [u] (fun _ H' => H' = upd H D (growK X.prog X.w D S n k)) I rfl (.cons ru .nil) ⟨D, k, S, n, rfl, rfl, hD, hr, rfl⟩
  exact wpAny_mono run (fun _ s' ⟨_, H', I', _, e⟩ => q s' (e ▸ I')) fun _ _ z => z
def tScK (P : Program) (w : World) (wi : TI) (g : TG) (tt : TT) (te : TE) (vs : List Nat) : TE := fun σ H Q => wi σ H fun J H1 => ∀ D, H1 D = none → ∃ W : Nat → Nat → Hp → Prop, (∃ m, W 0 m (upd H1 D (empK P w D))) ∧ ∀ i m Ha, W i m Ha →
  (J.stop i Ha ∧ Q (.ref D) Ha) ∨ (J.go i Ha ∧ ∃ Nx : Hp → Prop, (∀ Hb, Nx Hb → ∃ m', m' < m ∧ W (i + 1) m' Hb) ∧ ∀ x Hb, J.yld i Ha x Hb → g x (L2.wipe σ vs) Hb fun σ2 H2 => L2.wipe σ2 vs = L2.wipe σ vs ∧ tt σ2 H2 fun b H3 =>
    if b = true then te σ2 H3 fun y H4 => ∃ (k : Key) (S : Key → Bool) (n : Nat), y = kV k ∧ H4 D = some (SetK P w D S n) ∧ n + 1 < scanBound ∧ Nx (upd H4 D (growK P w D S n k)) else Nx H3)
/-- the loop, in its block B; τ: the slots, the block's own forgotten -/
theorem scK_loop {B : Cx} {elt tg iter : Expr} {ifs : List Expr} {scope : Scope} {pos : Pos} {it D : Addr} {fp : List Addr} {tn : Nat → Heap → Prop} {J : It} {g : TG} {tt : TT} {te : TE} {τ : L2.St} {vs : List Nat} {R : Result → Shared → Prop} {W : Nat → Nat → Hp → Prop} {Z : Hp → Prop}
    (hxe : B.xe = fun _ _ => False) (hcalm : B.calm = true) (T : Turn B.prog B.w B.K tg J fp it tn) (pg : PG B tg g) (pt : PTs B ifs tt) (pe : PE B elt te) (hτ : L2.wipe τ vs = τ)
    (apart : ∀ σ' Ha s', Inv B [] σ' Ha s' → (∀ b ∈ fp, Ha b = none) → ∀ b ∈ fp, FpOk B [] Ha b)
    (ways : ∀ i m Ha, W i m Ha → (J.stop i Ha ∧ Z Ha) ∨ (J.go i Ha ∧ ∃ Nx : Hp → Prop, (∀ Hb, Nx Hb → ∃ m', m' < m ∧ W (i + 1) m' Hb) ∧ ∀ x Hb, J.yld i Ha x Hb → g x τ Hb fun σ2 H2 => L2.wipe σ2 vs = τ ∧ tt σ2 H2 fun b H3 =>
      if b = true then te σ2 H3 fun y H4 => ∃ (k : Key) (S : Key → Bool) (n : Nat), y = kV k ∧ H4 D = some (SetK B.prog B.w D S n) ∧ n + 1 < scanBound ∧ Nx (upd H4 D (growK B.prog B.w D S n k)) else Nx H3))
    (ends : ∀ Ha s', Inv B [] τ Ha s' → Z Ha → R (.ok .next) s') {m : Nat} {s : Shared} {H : Hp} (I : Inv B [] τ H s) (t0 : tn 0 s.heap) (n0 : ∀ b ∈ fp, H b = none) (w0 : W 0 m H) :
    codeAny (model B.prog B.w) B.A (.compLoop (.SetComp elt [⟨tg, iter, ifs, 0⟩] scope pos) 0 (.ref it) (.ref D) B.env) R s := by
  refine PpSet.compLoopS_any (fun m s' => ∃ i Ha, Inv B [] τ Ha s' ∧ tn i s'.heap ∧ (∀ b ∈ fp, Ha b = none) ∧ W i m Ha) (fun m s1 ⟨i, Ha, I1, t1, n1, w1⟩ => ?_) m ⟨0, H, I, t0, n0, w0⟩
  rcases ways i m Ha w1 with ⟨hstop, hz⟩ | ⟨hgo, Nx, toW, each⟩
  · refine thnF (T.done B rfl rfl rfl hcalm i [] s1 _ Ha (fun _ _ => False) I1 (apart _ _ _ I1 n1) t1 hstop) fun r s2 ⟨hr, I2⟩ => ?_
    subst hr
    exact ends Ha s2 I2 hz
  · refine thnF (T.item B rfl rfl rfl hcalm i [] s1 _ Ha (fun _ _ => False) I1 (apart _ _ _ I1 n1) t1 hgo) fun r s2 ⟨u, hr, q2⟩ => ?_
    subst hr
    refine thnF q2 fun _ s3 ⟨x, Hb, I3, r3, y3, t3, n3⟩ => ?_
    have I3p := I3.pinned (apart _ _ _ I3 n3) (T.obj _ _ t3)
    have run1 := pg.run _ s3 _ Hb x u _ I3p r3 (each x Hb y3)
    rw [hxe] at run1
    refine thnF run1 fun _ s4 ⟨σ4, H4, I4, hw4, q4⟩ => ?_
    have run2 := pt.run _ s4 σ4 H4 _ I4 q4
    rw [hxe] at run2
    refine thnF run2 fun b s5 ⟨H5, I5, q5⟩ => ?_
    -- what a turn hands on
    have next : ∀ {s' : Shared} {Hc : Hp}, Inv B ([] ++ pinsAt fp s3.heap) σ4 Hc s' → Nx Hc → ∃ m', m' < m ∧ ∃ i Ha, Inv B [] τ Ha s' ∧ tn i s'.heap ∧ (∀ b ∈ fp, Ha b = none) ∧ W i m' Ha := fun {s' Hc} I' nx => by
      obtain ⟨m', lt, w'⟩ := toW Hc nx
      have kept : ∀ b ∈ fp, ∀ o, s3.heap.get? b = some o → s'.heap.get? b = some o ∧ Hc b = none := fun b hb o e => by
        have z := I'.pin (b, o) (List.mem_append_right _ (List.mem_append_right _ (mem_pinsAt hb e)))
        exact ⟨z.1, z.2.1⟩
      have len : τ.length = σ4.length := by rw [← hw4, wipe_length]
      refine ⟨m', lt, i + 1, Hc, (I'.unpinned (pins := [])).weak len (fun j v e => (wipe_some (vs := vs) (by rw [hw4]; exact e)).1), T.keep _ _ _ t3 fun b hb o e => (kept b hb o e).1, fun b hb => ?_, w'⟩
      obtain ⟨o, e, _⟩ := T.obj _ _ t3 b hb
      exact (kept b hb o e).2
    by_cases hb : b = true
    · subst hb
      rw [if_pos rfl] at q5 ⊢
      have run3 := pe.run _ s5 σ4 H5 _ I5 q5
      rw [hxe] at run3
      refine thnF run3 fun z s6 ⟨y, H6, I6, r6, k, S, n, ey, hD6, room, nx⟩ => ?_
      subst ey
      have run4 := addK_ok (Q := fun s' => ∃ m', m' < m ∧ ∃ i Ha, Inv B [] τ Ha s' ∧ tn i s'.heap ∧ (∀ b ∈ fp, Ha b = none) ∧ W i m' Ha) I6 hD6 room r6 fun s7 I7 => next I7 nx
      rw [hxe] at run4
      exact thnF run4 fun _ _ h => h
    · dsimp only at q5 ⊢
      rw [if_neg hb] at q5 ⊢
      exact next I5 q5
theorem pe_scK {elt tg iter : Expr} {ifs : List Expr} {scope : Scope} {own : List (PySem.Str × Nat)} {pos : Pos} {wi : TI} {g : TG} {tt : TT} {te : TE} (hnd : X.N.Nodup) (hi : PI X tg iter wi) (ok : BlkOk X.N X.env.scope scope own)
    (hg : ∀ (s : Shared) (H : Hp) (C : Addr) (cl : List (PySem.Str × Addr)) (fp : List Addr), PG (X.blk s H scope (compEnvC scope cl C X.env) fp) tg g) (ht : ∀ (s : Shared) (H : Hp) (C : Addr) (cl : List (PySem.Str × Addr)) (fp : List Addr), PTs (X.blk s H scope (compEnvC scope cl C X.env) fp) ifs tt)
    (he : ∀ (s : Shared) (H : Hp) (C : Addr) (cl : List (PySem.Str × Addr)) (fp : List Addr), PE (X.blk s H scope (compEnvC scope cl C X.env) fp) elt te) (hc : X.calm = true := by rfl) (hs : ∀ z, foldedSetIterable iter X.env z = pure z := by intro _; rfl) :
    PE X (.SetComp elt [⟨tg, iter, ifs, 0⟩] scope pos) (tScK X.prog X.w wi g tt te (own.map (·.2))) := by
  refine ⟨fun pins s σ H Q I h => ?_⟩
  have capt : ∀ y ∈ scope.names, y.2 = .free → ∃ c, X.env.cells.lookup y.1 = some c := fun y hy e => (ok.free y hy e).elim (fun z => I.ok.has _ (.inl z)) fun z => I.ok.has _ (.inr z)
  rw [PpSet.eval_SetComp]
  refine wpAny_comprehension_free (use := none) rfl hs (closure_ok capt) ok.kind (fun y hy e => (ok.uniq y hy).trans (congrArg some e)) (thn (hi.run pins s σ H _ I h) fun _ s1 h1 => thn h1 fun itv s2 ⟨it, fp, tn, J, H2, ei, I2, T, t2, f2, q2⟩ => ?_)
  subst ei
  refine PpSet.newSet_ok (newEnv_comp ?_)
  -- the new set, at D
  have nD : H2 s2.heap.objs.size = none := I2.hok.fresh (Nat.le_refl _)
  obtain ⟨W, ⟨m0, w0⟩, ways⟩ := q2 _ nD
  have young : ∀ b ∈ fp, b < s2.heap.objs.size := fun b hb => let ⟨_, e, _⟩ := T.obj _ _ t2 b hb; Heap.lt_size e
  have fresh : (s2.heap.push (freshSet X.w)).SetOf (mixKind X.prog X.w) s2.heap.objs.size (fun _ => false) 0 := ⟨_, #[], 0, _, Heap.get?_push_size _ rfl, ⟨rfl, rfl, rfl⟩, rfl, (fun e m => by simp at m), (fun k => by simp), (by decide), (by rfl), rfl⟩
  have I3 : Inv X pins σ (upd H2 s2.heap.objs.size (empK X.prog X.w s2.heap.objs.size)) { s2 with heap := s2.heap.push (freshSet X.w) } := I2.laid (t' := s2.toks) (fun b o e => Heap.get?_push_of_some _ e) (Nat.le_refl _) (setK_new fresh)
  have f3 : ∀ b ∈ fp, FpOk X pins (upd H2 s2.heap.objs.size (empK X.prog X.w s2.heap.objs.size)) b ∧ b < (s2.heap.push (freshSet X.w)).objs.size := fun b hb => by
    have lt := young b hb
    have f := f2 b hb
    refine ⟨⟨by rw [upd_ne (Nat.ne_of_lt lt)]; exact f.1, f.2⟩, ?_⟩
    rw [Heap.size_push]
    exact Nat.lt_succ_of_lt lt
  have t3 : tn 0 (s2.heap.push (freshSet X.w)) := T.keep _ _ _ t2 fun b _ o e => Heap.get?_push_of_some _ e
  have I4 := block_start I3 ok hnd f3
  have n3 : ∀ b ∈ fp, (upd H2 s2.heap.objs.size (empK X.prog X.w s2.heap.objs.size)) b = none := fun b hb => (f3 b hb).1.1
  have lp := scK_loop (B := X.blk { s2 with heap := s2.heap.push (freshSet X.w) } (upd H2 s2.heap.objs.size (empK X.prog X.w s2.heap.objs.size)) scope (compEnvC scope (cellsFrom ((s2.heap.push (freshSet X.w)).objs.size + 1) scope.names (cloFrom X.env.cells scope.names [])) (s2.heap.push (freshSet X.w)).objs.size X.env) fp)
    (iter := iter) (scope := scope) (pos := pos) (vs := own.map (·.2)) (Z := fun Ha => Q (.ref s2.heap.objs.size) Ha) (R := compPost (model X.prog X.w) X.A X.xe none (EP X pins σ Q) (.ref s2.heap.objs.size) (s2.heap.push (freshSet X.w)).objs.size)
    rfl hc T (hg _ _ _ _ _) (ht _ _ _ _ _) (he _ _ _ _ _) (wipe_wipe σ _ _ fun _ z => z) (fun σ' Ha s' I' hn b hb => ⟨hn b hb, (I'.ok.exf b hb).1, I'.ok.exfs b hb, .inl hb, fun x c e => (I'.ok.exf b hb).2 x c e, fun p hp => absurd hp (by simp)⟩) ways ?_ I4
    (T.keep _ _ _ t3 fun b _ o e => pushCells_keeps _ _ _ _ (Heap.get?_push_of_some _ e)) n3 w0
  · exact PpSet.codeAny_compStart_set lp (T.self X.A 0 _ _ _ (T.keep _ _ _ t3 fun b _ o e => pushCells_keeps _ _ _ _ (Heap.get?_push_of_some _ e)) lp)
  · intro Ha s' I' hz
    -- back in the def
    have J1 : Inv X pins σ Ha s' := I3.call' (ch := fp) I'.os I'.base I'.hok I'.bare fun b hb => by
      obtain ⟨_, g1, g2, g3, g4, g5⟩ := (f3 b hb).1
      exact ⟨g3, g1, g4, g5⟩
    obtain ⟨mm, hn, _⟩ := I'.loc
    have free : Ha (s2.heap.push (freshSet X.w)).objs.size = none := I'.free
    obtain ⟨f0, g1, g2, g3, g4, g5⟩ := I3.fpOk (H' := Ha) (Nat.le_refl _) free
    exact ⟨mm, hn, fun h'' sb => ⟨.ref _, Ha, J1.turned (t' := s'.toks) (fun b o hb e => (sb.2 b hb).trans e) f0 g1 g3 g4 g5, rfl, hz⟩⟩
/-- len of such a set -/
def rLenK (P : Program) (w : World) : List V → Hp → VK → Prop := fun xs H Q => ∃ (a : Addr) (S : Key → Bool) (n : Nat), xs = [.ref a] ∧ H a = some (SetK P w a S n) ∧ n < 1000000 ∧ Q (.int (n : Nat)) H
theorem cr_lenK : CallR X (.builtin "len") (rLenK X.prog X.w) := by
  intro pins s σ H xs us Q I r h
  obtain ⟨a, S, n, rfl, ha, hn, q⟩ := h
  obtain ⟨u, rfl, ru⟩ := vals1 r
  cases ru
  obtain ⟨o, es, ep, t, ho, ex, hd, hel, hm, nd, hf, hsz⟩ := setK_get I ha
  refine call_len_set ho ex hd hf (by omega) ?_
  refine ⟨.int (n : Nat), H, I.tok _, ⟨s.toks + 1, by rw [hsz]⟩, q⟩
end
end Pu

set_option maxHeartbeats 4000000
namespace Pu
open PySem L2
def dStrs : List D → Option (List Str)
  | [] => some []
  | .str z :: r => (dStrs r).map fun t => z :: t
  | _ :: _ => none
/-- the different ones -/
def diff (seen : List Str) : List Str → List Str
  | [] => seen
  | z :: r => diff (if z ∈ seen then seen else z :: seen) r
def qLenSc (it : QA) (g : GE) (e : QE) (vs : List Nat) : QE := fun δ => (it δ).bind fun ds => if ds.length ≤ 1000 then (lcGo g qYes e (wipeD δ vs) ds).bind fun r => (dStrs r).map fun zs => .int ((diff [] zs).length : Nat) else none
def memK (seen : List Str) : Key → Bool
  | .inr z => decide (z ∈ seen)
  | .inl _ => false
theorem memK_nil : memK [] = fun _ => false := by
  funext j
  cases j <;> rfl
theorem dStrs_cons {d : D} {r : List D} {zs : List Str} (h : dStrs (d :: r) = some zs) : ∃ z t, d = .str z ∧ dStrs r = some t ∧ zs = z :: t := by
  cases d with
  | str z =>
    obtain ⟨t, h1, h2⟩ := Option.map_eq_some_iff.mp (show (dStrs r).map _ = some zs from h)
    exact ⟨z, t, rfl, h1, h2.symm⟩
  | _ => cases h
theorem room1000 {n : Nat} (h : n ≤ 1001) : n + 1 < scanBound := by
  unfold scanBound
  omega
theorem q_lenSc {P : Program} {w : World} {wi : TI} {qi : QA} {g : TG} {pg : GE} {js vs : List Nat} {te : TE} {qe : QE} (hi : SndIW wi qi) (hg : SndG g pg js) (hj : ∀ j ∈ js, j ∈ vs) (he : SndQ te qe) : SndQ (tCB (rLenK P w) (tCons (tScK P w wi g tYes te vs) tNil)) (qLenSc qi pg qe vs) := fun π C σ H δ d e rel Q k => by
  obtain ⟨ds, e1, e⟩ := Option.bind_eq_some_iff.mp e
  split at e
  · rename_i hlen
    obtain ⟨res, e2, e⟩ := Option.bind_eq_some_iff.mp e
    obtain ⟨zs, e3, e⟩ := Option.map_eq_some_iff.mp e
    subst e
    refine hi π C σ H δ ds e1 rel _ fun J H1 h1 src => fun Dl hD => ?_
    have rel1 := rel.he h1
    let C2 : Addr → Prop := fun a => C a ∨ a = Dl
    refine ⟨fun i m Hc => m = ds.length - i ∧ i ≤ ds.length ∧ HE H1 Hc ∧ ∃ seen rest ts, Hc Dl = some (SetK P w Dl (memK seen) seen.length) ∧ seen.length ≤ i ∧ lcGo pg qYes qe (wipeD δ vs) (ds.drop i) = some rest ∧ dStrs rest = some ts ∧ diff seen ts = diff [] zs,
      ⟨ds.length, by omega, Nat.zero_le _, HE.new hD, [], res, zs, by rw [upd_same, memK_nil]; rfl, Nat.le_refl _, by simpa using e2, e3, rfl⟩, fun i m Hc wv => ?_⟩
    obtain ⟨em, hil, hx, seen, rest, ts, hset, hsl, hgo, hts, hdf⟩ := wv
    have relc : Rel π C2 σ Hc δ := rel1.more hD hx ⟨_, hset⟩
    have sr := src C2 Hc (fun a o _ ha => ⟨hx a o ha, ⟨fun z => z.elim id (fun z => absurd (z ▸ ha) (by rw [hD]; exact fun q => nomatch q)), Or.inl⟩⟩) relc.good i
    by_cases hlt : i < ds.length
    · refine .inr ⟨sr.1 hlt, fun Hn => i + 1 ≤ ds.length ∧ HE H1 Hn ∧ ∃ seen rest ts, Hn Dl = some (SetK P w Dl (memK seen) seen.length) ∧ seen.length ≤ i + 1 ∧ lcGo pg qYes qe (wipeD δ vs) (ds.drop (i + 1)) = some rest ∧ dStrs rest = some ts ∧ diff seen ts = diff [] zs, fun Hn q => ⟨ds.length - (i + 1), by omega, rfl, q⟩, fun x Hy hy => ?_⟩
      obtain ⟨hHE, d1, ed, wd⟩ := sr.2.2 x Hy hlt hy
      have edrop : ds.drop i = d1 :: ds.drop (i + 1) := by
        obtain ⟨hb, he'⟩ := List.getElem?_eq_some_iff.mp ed
        rw [List.drop_eq_getElem_cons hb, he']
      rw [edrop] at hgo
      unfold lcGo at hgo
      obtain ⟨δ1, g1, hgo⟩ := Option.bind_eq_some_iff.mp hgo
      obtain ⟨y, g3, hgo⟩ := Option.bind_eq_some_iff.mp (show (qe δ1).bind _ = some rest from hgo)
      obtain ⟨rest', g4, g5⟩ := Option.map_eq_some_iff.mp hgo
      subst g5
      obtain ⟨z, t, ez, et, ets⟩ := dStrs_cons hts
      subst ez
      subst ets
      refine hg π C2 (L2.wipe σ vs) Hy (wipeD δ vs) x d1 δ1 g1 ((relc.he hHE).wipe vs) wd _ fun σ2 H2 he2 r2 s2 _ => ⟨(s2 vs hj).trans (wipe_wipe σ vs vs fun _ z => z), ?_⟩
      refine t_yes π C2 σ2 H2 δ1 true rfl r2 _ fun H3 h3 => ?_
      have h02 : HE Hc H3 := (hHE.trans he2).trans h3
      refine iteT (he π C2 σ2 H3 δ1 (.str z) g3 (r2.he h3) _ fun v H4 h4 w4 => ?_)
      have ev := w4.str_eq
      subst ev
      have same : growK P w Dl (memK seen) seen.length (.inr z) = SetK P w Dl (memK (if z ∈ seen then seen else z :: seen)) (if z ∈ seen then seen else z :: seen).length := by
        unfold growK
        by_cases hz : z ∈ seen
        · rw [if_pos hz, if_pos (show memK seen (.inr z) = true from decide_eq_true hz)]
          congr 1
          funext j
          by_cases hj : j = .inr z
          · rw [hj, show memK seen (.inr z) = true from decide_eq_true hz]
            rfl
          · rw [decide_eq_false hj, Bool.or_false]
        · rw [if_neg hz, if_neg (by rw [show memK seen (.inr z) = false from decide_eq_false hz]; exact Bool.false_ne_true), List.length_cons]
          congr 1
          funext j
          cases j with
          | inl i => rfl
          | inr q =>
            show (decide (q ∈ seen) || decide ((Sum.inr q : Key) = .inr z)) = decide (q ∈ z :: seen)
            by_cases hq : q = z
            · subst hq
              rw [decide_eq_true rfl, Bool.or_true, decide_eq_true List.mem_cons_self]
            · rw [decide_eq_false (fun e : (Sum.inr q : Key) = .inr z => hq (Sum.inr.inj e)), Bool.or_false]
              congr 1
              exact propext ⟨List.mem_cons_of_mem _, fun m => (List.mem_cons.mp m).elim (fun q => absurd q hq) id⟩
      refine ⟨.inr z, _, seen.length, rfl, h4 _ _ (h02 _ _ hset), room1000 (by omega), by omega, ?_, (if z ∈ seen then seen else z :: seen), rest', t, ?_, ?_, g4, et, hdf⟩
      · exact fun a o ha => by
          rw [upd_ne (ne_of_none ha hD)]
          exact h4 a o (h02 a o (hx a o ha))
      · rw [upd_same, same]
      · split
        · omega
        · rw [List.length_cons]; omega
    · have ei : i = ds.length := by omega
      subst ei
      rw [List.drop_length] at hgo
      cases hgo
      cases hts
      have hdf' : seen = diff [] zs := hdf
      refine .inl ⟨sr.2.1 rfl, Dl, _, seen.length, rfl, hset, by omega, ?_⟩
      rw [hdf']
      exact k _ Hc (h1.trans hx) (.int _)
  · cases e
end Pu

set_option maxHeartbeats 4000000
namespace Pu
open PySem L2
/-- a text's method without arguments -/
def dTxt0 (m : Nat) (g : Str → D) : D → Option D
  | .str z => if z.length ≤ m then some (g z) else none
  | _ => none
theorem q_txt0 {r : V → List V → Hp → VK → Prop} {m : Nat} {g : Str → D} {te : TE} {qe : QE} (hr : ∀ (C : Addr → Prop) (z : Str) (H : Hp) (Q : VK), z.length ≤ m → (∀ v, Dat C H v (g z) → Q v H) → r (.str z) [] H Q) (h : SndW te qe) : SndQ (tM0 r te) (q1 (dTxt0 m g) qe) := fun π C σ H δ d e rel Q k => by
  obtain ⟨x, e1, e⟩ := Option.bind_eq_some_iff.mp e
  unfold dTxt0 at e
  split at e
  · rename_i z
    split at e
    · rename_i hl
      cases e
      refine h π C σ H δ _ e1 rel _ fun v H1 h1 w1 => ?_
      have ev := w1.str
      subst ev
      exact ⟨⟨z, rfl⟩, hr C z H1 Q hl fun v w => k v H1 h1 w⟩
    · cases e
  · cases e
def dUpper : D → Option D := dTxt0 1000 fun z => .str (Txt.upper z)
theorem q_upper {te : TE} {qe : QE} (h : SndW te qe) : SndQ (tM0 (fun x xs H Q => ∃ a, x = .str a ∧ xs = [] ∧ a.length ≤ 5592405 ∧ Q (.str (Txt.upper a)) H) te) (q1 dUpper qe) :=
  q_txt0 (fun C z H Q hl k => ⟨z, rfl, rfl, by omega, k _ (.str _)⟩) h
end Pu

set_option maxHeartbeats 4000000
namespace Pu
open PySem L2
/-! readings, step by step -/
theorem call1 {f : List D → Option D} {q : QE} {δ : Pst} {d r : D} (h : q δ = some d) (hf : f [d] = some r) : (qCall f (qCons q qNil)) δ = some r := by
  unfold qCall qCons qNil
  rw [h]
  exact hf
theorem call2 {f : List D → Option D} {q p : QE} {δ : Pst} {d e r : D} (h : q δ = some d) (h2 : p δ = some e) (hf : f [d, e] = some r) : (qCall f (qCons q (qCons p qNil))) δ = some r := by
  unfold qCall qCons qNil
  rw [h, h2]
  exact hf
theorem rc {a : XE} {b : XR} {δ δ1 δ2 : Pst} {d : D} {ds : List Ar} (h : a δ = some (d, δ1)) (h2 : b δ1 = some (ds, δ2)) : rCons a b δ = some (.d d :: ds, δ2) := by
  unfold rCons
  rw [h, Option.bind_some, h2]
  rfl
theorem rcS {i : Nat} {b : XR} {δ δ2 : Pst} {w : Option Nat} {c : Cn} {ds : List Ar} (h : δ[i]? = some (.ce w c)) (h2 : b δ = some (ds, δ2)) : rConsS i b δ = some (.s i :: ds, δ2) := by
  unfold rConsS
  rw [h]
  dsimp only
  rw [h2]
  rfl
theorem rcE {b : XR} {δ δ2 : Pst} {ds : List Ar} (h2 : b δ = some (ds, δ2)) : rConsE b δ = some (.e :: ds, δ2) := by
  unfold rConsE
  rw [h2]
  rfl
theorem xc {f : FE} {x : XR} {δ δ1 δ2 : Pst} {ars : List Ar} {as as' : List Sv} {r : D} (h : x δ = some (ars, δ1)) (n : (slotsOf ars).Nodup ∧ newsOf ars ≤ 1) (m : mkAs δ1 ars = some as) (hf : f as = some (r, as')) (p : putAs δ1 ars as' = some δ2) : xCall f x δ = some (r, δ2) := by
  unfold xCall
  rw [h, Option.bind_some]
  dsimp only
  rw [if_pos n, m, Option.bind_some, hf, Option.bind_some, p]
  rfl
theorem xq_ok {q : QE} {δ : Pst} {d : D} (h : q δ = some d) : xq q δ = some (d, δ) := by
  unfold xq
  rw [h]
  rfl
theorem qtup1 {q : QE} {δ : Pst} {d : D} (h : q δ = some d) : (qTup (qCons q qNil)) δ = some (.tuple [d]) := by
  unfold qTup qCons qNil
  rw [h]
  rfl
theorem q2_ok {f : D → D → Option D} {a b : QE} {δ : Pst} {x y r : D} (ha : a δ = some x) (hb : b δ = some y) (hf : f x y = some r) : (q2 f a b) δ = some r := by
  unfold q2
  rw [ha, Option.bind_some, hb]
  exact hf
theorem q1_ok {f : D → Option D} {a : QE} {δ : Pst} {x r : D} (ha : a δ = some x) (hf : f x = some r) : (q1 f a) δ = some r := by
  unfold q1
  rw [ha]
  exact hf
theorem x2_ok {f : D → D → Option D} {a b : XE} {δ δ1 δ2 : Pst} {x y r : D} (ha : a δ = some (x, δ1)) (hb : b δ1 = some (y, δ2)) (hf : f x y = some r) : (x2 f a b) δ = some (r, δ2) := by
  unfold x2
  rw [ha, Option.bind_some]
  dsimp only
  rw [hb, Option.bind_some]
  dsimp only
  rw [hf]
  rfl
theorem qcf {f : FE} {qa : QA} {δ : Pst} {ds : List D} {r : D} {as' : List Sv} (h : qa δ = some ds) (hf : f (ds.map .im) = some (r, as')) : qCallF f qa δ = some r := by
  unfold qCallF
  rw [h, Option.bind_some, hf]
  rfl
theorem qcf1 {f : FE} {a : QE} {δ : Pst} {x r : D} {as' : List Sv} (h : a δ = some x) (hf : f [.im x] = some (r, as')) : qCallF f (qCons a qNil) δ = some r :=
  qcf (ds := [x]) (by unfold qCons qNil; rw [h]; rfl) hf
theorem qc2 {a b : QE} {δ : Pst} {x y : D} (ha : a δ = some x) (hb : b δ = some y) : (qCons a (qCons b qNil)) δ = some [x, y] := by
  unfold qCons qNil
  rw [ha, Option.bind_some, hb]
  rfl
theorem qcf2 {f : FE} {a b : QE} {δ : Pst} {x y r : D} {as' : List Sv} (h : a δ = some x) (h2 : b δ = some y) (hf : f [.im x, .im y] = some (r, as')) : qCallF f (qCons a (qCons b qNil)) δ = some r :=
  qcf (ds := [x, y]) (qc2 h h2) hf
theorem xcf1 {f : FE} {a : XE} {δ δ1 : Pst} {x r : D} (h : a δ = some (x, δ1)) (hf : f [.im x] = some (r, [.im x])) : xCall f (rCons a rNil) δ = some (r, δ1) :=
  xc (δ1 := δ1) (ars := [.d x]) (as := [.im x]) (as' := [.im x]) (rc h rfl) ⟨by simp [slotsOf], by simp [newsOf]⟩ rfl hf rfl
theorem xcf2 {f : FE} {a b : XE} {δ δ1 δ2 : Pst} {x y r : D} (h : a δ = some (x, δ1)) (h2 : b δ1 = some (y, δ2)) (hf : f [.im x, .im y] = some (r, [.im x, .im y])) : xCall f (rCons a (rCons b rNil)) δ = some (r, δ2) :=
  xc (δ1 := δ2) (ars := [.d x, .d y]) (as := [.im x, .im y]) (as' := [.im x, .im y]) (rc h (rc h2 rfl)) ⟨by simp [slotsOf], by simp [newsOf]⟩ rfl hf rfl
theorem qt_ok {a : QE} {δ : Pst} {b : Bool} (h : a δ = some (.bool b)) : qTest a δ = some b := by
  unfold qTest
  rw [h]
  rfl
theorem xt_ok {a : XE} {δ δ1 : Pst} {b : Bool} (h : a δ = some (.bool b, δ1)) : xTest a δ = some (b, δ1) := by
  unfold xTest
  rw [h]
  rfl
theorem qn_ok {t : QT} {δ : Pst} {b : Bool} (h : t δ = some b) : qNot t δ = some (!b) := by
  unfold qNot
  rw [h]
  rfl
theorem qor_t {t u : QT} {δ : Pst} (h : t δ = some true) : qOr t u δ = some true := by
  unfold qOr
  rw [h]
  rfl
theorem qor_f {t u : QT} {δ : Pst} {b : Bool} (h : t δ = some false) (h2 : u δ = some b) : qOr t u δ = some b := by
  unfold qOr
  rw [h]
  exact h2
theorem qand_t {t u : QT} {δ : Pst} {b : Bool} (h : t δ = some true) (h2 : u δ = some b) : qAnd t u δ = some b := by
  unfold qAnd
  rw [h]
  exact h2
theorem qand_f {t u : QT} {δ : Pst} (h : t δ = some false) : qAnd t u δ = some false := by
  unfold qAnd
  rw [h]
  rfl
theorem qandV_t {t u : QE} {δ : Pst} {d : D} (h : t δ = some (.bool true)) (h2 : u δ = some d) : qAndV t u δ = some d := by
  unfold qAndV
  rw [h]
  exact h2
theorem qandV_f {t u : QE} {δ : Pst} (h : t δ = some (.bool false)) : qAndV t u δ = some (.bool false) := by
  unfold qAndV
  rw [h]
  rfl
theorem sq_nx {p q : SE} {δ δ1 : Pst} (h : p δ = some (.nx, δ1)) : sSeq p q δ = q δ1 := by
  unfold sSeq
  rw [h]
  rfl
theorem sq_rt {p q : SE} {δ δ1 : Pst} {d : D} (h : p δ = some (.rt d, δ1)) : sSeq p q δ = some (.rt d, δ1) := by
  unfold sSeq
  rw [h]
  rfl
theorem asg_ok {q : QE} {i : Nat} {δ : Pst} {d : D} (h : q δ = some d) (hi : i < δ.length) : sAsg q (setD i) δ = some (.nx, δ.set i (.im d)) := by
  unfold sAsg setD
  rw [h, Option.bind_some, if_pos hi]
  rfl
theorem asgX_ok {x : XE} {i : Nat} {δ δ1 : Pst} {d : D} (h : x δ = some (d, δ1)) (hi : i < δ1.length) : sAsgX x (setD i) δ = some (.nx, δ1.set i (.im d)) := by
  unfold sAsgX setD
  rw [h, Option.bind_some]
  dsimp only
  rw [if_pos hi]
  rfl
theorem ret_ok {q : QE} {δ : Pst} {d : D} (h : q δ = some d) : sRet q δ = some (.rt d, δ) := by
  unfold sRet
  rw [h]
  rfl
theorem retX_ok {x : XE} {δ δ1 : Pst} {d : D} (h : x δ = some (d, δ1)) : sRetX x δ = some (.rt d, δ1) := by
  unfold sRetX
  rw [h]
  rfl
theorem sif_t {t : QT} {p q : SE} {δ : Pst} (h : t δ = some true) : sIf t p q δ = p δ := by
  unfold sIf
  rw [h]
  rfl
theorem sif_f {t : QT} {p q : SE} {δ : Pst} (h : t δ = some false) : sIf t p q δ = q δ := by
  unfold sIf
  rw [h]
  rfl
theorem sifX_t {t : XT} {p q : SE} {δ δ1 : Pst} (h : t δ = some (true, δ1)) : sIfX t p q δ = p δ1 := by
  unfold sIfX
  rw [h]
  rfl
theorem sifX_f {t : XT} {p q : SE} {δ δ1 : Pst} (h : t δ = some (false, δ1)) : sIfX t p q δ = q δ1 := by
  unfold sIfX
  rw [h]
  rfl
theorem xif_t {t : XT} {p q : XE} {δ δ1 : Pst} (h : t δ = some (true, δ1)) : xIf t p q δ = p δ1 := by
  unfold xIf
  rw [h]
  rfl
theorem xif_f {t : XT} {p q : XE} {δ δ1 : Pst} (h : t δ = some (false, δ1)) : xIf t p q δ = q δ1 := by
  unfold xIf
  rw [h]
  rfl
theorem xand_t {t u : XT} {δ δ1 : Pst} {r : Bool × Pst} (h : t δ = some (true, δ1)) (h2 : u δ1 = some r) : xAnd t u δ = some r := by
  unfold xAnd
  rw [h]
  exact h2
theorem xand_f {t u : XT} {δ δ1 : Pst} (h : t δ = some (false, δ1)) : xAnd t u δ = some (false, δ1) := by
  unfold xAnd
  rw [h]
  rfl
theorem xqT_ok {t : QT} {δ : Pst} {b : Bool} (h : t δ = some b) : xqT t δ = some (b, δ) := by
  unfold xqT
  rw [h]
  rfl
theorem fn_rt {n N : Nat} {body : SE} {as ms as' : List Sv} {d : D} {δ : Pst} (hl : as.length = n) (hm : mark 0 as = some ms) (hb : body (ms ++ List.replicate (N - as.length) .no) = some (.rt d, δ)) (hf : fin 0 as δ = some as') : fnF n N body as = some (d, as') := by
  unfold fnF runF
  rw [if_pos hl, hm, Option.bind_some, hb, Option.bind_some]
  dsimp only
  rw [hf]
  rfl
theorem fg_nx {g : GE} {b : SE} {d : D} {ds : List D} {δ δ1 δ2 : Pst} (h1 : g d δ = some δ1) (h2 : b δ1 = some (.nx, δ2)) : forGo g b (d :: ds) δ = forGo g b ds δ2 := by
  show (g d δ).bind _ = _
  rw [h1, Option.bind_some, h2, Option.bind_some]
theorem fg_ct {g : GE} {b : SE} {d : D} {ds : List D} {δ δ1 δ2 : Pst} (h1 : g d δ = some δ1) (h2 : b δ1 = some (.ct, δ2)) : forGo g b (d :: ds) δ = forGo g b ds δ2 := by
  show (g d δ).bind _ = _
  rw [h1, Option.bind_some, h2, Option.bind_some]
theorem fg_bk {g : GE} {b : SE} {d : D} {ds : List D} {δ δ1 δ2 : Pst} (h1 : g d δ = some δ1) (h2 : b δ1 = some (.bk, δ2)) : forGo g b (d :: ds) δ = some (.nx, δ2) := by
  show (g d δ).bind _ = _
  rw [h1, Option.bind_some, h2, Option.bind_some]
theorem fg_rt {g : GE} {b : SE} {d v : D} {ds : List D} {δ δ1 δ2 : Pst} (h1 : g d δ = some δ1) (h2 : b δ1 = some (.rt v, δ2)) : forGo g b (d :: ds) δ = some (.rt v, δ2) := by
  show (g d δ).bind _ = _
  rw [h1, Option.bind_some, h2, Option.bind_some]
theorem for_ok {it : QA} {g : GE} {b : SE} {δ : Pst} {ds : List D} {r : Out × Pst} (h : it δ = some ds) (h2 : forGo g b ds δ = some r) : sFor it g b δ = some r := by
  unfold sFor
  rw [h]
  exact h2
theorem qseq_ok {q : QE} {δ : Pst} {d : D} {ds : List D} (h : q δ = some d) (h2 : dSeq d = some ds) : qSeq q δ = some ds := by
  unfold qSeq
  rw [h]
  exact h2
theorem lc_ok {it : QA} {g : GE} {t : QT} {e : QE} {vs : List Nat} {δ : Pst} {ds r : List D} (h : it δ = some ds) (hl : ds.length ≤ 100000) (h2 : lcGo g t e (wipeD δ vs) ds = some r) : qLc it g t e vs δ = some (.list r) := by
  unfold qLc
  rw [h, Option.bind_some, if_pos hl, h2]
  rfl
/-- a comprehension that takes each -/
theorem lcE {α : Type} {enc : α → D} {g : GE} {e : QE} {base : Pst} {h : α → D} : ∀ {l : List α}, (∀ d ∈ l, ∃ δ1, g (enc d) base = some δ1 ∧ e δ1 = some (h d)) → lcGo g qYes e base (l.map enc) = some (l.map h)
  | [], _ => rfl
  | d :: l, hs => by
    obtain ⟨δ1, h1, h2⟩ := hs d List.mem_cons_self
    have ih := lcE (g := g) (e := e) (base := base) (h := h) (l := l) fun x hx => hs x (List.mem_cons_of_mem _ hx)
    show (g (enc d) base).bind _ = _
    rw [h1]
    show ((e δ1).bind fun x => (lcGo g qYes e base (l.map enc)).map fun r => x :: r) = _
    rw [h2, ih]
    rfl
theorem bls_mapE {α : Type} (f : α → Bool) : ∀ (l : List α), dBls (l.map fun x => .bool (f x)) = some (l.map f)
  | [] => rfl
  | x :: l => by
    show (dBls (l.map fun x => .bool (f x))).map _ = _
    rw [bls_mapE f l]
    rfl
/-- all([f(x) for x in xs]) -/
theorem allE {α : Type} {enc : α → D} {f : α → Bool} {it : QA} {g : GE} {e : QE} {vs : List Nat} {δ : Pst} {l : List α} (hi : it δ = some (l.map enc)) (hl : l.length ≤ 100000) (hs : ∀ x ∈ l, ∃ δ1, g (enc x) (wipeD δ vs) = some δ1 ∧ e δ1 = some (.bool (f x))) : (qCall dAll (qCons (qLc it g qYes e vs) qNil)) δ = some (.bool (l.all f)) := by
  refine call1 (lc_ok hi (by rw [List.length_map]; exact hl) (lcE (h := fun x => .bool (f x)) hs)) ?_
  show (dBls (l.map fun x => .bool (f x))).map _ = _
  rw [bls_mapE]
  simp [List.all_map]
end Pu

set_option maxHeartbeats 1000000
namespace Pu
open PySem L2
/-! what holds after it: for drawings -/
def XW (X : XE) (δ : Pst) (Q : D → Pst → Prop) : Prop := ∃ d δ1, X δ = some (d, δ1) ∧ Q d δ1
def AW (X : XA) (δ : Pst) (Q : List D → Pst → Prop) : Prop := ∃ d δ1, X δ = some (d, δ1) ∧ Q d δ1
def RW (X : XR) (δ : Pst) (Q : List Ar → Pst → Prop) : Prop := ∃ d δ1, X δ = some (d, δ1) ∧ Q d δ1
def TW (X : XT) (δ : Pst) (Q : Bool → Pst → Prop) : Prop := ∃ b δ1, X δ = some (b, δ1) ∧ Q b δ1
def SW (S : SE) (δ : Pst) (Q : Out → Pst → Prop) : Prop := ∃ o δ1, S δ = some (o, δ1) ∧ Q o δ1
theorem XW.mono {X : XE} {δ : Pst} {Q R : D → Pst → Prop} (h : XW X δ Q) (k : ∀ d δ1, Q d δ1 → R d δ1) : XW X δ R := by
  obtain ⟨d, δ1, e, q⟩ := h
  exact ⟨d, δ1, e, k _ _ q⟩
theorem SW.mono {S : SE} {δ : Pst} {Q R : Out → Pst → Prop} (h : SW S δ Q) (k : ∀ o δ1, Q o δ1 → R o δ1) : SW S δ R := by
  obtain ⟨o, δ1, e, q⟩ := h
  exact ⟨o, δ1, e, k _ _ q⟩
theorem TW.mono {S : XT} {δ : Pst} {Q R : Bool → Pst → Prop} (h : TW S δ Q) (k : ∀ o δ1, Q o δ1 → R o δ1) : TW S δ R := by
  obtain ⟨o, δ1, e, q⟩ := h
  exact ⟨o, δ1, e, k _ _ q⟩
theorem xw_q {q : QE} {δ : Pst} {d : D} {Q : D → Pst → Prop} (h : q δ = some d) (k : Q d δ) : XW (xq q) δ Q := ⟨d, δ, xq_ok h, k⟩
theorem xw_2 {f : D → D → Option D} {a b : XE} {δ : Pst} {Q : D → Pst → Prop} (h : XW a δ fun x δ1 => XW b δ1 fun y δ2 => ∃ d, f x y = some d ∧ Q d δ2) : XW (x2 f a b) δ Q := by
  obtain ⟨x, δ1, e1, y, δ2, e2, d, e3, k⟩ := h
  exact ⟨d, δ2, x2_ok e1 e2 e3, k⟩
theorem xw_if {t : XT} {a b : XE} {δ : Pst} {Q : D → Pst → Prop} (h : TW t δ fun c δ1 => (c = true → XW a δ1 Q) ∧ (c = false → XW b δ1 Q)) : XW (xIf t a b) δ Q := by
  obtain ⟨c, δ1, e, k1, k2⟩ := h
  cases c with
  | true =>
    obtain ⟨d, δ2, e2, k⟩ := k1 rfl
    exact ⟨d, δ2, (xif_t e).trans e2, k⟩
  | false =>
    obtain ⟨d, δ2, e2, k⟩ := k2 rfl
    exact ⟨d, δ2, (xif_f e).trans e2, k⟩
theorem tw_x {a : XE} {δ : Pst} {Q : Bool → Pst → Prop} (h : XW a δ fun d δ1 => ∃ b, asB d = some b ∧ Q b δ1) : TW (xTest a) δ Q := by
  obtain ⟨d, δ1, e, b, eb, k⟩ := h
  refine ⟨b, δ1, ?_, k⟩
  unfold xTest
  rw [e, Option.bind_some, eb]
  rfl
theorem tw_q {t : QT} {δ : Pst} {b : Bool} {Q : Bool → Pst → Prop} (h : t δ = some b) (k : Q b δ) : TW (xqT t) δ Q := ⟨b, δ, xqT_ok h, k⟩
theorem tw_and {t u : XT} {δ : Pst} {Q : Bool → Pst → Prop} (h : TW t δ fun b δ1 => (b = true → TW u δ1 Q) ∧ (b = false → Q false δ1)) : TW (xAnd t u) δ Q := by
  obtain ⟨b, δ1, e, k1, k2⟩ := h
  cases b with
  | true =>
    obtain ⟨c, δ2, e2, k⟩ := k1 rfl
    exact ⟨c, δ2, xand_t e e2, k⟩
  | false => exact ⟨false, δ1, xand_f e, k2 rfl⟩
theorem tw_not {t : XT} {δ : Pst} {Q : Bool → Pst → Prop} (h : TW t δ fun b δ1 => Q (!b) δ1) : TW (xNot t) δ Q := by
  obtain ⟨b, δ1, e, k⟩ := h
  refine ⟨!b, δ1, ?_, k⟩
  unfold xNot
  rw [e]
  rfl
theorem aw_nil {δ : Pst} {Q : List D → Pst → Prop} (k : Q [] δ) : AW xNil δ Q := ⟨[], δ, rfl, k⟩
theorem aw_cons {a : XE} {b : XA} {δ : Pst} {Q : List D → Pst → Prop} (h : XW a δ fun d δ1 => AW b δ1 fun ds δ2 => Q (d :: ds) δ2) : AW (xCons a b) δ Q := by
  obtain ⟨d, δ1, e1, ds, δ2, e2, k⟩ := h
  refine ⟨d :: ds, δ2, ?_, k⟩
  unfold xCons
  rw [e1, Option.bind_some, e2]
  rfl
theorem aw_rng {f : List D → Option (List D)} {a : XA} {δ : Pst} {Q : List D → Pst → Prop} (h : AW a δ fun ds δ1 => ∃ es, f ds = some es ∧ Q es δ1) : AW (xRng f a) δ Q := by
  obtain ⟨ds, δ1, e1, es, e2, k⟩ := h
  refine ⟨es, δ1, ?_, k⟩
  unfold xRng
  rw [e1, Option.bind_some, e2]
  rfl
theorem xw_tup {a : XA} {δ : Pst} {Q : D → Pst → Prop} (h : AW a δ fun ds δ1 => ds.length ≤ 100000 ∧ Q (.tuple ds) δ1) : XW (xTup a) δ Q := by
  obtain ⟨ds, δ1, e, hl, k⟩ := h
  refine ⟨.tuple ds, δ1, ?_, k⟩
  unfold xTup
  rw [e, Option.bind_some]
  unfold dTup
  rw [if_pos hl]
  rfl
theorem xw_callB {f : List D → Option D} {a : XA} {δ : Pst} {Q : D → Pst → Prop} (h : AW a δ fun ds δ1 => ∃ d, f ds = some d ∧ Q d δ1) : XW (xCallB f a) δ Q := by
  obtain ⟨ds, δ1, e, d, e2, k⟩ := h
  refine ⟨d, δ1, ?_, k⟩
  unfold xCallB
  rw [e, Option.bind_some, e2]
  rfl
/-! arguments -/
theorem rw_nil {δ : Pst} {Q : List Ar → Pst → Prop} (k : Q [] δ) : RW rNil δ Q := ⟨[], δ, rfl, k⟩
theorem rw_cons {a : XE} {b : XR} {δ : Pst} {Q : List Ar → Pst → Prop} (h : XW a δ fun d δ1 => RW b δ1 fun ds δ2 => Q (.d d :: ds) δ2) : RW (rCons a b) δ Q := by
  obtain ⟨d, δ1, e1, ds, δ2, e2, k⟩ := h
  exact ⟨_, δ2, rc e1 e2, k⟩
theorem rw_s {i : Nat} {b : XR} {δ : Pst} {w : Option Nat} {c : Cn} {Q : List Ar → Pst → Prop} (h : δ[i]? = some (.ce w c)) (h2 : RW b δ fun ds δ2 => Q (.s i :: ds) δ2) : RW (rConsS i b) δ Q := by
  obtain ⟨ds, δ2, e2, k⟩ := h2
  exact ⟨_, δ2, rcS h e2, k⟩
theorem xw_call {f : FE} {x : XR} {δ : Pst} {Q : D → Pst → Prop} (h : RW x δ fun ars δ1 => ((slotsOf ars).Nodup ∧ newsOf ars ≤ 1) ∧ ∃ as, mkAs δ1 ars = some as ∧ ∃ r as', f as = some (r, as') ∧ ∃ δ2, putAs δ1 ars as' = some δ2 ∧ Q r δ2) : XW (xCall f x) δ Q := by
  obtain ⟨ars, δ1, e, n, as, m, r, as', hf, δ2, p, k⟩ := h
  exact ⟨r, δ2, xc e n m hf p, k⟩
/-! statements -/
def nxt (R : Pst → Prop) (Q : Out → Pst → Prop) : Out → Pst → Prop := fun o δ => match o with
  | .nx => R δ
  | o => Q o δ
theorem sw_seq {p q : SE} {δ : Pst} {Q : Out → Pst → Prop} (h : SW p δ (nxt (fun δ1 => SW q δ1 Q) Q)) : SW (sSeq p q) δ Q := by
  obtain ⟨o, δ1, e, k⟩ := h
  unfold SW sSeq
  rw [e, Option.bind_some]
  cases o with
  | nx => exact k
  | bk => exact ⟨_, δ1, rfl, k⟩
  | ct => exact ⟨_, δ1, rfl, k⟩
  | rt d => exact ⟨_, δ1, rfl, k⟩
theorem sw_setX {x : XE} {i : Nat} {δ : Pst} {Q : Out → Pst → Prop} (h : XW x δ fun d δ1 => i < δ1.length ∧ Q .nx (δ1.set i (.im d))) : SW (sAsgX x (setD i)) δ Q := by
  obtain ⟨d, δ1, e, hl, k⟩ := h
  exact ⟨_, _, asgX_ok e hl, k⟩
theorem sw_set {q : QE} {i : Nat} {δ : Pst} {d : D} {Q : Out → Pst → Prop} (h : q δ = some d) (hl : i < δ.length) (k : Q .nx (δ.set i (.im d))) : SW (sAsg q (setD i)) δ Q := ⟨_, _, asg_ok h hl, k⟩
/-- x = .. and then the rest -/
theorem sw_sX {x : XE} {i : Nat} {p : SE} {δ : Pst} {Q : Out → Pst → Prop} (h : XW x δ fun d δ1 => i < δ1.length ∧ SW p (δ1.set i (.im d)) Q) : SW (sSeq (sAsgX x (setD i)) p) δ Q := sw_seq (sw_setX h)
theorem sw_sq {q : QE} {i : Nat} {p : SE} {δ : Pst} {d : D} {Q : Out → Pst → Prop} (h : q δ = some d) (hl : i < δ.length) (k : SW p (δ.set i (.im d)) Q) : SW (sSeq (sAsg q (setD i)) p) δ Q := sw_seq (sw_set h hl k)
theorem sw_rt {q : QE} {δ : Pst} {d : D} {Q : Out → Pst → Prop} (h : q δ = some d) (k : Q (.rt d) δ) : SW (sRet q) δ Q := ⟨_, _, ret_ok h, k⟩
theorem sw_rtX {x : XE} {δ : Pst} {Q : Out → Pst → Prop} (h : XW x δ fun d δ1 => Q (.rt d) δ1) : SW (sRetX x) δ Q := by
  obtain ⟨d, δ1, e, k⟩ := h
  exact ⟨_, _, retX_ok e, k⟩
theorem sw_if {t : QT} {p q : SE} {δ : Pst} {b : Bool} {Q : Out → Pst → Prop} (h : t δ = some b) (k1 : b = true → SW p δ Q) (k2 : b = false → SW q δ Q) : SW (sIf t p q) δ Q := by
  cases b with
  | true =>
    obtain ⟨o, δ1, e, k⟩ := k1 rfl
    exact ⟨o, δ1, (sif_t h).trans e, k⟩
  | false =>
    obtain ⟨o, δ1, e, k⟩ := k2 rfl
    exact ⟨o, δ1, (sif_f h).trans e, k⟩
theorem sw_ifX {t : XT} {p q : SE} {δ : Pst} {Q : Out → Pst → Prop} (h : TW t δ fun b δ1 => (b = true → SW p δ1 Q) ∧ (b = false → SW q δ1 Q)) : SW (sIfX t p q) δ Q := by
  obtain ⟨b, δ1, e, k1, k2⟩ := h
  cases b with
  | true =>
    obtain ⟨o, δ2, e2, k⟩ := k1 rfl
    exact ⟨o, δ2, (sifX_t e).trans e2, k⟩
  | false =>
    obtain ⟨o, δ2, e2, k⟩ := k2 rfl
    exact ⟨o, δ2, (sifX_f e).trans e2, k⟩
theorem sw_nx {δ : Pst} {Q : Out → Pst → Prop} (k : Q .nx δ) : SW sNx δ Q := ⟨_, _, rfl, k⟩
theorem sw_bk {δ : Pst} {Q : Out → Pst → Prop} (k : Q .bk δ) : SW sBk δ Q := ⟨_, _, rfl, k⟩
theorem sw_own {i : Nat} {a : QA} {δ : Pst} {ds : List D} {Q : Out → Pst → Prop} (h : a δ = some ds) (hl : ds.length ≤ 100000) (hi : i < δ.length) (k : Q .nx (δ.set i (.ce none (.l ds)))) : SW (sOwn i a) δ Q := by
  refine ⟨.nx, _, ?_, k⟩
  unfold sOwn
  rw [h, Option.bind_some, if_pos hl]
  unfold setOwn
  rw [if_pos hi]
  rfl
theorem sw_ownD {i : Nat} {δ : Pst} {Q : Out → Pst → Prop} (hi : i < δ.length) (k : Q .nx (δ.set i (.ce none (.k [])))) : SW (sOwnD i) δ Q := by
  refine ⟨.nx, _, ?_, k⟩
  unfold sOwnD setOwn
  rw [if_pos hi]
  rfl
theorem sw_app {i : Nat} {q : QE} {δ : Pst} {d : D} {w : Option Nat} {xs : List D} {Q : Out → Pst → Prop} (h : q δ = some d) (hi : δ[i]? = some (.ce w (.l xs))) (hl : xs.length < 100000) (k : Q .nx (δ.set i (.ce w (.l (xs ++ [d]))))) : SW (sApp i q) δ Q := by
  refine ⟨.nx, _, ?_, k⟩
  unfold sApp getL
  rw [h, Option.bind_some, hi]
  dsimp only [Option.bind_some]
  rw [if_pos hl]
theorem sw_frz {i : Nat} {p : SE} {δ : Pst} {xs : List D} {Q : Out → Pst → Prop} (hi : δ[i]? = some (.ce none (.l xs))) (k : SW p (δ.set i (.im (.list xs))) Q) : SW (sFrz i p) δ Q := by
  obtain ⟨o, δ1, e, k⟩ := k
  refine ⟨o, δ1, ?_, k⟩
  unfold sFrz
  rw [hi]
  exact e
theorem fg_w {g : GE} {b : SE} {Q : Out → Pst → Prop} (I : List D → Pst → Prop) (h0 : ∀ δ, I [] δ → Q .nx δ) (hI : ∀ d ds δ, I (d :: ds) δ → ∃ δ1, g d δ = some δ1 ∧ SW b δ1 fun o δ2 => match o with
    | .nx => I ds δ2
    | .ct => I ds δ2
    | .bk => Q .nx δ2
    | .rt v => Q (.rt v) δ2) : ∀ ds δ, I ds δ → ∃ o δ2, forGo g b ds δ = some (o, δ2) ∧ Q o δ2
  | [], δ, h => ⟨.nx, δ, rfl, h0 δ h⟩
  | d :: ds, δ, h => by
    obtain ⟨δ1, e1, o, δ2, e2, k⟩ := hI d ds δ h
    cases o with
    | nx =>
      obtain ⟨o, δ3, e3, q⟩ := fg_w I h0 hI ds δ2 k
      exact ⟨o, δ3, (fg_nx e1 e2).trans e3, q⟩
    | ct =>
      obtain ⟨o, δ3, e3, q⟩ := fg_w I h0 hI ds δ2 k
      exact ⟨o, δ3, (fg_ct e1 e2).trans e3, q⟩
    | bk => exact ⟨_, _, fg_bk e1 e2, k⟩
    | rt v => exact ⟨_, _, fg_rt e1 e2, k⟩
theorem sw_for {it : QA} {g : GE} {b : SE} {δ : Pst} {ds : List D} {Q : Out → Pst → Prop} (h : it δ = some ds) (I : List D → Pst → Prop) (hs : I ds δ) (hI : ∀ d ds δ, I (d :: ds) δ → ∃ δ1, g d δ = some δ1 ∧ SW b δ1 fun o δ2 => match o with
    | .nx => I ds δ2
    | .ct => I ds δ2
    | .bk => Q .nx δ2
    | .rt v => Q (.rt v) δ2) (h0 : ∀ δ, I [] δ → Q .nx δ) : SW (sFor it g b) δ Q := by
  obtain ⟨o, δ2, e, q⟩ := fg_w I h0 hI ds δ hs
  exact ⟨o, δ2, for_ok h e, q⟩
theorem sw_forX {it : XA} {g : GE} {b : SE} {δ : Pst} {Q : Out → Pst → Prop} (I : List D → Pst → Prop) (hs : AW it δ I) (hI : ∀ d ds δ, I (d :: ds) δ → ∃ δ1, g d δ = some δ1 ∧ SW b δ1 fun o δ2 => match o with
    | .nx => I ds δ2
    | .ct => I ds δ2
    | .bk => Q .nx δ2
    | .rt v => Q (.rt v) δ2) (h0 : ∀ δ, I [] δ → Q .nx δ) : SW (sForX it g b) δ Q := by
  obtain ⟨ds, δ1, e1, k⟩ := hs
  obtain ⟨o, δ2, e, q⟩ := fg_w I h0 hI ds δ1 k
  refine ⟨o, δ2, ?_, q⟩
  unfold sForX
  rw [e1, Option.bind_some]
  exact e
/-- a list comprehension that draws -/
theorem xlc_w {g : GE} {e : XE} {vs : List Nat} (I : List D → List D → Pst → Prop) (hI : ∀ d ds acc δ, I (d :: ds) acc δ → ∃ δ1, g d (wipeD δ vs) = some δ1 ∧ XW e δ1 fun r δ2 => I ds (acc ++ [r]) (restore δ δ2 vs)) : ∀ ds acc δ, I ds acc δ → ∃ rs δ2, xlcGo g qYes e vs ds δ = some (rs, δ2) ∧ I [] (acc ++ rs) δ2
  | [], acc, δ, h => ⟨[], δ, rfl, by rw [List.append_nil]; exact h⟩
  | d :: ds, acc, δ, h => by
    obtain ⟨δ1, e1, r, δ2, e2, k⟩ := hI d ds acc δ h
    obtain ⟨rs, δ3, e3, q⟩ := xlc_w I hI ds (acc ++ [r]) _ k
    refine ⟨r :: rs, δ3, ?_, by rw [List.append_assoc] at q; exact q⟩
    unfold xlcGo
    rw [e1, Option.bind_some]
    show ((some true).bind _ : Option (List D × Pst)) = _
    rw [Option.bind_some, if_pos rfl, e2, Option.bind_some]
    dsimp only
    rw [e3]
    rfl
theorem xw_lc {it : QA} {g : GE} {e : XE} {vs : List Nat} {δ : Pst} {ds : List D} {Q : D → Pst → Prop} (h : it δ = some ds) (hl : ds.length ≤ 100000) (hn : noCe δ vs = true) (I : List D → List D → Pst → Prop) (hs : I ds [] δ) (hI : ∀ d ds acc δ, I (d :: ds) acc δ → ∃ δ1, g d (wipeD δ vs) = some δ1 ∧ XW e δ1 fun r δ2 => I ds (acc ++ [r]) (restore δ δ2 vs)) (k : ∀ rs δ, I [] rs δ → Q (.list rs) δ) : XW (xLc it g qYes e vs) δ Q := by
  obtain ⟨rs, δ2, e1, q⟩ := xlc_w I hI ds [] δ hs
  refine ⟨.list rs, δ2, ?_, k rs δ2 q⟩
  unfold xLc
  rw [h, Option.bind_some, if_pos ⟨hl, hn⟩, e1]
  rfl
theorem fn_w {n N : Nat} {body : SE} {as ms : List Sv} {Q : D → List Sv → Prop} (hl : as.length = n) (hm : mark 0 as = some ms) (h : SW body (ms ++ List.replicate (N - as.length) .no) fun o δ => ∃ d as', o = .rt d ∧ fin 0 as δ = some as' ∧ Q d as') : ∃ d as', fnF n N body as = some (d, as') ∧ Q d as' := by
  obtain ⟨o, δ, e, d, as', rfl, hf, k⟩ := h
  exact ⟨d, as', fn_rt hl hm e hf, k⟩
end Pu

set_option maxHeartbeats 4000000
namespace Pu
open PySem L2 PySem.Spec PyProof.Rows
/-! a tuple times a number -/
/-- once: the tuple itself -/
theorem tup_once (l : Addr) (items : Array Value) (n : Nat) (dd : Option Addr) (sl : Array (Option Value)) (u : Tok) :
    Meets (Builtin.«tuple.__mul__» ⟨[.ref l, .int 1 u], []⟩) (fun _ R s => s.heap.get? l = some { cls := .type "tuple", dict := dd, data := .seq items n, slots := sl } ∧ R (.ok (.ret (Value.ref l))) s) :=
  .of_wp fun prog w A R s h => by
    obtain ⟨hp, g, d, tk, os⟩ := s
    obtain ⟨hl, h⟩ := h
    have f1 := AutoSeq1.idx_int
    have c0 : (decide ((1 : Int) < -(2 ^ 63)) || decide ((1 : Int) ≥ 2 ^ 63)) = false := by decide
    have c1 : (items.isEmpty || (1 : Int) == 1) = true := by simp
    wp_walk using wpAny_loadPart' hl
    exact ⟨_, rfl, h⟩
def rRep1 (K : PySem.W.Frag) : R2 := fun x y H Q => ∃ l xs, x = .ref l ∧ y = .int 1 ∧ SqT K H l xs ∧ Q x H
theorem op_rep1 {X : Cx} : OpR X (binaryOp .Mult) (rRep1 X.K) := by
  intro pins s σ H x y v u Q I rx ry ⟨l, xs, ex, ey, hT, q⟩
  subst ex
  subst ey
  cases rx
  obtain ⟨t, rfl⟩ := ry
  obtain ⟨its, r, ⟨⟨cls, dd, data, sl⟩, ho, hc, n, hd⟩, hs⟩ := I.tuple hT
  simp only at hc hd
  subst hc
  subst hd
  refine wpAny_binaryOp_repeat_ref (T := "tuple") (U := "int") (by decide) ⟨_, ho, rfl⟩ (fun s' => typeIs_int s' 1 t) noFill_tuple_mul F.fills_int_mul F.slot_int_rmul repeat_tuple F.slot_int_index.lookup (call_meets F.slot_int_rmul (typeIs_int s 1 t) F.entry_int_rmul (F.args_int_rmul_2 _ _) (int_rmul_tuple 1 t l its.toArray n dd sl) ⟨ho, rfl, ⟨_, ho, rfl⟩, ?_⟩)
  refine call_meets F.slot_tuple_mul ⟨_, ho, rfl⟩ F.entry_tuple_mul (F.args_tuple_mul_2 _ _) (tup_once l its.toArray n dd sl t) ⟨ho, ?_⟩
  exact ⟨.ref l, H, I, rfl, q⟩
def rMulS (K : PySem.W.Frag) : R2 := fun x y H Q => rMulA x y H Q ∨ rRepT K x y H Q ∨ rRep1 K x y H Q
theorem op_mulS {X : Cx} : OpR X (binaryOp .Mult) (rMulS X.K) := op_mulA.or (OpR.or op_repT op_rep1)
def dMulS : D → D → Option D
  | .tuple xs, .int k => if k = 1 then some (.tuple xs) else if xs ≠ [] ∧ xs.length ≤ 1000 ∧ 2 ≤ k ∧ k ≤ 1000 then some (.tuple (List.replicate k.toNat xs).flatten) else none
  | a, b => dMul a b
theorem Dats.reps {C : Addr → Prop} {H : Hp} {vs : List V} {ds : List D} (h : Dats C H vs ds) : ∀ n : Nat, Dats C H (List.replicate n vs).flatten (List.replicate n ds).flatten
  | 0 => .nil
  | n + 1 => by
    rw [List.replicate_succ, List.replicate_succ, List.flatten_cons, List.flatten_cons]
    exact h.append (Dats.reps h n)
theorem o_mulS {K : PySem.W.Frag} : OpF (rMulS K) dMulS := fun C H x y a b d e g0 wa wb Q k => by
  unfold dMulS at e
  split at e
  · rename_i xs i
    obtain ⟨p, vs, e1, c1, h1, d1⟩ := wa.tup
    have ey := wb.int
    split at e
    · rename_i hi
      subst hi
      cases e
      exact .inr (.inr ⟨p, vs, e1, ey, sqT h1, k _ H HE.refl (by rw [e1]; exact .tup c1 h1 d1)⟩)
    · split at e
      · rename_i hc
        cases e
        obtain ⟨n0, n1, n2, n3⟩ := hc
        refine .inr (.inl ⟨p, i, vs, e1, ey, sqT h1, fun z => n0 (d1.nil_r.mp z), n2, n3, by rw [d1.length]; exact n1, fun t ht => k _ _ (HE.new ht) (new_tup g0 (d1.reps _) ht)⟩)
      · cases e
  · exact .inl (o_mul C H x y _ _ d e g0 wa wb Q k)
end Pu

set_option maxHeartbeats 4000000
namespace Pu
open PySem L2
/-! more of texts -/
theorem dats_strs {C : Addr → Prop} {H : Hp} : ∀ ys : List Str, Dats C H (ys.map V.str) (ys.map .str)
  | [] => .nil
  | y :: ys => .cons (.str y) (dats_strs ys)
/-- methods of a text with one argument -/
def M1F (r : V → List V → Hp → VK → Prop) (f : D → D → Option D) : Prop := ∀ (C : Addr → Prop) (H : Hp) (x y : V) (a b d : D), f a b = some d → Good C H → Wat C H x a → Wat C H y b → (∃ z, x = .str z) ∧ ∀ Q : VK, (∀ v H', HE H H' → Dat C H' v d → Q v H') → r x [y] H Q
theorem q_m1 {r : V → List V → Hp → VK → Prop} {f : D → D → Option D} {te tb : TE} {qe qb : QE} (hr : M1F r f) (h1 : ∀ (C : Addr → Prop) (H : Hp) (x : V) (a b d : D), f a b = some d → Wat C H x a → ∃ z, x = .str z) (he : SndW te qe) (hb : SndW tb qb) : SndQ (tM1 r te tb) (q2 f qe qb) := fun π C σ H δ d e rel Q k => by
  obtain ⟨a, e1, e⟩ := Option.bind_eq_some_iff.mp e
  obtain ⟨b, e2, e⟩ := Option.bind_eq_some_iff.mp e
  refine he π C σ H δ _ e1 rel _ fun v H1 g1 w1 => ⟨h1 C H1 v a b d e w1, ?_⟩
  refine hb π C σ H1 δ _ e2 (rel.he g1) _ fun u H2 g2 w2 => ?_
  exact (hr C H2 v u a b d e ((rel.he g1).he g2).good (w1.he g2) w2).2 Q fun z H3 g3 w3 => k z H3 ((g1.trans g2).trans g3) w3
/-- of two texts -/
def dTxt2 (p : Str → Str → Bool) (g : Str → Str → D) : D → D → Option D
  | .str a, .str b => if p a b = true then some (g a b) else none
  | _, _ => none
theorem dTxt2_str {p : Str → Str → Bool} {g : Str → Str → D} (C : Addr → Prop) (H : Hp) (x : V) (a b d : D) (e : dTxt2 p g a b = some d) (w : Wat C H x a) : ∃ z, x = .str z := by
  unfold dTxt2 at e
  split at e
  · exact ⟨_, w.str⟩
  · cases e
theorem m_txt2 {r : V → List V → Hp → VK → Prop} {p : Str → Str → Bool} {g : Str → Str → D} (hr : ∀ (C : Addr → Prop) (a b : Str) (H : Hp) (Q : VK), Good C H → p a b = true → (∀ v H', HE H H' → Dat C H' v (g a b) → Q v H') → r (.str a) [.str b] H Q) : M1F r (dTxt2 p g) := fun C H x y a b d e g0 wa wb => by
  unfold dTxt2 at e
  split at e
  · split at e
    · rename_i hp
      cases e
      have ex := wa.str
      have ey := wb.str
      subst ex
      subst ey
      exact ⟨⟨_, rfl⟩, fun Q k => hr C _ _ H Q g0 hp k⟩
    · cases e
  · cases e
/-- x.split(y) -/
def dSplit : D → D → Option D := dTxt2 (fun a b => !(b.length == 0) && decide (a.length ≤ 90000)) fun a b => .list ((Txt.split a b).map .str)
theorem q_split {te tb : TE} {qe qb : QE} (he : SndW te qe) (hb : SndW tb qb) : SndQ (tM1 (fun x xs H Q => ∃ a b, x = .str a ∧ xs = [.str b] ∧ (b.length == 0) = false ∧ a.length + 2 ≤ sizeLine ∧ rNewStrs (Txt.split a b) H Q) te tb) (q2 dSplit qe qb) :=
  q_m1 (m_txt2 fun C a b H Q g0 hp k => by
    obtain ⟨h1, h2⟩ := Bool.and_eq_true_iff.mp hp
    have h1 : (b.length == 0) = false := by
      cases e : (b.length == 0) with
      | false => rfl
      | true => rw [e] at h1; cases h1
    have h2 := of_decide_eq_true h2
    exact ⟨a, b, rfl, rfl, h1, sz_of (by omega), fun p hp => k _ _ (HE.new hp) (new_lst g0 (dats_strs _) hp)⟩) dTxt2_str he hb
/-- x.startswith(y) -/
def dStarts : D → D → Option D := dTxt2 (fun _ _ => true) fun a b => .bool (Txt.startswith a b)
theorem q_starts {te tb : TE} {qe qb : QE} (he : SndW te qe) (hb : SndW tb qb) : SndQ (tM1 (fun x xs H Q => ∃ a b, x = .str a ∧ xs = [.str b] ∧ Q (.bl (Txt.startswith a b)) H) te tb) (q2 dStarts qe qb) :=
  q_m1 (m_txt2 fun C a b H Q g0 _ k => ⟨a, b, rfl, rfl, k _ H HE.refl (.bl _)⟩) dTxt2_str he hb
theorem pe_starts {X : Cx} {o e : Expr} {to te : TE} {apos pos : Pos} (ho : PE X o to) (he : PE X e te) (hs : starEach [e] X.env = [(false, eval e X.env)] := by rfl) (hbase : attributeBase o "startswith" X.env (eval o X.env) = eval o X.env := by rfl) (hline : (apos.endLine == pos.line) = true := by rfl) :
    PE X (.Call (.Attribute o "startswith" apos) [e] [] pos) (tM1 (fun x xs H Q => ∃ a b, x = .str a ∧ xs = [.str b] ∧ Q (.bl (Txt.startswith a b)) H) to te) :=
  pe_m1 F.slot_str_startswith F.type_str_startswith mt_startswith ho he hs hbase hline
/-- x.join(y) -/
def dTxts : List D → Option (List Str)
  | [] => some []
  | .str a :: l => (dTxts l).map fun r => a :: r
  | _ => none
theorem dTxts_map : ∀ {l : List D} {ys : List Str}, dTxts l = some ys → l = ys.map .str
  | [], ys, h => by cases h; rfl
  | .str a :: l, ys, h => by
    obtain ⟨r, e, e2⟩ := Option.map_eq_some_iff.mp h
    subst e2
    rw [dTxts_map e]
    rfl
  | .none :: _, _, h => nomatch h
  | .bool _ :: _, _, h => nomatch h
  | .int _ :: _, _, h => nomatch h
  | .tuple _ :: _, _, h => nomatch h
  | .list _ :: _, _, h => nomatch h
  | .dict _ :: _, _, h => nomatch h
theorem dTxts_of : ∀ ys : List Str, dTxts (ys.map .str) = some ys
  | [] => rfl
  | y :: ys => by
    rw [List.map_cons]
    show (dTxts (ys.map .str)).map _ = _
    rw [dTxts_of ys]
    rfl
theorem Dats.strs {C : Addr → Prop} {H : Hp} : ∀ {vs : List V} {ys : List Str}, Dats C H vs (ys.map .str) → vs = ys.map V.str
  | [], [], _ => rfl
  | [], _ :: _, h => by cases h
  | _ :: _, [], h => by cases h
  | v :: vs, y :: ys, h => by
    cases h with
    | cons h1 h2 =>
      rw [List.map_cons, Dats.strs h2]
      cases h1
      rfl
def dJoinA (a : Str) (ds : List D) : Option D := (dTxts ds).bind fun ys => if (ys.map (·.length)).sum + ys.length * a.length ≤ 16777216 then some (.str (Txt.join a ys)) else none
def dJoin : D → D → Option D
  | .str a, .list ds => dJoinA a ds
  | .str a, .tuple ds => dJoinA a ds
  | _, _ => none
theorem q_join {K : PySem.W.Frag} {te tb : TE} {qe qb : QE} (he : SndW te qe) (hb : SndW tb qb) : SndQ (tM1 (fun x xs H Q => ∃ a p, ∃ ys : List Str, x = .str a ∧ xs = [.ref p] ∧ (SqL K H p (ys.map V.str) ∨ SqT K H p (ys.map V.str)) ∧ (ys.map (·.length)).sum + ys.length * a.length ≤ 16777216 ∧ Q (.str (Txt.join a ys)) H) te tb) (q2 dJoin qe qb) :=
  q_m1 (fun C H x y a b d e g0 wa wb => by
    unfold dJoin at e
    split at e
    · rename_i z ds
      obtain ⟨ys, e1, e⟩ := Option.bind_eq_some_iff.mp e
      split at e
      · rename_i hl
        cases e
        have e1 := dTxts_map e1
        subst e1
        have ex := wa.str
        subst ex
        obtain ⟨p, vs, e2, h2, d2⟩ := wb.list
        subst e2
        have e3 := d2.strs
        subst e3
        exact ⟨⟨_, rfl⟩, fun Q k => ⟨_, p, ys, rfl, rfl, .inl (sqL h2), hl, k _ H HE.refl (.str _)⟩⟩
      · cases e
    · rename_i z ds
      obtain ⟨ys, e1, e⟩ := Option.bind_eq_some_iff.mp e
      split at e
      · rename_i hl
        cases e
        have e1 := dTxts_map e1
        subst e1
        have ex := wa.str
        subst ex
        obtain ⟨p, vs, e2, c2, h2, d2⟩ := wb.tup
        subst e2
        have e3 := d2.strs
        subst e3
        exact ⟨⟨_, rfl⟩, fun Q k => ⟨_, p, ys, rfl, rfl, .inr (sqT h2), hl, k _ H HE.refl (.str _)⟩⟩
      · cases e
    · cases e) (fun C H x a b d e w => by
    unfold dJoin at e
    split at e
    · exact ⟨_, w.str⟩
    · exact ⟨_, w.str⟩
    · cases e) he hb
/-- x.isdigit(), x.isascii() -/
def dDigit : D → Option D := dTxt0 90000 fun z => .bool (Txt.isdigit z)
def dAscii : D → Option D := dTxt0 90000 fun z => .bool (Txt.isascii z)
theorem q_digit {te : TE} {qe : QE} (h : SndW te qe) : SndQ (tM0 (fun x xs H Q => ∃ a, x = .str a ∧ xs = [] ∧ True ∧ Q (.bl (Txt.isdigit a)) H) te) (q1 dDigit qe) :=
  q_txt0 (fun C z H Q hl k => ⟨z, rfl, rfl, trivial, k _ (.bl _)⟩) h
theorem q_ascii {te : TE} {qe : QE} (h : SndW te qe) : SndQ (tM0 (fun x xs H Q => ∃ a, x = .str a ∧ xs = [] ∧ True ∧ Q (.bl (Txt.isascii a)) H) te) (q1 dAscii qe) :=
  q_txt0 (fun C z H Q hl k => ⟨z, rfl, rfl, trivial, k _ (.bl _)⟩) h
theorem pe_digit {X : Cx} {o : Expr} {to : TE} {apos pos : Pos} (ho : PE X o to) (hbase : attributeBase o "isdigit" X.env (eval o X.env) = eval o X.env := by rfl) (hline : (apos.endLine == pos.line) = true := by rfl) :
    PE X (.Call (.Attribute o "isdigit" apos) [] [] pos) (tM0 (fun x xs H Q => ∃ a, x = .str a ∧ xs = [] ∧ True ∧ Q (.bl (Txt.isdigit a)) H) to) := pe_m0 F.slot_str_isdigit F.type_str_isdigit mt_isdigit ho hbase hline
theorem pe_ascii {X : Cx} {o : Expr} {to : TE} {apos pos : Pos} (ho : PE X o to) (hbase : attributeBase o "isascii" X.env (eval o X.env) = eval o X.env := by rfl) (hline : (apos.endLine == pos.line) = true := by rfl) :
    PE X (.Call (.Attribute o "isascii" apos) [] [] pos) (tM0 (fun x xs H Q => ∃ a, x = .str a ∧ xs = [] ∧ True ∧ Q (.bl (Txt.isascii a)) H) to) := pe_m0 F.slot_str_isascii F.type_str_isascii mt_isascii ho hbase hline
/-- str(x) -/
def rStr1 : List V → Hp → VK → Prop := fun xs H Q => (∃ i, xs = [.int i] ∧ i.natAbs.log2 < 1920 ∧ Q (.str (toString i)) H) ∨ ∃ a, xs = [.str a] ∧ Q (.str a) H
theorem call_str1 {X : Cx} : CallR X (.type "str") rStr1 := call_str_int.or SkE.call_str_str
def dStr1 : List D → Option D
  | [.int i] => if i.natAbs.log2 < 1920 then some (.str (toString i)) else none
  | [.str a] => some (.str a)
  | _ => none
theorem c_str1 : CaF rStr1 dStr1 := fun C H xs as d e g0 w Q k => by
  unfold dStr1 at e
  split at e
  · split at e
    · rename_i hl
      cases e
      obtain ⟨v, rfl, wA⟩ := wats1 w
      exact .inl ⟨_, by rw [wA.int], hl, k _ H HE.refl (.str _)⟩
    · cases e
  · cases e
    obtain ⟨v, rfl, wA⟩ := wats1 w
    exact .inr ⟨_, by rw [wA.str], k _ H HE.refl (.str _)⟩
  · cases e
/-- int(x), x a text -/
def rIntZ : List V → Hp → VK → Prop := fun xs H Q => ∃ a n, xs = [.str a] ∧ PySem.intText? a = some n ∧ a.length ≤ 640 ∧ Q (.int n) H
def dIntZ : List D → Option D
  | [.str a] => if a.length ≤ 640 then (PySem.intText? a).map .int else none
  | _ => none
theorem c_intZ : CaF rIntZ dIntZ := fun C H xs as d e g0 w Q k => by
  unfold dIntZ at e
  split at e
  · split at e
    · rename_i hl
      obtain ⟨n, e1, e2⟩ := Option.map_eq_some_iff.mp e
      subst e2
      obtain ⟨v, rfl, wA⟩ := wats1 w
      exact ⟨_, n, by rw [wA.str], e1, hl, k _ H HE.refl (.int _)⟩
    · cases e
  · cases e
/-! a value's truth -/
def dTru : D → Option Bool
  | .none => some false
  | .bool b => some b
  | .int i => some (i != 0)
  | .str z => if z.length ≤ 100000 then some ((z.length : Int) != 0) else none
  | .list ds => some (!ds.isEmpty)
  | .tuple ds => some (!ds.isEmpty)
  | _ => none
def qTru (a : QE) : QT := fun δ => (a δ).bind dTru
theorem Dats.isEmpty {C : Addr → Prop} {H : Hp} {vs : List V} {ds : List D} (h : Dats C H vs ds) : vs.isEmpty = ds.isEmpty := by
  cases h <;> rfl
theorem t_tru {K : PySem.W.Frag} {ta : TE} {qa : QE} (h : SndW ta qa) : SndT (fun σ H Q => ta σ H fun x H' => ∃ k, TruV K x H' k ∧ Q k H') (qTru qa) := fun π C σ H δ b e rel Q k => by
  obtain ⟨d, e1, e⟩ := Option.bind_eq_some_iff.mp e
  refine h π C σ H δ _ e1 rel _ fun v H1 h1 w1 => ⟨b, ?_, k H1 h1⟩
  unfold dTru at e
  split at e
  · cases e
    have : v = .non := by
      rcases w1 with w | ⟨_, _, _, _, e, _⟩
      · cases w; rfl
      · cases e
    subst this
    rfl
  · cases e
    have : v = .bl b := by
      rcases w1 with w | ⟨_, _, _, _, e, _⟩
      · cases w; rfl
      · cases e
    subst this
    rfl
  · cases e
    rw [w1.int]
    rfl
  · split at e
    · rename_i hl
      cases e
      rw [w1.str]
      exact ⟨sz_of hl, rfl⟩
    · cases e
  · cases e
    obtain ⟨p, vs, e2, h2, d2⟩ := w1.list
    subst e2
    exact .inl ⟨vs, sqL h2, by rw [d2.isEmpty]⟩
  · cases e
    obtain ⟨p, vs, e2, c2, h2, d2⟩ := w1.tup
    subst e2
    exact .inr (.inl ⟨vs, sqT h2, by rw [d2.isEmpty]⟩)
  · cases e
end Pu

set_option maxHeartbeats 4000000
namespace Pu
open PySem L2 PySem.Spec PyProof.Rows PySem.Builtin PySem.Builtin.ObjectAttr
/-! own exceptions over Exception, with one field -/
abbrev exL : List Value := [.type "Exception", .type "BaseException", .type "object"]
structure ExE (K : PySem.W.Frag) (C : Addr) : Prop where
  made : PySem.W.excInitIn K C exL "Exception.__new__" = true
  ov : PySem.W.excOver K C exL = true
  dc : PySem.W.hasDictIn K C = true
  sa : PySem.W.findIn K (.ref C) "__setattr__" = some (some (.builtin "object.__setattr__"))
  ex : PySem.W.subIn K (.ref C) (.type "BaseException") = some true
  ty : PySem.W.typeIn K (.ref C) = some (.type "type")
  kp : PySem.W.keepIn K (.ref C) = true
section
variable {X : Cx} {pins : List (Addr × Obj)} {σ : L2.St} {H : Hp} {s : Shared} {a C : Addr} {f : Str} {y : V} {u : Value} {Q : Unit → Shared → Prop} {E : Value → Shared → Prop} {A : Around}
theorem exe_store (T : ExE X.K C) (I : Inv X pins σ H s) (e : H a = some (exo a C none)) (hno : PySem.W.takerIn X.K C f = some none) (ry : RelV y u)
    (h : ∀ dx s', H dx = none → dx ≠ a → Inv X pins σ (upd (upd H dx (exd dx [(f, y)])) a (exo a C (some dx))) s' → Q () s') : wpAny (model X.prog X.w) A (setAttr (.ref a) f u) Q E s := by
  obtain ⟨t1, ho⟩ := exo_at I.hok e
  obtain ⟨hp, g, d, t, os⟩ := s
  obtain ⟨cd, hcd, hdc⟩ := PySem.W.any_some T.dc
  have L : a < hp.objs.size := Heap.lt_size ho
  refine PySem.W.set_plain I.kIn (ox := { cls := .ref C, dict := none, data := .fields #[.ref t1, .none, .none, .none, .bool false, .none] }) (od := none) ⟨ho, rfl, rfl, trivial⟩ T.sa ?_
  refine PySem.W.osa_openX (od := none) PySem.F.store_Exception I.kIn ⟨ho, rfl, rfl, trivial⟩ T.ov hno fun b => ?_
  refine wpAny_bind (wpAny_pure (wpAny_bind (PySem.W.instanceDict_exc ho (PySem.W.looks_clsIn I.kIn hcd) hdc ?_)))
  show wpAny _ _ (storeInDict hp.objs.size (.str f _) f u) _ _ _
  have ne0 : hp.objs.size ≠ a := Nat.ne_of_gt L
  refine PySem.HandSPX.store_in_new ⟨_, #[], _, (Heap.get?_update_ne _ _ _ _ ne0).trans (Heap.get?_push_at rfl rfl), rfl, fun e he => absurd he (by simp), fun _ => rfl⟩ fun h' tk' hn' hs => ?_
  have other : ∀ b o, b ≠ a → hp.get? b = some o → h'.get? b = some o := fun b o nb q => (hs.2 b (Nat.ne_of_lt (Heap.lt_size q))).trans ((Heap.get?_update_ne _ _ _ _ nb).trans (Heap.get?_push_of_some _ q))
  have now : h'.get? a = some ({ cls := .ref C, dict := some hp.objs.size, data := .fields #[.ref t1, .none, .none, .none, .bool false, .none] } : Obj) := (hs.2 a (Nat.ne_of_lt L)).trans (Heap.get?_update_self _ (Heap.get?_push_of_some _ ho) rfl)
  -- the heap where the dict stands and the exception doesn't know of it yet
  have back : (h'.update a fun _ => ({ cls := .ref C, dict := none, data := .fields #[.ref t1, .none, .none, .none, .bool false, .none] } : Obj)).get? a = some ({ cls := .ref C, dict := none, data := .fields #[.ref t1, .none, .none, .none, .bool false, .none] } : Obj) := Heap.get?_update_self _ now rfl
  have apart : ∀ b, b ≠ a → (h'.update a fun _ => ({ cls := .ref C, dict := none, data := .fields #[.ref t1, .none, .none, .none, .bool false, .none] } : Obj)).get? b = h'.get? b := fun b nb => Heap.get?_update_ne _ _ _ _ nb
  generalize (h'.update a fun _ => ({ cls := .ref C, dict := none, data := .fields #[.ref t1, .none, .none, .none, .bool false, .none] } : Obj)) = g1 at back apart
  have fresh : H hp.objs.size = none := I.hok.fresh (Nat.le_refl _)
  have dOk : ∀ H' : Hp, ObjOk X.prog X.w H' h' hp.objs.size (exd hp.objs.size [(f, y)]) := fun H' => exd_ok hn' (relO_put (fs := []) ry fun g => True.intro)
  have J1 := I.laid (a := hp.objs.size) (o := exd hp.objs.size [(f, y)]) (h' := g1) (t' := tk') (fun b o q => by
    by_cases hb : b = a
    · subst hb
      rw [back, ← ho]
      exact q
    · rw [apart b hb]
      exact other b o hb q) (Nat.le_refl _) (by
    obtain ⟨p1, ⟨o, p2⟩, p3⟩ := dOk (upd H hp.objs.size (exd hp.objs.size [(f, y)]))
    exact ⟨p3 h' g1 p1 fun o q => (apart _ ne0).trans q, ⟨o, (apart _ ne0).trans p2⟩, p3⟩)
  refine h hp.objs.size _ fresh ne0 (J1.write (x := a) (e := a) (o := exo a C (some hp.objs.size)) (t' := tk') ?_ (.inl rfl) (fun b o nb q => (apart b nb).symm.trans q) ⟨_, now⟩ (exo_ok now))
  rw [upd_ne (Ne.symm ne0), e]
  trivial
/-- self.f = e, the first field -/
def tOstE (K : PySem.W.Frag) (f : Str) (to te : TE) : TS := fun D σ H => te σ H fun y H1 => to σ H1 fun x H2 => ∃ a C : Addr, x = .ref a ∧ ExE K C ∧ PySem.W.takerIn K C f = some none ∧ H2 a = some (exo a C none) ∧ ∀ dx, H2 dx = none → dx ≠ a → D.nx σ (upd (upd H2 dx (exd dx [(f, y)])) a (exo a C (some dx)))
theorem ps_ostE {o e : Expr} {to te : TE} {p' pos : Pos} (ho : PE X o to) (he : PE X e te) (hs : swapsWith e (some (.Attribute o f p')) pos.line X.env = pure false := by rfl) : PS X (.Assign [.Attribute o f p'] e pos) (tOstE X.K f to te) :=
  ⟨fun pins s σ H D I h => plainObj_wpAny_Assign_Attribute (thn (he.run pins s σ H _ I h) fun v s1 ⟨y, H1, I1, r1, q1⟩ => thn (ho.run pins s1 σ H1 _ I1 q1) fun u s2 ⟨x, H2, I2, r2, a, C, ex, T, hno, ea, q⟩ => by
    subst ex
    obtain rfl : u = Value.ref a := r2
    exact exe_store T I2 ea hno r1 fun dx s' n ne J => ⟨σ, _, J, q dx n ne⟩) hs⟩
/-- C(e, ..), C over Exception with an own __init__ -/
theorem pmkE {CX : CXT} {x : Str} {fI : Addr} {k : Nat} {fd : FuncData} {ps : List Str} {sp : Sp} {e : Expr} {es : List Expr} {ta : TA} {p pos : Pos} (T : ExE X.K C) (iC : PySem.W.findIn X.K (.ref C) "__init__" = some (some (.ref fI))) (tI : PySem.W.typeIn X.K (.ref fI) = some (.type "function"))
    (F1 : FnOk X.prog X.w X.K X.mg X.base CX k fI fd ps sp) (hr : Room (k + 1) X.A) (hb : Binds X.K fd ps []) (hx : Passes CX X (fun _ _ _ => False)) (hg : Gl X x) (hm : X.mg x = some (.ref C)) (ha : PA X (e :: es) ta)
    (hdb : (x == ("__debug__" : Str)) = false := by decide) (he : starEach (e :: es) X.env = (false, eval e X.env) :: starEach es X.env := by rfl) (hpl : (backTo pos (starEach es X.env)).any (·.1) = false := by rfl) :
    PMk X (.Call (.Name x p) (e :: es) [] pos) (tMkO C sp [] ta) := fun pins s σ H Q I h => by
  refine wpAny_Call_Name_kw (ld_glob I hg hm ?_ hdb)
  refine PySem.W.callWith_K (h₀ := X.base) I.ok.mod.kin T.kp (thn (ha.run pos pins s σ H _ I h) fun us s1 ⟨vs, H1, I1, r1, hz, q1⟩ => ⟨I1.kIn, ?_⟩) he hpl
  show wpAny _ _ (call (.ref C) us) _ _ _
  obtain ⟨nm, N, qn, bs, bm, hdct, sn, sub, ab, col, dd, k0, k1, k2, k3, k5, hC, hT⟩ := PySem.W.excInit_of I1.kIn T.made
  obtain ⟨hp, g, dr, tk, os⟩ := s1
  have fresh : H1 (hp.objs.size + 1) = none := I1.hok.fresh (Nat.le_succ _)
  have hq := q1 _ fresh
  rw [List.append_nil] at hq
  have kept : ∀ b o, hp.get? b = some o → ((hp.push (PySem.W.kdv_tup us)).push (PySem.HandSPX.excO C hp.objs.size)).get? b = some o := fun b o q => Heap.get?_push_of_some _ (Heap.get?_push_of_some _ q)
  have there : ((hp.push (PySem.W.kdv_tup us)).push (PySem.HandSPX.excO C hp.objs.size)).get? (hp.objs.size + 1) = some (PySem.HandSPX.excO C hp.objs.size) := by heap_get
  have I2 := I1.laid (t' := tk) (o := exo (hp.objs.size + 1) C none) kept (Nat.le_succ _) (exo_ok there)
  have r2 : Vals (V.ref (hp.objs.size + 1) :: vs) (Value.ref (hp.objs.size + 1) :: us) := .cons rfl r1
  have len : (Value.ref (hp.objs.size + 1) :: us).length = ps.length := r2.length.symm.trans (F1.len _ _ _ _ hq)
  have short : us.length ≤ sizeLine := by
    rw [← Paired.length r1, sizeLine_eq]
    omega
  have bnd := hb _ (Value.ref (hp.objs.size + 1) :: us) I2.kIn (by rw [List.append_nil]; exact len)
  rw [List.append_nil] at bnd
  refine wpAny_call (PySem.HandSPX.call_own PySem.F.excBase_Exception hT hC (PySem.W.looks_findIn I1.kIn iC) (fun self => PySem.W.bind_fn I1.kIn self tI) short (codeAny_mono (F1.run _ X.stack _ _ _ _ _ _ (fun _ _ _ => False) (hr.make C us []) (I2.env0.make C us []) bnd r2 hq) ?_))
  intro r s' z
  cases r with
  | error er => exact hx pins σ _ _ er s' I2 z
  | ok fl =>
    cases fl with
    | next => exact z.elim
    | brk => exact z.elim
    | cont => exact z.elim
    | ret u =>
      obtain ⟨v, H2, os2, bare2, un2, hok2, rv, rfl, dx, fs, ea, ed, hd1, q2⟩ := z
      obtain ⟨h2, g2, d2, t2, os'⟩ := s'
      exact ⟨rv, mk_end (raises_own T.ex T.ty) I1 (Nat.le_succ _) kept un2 hok2 os2 bare2 ea ed hd1 q2⟩
end
end Pu

set_option maxHeartbeats 4000000
namespace Pu
open PySem L2
/-! errors that leave a def: told as a value that no expression has -/
def exn (d : D) : D := .dict [(d, .none)]
def isEx : D → Option D
  | .dict [(d, .none)] => some d
  | _ => none
theorem isEx_some {r d : D} (h : isEx r = some d) : r = exn d := by
  unfold isEx at h
  split at h
  · cases h
    rfl
  · cases h
theorem isEx_exn (d : D) : isEx (exn d) = some d := rfl
theorem no_dat {C : Addr → Prop} {H : Hp} {v : V} {d : D} (h : Dat C H v (exn d)) : False := by
  unfold exn at h
  cases h
def exOf : Out → Option D
  | .rt r => isEx r
  | _ => none
def DoneX (W : WX) (CB : Addr) (C : Addr → Prop) (o : Out) (D : Ends) (σ : L2.St) (H : Hp) : Prop := match exOf o with
  | some d => ∀ (dd : Addr) (v : V), H dd = some (.xd [("at", v)]) → Dat C H v d → W (.ref CB) (some dd) σ H
  | none => Done C o D σ H
def SndSX (W : WX) (CB : Addr) (ts : TS) (p : SE) : Prop := ∀ (π : List V) (C : Addr → Prop) (σ : L2.St) (H : Hp) (δ : Pst) (o : Out) (δ' : Pst), p δ = some (o, δ') → Rel π C σ H δ → ∀ D : Ends, (∀ C' σ' H', Stp π C σ H δ C' σ' H' δ' → DoneX W CB C' o D σ' H') → ts D σ H
section
variable {W : WX} {CB : Addr} {t u : TS} {p q : SE} {tt : TT} {qt : QT} {xt : XT}
theorem sx_of (h : SndS t p) : SndSX W CB t p := fun π C σ H δ o δ' e rel D k => h π C σ H δ o δ' e rel D fun C' σ' H' st => by
  have z := k C' σ' H' st
  unfold DoneX at z
  cases eo : exOf o with
  | none =>
    rw [eo] at z
    exact z
  | some d =>
    cases o with
    | rt r =>
      have := isEx_some eo
      subst this
      exact fun v w => (no_dat w).elim
    | nx => cases eo
    | bk => cases eo
    | ct => cases eo
theorem sx_seq (hp : SndSX W CB t p) (hq : SndSX W CB u q) : SndSX W CB (tSeq t u) (sSeq p q) := fun π C σ H δ o δ' e rel D k => by
  obtain ⟨⟨o1, δ1⟩, e1, e⟩ := Option.bind_eq_some_iff.mp e
  refine hp π C σ H δ o1 δ1 e1 rel { D with nx := u D } fun C1 σ1 H1 s1 => ?_
  cases o1 with
  | nx => exact hq π C1 σ1 H1 δ1 o δ' e s1.rel D fun C2 σ2 H2 s2 => k C2 σ2 H2 (s1.trans s2)
  | rt d =>
    cases e
    exact k C1 σ1 H1 s1
  | bk =>
    cases e
    exact k C1 σ1 H1 s1
  | ct =>
    cases e
    exact k C1 σ1 H1 s1
theorem sx_if (ht : SndT tt qt) (hp : SndSX W CB t p) (hq : SndSX W CB u q) : SndSX W CB (tIfS tt t u) (sIf qt p q) := fun π C σ H δ o δ' e rel D k => by
  obtain ⟨b, e1, e⟩ := Option.bind_eq_some_iff.mp e
  refine ht π C σ H δ b e1 rel _ fun H1 h1 => ?_
  cases b with
  | true => exact iteT (hp π C σ H1 δ o δ' e (rel.he h1) D fun C2 σ2 H2 s2 => k C2 σ2 H2 ((Stp.he rel h1).trans s2))
  | false => exact iteF (hq π C σ H1 δ o δ' e (rel.he h1) D fun C2 σ2 H2 s2 => k C2 σ2 H2 ((Stp.he rel h1).trans s2))
theorem for_coreX {g : TG} {pg : GE} {js : List Nat} {tb : TS} {pb : SE} (hg : SndG g pg js) (hb : SndSX W CB tb pb) {π : List V} {C : Addr → Prop} {σ : L2.St} {H1 : Hp} {δ : Pst} {ds : List D} {o : Out} {δ' : Pst} (e : forGo pg pb ds δ = some (o, δ')) (rel1 : Rel π C σ H1 δ)
    {J : It} (src : Src (Own σ δ) C J H1 ds) {D : Ends} (k : ∀ C' σ' H', Stp π C σ H1 δ C' σ' H' δ' → DoneX W CB C' o D σ' H') :
    ∃ Wn : Nat → Nat → L2.St → Hp → Prop, (∃ m, Wn 0 m σ H1) ∧ ∀ i m σ H, Wn i m σ H →
      (J.stop i H ∧ D.nx σ H) ∨ (J.go i H ∧ ∃ N : L2.St → Hp → Prop, (∀ σ' H', N σ' H' → ∃ m', m' < m ∧ Wn (i + 1) m' σ' H') ∧ ∀ x H', J.yld i H x H' → g x σ H' fun σ2 H2 => tb { D with nx := N, ct := N, bk := D.nx } σ2 H2) := by
  refine ⟨fun i m σc Hc => m = ds.length - i ∧ i ≤ ds.length ∧ ∃ Cc δc, Stp π C σ H1 δ Cc σc Hc δc ∧ forGo pg pb (ds.drop i) δc = some (o, δ'), ⟨ds.length, by omega, Nat.zero_le _, C, δ, Stp.refl rel1, by simpa using e⟩, fun i m σc Hc w => ?_⟩
  obtain ⟨em, hil, Cc, δc, sc, hgo⟩ := w
  have sr := src Cc Hc (fun a ob n ha => let q := sc.keep a ob n ha; ⟨q.1, q.2.2⟩) sc.rel.good i
  by_cases hlt : i < ds.length
  · refine .inr ⟨sr.1 hlt, fun σn Hn => ∃ Cc δc, Stp π C σ H1 δ Cc σn Hn δc ∧ forGo pg pb (ds.drop (i + 1)) δc = some (o, δ'), fun σn Hn q => ⟨ds.length - (i + 1), by omega, rfl, hlt, q⟩, fun x Hy hy => ?_⟩
    obtain ⟨hHE, d1, ed, wd⟩ := sr.2.2 x Hy hlt hy
    have edrop : ds.drop i = d1 :: ds.drop (i + 1) := by
      obtain ⟨hb', he'⟩ := List.getElem?_eq_some_iff.mp ed
      rw [List.drop_eq_getElem_cons hb', he']
    rw [edrop] at hgo
    unfold forGo at hgo
    obtain ⟨δ1, g1, hgo⟩ := Option.bind_eq_some_iff.mp hgo
    obtain ⟨⟨o2, δ2⟩, g2, hgo⟩ := Option.bind_eq_some_iff.mp hgo
    refine hg π Cc σc Hy δc x d1 δ1 g1 (sc.rel.he hHE) wd _ fun σ2 H2 he2 r2 _ ow2 => ?_
    have st2 := (sc.trans (Stp.he sc.rel hHE)).trans (Stp.set (sc.rel.he hHE) r2 he2 ow2)
    refine hb π Cc σ2 H2 δ1 o2 δ2 g2 r2 _ fun C3 σ3 H3 s3 => ?_
    have st3 := st2.trans s3
    cases o2 with
    | nx => exact ⟨C3, δ2, st3, hgo⟩
    | ct => exact ⟨C3, δ2, st3, hgo⟩
    | bk =>
      cases hgo
      exact k C3 σ3 H3 st3
    | rt d =>
      cases hgo
      exact k C3 σ3 H3 st3
  · have ei : i = ds.length := by omega
    subst ei
    rw [List.drop_length] at hgo
    cases hgo
    exact .inl ⟨sr.2.1 rfl, k Cc σc Hc sc⟩
theorem sx_for {wi : TI} {qi : QA} {g : TG} {pg : GE} {js : List Nat} {tb : TS} {pb : SE} (hi : SndI wi qi) (hg : SndG g pg js) (hb : SndSX W CB tb pb) : SndSX W CB (tFor wi g tb) (sFor qi pg pb) := fun π C σ H δ o δ' e rel D k => by
  obtain ⟨ds, e1, e⟩ := Option.bind_eq_some_iff.mp e
  refine hi π C σ H δ ds e1 rel _ fun J H1 h1 src => ?_
  have rel1 := rel.he h1
  exact for_coreX hg hb e rel1 (src (Own σ δ) fun a => rel1.ownC) fun C' σ' H' s => k C' σ' H' ((Stp.he rel h1).trans s)
end
/-! raise C(e) -/
def spAt (C : Addr) : Sp := fun vs H Q _ => ∃ (a : Addr) (v : V), vs = [.ref a, v] ∧ H a = some (exo a C none) ∧ ∀ dx, H dx = none → dx ≠ a → Q .non (upd (upd H dx (exd dx [("at", v)])) a (exo a C (some dx)))
def sRaise (q : QE) : SE := fun δ => (q δ).map fun d => (.rt (exn d), δ)
theorem sx_raise {W : WX} {CB : Addr} {te : TE} {qe : QE} (he : SndQ te qe) : SndSX W CB (fun _ σ H => tMkO CB (spAt CB) [] (tCons te tNil) σ H fun cls d H' => W cls d σ H') (sRaise qe) := fun π C σ H δ o δ' e rel D k => by
  obtain ⟨d, e1, e⟩ := Option.map_eq_some_iff.mp e
  cases e
  refine he π C σ H δ d e1 rel _ fun v H1 h1 w1 => ⟨show 1 ≤ 1000 by decide, fun a na => ⟨a, v, rfl, upd_same, fun dx nx ne => ?_⟩⟩
  rw [upd_ne ne] at nx
  have old : ∀ b o, H1 b = some o → b ≠ a ∧ b ≠ dx := fun b o q => ⟨fun z => (by rw [z, na] at q; cases q), fun z => (by rw [z, nx] at q; cases q)⟩
  refine ⟨rfl, dx, _, upd_same, (upd_ne ne).trans upd_same, nx, ?_⟩
  have hHE : HE H (upd (del (upd (upd (upd H1 a (exo a CB none)) dx (exd dx [("at", v)])) a (exo a CB (some dx))) a) dx (.xd [("at", v)])) := fun b o q => by
    have q1 := h1 b o q
    obtain ⟨na', nx'⟩ := old b o q1
    rw [upd_ne nx', del_ne na', upd_ne na', upd_ne nx', upd_ne na']
    exact q1
  have hHE1 : HE H1 (upd (del (upd (upd (upd H1 a (exo a CB none)) dx (exd dx [("at", v)])) a (exo a CB (some dx))) a) dx (.xd [("at", v)])) := fun b o q1 => by
    obtain ⟨na', nx'⟩ := old b o q1
    rw [upd_ne nx', del_ne na', upd_ne na', upd_ne nx', upd_ne na']
    exact q1
  have z := k C σ _ (Stp.he rel hHE)
  unfold DoneX at z
  have eo : exOf (.rt (exn d)) = some d := rfl
  rw [eo] at z
  exact z dx v upd_same (w1.to fun b o nc q => ⟨hHE1 b o q, nc⟩)
section
variable {P : Program} {w : World} {K : PySem.W.Frag} {mg : Str → Option Value} {base : Heap}
/-- def __init__(self, at): self.at = at -/
theorem init_ok {x qual : Str} {st : Stmt} {f C : Addr} {fd : FuncData} {k : Nat} (F : Fun K x qual st f fd) (S : FnScope ["self", "at"] ["self", "at"] (defScope st)) (T : ExE K C) (hno : PySem.W.takerIn K C "at" = some none)
    (hb : ∀ (cdv : Value) (A : Around) (outer : List Env) (s : Shared) (H : Hp) (E : XK), PSs (cxOf CX0 P w K mg base ["self", "at"] qual (defScope st) f cdv A outer s H E).nox (defBody st) (tOstE K "at" (tVar 0) (tVar 1))) :
    FnOk P w K mg base CX0 (k + 1) f fd ["self", "at"] (spAt C) := by
  refine F.ok S (fun vs H Q E h => ?_) (fun cdv A outer s H vs Q E hr h => ⟨_, hb cdv A outer s H E, ?_⟩)
  · obtain ⟨a, v, rfl, _⟩ := h
    rfl
  · obtain ⟨a, v, rfl, ea, q⟩ := h
    exact ⟨v, rfl, .ref a, rfl, a, C, rfl, T, hno, ea, fun dx n ne => q dx n ne⟩
/-- a def that may let an error of the class at CB out -/
def spXE (CB : Addr) (f : FE) : Sp := fun vs H Q E => ∃ (C : Addr → Prop) (as : List Sv) (r : D) (as' : List Sv), f as = some (r, as') ∧ Rel [] C (vs.map some) H as ∧ match isEx r with
  | some d => ∀ (H' : Hp) (dd : Addr) (v : V), Chg [] C (vs.map some) H as H' as' → H' dd = some (.xd [("at", v)]) → Dat C H' v d → E (.ref CB) (some dd) H'
  | none => ∀ v H', Chg [] C (vs.map some) H as H' as' → Dat C H' v r → Q v H'
theorem fnX_ok {x qual : Str} {st : Stmt} {f CB : Addr} {fd : FuncData} {N ps : List Str} {k : Nat} {p : SE} (F : Fun K x qual st f fd) (S : FnScope N ps (defScope st))
    (hb : ∀ (cdv : Value) (A : Around) (outer : List Env) (s : Shared) (H : Hp) (E : XK), Room k (A.deeper (PyProof.Rows.envOfC qual (defScope st) s.heap.objs.size f cdv)) →
      ∃ t, PSs (cxOf (L2.CX P w) P w K mg base N qual (defScope st) f cdv A outer s H E) (defBody st) t ∧ SndSX (fun cls d _ H' => E cls d H') CB t p) :
    FnOk P w K mg base (L2.CX P w) (k + 1) f fd ps (spXE CB (fnF ps.length N.length p)) := by
  refine F.okX S (fun vs H Q E h => ?_) (fun cdv A outer s H vs Q E hr h => ?_)
  · obtain ⟨C, as, d, as', h1, h2, _⟩ := h
    unfold fnF at h1
    split at h1
    · rename_i hl
      rw [← hl]
      simpa using h2.len
    · cases h1
  · obtain ⟨C, as, d, as', h1, rel, q⟩ := h
    unfold fnF at h1
    split at h1
    · rename_i hl
      have hlv : vs.length = as.length := by simpa using rel.len
      obtain ⟨t, ht, snd⟩ := hb cdv A outer s H E hr
      refine ⟨t, ht, ?_⟩
      obtain ⟨ms, e1, h1⟩ := Option.bind_eq_some_iff.mp h1
      obtain ⟨⟨o, δ'⟩, e2, h1⟩ := Option.bind_eq_some_iff.mp h1
      refine snd vs C (start N vs) H _ o δ' e2 (rel_start rel e1 (N.length - vs.length) rfl) _ fun C' σ' H' st => ?_
      cases o with
      | rt d1 =>
        obtain ⟨as1, e3, e4⟩ := Option.map_eq_some_iff.mp h1
        cases e4
        obtain ⟨c1, c2⟩ := rel_end rel e1 st e3
        unfold DoneX exOf
        dsimp only
        cases ex : isEx d with
        | none =>
          rw [ex] at q
          exact fun v wv => q v H' c1 (c2 v _ wv)
        | some d2 =>
          rw [ex] at q
          exact fun dd v hd wv => q H' dd v c1 hd (c2 v _ wv)
      | nx =>
        obtain ⟨as1, e3, e4⟩ := Option.map_eq_some_iff.mp h1
        cases e4
        obtain ⟨c1, c2⟩ := rel_end rel e1 st e3
        exact q .non H' c1 .non
      | bk => cases h1
      | ct => cases h1
    · cases h1
end
/-! calls of such a def -/
/-- where no error may come -/
def qCallV (f : FE) (a : QA) : QE := fun δ => (a δ).bind fun ds => (f (ds.map .im)).bind fun r => if isEx r.1 = none then some r.1 else none
theorem q_callV {CB : Addr} {f : FE} {ta : TA} {qa : QA} {E : XK} (ha : SndQD ta qa) : SndQ (tCall (spXE CB f) [] E ta) (qCallV f qa) := fun π C σ H δ d e rel Q k => by
  obtain ⟨ds, e1, e⟩ := Option.bind_eq_some_iff.mp e
  obtain ⟨⟨d', as'⟩, e2, e⟩ := Option.bind_eq_some_iff.mp e
  split at e
  · rename_i hx
    cases e
    refine ha π C σ H δ ds e1 rel _ fun vs H1 h1 w1 => ?_
    refine ⟨C, ds.map .im, d', as', e2, by rw [List.append_nil]; exact rel_args (rel.he h1).good w1, ?_⟩
    rw [show isEx d' = none from hx]
    exact fun v H' c wv => k v H' (h1.trans fun a o ho => c.evo a o (by rw [List.append_nil]; exact own_args) ho) wv
  · cases e
/-- return f(..), within a try -/
def sRetE (f : FE) (a : QA) : SE := fun δ => (a δ).bind fun ds => (f (ds.map .im)).map fun r => (.rt r.1, δ)
theorem sx_retE {W : WX} {CB : Addr} {f : FE} {ta : TA} {qa : QA} (ha : SndQD ta qa) : SndSX W CB (tRet (tCallS (spXE CB f) (WE W) ta)) (sRetE f qa) := fun π C σ H δ o δ' e rel D k => by
  obtain ⟨ds, e1, e⟩ := Option.bind_eq_some_iff.mp e
  obtain ⟨⟨d', as'⟩, e2, e⟩ := Option.map_eq_some_iff.mp e
  cases e
  refine ha π C σ H δ ds e1 rel _ fun vs H1 h1 w1 => ?_
  refine ⟨C, ds.map .im, d', as', e2, rel_args (rel.he h1).good w1, ?_⟩
  have he : ∀ {H' : Hp}, Chg [] C (vs.map some) H1 (ds.map .im) H' as' → HE H H' := fun c => h1.trans fun a o ho => c.evo a o own_args ho
  cases ex : isEx d' with
  | none =>
    intro v H' c wv
    have z := k C σ H' (Stp.he rel (he c))
    unfold DoneX exOf at z
    dsimp only at z
    rw [ex] at z
    exact z v wv
  | some d2 =>
    intro H' dd v c hd wv
    have z := k C σ H' (Stp.he rel (he c))
    unfold DoneX exOf at z
    dsimp only at z
    rw [ex] at z
    exact z dd v hd wv
/-- return ('s', f(..)), within a try -/
def sRetE2 (s : Str) (f : FE) (a : QA) : SE := fun δ => (a δ).bind fun ds => (f (ds.map .im)).map fun r => (.rt (if isEx r.1 = none then .tuple [.str s, r.1] else r.1), δ)
theorem sx_retE2 {W : WX} {CB : Addr} {s : Str} {f : FE} {ta : TA} {qa : QA} (ha : SndQD ta qa) : SndSX W CB (tRet (tTup (tCons (tC (.str s)) (tCons (tCallS (spXE CB f) (WE W) ta) tNil)))) (sRetE2 s f qa) := fun π C σ H δ o δ' e rel D k => by
  obtain ⟨ds, e1, e⟩ := Option.bind_eq_some_iff.mp e
  obtain ⟨⟨d', as'⟩, e2, e⟩ := Option.map_eq_some_iff.mp e
  cases e
  refine ha π C σ H δ ds e1 rel _ fun vs H1 h1 w1 => ?_
  refine ⟨C, ds.map .im, d', as', e2, rel_args (rel.he h1).good w1, ?_⟩
  have he : ∀ {H' : Hp}, Chg [] C (vs.map some) H1 (ds.map .im) H' as' → HE H H' := fun c => h1.trans fun a o ho => c.evo a o own_args ho
  cases ex : isEx d' with
  | none =>
    intro v H' c wv
    refine ⟨show 2 ≤ sizeLine from sz_of (by decide), fun p hp => ?_⟩
    have h3 : HE H (upd H' p (.tup [V.str s, v])) := (he c).trans (HE.new hp)
    have z := k C σ _ (Stp.he rel h3)
    unfold DoneX exOf at z
    dsimp only at z
    rw [if_pos ex] at z
    exact z _ (new_tup (rel.he (he c)).good (.cons (.str s) (.cons wv .nil)) hp)
  | some d2 =>
    intro H' dd v c hd wv
    have z := k C σ H' (Stp.he rel (he c))
    unfold DoneX exOf at z
    dsimp only at z
    rw [if_neg (by rw [ex]; exact fun q => nomatch q), ex] at z
    exact z dd v hd wv
/-! try: body, except C as e: return ('s', e.at) -/
def sTry (s : Str) (i : Nat) (p : SE) : SE := fun δ => (p δ).bind fun r => match exOf r.1 with
  | some d => if i < r.2.length then some (.rt (.tuple [.str s, d]), r.2) else none
  | none => some r
theorem s_try {K : PySem.W.Frag} {CB : Addr} {i : Nat} {s : Str} {tb : WX → TS} {p : SE} (hc : PySem.W.exmOne K (.ref CB) (.ref CB) = some true) (hb : ∀ W : WX, SndSX W CB (tb W) p) :
    SndS (fun D σ H => tb (wAs K (.ref CB) i (fun a cls d => tRet (tTup (tCons (tC (.str s)) (tCons (tXf a cls d CB "at" (tVar i)) tNil)))) (fun _ _ _ _ => False) D) D σ H) (sTry s i p) := fun π C σ H δ o δ' e rel D k => by
  obtain ⟨⟨o1, δ1⟩, e1, e⟩ := Option.bind_eq_some_iff.mp e
  refine hb _ π C σ H δ o1 δ1 e1 rel D fun C1 σ1 H1 st => ?_
  unfold DoneX
  dsimp only at e
  cases ex : exOf o1 with
  | none =>
    rw [ex] at e
    cases e
    exact k C1 σ1 H1 st
  | some d =>
    rw [ex] at e
    dsimp only at e
    split at e
    · rename_i hi
      cases e
      intro dd v hd wv
      refine ⟨true, hc, fun _ a na => ?_, fun q => nomatch q⟩
      have len : i < σ1.length := by rw [st.rel.len]; exact hi
      refine ⟨.ref a, List.getElem?_set_self len, rfl, rfl, dd, _, v, rfl, hd, rfl, show 2 ≤ sizeLine from sz_of (by decide), fun p hp => ?_⟩
      have h3 : HE H1 (upd H1 p (.tup [V.str s, v])) := HE.new hp
      have z := k C1 σ1 _ (st.trans (Stp.he st.rel h3))
      exact z _ (new_tup st.rel.good (.cons (.str s) (.cons wv .nil)) hp)
    · cases e
end Pu

set_option maxHeartbeats 4000000
namespace Pu
open PySem L2
/-! a text times a number -/
def repZ (z : Str) (k : Int) : Str := if k < 1 then Str.empty else if (k == 1 || z.length == 0) = true then z else ⟨(List.replicate k.toNat z.cps).foldl (· ++ ·) #[]⟩
def rMulZ : R2 := fun x y H Q => ∃ (z : Str) (k : Int), x = .str z ∧ y = .int k ∧ -(10000 : Int) ≤ k ∧ k ≤ 10000 ∧ z.length ≤ 100 ∧ Q (.str (repZ z k)) H
theorem op_mulZ {X : Cx} : OpR X (binaryOp .Mult) rMulZ := by
  intro pins s σ H x y v u Q I rx ry ⟨z, k, ex, ey, k0, k1, hz, q⟩
  subst ex
  subst ey
  obtain ⟨t, rfl⟩ := rx
  obtain ⟨t', rfl⟩ := ry
  refine PySem.P.mul_str ?_ ?_ ?_ ?_
  · rw [decide_eq_false (by omega), decide_eq_false (by omega)]
    rfl
  · intro h1 _ h3
    have h4 : (z.length : Int) ≤ (2 ^ 63 - 1) / k := (Int.le_ediv_iff_mul_le (by omega)).mpr (by
      have a1 : (z.length : Int) * k ≤ 100 * k := Int.mul_le_mul_of_nonneg_right (by omega) (by omega)
      omega)
    omega
  · intro h1 _
    refine PyProof.Rows.short24 ?_
    have a1 : z.length * k.toNat ≤ 100 * 10000 := Nat.mul_le_mul hz (by omega)
    omega
  · unfold repZ at q
    have len : ¬ k < 1 → (⟨(List.replicate k.toNat z.cps).foldl (· ++ ·) #[]⟩ : Str).length ≤ sizeLine := fun h1 => by
      rw [sizeLine_eq]
      have e : ∀ (m : Nat) (acc : Array Nat), ((List.replicate m z.cps).foldl (· ++ ·) acc).size = acc.size + m * z.cps.size := fun m => by
        induction m with
        | zero => intro acc; simp
        | succ m ih =>
          intro acc
          rw [List.replicate_succ, List.foldl_cons, ih, Array.size_append, Nat.add_one_mul]
          omega
      show ((List.replicate k.toNat z.cps).foldl (· ++ ·) #[]).size ≤ 16777216
      rw [e]
      have a1 : k.toNat * z.cps.size ≤ 10000 * 100 := Nat.mul_le_mul (by omega) hz
      show 0 + _ ≤ _
      omega
    by_cases h1 : k < 1
    · rw [if_pos h1] at q ⊢
      exact ⟨by decide, .str _, H, I.tok _, ⟨_, rfl⟩, q⟩
    · rw [if_neg h1] at q ⊢
      by_cases h2 : (k == 1 || z.length == 0) = true
      · rw [if_pos h2] at q ⊢
        exact ⟨.str _, H, I, ⟨_, rfl⟩, q⟩
      · rw [if_neg h2] at q ⊢
        exact ⟨len h1, .str _, H, I.tok _, ⟨_, rfl⟩, q⟩
def dMulZ : D → D → Option D
  | .str z, .int k => if -(10000 : Int) ≤ k ∧ k ≤ 10000 ∧ z.length ≤ 100 then some (.str (repZ z k)) else none
  | _, _ => none
theorem o_mulZ : OpF rMulZ dMulZ := fun C H x y a b d e g0 wa wb Q k => by
  unfold dMulZ at e
  split at e
  · split at e
    · rename_i hc
      cases e
      exact ⟨_, _, wa.str, wb.int, hc.1, hc.2.1, hc.2.2, k _ H HE.refl (.str _)⟩
    · cases e
  · cases e
/-! a dict of the module, its values defs -/
/-- the keys, each with its def -/
structure DTab (P : Program) (w : World) (K : PySem.W.Frag) (mg : Str → Option Value) (base : Heap) (kk : Nat) (d : Addr) (tbl : List (Str × FE)) where
  es : Array DictEntry
  n : Nat
  kd : KDict K w d es n
  fn : Str → Option Addr
  all : ∀ z, PySem.W.nsIn K d z = some ((fn z).map Value.ref)
  has : ∀ z, (fn z).isSome = (tbl.lookup z).isSome
  ok : ∀ z a f, fn z = some a → tbl.lookup z = some f → Held P w K mg base kk a (spX f)
def dNoKey (tbl : List (Str × FE)) : D → Option D
  | .str z => some (.bool (!(tbl.lookup z).isSome))
  | _ => none
def rNoKey (K : PySem.W.Frag) (d : Addr) : R2 := fun x y H Q => ∃ (z : Str) (r : Option Value), x = .str z ∧ y = .ref d ∧ PySem.W.nsIn K d z = some r ∧ Q (.bl (!r.isSome)) H
theorem q_noKey {P : Program} {w : World} {K : PySem.W.Frag} {mg : Str → Option Value} {base : Heap} {kk : Nat} {d : Addr} {tbl : List (Str × FE)} (T : DTab P w K mg base kk d tbl) {te : TE} {qe : QE} (h : SndW te qe) : SndQ (tOp (rNoKey K d) te (tC (.ref d))) (q1 (dNoKey tbl) qe) := fun π C σ H δ r e rel Q k => by
  obtain ⟨x, e1, e⟩ := Option.bind_eq_some_iff.mp e
  unfold dNoKey at e
  split at e
  · rename_i z
    cases e
    refine h π C σ H δ _ e1 rel _ fun v H1 h1 w1 => ⟨z, _, w1.str, rfl, T.all z, ?_⟩
    have e3 : ((T.fn z).map Value.ref).isSome = (tbl.lookup z).isSome := by rw [Option.isSome_map]; exact T.has z
    rw [e3]
    exact k _ H1 h1 (.bl _)
  · cases e
/-- r = d[key]; x = r(..) -/
def sDisp (tbl : List (Str × FE)) (qk : QE) (j : Nat) (qa : QA) (g : GE) : SE := fun δ => (qk δ).bind fun x => (asS x).bind fun z => (tbl.lookup z).bind fun f => if j < δ.length then (qa (δ.set j .no)).bind fun ds => (f (ds.map .im)).bind fun r => (g r.1 (δ.set j .no)).map fun δ' => (.nx, δ') else none
theorem rel_no {π : List V} {C : Addr → Prop} {σ : L2.St} {H : Hp} {δ : Pst} {j : Nat} {v : Option V} (r : Rel π C σ H δ) (hj : j < δ.length) : Rel π C (σ.set j v) H (δ.set j .no) := by
  have ne : ∀ {i : Nat} {s : Sv}, (δ.set j .no)[i]? = some s → s ≠ .no → i ≠ j := fun {i s} h n z => by
    rw [z, List.getElem?_set_self hj] at h
    cases h
    exact n rfl
  refine ⟨by rw [List.length_set, List.length_set]; exact r.len, fun i s hs => ?_, r.good, r.par, fun i i' a w w' c c' q1 q2 q3 q4 => ?_⟩
  · by_cases e : i = j
    · subst e
      rw [List.getElem?_set_self hj] at hs
      cases hs
      exact ⟨v, List.getElem?_set_self (by rw [r.len]; exact hj), trivial⟩
    · rw [List.getElem?_set_ne (Ne.symm e)] at hs
      obtain ⟨ov, h1, h2⟩ := r.slot i s hs
      exact ⟨ov, by rw [List.getElem?_set_ne (Ne.symm e)]; exact h1, h2⟩
  · have n1 := ne q1 (fun z => nomatch z)
    have n2 := ne q2 (fun z => nomatch z)
    rw [List.getElem?_set_ne (Ne.symm n1)] at q1 q3
    rw [List.getElem?_set_ne (Ne.symm n2)] at q2 q4
    exact r.own i i' a w w' c c' q1 q2 q3 q4
theorem own_no {σ : L2.St} {δ : Pst} {j : Nat} {v : Option V} (hj : j < δ.length) (a : Addr) : Own (σ.set j v) (δ.set j .no) a → Own σ δ a := fun ⟨i, w, c, q1, q2⟩ => by
  have n1 : i ≠ j := fun z => by
    rw [z, List.getElem?_set_self hj] at q1
    cases q1
  rw [List.getElem?_set_ne (Ne.symm n1)] at q1 q2
  exact ⟨i, w, c, q1, q2⟩
theorem s_disp {P : Program} {w : World} {K : PySem.W.Frag} {mg : Str → Option Value} {base : Heap} {kk : Nat} {d : Addr} {tbl : List (Str × FE)} (T : DTab P w K mg base kk d tbl) {tk : TE} {qk : QE} {j : Nat} {ta : TA} {qa : QA} {g : TG} {pg : GE} {js : List Nat} (hk : SndW tk qk) (ha : SndQD ta qa) (hg : SndG g pg js) (S : Addr → Option Sp)
    (hS : ∀ z a f, T.fn z = some a → tbl.lookup z = some f → S a = some (spX f)) :
    SndS (tSeq (tAsg (tOp (rIxD K w) (tC (.ref d)) tk) (gName j)) (tAsg (tCallA j S ta) g)) (sDisp tbl qk j qa pg) := fun π C σ H δ o δ' e rel D k => by
  obtain ⟨x, e1, e⟩ := Option.bind_eq_some_iff.mp e
  obtain ⟨z, e2, e⟩ := Option.bind_eq_some_iff.mp e
  obtain ⟨f, e3, e⟩ := Option.bind_eq_some_iff.mp e
  split at e
  · rename_i hj
    obtain ⟨ds, e4, e⟩ := Option.bind_eq_some_iff.mp e
    obtain ⟨⟨r, as'⟩, e5, e⟩ := Option.bind_eq_some_iff.mp e
    obtain ⟨δ1, e6, e⟩ := Option.map_eq_some_iff.mp e
    cases e
    have ex := asS_some e2
    subst ex
    obtain ⟨a, hfn⟩ : ∃ a, T.fn z = some a := by
      have := T.has z
      rw [e3] at this
      exact Option.isSome_iff_exists.mp this
    have hn := T.all z
    rw [hfn] at hn
    refine hk π C σ H δ _ e1 rel _ fun v H1 h1 w1 => ?_
    refine ⟨d, z, .ref a, rfl, w1.str, ⟨T.es, T.n, _, T.kd.at_, T.kd.lit, hn, rfl⟩, ?_⟩
    have rel1 := rel_no (v := some (V.ref a)) (rel.he h1) hj
    refine ⟨a, spX f, List.getElem?_set_self (by rw [rel.len]; exact hj), hS z a f hfn e3, ?_⟩
    refine ha π C _ H1 _ ds e4 rel1 _ fun vs H2 h2 w2 => ?_
    refine ⟨C, ds.map .im, r, as', e5, rel_args (rel1.he h2).good w2, fun u H3 c wu => ?_⟩
    have h3 : HE H2 H3 := fun b ob q => c.evo b ob own_args q
    have rel3 := (rel1.he h2).he h3
    refine hg π C _ H3 _ u r δ' e6 rel3 wu _ fun σ4 H4 he4 r4 _ o4 => ?_
    refine k C σ4 H4 ?_
    exact ⟨fun b ob n q => ⟨he4 b ob (h3 b ob (h2 b ob (h1 b ob q))), fun z => n (own_no hj b (o4 b z)), Iff.rfl⟩, fun _ _ _ q => q, r4⟩
  · cases e
/-! range with a step -/
def dStep (lo c : Int) (n : Nat) : List D := (List.range n).map fun i => .int (lo + (i : Nat) * c)
theorem src_step {O C : Addr → Prop} {H1 : Hp} {lo c : Int} {n : Nat} : Src O C (Itc lo c n) H1 (dStep lo c n) := fun C' H pr g i => by
  have hl : (dStep lo c n).length = n := by simp [dStep]
  rw [hl]
  refine ⟨fun hi => hi, fun hi => by rw [hi]; exact Nat.le_refl _, fun x H' hi y => ?_⟩
  obtain ⟨rfl, rfl⟩ := y
  refine ⟨HE.refl, .int (lo + (i : Nat) * c), ?_, .int _⟩
  simp [dStep, hi]
def dRng3 : List D → Option (List D)
  | [.int i, .int j, .int c] => if c ≠ 0 ∧ c.natAbs < 1073741824 ∧ Builtin.Range.small i j c = true ∧ Builtin.Range.rangeSize i j c = ((Builtin.Range.rangeSize i j c).toNat : Int) then some (dStep i c (Builtin.Range.rangeSize i j c).toNat) else none
  | _ => none
theorem wats3 {C : Addr → Prop} {H : Hp} {vs : List V} {a b c : D} (h : Wats C H vs [a, b, c]) : ∃ u v w, vs = [u, v, w] ∧ Wat C H u a ∧ Wat C H v b ∧ Wat C H w c := by
  cases h with
  | cons h1 h =>
    cases h with
    | cons h2 h =>
      cases h with
      | cons h3 h =>
        cases h
        exact ⟨_, _, _, rfl, h1, h2, h3⟩
theorem i_rng3 {ta : TA} {q : QA} (h : SndQA ta q) : SndI (iRng3 ta) (qRng dRng3 q) := fun π C σ H δ ds e rel R k => by
  obtain ⟨as, e1, e⟩ := Option.bind_eq_some_iff.mp e
  refine h π C σ H δ as e1 rel _ fun vs H1 h1 w1 => ?_
  unfold dRng3 at e
  split at e
  · split at e
    · rename_i hb
      cases e
      obtain ⟨u, v, w, rfl, wA, wB, wC⟩ := wats3 w1
      exact ⟨_, _, _, _, by rw [wA.int, wB.int, wC.int], ⟨hb.1, hb.2.1, hb.2.2.1, hb.2.2.2⟩, k _ H1 h1 fun O hO => src_step⟩
    · cases e
  · cases e
/-! a def that may raise, called where it doesn't -/
def noEx (f : FE) : FE := fun as => (f as).bind fun r => if isEx r.1 = none then some r else none
theorem fn_noEx {P : Program} {w : World} {K : PySem.W.Frag} {mg : Str → Option Value} {base : Heap} {CX : CXT} {k : Nat} {a CB : Addr} {fd : FuncData} {ps : List Str} {f : FE} (F : FnOk P w K mg base CX k a fd ps (spXE CB f)) : FnOk P w K mg base CX k a fd ps (spX (noEx f)) :=
  F.imp fun vs H Q E ⟨C, as, d, as', e, rel, q⟩ => by
    obtain ⟨⟨r, bs⟩, e1, e⟩ := Option.bind_eq_some_iff.mp e
    split at e
    · rename_i hx
      cases e
      refine ⟨C, as, d, as', e1, rel, ?_⟩
      rw [show isEx d = none from hx]
      exact q
    · cases e
end Pu

set_option maxHeartbeats 1000000
namespace Pu
open PySem L2
theorem s_assoc {a b c : TS} {p : SE} (h : SndS (tSeq (tSeq a b) c) p) : SndS (tSeq a (tSeq b c)) p := h
theorem sx_assoc {W : WX} {CB : Addr} {a b c : TS} {p : SE} (h : SndSX W CB (tSeq (tSeq a b) c) p) : SndSX W CB (tSeq a (tSeq b c)) p := h
/-! a table of defs: key, address, what it does -/
abbrev Ents := List (Str × Addr × FE)
def entA (L : Ents) : List (Str × Addr) := L.map fun e => (e.1, e.2.1)
def entT (L : Ents) : List (Str × FE) := L.map fun e => (e.1, e.2.2)
def entS (L : Ents) (a : Addr) : Option Sp := (L.find? fun e => decide (e.2.1 = a)).map fun e => spX e.2.2
theorem ent_lookup {z : Str} : ∀ {L : Ents}, (entA L).lookup z = (L.lookup z).map (·.1) ∧ (entT L).lookup z = (L.lookup z).map (·.2)
  | [] => ⟨rfl, rfl⟩
  | e :: L => by
    obtain ⟨h1, h2⟩ := ent_lookup (z := z) (L := L)
    unfold entA entT at *
    rw [List.map_cons, List.map_cons, List.lookup_cons, List.lookup_cons, List.lookup_cons]
    cases h : (z == e.1) with
    | true => exact ⟨rfl, rfl⟩
    | false => exact ⟨h1, h2⟩
theorem lookup_mem {z : Str} {x : Addr × FE} : ∀ {L : Ents}, L.lookup z = some x → ∃ z', (z', x) ∈ L
  | [], h => nomatch h
  | e :: L, h => by
    rw [List.lookup_cons] at h
    cases hz : (z == e.1) with
    | true =>
      rw [hz] at h
      cases h
      exact ⟨e.1, List.mem_cons_self⟩
    | false =>
      rw [hz] at h
      obtain ⟨z', m⟩ := lookup_mem h
      exact ⟨z', List.mem_cons_of_mem _ m⟩
theorem ent_both {L : Ents} {z : Str} {a : Addr} {f : FE} (h1 : (entA L).lookup z = some a) (h2 : (entT L).lookup z = some f) : ∃ z', (z', a, f) ∈ L := by
  rw [ent_lookup.1] at h1
  rw [ent_lookup.2] at h2
  obtain ⟨x, e1, rfl⟩ := Option.map_eq_some_iff.mp h1
  rw [e1] at h2
  cases h2
  exact lookup_mem e1
theorem entS_of {f : FE} {a : Addr} {z : Str} : ∀ {L : Ents}, (L.map fun e => e.2.1).Nodup → (z, a, f) ∈ L → entS L a = some (spX f)
  | [], _, h => nomatch h
  | e :: L, nd, h => by
    rw [List.map_cons, List.nodup_cons] at nd
    unfold entS
    rw [List.find?_cons]
    by_cases he : e.2.1 = a
    · rw [decide_eq_true he]
      rcases List.mem_cons.mp h with q | q
      · rw [← q]
        rfl
      · exact absurd (List.mem_map.mpr ⟨_, q, he.symm ▸ rfl⟩) nd.1
    · rw [decide_eq_false he]
      rcases List.mem_cons.mp h with q | q
      · exact absurd (by rw [← q]) he
      · exact entS_of nd.2 q
theorem entS_held {P : Program} {w : World} {K : PySem.W.Frag} {mg : Str → Option Value} {base : Heap} {kk : Nat} {L : Ents} (h : ∀ e ∈ L, Held P w K mg base kk e.2.1 (spX e.2.2)) : ∀ a sp, entS L a = some sp → Held P w K mg base kk a sp := fun a sp e => by
  obtain ⟨x, e1, rfl⟩ := Option.map_eq_some_iff.mp e
  have m := List.mem_of_find?_eq_some e1
  have q0 : decide (x.2.1 = a) = true := List.find?_some (p := fun e : Str × Addr × FE => decide (e.2.1 = a)) e1
  have q := of_decide_eq_true q0
  rw [← q]
  exact h x m
def entTab {P : Program} {w : World} {K : PySem.W.Frag} {mg : Str → Option Value} {base : Heap} {kk : Nat} {d : Addr} {L : Ents} {es : Array DictEntry} {n : Nat} (kd : KDict K w d es n) (ns : ∀ z, PySem.W.nsIn K d z = some (((entA L).lookup z).map Value.ref)) (h : ∀ e ∈ L, Held P w K mg base kk e.2.1 (spX e.2.2)) : DTab P w K mg base kk d (entT L) where
  es := es
  n := n
  kd := kd
  fn := fun z => (entA L).lookup z
  all := ns
  has := fun z => by rw [ent_lookup.1, ent_lookup.2, Option.isSome_map, Option.isSome_map]
  ok := fun z a f h1 h2 => by
    obtain ⟨z', m⟩ := ent_both h1 h2
    exact h _ m
/-- two defs of other names don't stand at one address -/
theorem fn_apart {K : PySem.W.Frag} {f g : Addr} {o1 o2 : Obj} (l1 : K.lookup f = some o1) (l2 : K.lookup g = some o2) (h : o1.data ≠ o2.data) : f ≠ g := fun e => by
  subst e
  rw [l1] at l2
  cases l2
  exact h rfl
theorem sx_frz {W : WX} {CB : Addr} {i : Nat} {t : TS} {p : SE} (h : SndSX W CB t p) : SndSX W CB t (sFrz i p) := fun π C σ H δ o δ' e rel D k => by
  unfold sFrz at e
  split at e
  · rename_i xs hs
    obtain ⟨C1, s1⟩ := frz_ok rel hs
    exact h π C1 σ H _ o δ' e s1.rel D fun C2 σ2 H2 s2 => k C2 σ2 H2 (s1.trans s2)
  · cases e
end Pu

set_option maxHeartbeats 1000000
namespace Pu
open PySem L2
/-! a dict of the module as it lies: its entries -/
def TabIs : List DictEntry → List (Str × Addr) → Prop
  | [], [] => True
  | e :: r, p :: s => (∃ h t, e = ⟨h, .str p.1 t, .ref p.2⟩) ∧ TabIs r s
  | _, _ => False
theorem tab_find (z : Str) : ∀ {l : List DictEntry} {ks : List (Str × Addr)}, TabIs l ks → (l.find? (·.key.isStr z)).map (·.val) = (ks.lookup z).map Value.ref ∧ l.any (·.refKey) = false
  | [], [], _ => ⟨rfl, rfl⟩
  | [], _ :: _, h => h.elim
  | _ :: _, [], h => h.elim
  | e :: r, p :: s, ⟨⟨h, t, he⟩, hr⟩ => by
    obtain ⟨i1, i2⟩ := tab_find z hr
    subst he
    rw [List.find?_cons, List.lookup_cons, List.any_cons, i2]
    have e1 : (DictEntry.mk h (.str p.1 t) (.ref p.2)).key.isStr z = (z == p.1) := by
      show (p.1 == z) = (z == p.1)
      exact BEq.comm
    rw [e1]
    cases hz : (z == p.1) with
    | true => exact ⟨rfl, rfl⟩
    | false => exact ⟨i1, rfl⟩
theorem tab_ns {K : PySem.W.Frag} {d : Addr} {es : Array DictEntry} {n : Nat} {ks : List (Str × Addr)} (l : K.lookup d = some ⟨.type "dict", none, .dict es n, #[]⟩) (h : TabIs es.toList ks) (z : Str) : PySem.W.nsIn K d z = some ((ks.lookup z).map Value.ref) := by
  obtain ⟨h1, h2⟩ := tab_find z h
  unfold PySem.W.nsIn
  rw [l]
  dsimp only
  cases hf : es.toList.find? (·.key.isStr z) with
  | some e =>
    rw [hf] at h1
    dsimp only
    rw [← h1]
    rfl
  | none =>
    rw [hf] at h1
    dsimp only
    rw [h2, ← h1]
    rfl
/-- an except clause names its own class -/
theorem exm_own {K : PySem.W.Frag} {C : Addr} (b : PySem.W.subIn K (.ref C) (.type "BaseException") = some true) (i : PySem.W.isClsIn K C = true) (t : PySem.W.typeIn K (.ref C) = some (.type "type")) (s : PySem.W.subIn K (.ref C) (.ref C) = some true) : PySem.W.exmOne K (.ref C) (.ref C) = some true := by
  unfold PySem.W.exmOne
  have i : (PySem.W.clsIn K C).isSome = true := i
  simp only [b]
  unfold PySem.W.kitCls
  simp [b, t, s, i]
end Pu

set_option maxHeartbeats 1000000
namespace Pu
open PySem L2
/-! lists of one's own from a text that is cut; pop, insert, put whose element draws -/
/-- x = a.split(b), x is changed later -/
def sOwnSplit (i : Nat) (qa qb : QE) : SE := fun δ => (qa δ).bind fun a => (qb δ).bind fun b => match a, b with
  | .str y, .str z => if (z.length == 0) = false ∧ y.length ≤ 90000 then (setOwn i (.l ((Txt.split y z).map .str)) δ).map fun δ' => (.nx, δ') else none
  | _, _ => none
theorem s_ownSplit {i : Nat} {te tb : TE} {qe qb : QE} (he : SndW te qe) (hb : SndW tb qb) : SndS (tAsg (tM1 (fun x xs H Q => ∃ a b, x = .str a ∧ xs = [.str b] ∧ (b.length == 0) = false ∧ a.length + 2 ≤ sizeLine ∧ rNewStrs (Txt.split a b) H Q) te tb) (gName i)) (sOwnSplit i qe qb) := fun π C σ H δ o δ' e rel D k => by
  obtain ⟨a, e1, e⟩ := Option.bind_eq_some_iff.mp e
  obtain ⟨b, e2, e⟩ := Option.bind_eq_some_iff.mp e
  split at e
  · rename_i y z eq0
    split at e
    · rename_i hc
      obtain ⟨δ1, e3, e⟩ := Option.map_eq_some_iff.mp e
      cases e
      obtain ⟨hi, q1⟩ := setOwn_some e3
      subst q1
      refine he π C σ H δ _ e1 rel _ fun v H1 h1 w1 => ⟨⟨_, w1.str⟩, ?_⟩
      refine hb π C σ H1 δ _ e2 (rel.he h1) _ fun u H2 h2 w2 => ?_
      refine ⟨y, z, w1.str, by rw [w2.str], hc.1, sz_of (by have := hc.2; omega), fun p hp => ?_⟩
      exact k _ _ _ ((Stp.he rel (h1.trans h2)).trans (own_new ((rel.he h1).he h2) hi hp fun C' kk => ⟨_, upd_same, dats_strs _⟩))
    · cases e
  · cases e
/-- what is left of an own list, and what was taken out -/
def xPopAt (i : Nat) (qi : QE) : XE := fun δ => (qi δ).bind fun j => (asI j).bind fun j => (getL i δ).bind fun r => if 0 ≤ j ∧ j < 2 ^ 62 then (r.2[j.toNat]?).map fun d => (d, δ.set i (.ce r.1 (.l (r.2.eraseIdx j.toNat)))) else none
theorem Dats.erase {C : Addr → Prop} {H : Hp} : ∀ {vs : List V} {ds : List D} (n : Nat), Dats C H vs ds → Dats C H (vs.eraseIdx n) (ds.eraseIdx n)
  | _, _, _, .nil => .nil
  | _, _, 0, .cons _ t => t
  | _, _, n + 1, .cons h t => .cons h (Dats.erase n t)
theorem x_popAt {K : PySem.W.Frag} {i : Nat} {ti : TE} {qi : QE} (hi : SndQ ti qi) : SndX (tBM K "list" rPopAt (tVar i) (tCons ti tNil)) (xPopAt i qi) := fun π C σ H δ d δ' e rel Q k => by
  obtain ⟨j', e1, e⟩ := Option.bind_eq_some_iff.mp e
  obtain ⟨j, e2, e⟩ := Option.bind_eq_some_iff.mp e
  obtain ⟨⟨w, xs⟩, e3, e⟩ := Option.bind_eq_some_iff.mp e
  split at e
  · rename_i hj
    obtain ⟨d1, e4, e5⟩ := Option.map_eq_some_iff.mp e
    cases e5
    have e2 := asI_some e2
    subst e2
    have hs := getL_some e3
    obtain ⟨a, h1, ⟨vs, h2, h3⟩, _⟩ := own_put (c' := .l xs) rel hs
    refine ⟨_, h1, tyL h2, hi π C σ H δ _ e1 rel _ fun z H1 he1 w1 => ?_⟩
    have rel1 := rel.he he1
    obtain ⟨a', h1', ⟨vs', h2', h3'⟩, hc⟩ := own_put (c' := .l (xs.eraseIdx j.toNat)) rel1 hs
    have ea : a' = a := by
      rw [h1] at h1'
      cases h1'
      rfl
    subst ea
    have ca := rel1.ownC ⟨i, w, _, hs, h1'⟩
    obtain ⟨v, hv, wv⟩ := h3'.get e4
    have hlt : j.toNat < vs'.length := (List.getElem?_eq_some_iff.mp hv).1
    refine ⟨a', vs', j, j.toNat, v, rfl, by rw [w1.int_eq], h2', by omega, by omega, ?_, hv, ?_⟩
    · have h0 : ¬ j < 0 := by omega
      have h1 : j < (vs'.length : Int) := by omega
      have h2 : (0 : Int) ≤ j := hj.1
      unfold seqIndex?
      simp [h0, h1, h2]
    · have kk : ∀ b o', ¬ C b → H1 b = some o' → (upd H1 a' (.lst (vs'.eraseIdx j.toNat))) b = some o' ∧ ¬ C b := fun b o' hc ho => ⟨by rw [upd_ne (ne_c ca hc)]; exact ho, hc⟩
      exact k v _ ((Chg.he rel he1).trans (hc (.lst (vs'.eraseIdx j.toNat)) ⟨_, upd_same, Dats.erase _ (h3'.to kk)⟩)) (wv.to kk)
  · cases e
/-- an effect as a statement -/
theorem s_drop {te : TE} {xe : XE} (he : SndX te xe) : SndS (tDrop te) (sDropX xe) := fun π C σ H δ o δ' e rel D k => by
  obtain ⟨⟨d, δ1⟩, e1, e2⟩ := Option.map_eq_some_iff.mp e
  cases e2
  exact he π C σ H δ d _ e1 rel _ fun v H1 c1 w1 => k C σ H1 (Stp.chg c1)
end Pu

set_option maxHeartbeats 1000000
namespace Pu
open PySem L2
/-- x.append(e), e changes lists, maybe x itself -/
def sAppY (i : Nat) (x : XE) : SE := fun δ => (getL i δ).bind fun _ => (x δ).bind fun p => (getL i p.2).bind fun r => if r.2.length < 100000 then some (.nx, p.2.set i (.ce r.1 (.l (r.2 ++ [p.1])))) else none
theorem s_appY {K : PySem.W.Frag} {i : Nat} {te : TE} {xe : XE} (he : SndX te xe) : SndS (tDrop (tBM K "list" rAppend (tVar i) (tCons te tNil))) (sAppY i xe) := fun π C σ H δ o δ' e rel D k => by
  obtain ⟨⟨w0, xs0⟩, e0, e⟩ := Option.bind_eq_some_iff.mp e
  obtain ⟨⟨d, δ1⟩, e1, e⟩ := Option.bind_eq_some_iff.mp e
  obtain ⟨⟨w, xs⟩, e2, e⟩ := Option.bind_eq_some_iff.mp e
  split at e
  · rename_i hl
    cases e
    have hs := getL_some e2
    have hs0 := getL_some e0
    obtain ⟨a, h1, ⟨vs, h2, h3⟩, _⟩ := own_put (c' := .l xs0) rel hs0
    refine ⟨_, h1, tyL h2, he π C σ H δ d δ1 e1 rel _ fun v H1 c1 w1 => ?_⟩
    obtain ⟨a', h1', ⟨vs', h2', h3'⟩, hc⟩ := own_put (c' := .l (xs ++ [d])) c1.rel hs
    have ea : a' = a := by
      rw [h1] at h1'
      cases h1'
      rfl
    subst ea
    have ca := c1.rel.ownC ⟨i, w, _, hs, h1'⟩
    refine ⟨a', vs', v, rfl, rfl, h2', by rw [h3'.length]; exact sz_lt hl, ?_⟩
    refine k C σ _ ((Stp.chg c1).trans (Stp.chg (hc (.lst (vs' ++ [v])) ⟨_, upd_same, ?_⟩)))
    have kk : ∀ b o', ¬ C b → H1 b = some o' → (upd H1 a' (.lst (vs' ++ [v]))) b = some o' ∧ ¬ C b := fun b o' hc ho => ⟨by rw [upd_ne (ne_c ca hc)]; exact ho, hc⟩
    exact (h3'.to kk).append (.cons (w1.to kk) .nil)
  · cases e
/-- x.insert(j, e), e changes lists -/
def sInsX (i : Nat) (qi : QE) (xe : XE) : SE := fun δ => (getL i δ).bind fun _ => (qi δ).bind fun j => (xe δ).bind fun p => (asI j).bind fun j => (getL i p.2).bind fun r => if r.2.length < 100000 ∧ 0 ≤ j ∧ j < 2 ^ 63 then some (.nx, p.2.set i (.ce r.1 (.l (r.2.take j.toNat ++ [p.1] ++ r.2.drop j.toNat)))) else none
theorem s_insX {K : PySem.W.Frag} {i : Nat} {te ti : TE} {xe : XE} {qi : QE} (hi : SndQ ti qi) (he : SndX te xe) : SndS (tDrop (tBM K "list" rIns (tVar i) (tCons ti (tCons te tNil)))) (sInsX i qi xe) := fun π C σ H δ o δ' e rel D k => by
  obtain ⟨⟨w0, xs0⟩, e0, e⟩ := Option.bind_eq_some_iff.mp e
  obtain ⟨j', e1, e⟩ := Option.bind_eq_some_iff.mp e
  obtain ⟨⟨d, δ1⟩, e2, e⟩ := Option.bind_eq_some_iff.mp e
  obtain ⟨j, e3, e⟩ := Option.bind_eq_some_iff.mp e
  obtain ⟨⟨w, xs⟩, e4, e⟩ := Option.bind_eq_some_iff.mp e
  split at e
  · rename_i hl
    cases e
    have e3 := asI_some e3
    subst e3
    have hs := getL_some e4
    have hs0 := getL_some e0
    obtain ⟨a, h1, ⟨vs, h2, h3⟩, _⟩ := own_put (c' := .l xs0) rel hs0
    refine ⟨_, h1, tyL h2, hi π C σ H δ _ e1 rel _ fun z H1 he1 w1 => he π C σ H1 δ d δ1 e2 (rel.he he1) _ fun v H2 c2 w2 => ?_⟩
    have rel2 := c2.rel
    obtain ⟨a', h1', ⟨vs', h2', h3'⟩, hc⟩ := own_put (c' := .l (xs.take j.toNat ++ [d] ++ xs.drop j.toNat)) rel2 hs
    have ea : a' = a := by
      rw [h1] at h1'
      cases h1'
      rfl
    subst ea
    have ca := rel2.ownC ⟨i, w, _, hs, h1'⟩
    refine ⟨a', vs', j, v, rfl, by rw [w1.int_eq], h2', by rw [h3'.length]; exact sz_lt hl.1, hl.2.1, hl.2.2, ?_⟩
    refine k C σ _ (((Stp.he rel he1).trans (Stp.chg c2)).trans (Stp.chg (hc (.lst (vs'.take j.toNat ++ [v] ++ vs'.drop j.toNat)) ⟨_, upd_same, ?_⟩)))
    have kk : ∀ b o', ¬ C b → H2 b = some o' → (upd H2 a' (.lst (vs'.take j.toNat ++ [v] ++ vs'.drop j.toNat))) b = some o' ∧ ¬ C b := fun b o' hc ho => ⟨by rw [upd_ne (ne_c ca hc)]; exact ho, hc⟩
    exact ((((h3'.to kk).take _).append (.cons (w2.to kk) .nil))).append ((h3'.to kk).drop _)
  · cases e
/-- x[j] = e, e changes lists -/
def sPutX (i : Nat) (qi : QE) (xe : XE) : SE := fun δ => (xe δ).bind fun p => (qi p.2).bind fun d => (asI d).bind fun j => (getL i p.2).bind fun r => (ixN r.2.length j).map fun n => (.nx, p.2.set i (.ce r.1 (.l (r.2.set n p.1))))
theorem s_putX {i : Nat} {te ti : TE} {xe : XE} {qi : QE} (he : SndX te xe) (hi : SndQ ti qi) : SndS (tAsg te (gSub (tVar i) ti rSetL)) (sPutX i qi xe) := fun π C σ H δ o δ' e rel D k => by
  obtain ⟨⟨d, δ1⟩, e1, e⟩ := Option.bind_eq_some_iff.mp e
  obtain ⟨j', e2, e⟩ := Option.bind_eq_some_iff.mp e
  obtain ⟨j, e3, e⟩ := Option.bind_eq_some_iff.mp e
  obtain ⟨⟨w, xs⟩, e4, e⟩ := Option.bind_eq_some_iff.mp e
  obtain ⟨n, e5, e⟩ := Option.map_eq_some_iff.mp e
  cases e
  have e3 := asI_some e3
  subst e3
  have hs := getL_some e4
  refine he π C σ H δ d δ1 e1 rel _ fun v H1 c1 w1 => ?_
  have rel1 := c1.rel
  obtain ⟨a, h1, _, _⟩ := own_put (c' := .l xs) rel1 hs
  refine ⟨_, h1, hi π C σ H1 δ1 _ e2 rel1 _ fun z H2 he2 w2 => ?_⟩
  have rel2 := rel1.he he2
  obtain ⟨a', h1', ⟨vs', h2', h3'⟩, hc⟩ := own_put (c' := .l (xs.set n d)) rel2 hs
  have ea : a' = a := by
    rw [h1] at h1'
    cases h1'
    rfl
  subst ea
  have ca := rel2.ownC ⟨i, w, _, hs, h1'⟩
  refine ⟨a', vs', j, n, rfl, w2.int_eq, h2', by rw [h3'.length]; exact e5, ?_⟩
  refine k C σ _ (((Stp.chg c1).trans (Stp.he rel1 he2)).trans (Stp.chg (hc (.lst (vs'.set n v)) ⟨_, upd_same, ?_⟩)))
  have kk : ∀ b o', ¬ C b → H2 b = some o' → (upd H2 a' (.lst (vs'.set n v))) b = some o' ∧ ¬ C b := fun b o' hc ho => ⟨by rw [upd_ne (ne_c ca hc)]; exact ho, hc⟩
  exact Dats.set ((w1.he he2).to kk) n (h3'.to kk)
/-- x[e], e changes lists, x one's own -/
def xIxS (i : Nat) (xe : XE) : XE := fun δ => (getL i δ).bind fun _ => (xe δ).bind fun p => (asI p.1).bind fun j => (getL i p.2).bind fun r => (atI r.2 j).map fun d => (d, p.2)
theorem x_ixS {K : PySem.W.Frag} {i : Nat} {te : TE} {xe : XE} (he : SndX te xe) : SndX (tOp (rIx K) (tVar i) te) (xIxS i xe) := fun π C σ H δ d δ' e rel Q k => by
  obtain ⟨⟨w0, xs0⟩, e0, e⟩ := Option.bind_eq_some_iff.mp e
  obtain ⟨⟨j', δ1⟩, e1, e⟩ := Option.bind_eq_some_iff.mp e
  obtain ⟨j, e2, e⟩ := Option.bind_eq_some_iff.mp e
  obtain ⟨⟨w, xs⟩, e3, e⟩ := Option.bind_eq_some_iff.mp e
  obtain ⟨d1, e4, e5⟩ := Option.map_eq_some_iff.mp e
  cases e5
  have e2 : j' = .int j := asI_some e2
  subst e2
  have hs := getL_some e3
  have hs0 := getL_some e0
  obtain ⟨a, h1, ⟨vs, h2, h3⟩, _⟩ := own_put (c' := .l xs0) rel hs0
  refine ⟨_, h1, he π C σ H δ _ δ1 e1 rel _ fun z H1 c1 w1 => ?_⟩
  obtain ⟨a', h1', ⟨vs', h2', h3'⟩, _⟩ := own_put (c' := .l xs) c1.rel hs
  have ea : a' = a := by
    rw [h1] at h1'
    cases h1'
    rfl
  subst ea
  obtain ⟨v, e6, w2⟩ := h3'.atI e4
  exact .inl ⟨a', vs', _, v, rfl, w1.int_eq, sqL h2', e6, k v H1 c1 w2⟩
/-- methods of a text with one argument, both may change lists -/
theorem x_m1 {r : V → List V → Hp → VK → Prop} {f : D → D → Option D} {te tb : TE} {xe xb : XE} (hr : M1F r f) (h1 : ∀ (C : Addr → Prop) (H : Hp) (x : V) (a b d : D), f a b = some d → Wat C H x a → ∃ z, x = .str z) (he : SndX te xe) (hb : SndX tb xb) : SndX (tM1 r te tb) (x2 f xe xb) := fun π C σ H δ d δ' e rel Q k => by
  unfold x2 at e
  obtain ⟨⟨a, δ1⟩, e1, e⟩ := Option.bind_eq_some_iff.mp e
  obtain ⟨⟨b, δ2⟩, e2, e⟩ := Option.bind_eq_some_iff.mp e
  obtain ⟨d1, e3, e4⟩ := Option.map_eq_some_iff.mp e
  injection e4 with e4 e5
  subst e4
  subst e5
  refine he π C σ H δ _ _ e1 rel _ fun v H1 c1 w1 => ⟨h1 C H1 v a b d1 e3 (.inl w1), ?_⟩
  refine hb π C σ H1 δ1 _ _ e2 c1.rel _ fun u H2 c2 w2 => ?_
  exact (hr C H2 v u a b d1 e3 c2.rel.good (.inl (c2.dat c1.rel w1)) (.inl w2)).2 Q fun z H3 g3 w3 => k z H3 ((c1.trans c2).trans (Chg.he c2.rel g3)) w3
theorem x_split {te tb : TE} {xe xb : XE} (he : SndX te xe) (hb : SndX tb xb) : SndX (tM1 (fun x xs H Q => ∃ a b, x = .str a ∧ xs = [.str b] ∧ (b.length == 0) = false ∧ a.length + 2 ≤ sizeLine ∧ rNewStrs (Txt.split a b) H Q) te tb) (x2 dSplit xe xb) :=
  x_m1 (m_txt2 fun C a b H Q g0 hp k => by
    obtain ⟨h1, h2⟩ := Bool.and_eq_true_iff.mp hp
    have h1 : (b.length == 0) = false := by
      cases e : (b.length == 0) with
      | false => rfl
      | true => rw [e] at h1; cases h1
    have h2 := of_decide_eq_true h2
    exact ⟨a, b, rfl, rfl, h1, sz_of (by omega), fun p hp => k _ _ (HE.new hp) (new_lst g0 (dats_strs _) hp)⟩) dTxt2_str he hb
/-- z[:e], e changes lists -/
def xSlE (qa : QE) (xh : XE) : XE := fun δ => (qa δ).bind fun a => (xh δ).bind fun p => (asI p.1).bind fun h => match a with
  | .str z => if z.length ≤ 100000 then some (.str (cutS z none (some h)), p.2) else none
  | _ => none
theorem x_slE {K : PySem.W.Frag} {ta th : TE} {qa : QE} {xh : XE} (ha : SndW ta qa) (hh : SndX th xh) : SndX (tSl (rSlM K) ta tNoPart (tPart th)) (xSlE qa xh) := fun π C σ H δ d δ' e rel Q k => by
  obtain ⟨a, e1, e⟩ := Option.bind_eq_some_iff.mp e
  obtain ⟨⟨h', δ1⟩, e2, e⟩ := Option.bind_eq_some_iff.mp e
  obtain ⟨h, e3, e⟩ := Option.bind_eq_some_iff.mp e
  have e3 : h' = .int h := asI_some e3
  subst e3
  split at e
  · rename_i z
    split at e
    · rename_i hl
      cases e
      refine ha π C σ H δ _ e1 rel _ fun v H1 h1 w1 => ?_
      show tPart th σ H1 fun u H3 => rSlM K v none u H3 Q
      refine hh π C σ H1 δ _ δ1 e2 (rel.he h1) _ fun u H2 c2 w2 => ⟨h, w2.int_eq, ?_⟩
      exact .inr (.inr ⟨_, w1.str, sz_of hl, k _ _ ((Chg.he rel h1).trans c2) (.str _)⟩)
    · cases e
  · cases e
end Pu

set_option maxHeartbeats 4000000
namespace PySem.HandSPX
open PySem PySem.Spec PyProof.Rows PySem.Builtin L2
section
variable {prog : Program} {w : World} {A : Around} {E : Value → Shared → Prop} {R : Result → Shared → Prop} {h : Heap} {g : Array GenState} {d : Drawn} {t : Nat} {os : OsState}
variable {nm q : Str} {C N : Addr} {bs bm bmB : List Value} {hdct : Bool} {sn : List Str} {sub : List Value} {ab : Bool} {col : Option Bool} {dd : Option Addr} {k0 k1 k2 k3 k5 : Option Value} {B newId initId : String}
/-! an own exception made with one keyword -/
theorem pu_checkK (F : ExcBaseFacts B newId initId bmB) (hT : ∀ Y : String, bm.contains (.type Y) = bmB.contains (.type Y)) {f : Str} {u : Value} {M : Model} {Q : Unit → Shared → Prop}
    (hC : h.get? C = some (excClassObj nm q C N bs bm hdct sn sub ab col dd k0 k1 k2 k3 k5 newId)) (hq : Q () ⟨h, g, d, t, os⟩) : wpAny M A (checkBuiltinCall newId ⟨[.ref C], [(f, u)]⟩) Q E ⟨h, g, d, t, os⟩ := by
  have e1 : (Value.ref C :: bm).contains (.type B) = true := by rw [List.contains_cons]; rw [hT]; rw [F.hasB]; exact Bool.or_true _
  have e2 := F.noStar
  simp only [checkBuiltinCall, F.newSplit, F.newKind, F.newRow]
  repeat (first | refine wpAny_loadPart_at hC ?_ | (refine wpAny_isSubtype_exc hC ?_; rw [e1]) | refine wpAny_staticBase_exc hC ?_ | refine wpAny_madeBy_exc hC ?_ | (simp only [Bool.false_eq_true, bne_self_eq_false, if_false]) | wp_step)
  exact hq
theorem pu_newK (F : ExcBaseFacts B newId initId bmB) (hT : ∀ Y : String, bm.contains (.type Y) = bmB.contains (.type Y)) {f : Str} {u : Value}
    (hC : h.get? C = some (excClassObj nm q C N bs bm hdct sn sub ab col dd k0 k1 k2 k3 k5 newId))
    (hq : R (.ok (.ret (.ref (h.objs.size + 1)))) ⟨(h.push (W.kdv_tup [])).push (excO C h.objs.size), g, d, t, os⟩) :
    codeAny (model prog w) A (.builtin newId ⟨[.ref C], [(f, u)]⟩) R ⟨h, g, d, t, os⟩ := by
  have ends := F.ends
  have e1 : (Value.ref C :: bm).contains (.type B) = true := by rw [List.contains_cons]; rw [hT]; rw [F.hasB]; exact Bool.or_true _
  have e2 : (Value.ref C :: bm).contains (.type "AttributeError") = false := by rw [List.contains_cons]; rw [hT]; rw [F.noAttr]; rfl
  have e3 : (Value.ref C :: bm).contains (.type "NameError") = false := by rw [List.contains_cons]; rw [hT]; rw [F.noName]; rfl
  refine codeAny_builtinAt F.entry ?_
  unfold Builtin.«BaseException.__new__»
  refine wpAt_bind (show wpAt _ _ _ (stack >>= _) _ _ _ from ?_)
  refine wpAt_bind (wpAt_stack fun p below => wpAt_of_wpAny ?_)
  wp_walk
  refine wpAt_of_wpAny ?_
  rw [F.owner]
  repeat (first | with_reducible refine wpAny_madeHere_exc F.canon hC ?_ | with_reducible refine wpAny_loadPart_at hC ?_ | (with_reducible refine wpAny_isSubtype_exc hC ?_; first | rw [e1] | rw [e2] | rw [e3]) | wp_step)
  show R _ _
  exact (congrArg (fun n => R (.ok (.ret (.ref n))) ⟨(h.push (W.kdv_tup [])).push (excO C h.objs.size), g, d, t, os⟩) (Heap.size_push h _)).mpr hq
theorem pu_typeK (F : ExcBaseFacts B newId initId bmB) (hT : ∀ Y : String, bm.contains (.type Y) = bmB.contains (.type Y)) {f : Str} {u : Value} {fI : Addr} {Q : Fin → Shared → Prop}
    (hC : h.get? C = some (excClassObj nm q C N bs bm hdct sn sub ab col dd k0 k1 k2 k3 k5 newId))
    (hi : W.Looks (model prog w) h (typeLookup (.ref C) "__init__") (some (.ref fI))) (hb : ∀ self, W.Looks (model prog w) h (bindSpecial (.ref fI) self) (.ref fI, [self]))
    (hq : codeAny (model prog w) A (.call (.ref fI) ⟨[.ref (h.objs.size + 1)], [(f, u)]⟩) (fun r s' => match r with | .ok (.ret v) => v = .none ∧ Q (.done (.ret (.ref (h.objs.size + 1)))) s' | .ok _ => False | .error e => E e s') ⟨(h.push (W.kdv_tup [])).push (excO C h.objs.size), g, d, t, os⟩) :
    wpAny (model prog w) A (Builtin.«type.__call__» ⟨[.ref C], [(f, u)]⟩) Q E ⟨h, g, d, t, os⟩ := by
  repeat (first | with_reducible refine wpAny_loadPart_at hC ?_ | with_reducible refine wpAny_madeBy_exc hC ?_ | wp_step)
  refine codeAny_call_builtin_code (Code.quiet_builtin _ F.quiet) (pu_checkK F hT hC ?_)
  refine pu_newK F hT hC ?_
  show wpAny _ _ _ _ _ _
  have kk : ∀ b o, h.get? b = some o → ((h.push (W.kdv_tup [])).push (excO C h.objs.size)).get? b = some o := fun b o z => Heap.get?_push_of_some _ (Heap.get?_push_of_some _ z)
  have c1 := kk _ _ hC
  have at1 : ((h.push (W.kdv_tup [])).push (excO C h.objs.size)).get? (h.objs.size + 1) = some (excO C h.objs.size) := by heap_get
  have e1 : (Value.ref C :: bm).contains (.ref C) = true := by simp
  have l1 := hi.keeps kk
  have l2 := (hb (.ref (h.objs.size + 1))).keeps kk
  unfold isInstance
  repeat (first | with_reducible refine wpAny_loadPart_at at1 ?_ | (with_reducible refine wpAny_isSubtype_exc c1 ?_; rw [e1]) | wp_step)
  show wpAny _ _ (typeLookup (.ref C) _) _ _ _
  refine l1.at (wpAny_holding (wpAny_bind (l2.at ?_)))
  refine wpAny_bind (wpAny_call (codeAny_mono hq fun r s' z => ?_))
  rcases r with er | (v | _ | _ | _) <;> first | exact z | exact z.elim | skip
  obtain ⟨rfl, z⟩ := z
  first | exact wpAny_pure (wpAny_pure z) | (wp_walk; exact z)
theorem pu_checkT {M : Model} {f : Str} {u : Value} {Q : Unit → Shared → Prop} (hC : h.get? C = some (excClassObj nm q C N bs bm hdct sn sub ab col dd k0 k1 k2 k3 k5 newId)) (hq : Q () ⟨h, g, d, t, os⟩) :
    wpAny M A (checkBuiltinCall "type.__call__" ⟨[.ref C], [(f, u)]⟩) Q E ⟨h, g, d, t, os⟩ := by
  have e1 := tc_sub
  have e2 : (⟨h, g, d, t, os⟩ : Shared).TypeIs (.ref C) "type" := ⟨_, hC, rfl⟩
  simp only [checkBuiltinCall, tc_split, tc_kind]
  repeat (any_goals (first | assumption | with_reducible refine wpAny_onRaise ?_ | with_reducible refine wpAny_map ?_ | with_reducible refine wpAny_loadPart_at hC ?_ | wp_step))
theorem pu_callK (F : ExcBaseFacts B newId initId bmB) (hT : ∀ Y : String, bm.contains (.type Y) = bmB.contains (.type Y)) {f : Str} {u : Value} {fI : Addr}
    (hC : h.get? C = some (excClassObj nm q C N bs bm hdct sn sub ab col dd k0 k1 k2 k3 k5 newId))
    (hi : W.Looks (model prog w) h (typeLookup (.ref C) "__init__") (some (.ref fI))) (hb : ∀ self, W.Looks (model prog w) h (bindSpecial (.ref fI) self) (.ref fI, [self]))
    (hq : codeAny (model prog w) (A.under (.builtin "type.__call__" ⟨[.ref C], [(f, u)]⟩)) (.call (.ref fI) ⟨[.ref (h.objs.size + 1)], [(f, u)]⟩) (W.InitBack (h.objs.size + 1) R) ⟨(h.push (W.kdv_tup [])).push (excO C h.objs.size), g, d, t, os⟩) :
    codeAny (model prog w) A (.call (.ref C) ⟨[], [(f, u)]⟩) R ⟨h, g, d, t, os⟩ := by
  have e1 := tc_lookup
  have e2 := tc_bind (.ref C)
  have e3 : (⟨h, g, d, t, os⟩ : Shared).TypeIs (.ref C) "type" := ⟨_, hC, rfl⟩
  refine codeAny_of_tree (show wpAny _ _ (callAny (.ref C) _) _ _ _ from ?_)
  repeat (any_goals (first | assumption | with_reducible refine wpAny_loadPart_at hC ?_ | wp_step))
  refine ⟨rfl, ?_⟩
  refine codeAny_call_builtin_at (Code.quiet_builtin _ (by decide +kernel)) entry_typeCall (pu_checkT hC (pu_typeK F hT hC hi hb ?_))
  exact codeAny_mono hq fun r s' z => by rcases r with er | (v | _ | _ | _) <;> exact z
end
end PySem.HandSPX

set_option maxHeartbeats 4000000
namespace Pu
open PySem L2 PySem.Spec PyProof.Rows PySem.Builtin PySem.Builtin.ObjectAttr
/-! own exceptions as values -/
/-- C(e, ..): the exception and its dict stay -/
def tMkV (C : Addr) (sp : Sp) (ta : TA) : TE := fun σ H Q => ta σ H fun vs H1 => vs.length ≤ 1000 ∧ ∀ a, H1 a = none → sp (.ref a :: vs) (upd H1 a (exo a C none)) (fun v H2 => v = .non ∧ Q (.ref a) H2) (fun _ _ _ => False)
section
variable {X : Cx} {C : Addr}
theorem peE {CX : CXT} {x : Str} {fI : Addr} {k : Nat} {fd : FuncData} {ps : List Str} {sp : Sp} {e : Expr} {es : List Expr} {ta : TA} {p pos : Pos} (T : ExE X.K C) (iC : PySem.W.findIn X.K (.ref C) "__init__" = some (some (.ref fI))) (tI : PySem.W.typeIn X.K (.ref fI) = some (.type "function"))
    (F1 : FnOk X.prog X.w X.K X.mg X.base CX k fI fd ps sp) (hr : Room (k + 1) X.A) (hb : Binds X.K fd ps []) (hx : Passes CX X (fun _ _ _ => False)) (hg : Gl X x) (hm : X.mg x = some (.ref C)) (ha : PA X (e :: es) ta)
    (hdb : (x == ("__debug__" : Str)) = false := by decide) (he : starEach (e :: es) X.env = (false, eval e X.env) :: starEach es X.env := by rfl) (hpl : (backTo pos (starEach es X.env)).any (·.1) = false := by rfl) :
    PE X (.Call (.Name x p) (e :: es) [] pos) (tMkV C sp ta) := by
  refine ⟨fun pins s σ H Q I h => wpAny_Call_Name_kw (ld_glob I hg hm ?_ hdb)⟩
  refine PySem.W.callWith_K (h₀ := X.base) I.ok.mod.kin T.kp (thn (ha.run pos pins s σ H _ I h) fun us s1 ⟨vs, H1, I1, r1, hz, q1⟩ => ⟨I1.kIn, ?_⟩) he hpl
  show wpAny _ _ (call (.ref C) us) _ _ _
  obtain ⟨nm, N, qn, bs, bm, hdct, sn, sub, ab, col, dd, k0, k1, k2, k3, k5, hC, hT⟩ := PySem.W.excInit_of I1.kIn T.made
  obtain ⟨hp, g, dr, tk, os⟩ := s1
  have hq := q1 _ (I1.hok.fresh (Nat.le_succ hp.objs.size))
  have kept : ∀ b o, hp.get? b = some o → ((hp.push (PySem.W.kdv_tup us)).push (PySem.HandSPX.excO C hp.objs.size)).get? b = some o := fun b o z => Heap.get?_push_of_some _ (Heap.get?_push_of_some _ z)
  have I2 := I1.laid (t' := tk) (o := exo (hp.objs.size + 1) C none) kept (Nat.le_succ _) (exo_ok (by heap_get))
  have r2 : Vals (V.ref (hp.objs.size + 1) :: vs) (Value.ref (hp.objs.size + 1) :: us) := .cons rfl r1
  have len : (Value.ref (hp.objs.size + 1) :: us).length = ps.length := r2.length.symm.trans (F1.len _ _ _ _ hq)
  have short : us.length ≤ sizeLine := by
    have z := Paired.length r1
    rw [sizeLine_eq]
    omega
  have bnd := hb _ (Value.ref (hp.objs.size + 1) :: us) I2.kIn (by rw [List.append_nil]; exact len)
  rw [List.append_nil] at bnd
  refine wpAny_call (PySem.HandSPX.call_own PySem.F.excBase_Exception hT hC (PySem.W.looks_findIn I1.kIn iC) (fun self => PySem.W.bind_fn I1.kIn self tI) short (codeAny_mono (F1.run _ X.stack _ _ _ _ _ _ (fun _ _ _ => False) (hr.make C us []) (I2.env0.make C us []) bnd r2 hq) fun r s' z => ?_))
  cases r with
  | error er => exact hx pins σ _ _ er s' I2 z
  | ok fl =>
    cases fl with
    | next => exact False.elim z
    | brk => exact False.elim z
    | cont => exact False.elim z
    | ret w =>
      obtain ⟨y, H2, I3, rv, ey, q2⟩ := I2.after z
      subst ey
      exact ⟨rv, ⟨V.ref (hp.objs.size + 1), _, I3, rfl, q2⟩⟩
/-- C(f = e): one keyword -/
def tMkK (C : Addr) (sp : Sp) (tk : TA) : TE := fun σ H Q => tk σ H fun zs H1 => zs.length = 1 ∧ ∀ a, H1 a = none → sp (.ref a :: zs) (upd H1 a (exo a C none)) (fun v H2 => v = .non ∧ Q (.ref a) H2) (fun _ _ _ => False)
theorem peEk {CX : CXT} {x f : Str} {fI : Addr} {k : Nat} {fd : FuncData} {ps : List Str} {sp : Sp} {kws : List Keyword} {tk : TA} {p pos : Pos} (T : ExE X.K C) (iC : PySem.W.findIn X.K (.ref C) "__init__" = some (some (.ref fI))) (tI : PySem.W.typeIn X.K (.ref fI) = some (.type "function"))
    (F1 : FnOk X.prog X.w X.K X.mg X.base CX k fI fd ps sp) (hr : Room (k + 1) X.A) (hb : KBn X.K fd ps 1 [f] (fun us ws => us ++ ws) (fun vs zs => vs ++ zs)) (hx : Passes CX X (fun _ _ _ => False)) (hg : Gl X x) (hm : X.mg x = some (.ref C)) (hkw : PK X kws tk)
    (hall : (backToKw pos (keywordEach kws X.env)).all (·.1.isSome) = true := by rfl) (hks : (backToKw pos (keywordEach kws X.env)).filterMap (·.1) = [f] := by rfl) (hdb : (x == ("__debug__" : Str)) = false := by decide)
    (hpl : ((backTo pos (starEach [] X.env)).any (·.1) || (backToKw pos (keywordEach kws X.env)).any (·.1.isNone)) = false := by rfl) :
    PE X (.Call (.Name x p) [] kws pos) (tMkK C sp tk) := by
  refine ⟨fun pins s σ H Q I h => wpAny_Call_Name_kw (ld_glob I hg hm ?_ hdb)⟩
  refine PySem.W.callWith_KW0 (h₀ := X.base) I.ok.mod.kin T.kp hall (thn (hkw.run pos pins s σ H _ I h) fun ws s1 ⟨zs, H1, I1, r1, hz, q1⟩ => ⟨I1.kIn, ?_⟩) hpl
  rw [hks]
  obtain ⟨z, rfl⟩ : ∃ z, zs = [z] := by
    match zs, hz with
    | [z], _ => exact ⟨z, rfl⟩
  obtain ⟨u, rfl⟩ : ∃ u, ws = [u] := by
    cases r1 with
    | cons h1 h2 =>
      cases h2
      exact ⟨_, rfl⟩
  show wpAny _ _ (call (.ref C) [] [(f, u)]) _ _ _
  obtain ⟨nm, N, qn, bs, bm, hdct, sn, sub, ab, col, dd, k0, k1, k2, k3, k5, hC, hT⟩ := PySem.W.excInit_of I1.kIn T.made
  obtain ⟨hp, g, dr, tk, os⟩ := s1
  have hq := q1 _ (I1.hok.fresh (Nat.le_succ hp.objs.size))
  have kept : ∀ b o, hp.get? b = some o → ((hp.push (PySem.W.kdv_tup [])).push (PySem.HandSPX.excO C hp.objs.size)).get? b = some o := fun b o z => Heap.get?_push_of_some _ (Heap.get?_push_of_some _ z)
  have I2 := I1.laid (t' := tk) (o := exo (hp.objs.size + 1) C none) kept (Nat.le_succ _) (exo_ok (by heap_get))
  have r2 : Vals [V.ref (hp.objs.size + 1), z] [Value.ref (hp.objs.size + 1), u] := .cons rfl r1
  refine wpAny_call (PySem.HandSPX.pu_callK PySem.F.excBase_Exception hT hC (PySem.W.looks_findIn I1.kIn iC) (fun self => PySem.W.bind_fn I1.kIn self tI) (codeAny_mono (F1.run _ X.stack _ _ _ _ _ _ (fun _ _ _ => False) (hr.make C [] [(f, u)]) (I2.env0.make C [] [(f, u)]) (hb.to _ [Value.ref (hp.objs.size + 1)] [u] I2.kIn rfl rfl) r2 hq) fun r s' z => ?_))
  cases r with
  | error er => exact hx pins σ _ _ er s' I2 z
  | ok fl =>
    cases fl with
    | next => exact False.elim z
    | brk => exact False.elim z
    | cont => exact False.elim z
    | ret w =>
      obtain ⟨y, H2, I3, rv, ey, q2⟩ := I2.after z
      subst ey
      exact ⟨rv, ⟨V.ref (hp.objs.size + 1), _, I3, rfl, q2⟩⟩
end
end Pu

set_option maxHeartbeats 4000000
namespace PySem.W
open PySem PySem.Spec PySem.Calls PyProof.Rows
section
variable {prog : Program} {w : World} {A : Around} {E : Value → Shared → Prop} {s : Shared} {K : Frag} {x D : Addr} {ox : Obj} {od : Option Obj}
/-- e.__class__, e an error of an own class, with or without a dict -/
theorem pu_class {Q : Option Value → Shared → Prop} (C : L2.ExcC K D) (X : K.In s.heap) (I : InstAt s.heap x ox D od) (h : Q (some (.ref D)) { s with toks := s.toks + 1 }) : wpAny (model prog w) A (getAttr? (.ref x) "__class__") Q E s := by
  have hf : findObj K D od "__class__" = some (.bind (.builtin "getset_descriptor.__get__") (.builtin "object.__class__")) := by
    obtain ⟨cd, hc, _⟩ := any_some C.hd
    unfold findObj; rw [hc]; rw [Option.bind_some, C.ha]; rw [Option.bind_some]; simp [C.hn, C.ht]
  obtain ⟨hp, g, d, t, os⟩ := s
  have a0 := I.type (M := model prog w)
  have a1 := looks_findIn (M := model prog w) X C.hg
  have a2 := looks_findIn (M := model prog w) X C.hk
  have a3 := looks_find (M := model prog w) X I hf
  have a4 : Looks (model prog w) hp (isInstance (.ref x) (.type "BaseException")) true := a0.andThen (looks_subIn X C.hs)
  have b1 : (onTheHeap (Value.ref D) && Value.builtin "BaseException.__getattribute__" == Value.builtin "object.__getattribute__") = false := (congrArg (onTheHeap (Value.ref D) && ·) (by decide +kernel : (Value.builtin "BaseException.__getattribute__" == Value.builtin "object.__getattribute__") = false)).trans rfl
  unfold getAttr? getAttrBy? getAttrBy
  refine wpAny_bind (wpAny_mkText (wpAny_bind (wpAny_attempt (wpAny_holding (wpAny_bind (a0.at ?_))))))
  refine wpAny_bind (a1.at ?_)
  show wpAny _ _ (ite _ _ _) _ _ _
  rw [if_neg (show ¬ (onTheHeap (Value.ref D) && Value.builtin "BaseException.__getattribute__" == Value.builtin "object.__getattribute__") = true by rw [b1]; decide)]
  unfold getAttrByItsOwn hookBefore
  refine wpAny_bind ?_
  rw [if_pos (c := onTheHeap (Value.ref D) = true) rfl]
  refine a2.at (wpAny_bind (wpAny_attempt (wpAny_holding ?_)))
  unfold callGetattribute
  rw [if_neg (show ¬ (false && onTheHeap (Value.builtin "BaseException.__getattribute__")) = true by decide)]
  unfold boundAndCalled
  rw [PySem.F.excAttr_ValueError.ga.bind (.ref x)]
  refine wpAny_bind (wpAny_pure ?_)
  show wpAny _ _ (call (.builtin "BaseException.__getattribute__") [.ref x, .str "__class__" t]) _ _ _
  refine wpAny_call ?_
  refine codeAny_call_builtin PySem.F.excAttr_ValueError.ga.plain PySem.F.entry_bexc_ga ?_
  refine @check_slot (model prog w) _ _ ⟨hp, g, d, t + 1, os⟩ "BaseException.__getattribute__" "BaseException" "__getattribute__" (.ref x) [.str "__class__" t] [] _ (by decide +kernel) (by decide +kernel) a4 (PySem.F.args_bexc_ga _ _) ?_
  unfold Builtin.«object.__getattribute__»
  refine wpAny_bind (wpAny_of_eq (a := ((Value.ref x : Value), [Value.str "__class__" t])) ?_ (wpAny_bind (wpAny_pure (wpAny_bind (a0.at (wpAny_bind (a3.at ?_)))))))
  · first
    | rfl
    | (simp only [slotArgs]; rfl)
  show wpAny _ _ (holding [Value.builtin "object.__class__"] (call (.builtin "getset_descriptor.__get__") [.builtin "object.__class__", .ref x, .ref D]) >>= ret) _ _ _
  refine wpAny_bind (wpAny_holding (wpAny_call (class_get (s := ⟨hp, g, d, t + 1, os⟩) (od := od) (ox := ox) X I C.hm (wpAny_pure ?_))))
  show wpAny _ _ (handedOut (.ref D)) _ _ _
  rw [handedOut_of (v := .ref D) rfl]
  first
    | exact wpAny_pure h
    | exact wpAny_pure (wpAny_pure h)
    | exact wpAny_pure (wpAny_bind (wpAny_pure (wpAny_pure h)))
end
end PySem.W

set_option maxHeartbeats 4000000
namespace PySem.W
open PySem PySem.Spec PySem.Calls PyProof.Rows
theorem pu_cls {K : Frag} {D : Addr} (h : hasDictIn K D = true) : ∃ o, K.lookup D = some o ∧ (∃ c, o.data = .cls c) := by
  obtain ⟨c, e, _⟩ := any_some h
  unfold clsIn at e
  split at e
  · rename_i a b c2 f q; exact ⟨_, q, c2, rfl⟩
  · cases e
theorem pu_kit {K : Frag} {x D : Addr} {ox : Obj} {od : Option Obj} (C : L2.ExcC K D) : KitX K (.ref x) (.ref D) (fun h => InstAt h x ox D od) where
  ty := fun _ _ _ I => I.type
  it := fun M h X _ => by
    obtain ⟨⟨oc, odd, da, sl⟩, l, c, e⟩ := pu_cls C.hd; dsimp only at e; subst e
    intro A' Q' E' s' k q
    unfold isType loadHead; exact wpAny_bind (wpAny_loadPart (k _ _ (X _ _ l)) (wpAny_pure q))
  ne := fun h tp dd its n sl X ht => by
    obtain ⟨⟨oc, odd, da, sl'⟩, l, c, e⟩ := pu_cls C.hd; dsimp only at e; subst e
    refine Bool.eq_false_iff.mpr fun q => ?_
    have z : D = tp := Value.ref.inj (eq_of_beq q); subst z
    have y := (X _ _ l).symm.trans ht; cases y
  ca := fun X I k => pu_class C X I k
end PySem.W
namespace Pu
open PySem L2 PySem.Spec PyProof.Rows
/-- an error as it lies: with its one field, or without -/
def ExAt (H : Hp) (a C : Addr) : Option (Str × V) → Prop
  | none => H a = some (exo a C none)
  | some (f, v) => ∃ dx, H a = some (exo a C (some dx)) ∧ H dx = some (exd dx [(f, v)])
theorem exAt_inst {P : Program} {w : World} {H : Hp} {h : Heap} (hok : HOk P w H h) {a C : Addr} {fv : Option (Str × V)} (e : ExAt H a C fv) : ∃ (oe : Obj) (od : Option Obj), PySem.W.InstAt h a oe C od := by
  cases fv with
  | none =>
    obtain ⟨t, g⟩ := exo_at hok e
    exact ⟨_, none, g, rfl, rfl, trivial⟩
  | some p =>
    obtain ⟨f, v⟩ := p
    obtain ⟨dx, e1, e2⟩ := e
    obtain ⟨t, g⟩ := exo_at hok e1
    obtain ⟨mA, hn, r⟩ := exd_at hok e2
    obtain ⟨od, ho, hl⟩ := lookIn_ns hn
    exact ⟨_, some od, g, rfl, rfl, ho⟩
/-- isinstance(e, c), e an error held as a value -/
def rIsV (K : PySem.W.Frag) : List V → Hp → VK → Prop := fun xs H Q => ∃ (a C : Addr) (fv : Option (Str × V)) (c : V) (cv : Value) (b : Bool), xs = [.ref a, c] ∧ ExAt H a C fv ∧ ExcC K C ∧ (∀ u, RelV c u → u = cv) ∧ PySem.W.kitOne K (.ref C) cv = some b ∧ Q (.bl b) H
theorem call_isV {X : Cx} : CallR X (.builtin "isinstance") (rIsV X.K) := by
  intro pins s σ H xs us Q I r h
  obtain ⟨a, C, fv, c, cv, b, rfl, ea, T, hcv, e, q⟩ := h
  cases r with
  | cons rx rr =>
    cases rr with
    | cons rt rr =>
      cases rr
      cases rx
      obtain ⟨oe, od, J⟩ := exAt_inst I.hok ea
      rw [hcv _ rt]
      exact PySem.W.kia_one (PySem.W.pu_kit T) I.kIn J e (fun z => nomatch z) fun tk => ⟨.bl b, H, I.kept (t' := tk) fun _ _ z => z, rfl, q⟩
/-- e.f, e an error held as a value -/
def tXfV (K : PySem.W.Frag) (n : Str) (te : TE) : TE := fun σ H Q => te σ H fun x H1 => ∃ (a C : Addr) (v : V), x = .ref a ∧ ExAt H1 a C (some (n, v)) ∧ XfC K C ∧ PySem.W.findIn K (.ref C) n = some none ∧ Q v H1
theorem pe_xfV {X : Cx} {e : Expr} {te : TE} {pos : Pos} {n : Str} (he : PE X e te) (hb : attributeBase e n X.env (eval e X.env) = eval e X.env := by rfl) : PE X (.Attribute e n pos) (tXfV X.K n te) := by
  refine ⟨fun pins s σ H Q I h => attr_of hb (thn (he.run pins s σ H _ I h) fun u s1 hh => ?_)⟩
  obtain ⟨x, H1, I1, rx, a, C, v, rfl, ⟨dx, e1, e2⟩, T, hno, q⟩ := hh
  obtain rfl : u = Value.ref a := rx
  obtain ⟨t, g⟩ := exo_at I1.hok e1
  obtain ⟨mA, hn, r⟩ := exd_at I1.hok e2
  obtain ⟨od, ho, hl⟩ := lookIn_ns hn
  have l1 : ([(n, v)] : List (Str × V)).lookup n = some v := by simp
  obtain ⟨u, hu, ru⟩ := RelO.some_of (v := v) (o := mA n) (by rw [← l1]; exact r n)
  have J : PySem.W.InstAt s1.heap a _ C (some od) := ⟨g, rfl, rfl, ho⟩
  exact HandSPX.exc_get I1.kIn J T.ga T.gg T.exC (PySem.W.findObj_own T.hdC hno rfl (by rw [hl, hu])) (handed_of ru) ⟨v, H1, I1.tok _, ru, q⟩
/-- T(): an own error without an own __init__, as a value -/
theorem pe_mk0 {X : Cx} {C : Addr} {bmB : List Value} {B newId initId : String} {x : Str} {p pos : Pos} (F : ExcBaseFacts B newId initId bmB) (q : PySem.W.excIn X.K C bmB newId = true) (gC : X.mg x = some (.ref C)) (kC : PySem.W.keepIn X.K (.ref C) = true) (hg : Gl X x)
    (hdb : (x == ("__debug__" : Str)) = false := by decide) : PE X (.Call (.Name x p) [] [] pos) (fun σ H Q => ∀ a, H a = none → Q (.ref a) (upd H a (exo a C none))) := by
  refine ⟨fun pins s σ H Q I h => wpAny_Call_Name_kw (ld_glob I hg gC ?_ hdb)⟩
  refine PySem.W.callWith_K0 I.kIn kC ?_
  show wpAny _ _ (call (.ref C) []) _ _ _
  obtain ⟨bm, N, nm, qn, bs, hdct, sn, sub, ab, col, dd, k0, k1, k2, k3, k5, mN, hC, hN, hni, T⟩ := exc_obj I.kIn q
  refine wpAny_call_exc_subT F T hC hN hni (fun h' a hm => ?_) (Nat.zero_le _)
  obtain ⟨t, ht, _, _⟩ := hm.there
  exact ⟨.ref a, upd H a (exo a C none), I.laidN hm.keeps hm.new (I.hok.gone hm.new) (exo_ok ht), rfl, h a (I.hok.gone hm.new)⟩
/-- raise T() -/
theorem pmk_mk0 {X : Cx} {C : Addr} {bmB : List Value} {B newId initId : String} {x : Str} {p pos : Pos} (F : ExcBaseFacts B newId initId bmB) (q : PySem.W.excIn X.K C bmB newId = true) (gC : X.mg x = some (.ref C)) (kC : PySem.W.keepIn X.K (.ref C) = true) (r : Raises X (.ref C)) (hg : Gl X x)
    (hdb : (x == ("__debug__" : Str)) = false := by decide) : PMk X (.Call (.Name x p) [] [] pos) (fun _ H Q => Q (.ref C) none H) := fun pins s σ H Q I h => by
  refine wpAny_Call_Name_kw (ld_glob I hg gC (PySem.W.callWith_K0 I.kIn kC ?_) hdb)
  show wpAny _ _ (call (.ref C) []) _ _ _
  obtain ⟨bm, N, nm, qn, bs, hdct, sn, sub, ab, col, dd, k0, k1, k2, k3, k5, mN, hC, hN, hni, T⟩ := exc_obj I.kIn q
  exact wpAny_call_exc_subT F T hC hN hni (fun h' e hm => mk_of I hm r h (I.hok.gone hm.new)) (Nat.zero_le _)
/-- isinstance(e, c) in an except suite, e with or without a dict -/
theorem call_isW {X : Cx} {a D : Addr} {d : Option Addr} {oe : Obj} {pn : List (Addr × Obj)} (C : ExcC X.K D) (hz : Zc (.ref D) d oe) (hf : ∃ vs, oe.data = .fields vs) : CallR (X.suite a ((a, oe) :: pn)) (.builtin "isinstance") (fun xs H Q => (∀ dx, d = some dx → ∃ fs, H dx = some (.xd fs)) ∧ rIsE X.K D a xs H Q) := by
  intro pins s σ H xs us Q I r h
  obtain ⟨hd, c, cv, b, rfl, hcv, e, q⟩ := h
  cases r with
  | cons rx rr =>
    cases rr with
    | cons rt rr =>
      cases rr
      cases rx
      obtain ⟨g, _⟩ := I.pin (a, oe) (List.mem_append_left _ List.mem_cons_self)
      obtain ⟨vs, hv⟩ := hf
      have J : ∃ od, PySem.W.InstAt s.heap a oe D od := by
        cases d with
        | none => exact ⟨none, g, hz.1, by unfold PySem.W.notCls; rw [hv] <;> rfl, by rw [hz.2]; trivial⟩
        | some dx =>
          obtain ⟨fs, hx⟩ := hd dx rfl
          obtain ⟨mA, hn, _⟩ := I.hok dx _ hx
          obtain ⟨od, ho, _⟩ := lookIn_ns hn
          exact ⟨some od, g, hz.1, by unfold PySem.W.notCls; rw [hv] <;> rfl, by rw [hz.2]; exact ho⟩
      obtain ⟨od, J⟩ := J
      rw [hcv _ rt]
      exact PySem.W.kia_one (PySem.W.pu_kit C) I.kIn J e (fun z => nomatch z) fun tk => ⟨.bl b, H, I.kept (t' := tk) fun _ _ z => z, rfl, q⟩
end Pu

set_option maxHeartbeats 1000000
namespace Pu
open PySem L2 PySem.Spec PyProof.Rows
/-! errors as data: the class's place, the field's name, the field -/
def exD (K : Nat) (f : Str) (d : D) : D := .dict [(.int (K : Nat), .str f), (d, .none)]
def ex0D (K : Nat) : D := .dict [(.int (K : Nat), .none), (.none, .none)]
def spF (C : Addr) (f : Str) : Sp := fun vs H Q _ => ∃ (a : Addr) (v : V), vs = [.ref a, v] ∧ H a = some (exo a C none) ∧ ∀ dx, H dx = none → dx ≠ a → Q .non (upd (upd H dx (exd dx [(f, v)])) a (exo a C (some dx)))
section
variable {P : Program} {w : World} {K : PySem.W.Frag} {mg : Str → Option Value} {base : Heap}
theorem init_okF {x qual n : Str} {st : Stmt} {f C : Addr} {fd : FuncData} {k : Nat} (F : Fun K x qual st f fd) (S : FnScope ["self", n] ["self", n] (defScope st)) (T : ExE K C) (hno : PySem.W.takerIn K C n = some none)
    (hb : ∀ (cdv : Value) (A : Around) (outer : List Env) (s : Shared) (H : Hp) (E : XK), PSs (cxOf CX0 P w K mg base ["self", n] qual (defScope st) f cdv A outer s H E).nox (defBody st) (tOstE K n (tVar 0) (tVar 1))) :
    FnOk P w K mg base CX0 (k + 1) f fd ["self", n] (spF C n) := by
  refine F.ok S (fun vs H Q E h => ?_) (fun cdv A outer s H vs Q E hr h => ⟨_, hb cdv A outer s H E, ?_⟩)
  · obtain ⟨a, v, rfl, _⟩ := h
    rfl
  · obtain ⟨a, v, rfl, ea, q⟩ := h
    exact ⟨v, rfl, .ref a, rfl, a, C, rfl, T, hno, ea, fun dx n ne => q dx n ne⟩
end
theorem mk_dat {π : List V} {C : Addr → Prop} {σ : L2.St} {H H1 : Hp} {δ : Pst} {v : V} {d : D} {a dx K : Addr} {f : Str} (rel : Rel π C σ H δ) (h1 : HE H H1) (w1 : Dat C H1 v d) (na : H1 a = none) (nx : (upd H1 a (exo a K none)) dx = none) (ne : dx ≠ a) :
    HE H (upd (upd (upd H1 a (exo a K none)) dx (exd dx [(f, v)])) a (exo a K (some dx))) ∧ Dat C (upd (upd (upd H1 a (exo a K none)) dx (exd dx [(f, v)])) a (exo a K (some dx))) (.ref a) (exD K f d) := by
  rw [upd_ne ne] at nx
  have rel1 := rel.he h1
  have he : HE H1 (upd (upd (upd H1 a (exo a K none)) dx (exd dx [(f, v)])) a (exo a K (some dx))) := fun b o q => by
    have ba : b ≠ a := fun z => by rw [z, na] at q; cases q
    have bx : b ≠ dx := fun z => by rw [z, nx] at q; cases q
    rw [upd_ne ba, upd_ne bx, upd_ne ba]
    exact q
  exact ⟨h1.trans he, .exc (rel1.fresh na) (rel1.fresh nx) upd_same ((upd_ne ne).trans upd_same) (w1.he he)⟩
def qMk (K : Nat) (f : Str) (q : QE) : QE := fun δ => (q δ).map fun d => exD K f d
theorem q_mk {C : Addr} {f : Str} {te : TE} {qe : QE} (he : SndQ te qe) : SndQ (tMkV C (spF C f) (tCons te tNil)) (qMk C f qe) := fun π Cc σ H δ d e rel Q k => by
  obtain ⟨d1, e1, rfl⟩ := Option.map_eq_some_iff.mp e
  refine he π Cc σ H δ d1 e1 rel _ fun v H1 h1 w1 => ⟨show 1 ≤ 1000 by decide, fun a na => ⟨a, v, rfl, upd_same, fun dx nx ne => ⟨rfl, ?_⟩⟩⟩
  obtain ⟨g1, g2⟩ := mk_dat (f := f) rel h1 w1 na nx ne
  exact k _ _ g1 g2
theorem q_mkK {C : Addr} {f : Str} {te : TE} {qe : QE} (he : SndQ te qe) : SndQ (tMkK C (spF C f) (tCons te tNil)) (qMk C f qe) := fun π Cc σ H δ d e rel Q k => by
  obtain ⟨d1, e1, rfl⟩ := Option.map_eq_some_iff.mp e
  refine he π Cc σ H δ d1 e1 rel _ fun v H1 h1 w1 => ⟨rfl, fun a na => ⟨a, v, rfl, upd_same, fun dx nx ne => ⟨rfl, ?_⟩⟩⟩
  obtain ⟨g1, g2⟩ := mk_dat (f := f) rel h1 w1 na nx ne
  exact k _ _ g1 g2
def qMk0 (K : Nat) : QE := fun _ => some (ex0D K)
theorem q_mk0 {C : Addr} : SndQ (fun σ H Q => ∀ a, H a = none → Q (.ref a) (upd H a (exo a C none))) (qMk0 C) := fun π Cc σ H δ d e rel Q k => by
  cases e
  exact fun a na => k _ _ (HE.new na) (.ex0 (rel.fresh na) upd_same)
def qXf (Ls : Nat → Bool) (n : Str) (q : QE) : QE := fun δ => (q δ).bind fun x => match x with
  | .dict [(.int i, .str f), (d, .none)] => if f = n ∧ Ls i.toNat = true then some d else none
  | _ => none
theorem q_xf {K : PySem.W.Frag} {Ls : Nat → Bool} {n : Str} {te : TE} {qe : QE} (hL : ∀ C, Ls C = true → XfC K C ∧ PySem.W.findIn K (.ref C) n = some none) (he : SndQ te qe) : SndQ (tXfV K n te) (qXf Ls n qe) := fun π Cc σ H δ d e rel Q k => by
  obtain ⟨x, e1, e⟩ := Option.bind_eq_some_iff.mp e
  split at e
  · split at e
    · rename_i hc
      cases e
      refine he π Cc σ H δ _ e1 rel _ fun v H1 h1 w1 => ?_
      obtain ⟨rfl, hl⟩ := hc
      cases w1 with
      | exc c1 c2 g1 g2 w2 =>
        rw [Int.toNat_natCast] at hl
        obtain ⟨x1, x2⟩ := hL _ hl
        exact ⟨_, _, _, rfl, ⟨_, g1, g2⟩, x1, x2, k _ H1 h1 w2⟩
    · cases e
  · cases e
def qIsX (tb : Nat → Option Bool) (q : QE) : QE := fun δ => (q δ).bind fun x => match x with
  | .dict [(.int i, _), _] => (tb i.toNat).map .bool
  | _ => none
theorem q_isX {K : PySem.W.Frag} {tb : Nat → Option Bool} {c : V} {cv : Value} {te : TE} {qe : QE} (hcv : ∀ u, RelV c u → u = cv) (hT : ∀ C b, tb C = some b → ExcC K C ∧ PySem.W.kitOne K (.ref C) cv = some b) (he : SndQ te qe) : SndQ (tCB (rIsV K) (tCons te (tCons (tC c) tNil))) (qIsX tb qe) := fun π Cc σ H δ d e rel Q k => by
  obtain ⟨x, e1, e⟩ := Option.bind_eq_some_iff.mp e
  split at e
  · obtain ⟨b, e2, rfl⟩ := Option.map_eq_some_iff.mp e
    refine he π Cc σ H δ _ e1 rel _ fun v H1 h1 w1 => ?_
    cases w1 with
    | exc c1 c2 g1 g2 w2 =>
      rw [Int.toNat_natCast] at e2
      obtain ⟨x1, x2⟩ := hT _ _ e2
      exact ⟨_, _, some (_, _), c, cv, b, rfl, ⟨_, g1, g2⟩, x1, hcv, x2, k _ H1 h1 (.bl b)⟩
    | ex0 c1 g1 =>
      rw [Int.toNat_natCast] at e2
      obtain ⟨x1, x2⟩ := hT _ _ e2
      exact ⟨_, _, none, c, cv, b, rfl, g1, x1, hcv, x2, k _ H1 h1 (.bl b)⟩
  · cases e
/-! the law's own try: T() or N(at), caught by the base class -/
def rIsU (K : PySem.W.Frag) (cls : Value) (d : Option Addr) (a : Addr) : List V → Hp → VK → Prop := fun xs H Q => ∃ D, cls = .ref D ∧ ExcC K D ∧ (∀ dx, d = some dx → ∃ fs, H dx = some (.xd fs)) ∧ rIsE K D a xs H Q
theorem call_isU {X : Cx} {a : Addr} {cls : Value} {d : Option Addr} {oe : Obj} {pn : List (Addr × Obj)} (hz : Zc cls d oe) (hf : ∃ vs, oe.data = .fields vs) : CallR (X.suite a ((a, oe) :: pn)) (.builtin "isinstance") (rIsU X.K cls d a) := by
  intro pins s σ H xs us Q I r h
  obtain ⟨D, rfl, C, hd, h⟩ := h
  exact call_isW C hz hf pins s σ H xs us Q I r ⟨hd, h⟩
def sCaught : SE := fun δ => (qVar 0 δ).bind fun d => (asI d).bind fun i => if 1 < δ.length then some (.rt (.bool (decide (i ≠ 0))), δ) else none
def tbCaught (TM NP : Addr) (tt : TT) (f : Str) (W : WX) : TS := tSeq (tIfS tt (fun _ σ H => W (.ref TM) none σ H) tNext) (fun _ σ H => tMkO NP (spF NP f) [] (tCons (tVar 0) tNil) σ H fun cls d H' => W cls d σ H')
theorem s_caught {K : PySem.W.Frag} {TM NP LE : Addr} {tt : TT} {f : Str} (ht : SndT tt (qTest (q2 dEq (qVar 0) (qC (.int 0))))) (m1 : PySem.W.exmOne K (.ref TM) (.ref LE) = some true) (m2 : PySem.W.exmOne K (.ref NP) (.ref LE) = some true) (x1 : ExcC K TM) (x2 : ExcC K NP) (k1 : PySem.W.kitOne K (.ref TM) (.ref NP) = some false) (k2 : PySem.W.kitOne K (.ref NP) (.ref NP) = some true) :
    SndS (fun D σ H => tbCaught TM NP tt f (wAs K (.ref LE) 1 (fun a cls d => tRet (tCB (rIsU K cls d a) (tCons (tVar 1) (tCons (tC (.ref NP)) tNil)))) (fun _ _ _ _ => False) D) D σ H) sCaught := fun π C σ H δ o δ' e rel D k => by
  obtain ⟨d, e1, e⟩ := Option.bind_eq_some_iff.mp e
  obtain ⟨i, e2, e⟩ := Option.bind_eq_some_iff.mp e
  split at e
  case isFalse => cases e
  rename_i hl
  cases e
  have ed := asI_some e2
  subst ed
  have tq : qTest (q2 dEq (qVar 0) (qC (.int 0))) δ = some (decide (i = 0)) := by
    unfold qTest q2
    rw [e1]
    rfl
  have hcv : ∀ u, RelV (.ref NP) u → u = Value.ref NP := fun u r => r
  refine ht π C σ H δ _ tq rel _ fun H1 h1 => ?_
  by_cases h0 : i = 0
  · rw [decide_eq_true h0]
    refine iteT ?_
    refine ⟨true, m1, fun _ a na => ?_, fun q => nomatch q⟩
    have len : 1 < σ.length := by rw [rel.len]; exact hl
    refine ⟨.ref a, List.getElem?_set_self len, TM, rfl, x1, (fun dx q => nomatch q), .ref NP, .ref NP, false, rfl, hcv, k1, ?_⟩
    have z := k C σ H1 (Stp.he rel h1) (.bl false)
    rw [decide_eq_false (show ¬ i ≠ 0 from fun q => q h0)] at z
    exact z (.bl false)
  · rw [decide_eq_false h0]
    refine iteF ?_
    obtain ⟨v, hv, wv⟩ := rel.get (i := 0) (d := .int i) (by
      unfold qVar at e1
      split at e1
      · rename_i d' hd
        cases e1
        exact hd
      · cases e1)
    refine ⟨v, hv, show 1 ≤ 1000 by decide, fun a na => ⟨a, v, rfl, upd_same, fun dx nx ne => ?_⟩⟩
    rw [upd_ne ne] at nx
    have hHE : HE H (upd (del (upd (upd (upd H1 a (exo a NP none)) dx (exd dx [(f, v)])) a (exo a NP (some dx))) a) dx (.xd [(f, v)])) := fun b o q => by
      have q1 := h1 b o q
      have na' : b ≠ a := fun z => by rw [z, na] at q1; cases q1
      have nx' : b ≠ dx := fun z => by rw [z, nx] at q1; cases q1
      rw [upd_ne nx', del_ne na', upd_ne na', upd_ne nx', upd_ne na']
      exact q1
    refine ⟨rfl, dx, _, upd_same, (upd_ne ne).trans upd_same, nx, ?_⟩
    refine ⟨true, m2, fun _ a2 na2 => ?_, fun q => nomatch q⟩
    have len : 1 < σ.length := by rw [rel.len]; exact hl
    refine ⟨.ref a2, List.getElem?_set_self len, NP, rfl, x2, fun dx' q => ?_, .ref NP, .ref NP, true, rfl, hcv, k2, ?_⟩
    · cases q
      exact ⟨_, upd_same⟩
    · have z := k C σ _ (Stp.he rel hHE) (.bl true)
      rw [decide_eq_true (show i ≠ 0 from h0)] at z
      exact z (.bl true)
end Pu

set_option maxHeartbeats 4000000

namespace K00
open PySem L2 Pu
def topS (i : Nat) : Stmt := PySem.Challenge.pw_snuglay_k00_errors.main.body.getD i (.Pass ⟨0, 0, 0, 0⟩)
abbrev s__law_so : Stmt := topS 9
theorem sc__law_so : FnScope ["found", "meant", "k"] ["found", "meant"] (defScope s__law_so) := ⟨rfl, rfl, rfl, by decide +kernel, rfl, by decide +kernel, by decide +kernel⟩
abbrev s__law_draw : Stmt := topS 11
theorem sc__law_draw : FnScope ["row", "at", "limit", "mixed"] ["row", "at", "limit"] (defScope s__law_draw) := ⟨rfl, rfl, rfl, by decide +kernel, rfl, by decide +kernel, by decide +kernel⟩
abbrev s__law_take : Stmt := topS 12
theorem sc__law_take : FnScope ["row", "spot", "limit"] ["row", "spot", "limit"] (defScope s__law_take) := ⟨rfl, rfl, rfl, by decide +kernel, rfl, by decide +kernel, by decide +kernel⟩
abbrev s__law_of : Stmt := topS 13
theorem sc__law_of : FnScope ["value", "made"] ["value"] (defScope s__law_of) := ⟨rfl, rfl, rfl, by decide +kernel, rfl, by decide +kernel, by decide +kernel⟩
abbrev s__law_foreign : Stmt := topS 14
theorem sc__law_foreign : FnScope ["value"] ["value"] (defScope s__law_foreign) := ⟨rfl, rfl, rfl, by decide +kernel, rfl, by decide +kernel, by decide +kernel⟩
abbrev s__law_caught : Stmt := topS 15
theorem sc__law_caught : FnScope ["at", "wrong"] ["at"] (defScope s__law_caught) := ⟨rfl, rfl, rfl, by decide +kernel, rfl, by decide +kernel, by decide +kernel⟩
abbrev s__law_numbers : Stmt := topS 10
theorem sc__law_numbers : FnScope ["script", "row", "cell", "left", "k", "mixed"] ["script"] (defScope s__law_numbers) := ⟨rfl, rfl, rfl, by decide +kernel, rfl, by decide +kernel, by decide +kernel⟩
abbrev s_law : Stmt := topS 16
theorem sc_law : FnScope ["script", "row", "spot", "at", "other", "made", "every", "k", "one"] ["script"] (defScope s_law) := ⟨rfl, rfl, rfl, by decide +kernel, rfl, by decide +kernel, by decide +kernel⟩
abbrev s_init_BadValue : Stmt := inClass (topS 2) 0
theorem sc_init_BadValue : FnScope ["self", "at"] ["self", "at"] (defScope s_init_BadValue) := ⟨rfl, rfl, rfl, by decide +kernel, rfl, by decide +kernel, by decide +kernel⟩
abbrev s_init_BadText : Stmt := inClass (topS 3) 0
theorem sc_init_BadText : FnScope ["self", "at"] ["self", "at"] (defScope s_init_BadText) := ⟨rfl, rfl, rfl, by decide +kernel, rfl, by decide +kernel, by decide +kernel⟩
abbrev s_init_BadPaper : Stmt := inClass (topS 4) 0
theorem sc_init_BadPaper : FnScope ["self", "at"] ["self", "at"] (defScope s_init_BadPaper) := ⟨rfl, rfl, rfl, by decide +kernel, rfl, by decide +kernel, by decide +kernel⟩
abbrev s_init_NoPiece : Stmt := inClass (topS 5) 0
theorem sc_init_NoPiece : FnScope ["self", "name"] ["self", "name"] (defScope s_init_NoPiece) := ⟨rfl, rfl, rfl, by decide +kernel, rfl, by decide +kernel, by decide +kernel⟩
abbrev s_init_TakenName : Stmt := inClass (topS 6) 0
theorem sc_init_TakenName : FnScope ["self", "name"] ["self", "name"] (defScope s_init_TakenName) := ⟨rfl, rfl, rfl, by decide +kernel, rfl, by decide +kernel, by decide +kernel⟩
structure Top (K : PySem.W.Frag) (mg : Str → Option Value) where
  a__law_so : Addr
  d__law_so : FuncData
  F__law_so : Fun K "_law_so" "_law_so" s__law_so a__law_so d__law_so
  g__law_so : mg "_law_so" = some (.ref a__law_so)
  b__law_so : Binds K d__law_so ["found", "meant"] []
  a__law_draw : Addr
  d__law_draw : FuncData
  F__law_draw : Fun K "_law_draw" "_law_draw" s__law_draw a__law_draw d__law_draw
  g__law_draw : mg "_law_draw" = some (.ref a__law_draw)
  b__law_draw : Binds K d__law_draw ["row", "at", "limit"] []
  a__law_take : Addr
  d__law_take : FuncData
  F__law_take : Fun K "_law_take" "_law_take" s__law_take a__law_take d__law_take
  g__law_take : mg "_law_take" = some (.ref a__law_take)
  b__law_take : Binds K d__law_take ["row", "spot", "limit"] []
  a__law_of : Addr
  d__law_of : FuncData
  F__law_of : Fun K "_law_of" "_law_of" s__law_of a__law_of d__law_of
  g__law_of : mg "_law_of" = some (.ref a__law_of)
  b__law_of : Binds K d__law_of ["value"] []
  a__law_foreign : Addr
  d__law_foreign : FuncData
  F__law_foreign : Fun K "_law_foreign" "_law_foreign" s__law_foreign a__law_foreign d__law_foreign
  g__law_foreign : mg "_law_foreign" = some (.ref a__law_foreign)
  b__law_foreign : Binds K d__law_foreign ["value"] []
  a__law_caught : Addr
  d__law_caught : FuncData
  F__law_caught : Fun K "_law_caught" "_law_caught" s__law_caught a__law_caught d__law_caught
  g__law_caught : mg "_law_caught" = some (.ref a__law_caught)
  b__law_caught : Binds K d__law_caught ["at"] []
  a__law_numbers : Addr
  d__law_numbers : FuncData
  F__law_numbers : Fun K "_law_numbers" "_law_numbers" s__law_numbers a__law_numbers d__law_numbers
  g__law_numbers : mg "_law_numbers" = some (.ref a__law_numbers)
  b__law_numbers : Binds K d__law_numbers ["script"] []
  a_law : Addr
  d_law : FuncData
  F_law : Fun K "law" "law" s_law a_law d_law
  g_law : mg "law" = some (.ref a_law)
  b_law : Binds K d_law ["script"] []
  m_ArithmeticError : mg "ArithmeticError" = none
  m_Exception : mg "Exception" = none
  m_LookupError : mg "LookupError" = none
  m_ValueError : mg "ValueError" = none
  m_bool : mg "bool" = none
  m_int : mg "int" = none
  m_isinstance : mg "isinstance" = none
  m_len : mg "len" = none
  m_range : mg "range" = none
  m_str : mg "str" = none
  m_tuple : mg "tuple" = none
  C_BadValue : Addr
  gC_BadValue : mg "BadValue" = some (.ref C_BadValue)
  C_BadText : Addr
  gC_BadText : mg "BadText" = some (.ref C_BadText)
  C_BadPaper : Addr
  gC_BadPaper : mg "BadPaper" = some (.ref C_BadPaper)
  C_NoPiece : Addr
  gC_NoPiece : mg "NoPiece" = some (.ref C_NoPiece)
  C_TakenName : Addr
  gC_TakenName : mg "TakenName" = some (.ref C_TakenName)
  C_TooMany : Addr
  gC_TooMany : mg "TooMany" = some (.ref C_TooMany)
  C_LayError : Addr
  gC_LayError : mg "LayError" = some (.ref C_LayError)
  ec_BadValue : ExcC K C_BadValue
  ec_BadText : ExcC K C_BadText
  ec_BadPaper : ExcC K C_BadPaper
  ec_NoPiece : ExcC K C_NoPiece
  ec_TakenName : ExcC K C_TakenName
  ec_TooMany : ExcC K C_TooMany
  aI_BadValue : Addr
  dI_BadValue : FuncData
  FI_BadValue : Fun K "__init__" "BadValue.__init__" s_init_BadValue aI_BadValue dI_BadValue
  bI_BadValue : Binds K dI_BadValue ["self", "at"] []
  kbI_BadValue : KBn K dI_BadValue ["self", "at"] 1 ["at"] (fun us ws => us ++ ws) (fun vs zs => vs ++ zs)
  x_BadValue : ExE K C_BadValue
  i_BadValue : PySem.W.findIn K (.ref C_BadValue) "__init__" = some (some (.ref aI_BadValue))
  t_BadValue : PySem.W.typeIn K (.ref aI_BadValue) = some (.type "function")
  n_BadValue : PySem.W.takerIn K C_BadValue "at" = some none
  nf_BadValue : PySem.W.findIn K (.ref C_BadValue) "at" = some none
  xf_BadValue : XfC K C_BadValue
  aI_BadText : Addr
  dI_BadText : FuncData
  FI_BadText : Fun K "__init__" "BadText.__init__" s_init_BadText aI_BadText dI_BadText
  bI_BadText : Binds K dI_BadText ["self", "at"] []
  kbI_BadText : KBn K dI_BadText ["self", "at"] 1 ["at"] (fun us ws => us ++ ws) (fun vs zs => vs ++ zs)
  x_BadText : ExE K C_BadText
  i_BadText : PySem.W.findIn K (.ref C_BadText) "__init__" = some (some (.ref aI_BadText))
  t_BadText : PySem.W.typeIn K (.ref aI_BadText) = some (.type "function")
  n_BadText : PySem.W.takerIn K C_BadText "at" = some none
  nf_BadText : PySem.W.findIn K (.ref C_BadText) "at" = some none
  xf_BadText : XfC K C_BadText
  aI_BadPaper : Addr
  dI_BadPaper : FuncData
  FI_BadPaper : Fun K "__init__" "BadPaper.__init__" s_init_BadPaper aI_BadPaper dI_BadPaper
  bI_BadPaper : Binds K dI_BadPaper ["self", "at"] []
  kbI_BadPaper : KBn K dI_BadPaper ["self", "at"] 1 ["at"] (fun us ws => us ++ ws) (fun vs zs => vs ++ zs)
  x_BadPaper : ExE K C_BadPaper
  i_BadPaper : PySem.W.findIn K (.ref C_BadPaper) "__init__" = some (some (.ref aI_BadPaper))
  t_BadPaper : PySem.W.typeIn K (.ref aI_BadPaper) = some (.type "function")
  n_BadPaper : PySem.W.takerIn K C_BadPaper "at" = some none
  nf_BadPaper : PySem.W.findIn K (.ref C_BadPaper) "at" = some none
  xf_BadPaper : XfC K C_BadPaper
  aI_NoPiece : Addr
  dI_NoPiece : FuncData
  FI_NoPiece : Fun K "__init__" "NoPiece.__init__" s_init_NoPiece aI_NoPiece dI_NoPiece
  bI_NoPiece : Binds K dI_NoPiece ["self", "name"] []
  kbI_NoPiece : KBn K dI_NoPiece ["self", "name"] 1 ["name"] (fun us ws => us ++ ws) (fun vs zs => vs ++ zs)
  x_NoPiece : ExE K C_NoPiece
  i_NoPiece : PySem.W.findIn K (.ref C_NoPiece) "__init__" = some (some (.ref aI_NoPiece))
  t_NoPiece : PySem.W.typeIn K (.ref aI_NoPiece) = some (.type "function")
  n_NoPiece : PySem.W.takerIn K C_NoPiece "name" = some none
  nf_NoPiece : PySem.W.findIn K (.ref C_NoPiece) "name" = some none
  xf_NoPiece : XfC K C_NoPiece
  aI_TakenName : Addr
  dI_TakenName : FuncData
  FI_TakenName : Fun K "__init__" "TakenName.__init__" s_init_TakenName aI_TakenName dI_TakenName
  bI_TakenName : Binds K dI_TakenName ["self", "name"] []
  kbI_TakenName : KBn K dI_TakenName ["self", "name"] 1 ["name"] (fun us ws => us ++ ws) (fun vs zs => vs ++ zs)
  x_TakenName : ExE K C_TakenName
  i_TakenName : PySem.W.findIn K (.ref C_TakenName) "__init__" = some (some (.ref aI_TakenName))
  t_TakenName : PySem.W.typeIn K (.ref aI_TakenName) = some (.type "function")
  n_TakenName : PySem.W.takerIn K C_TakenName "name" = some none
  nf_TakenName : PySem.W.findIn K (.ref C_TakenName) "name" = some none
  xf_TakenName : XfC K C_TakenName
  q_TooMany : PySem.W.excIn K C_TooMany exL "Exception.__new__" = true
  kp_TooMany : PySem.W.keepIn K (.ref C_TooMany) = true
  sb_TooMany : PySem.W.subIn K (.ref C_TooMany) (.type "BaseException") = some true
  ty_TooMany : PySem.W.typeIn K (.ref C_TooMany) = some (.type "type")
  em_TooMany : PySem.W.exmOne K (.ref C_TooMany) (.ref C_LayError) = some true
  em_NoPiece : PySem.W.exmOne K (.ref C_NoPiece) (.ref C_LayError) = some true
  ki_BadValue_BadValue : PySem.W.kitOne K (.ref C_BadValue) (.ref C_BadValue) = some true
  ki_BadValue_BadText : PySem.W.kitOne K (.ref C_BadValue) (.ref C_BadText) = some false
  ki_BadValue_BadPaper : PySem.W.kitOne K (.ref C_BadValue) (.ref C_BadPaper) = some false
  ki_BadValue_NoPiece : PySem.W.kitOne K (.ref C_BadValue) (.ref C_NoPiece) = some false
  ki_BadValue_TakenName : PySem.W.kitOne K (.ref C_BadValue) (.ref C_TakenName) = some false
  ki_BadValue_TooMany : PySem.W.kitOne K (.ref C_BadValue) (.ref C_TooMany) = some false
  ki_BadValue_LayError : PySem.W.kitOne K (.ref C_BadValue) (.ref C_LayError) = some true
  ki_BadValue_ValueError : PySem.W.kitOne K (.ref C_BadValue) (.type "ValueError") = some false
  ki_BadValue_LookupError : PySem.W.kitOne K (.ref C_BadValue) (.type "LookupError") = some false
  ki_BadValue_ArithmeticError : PySem.W.kitOne K (.ref C_BadValue) (.type "ArithmeticError") = some false
  ki_BadValue_Exception : PySem.W.kitOne K (.ref C_BadValue) (.type "Exception") = some true
  ki_BadText_BadValue : PySem.W.kitOne K (.ref C_BadText) (.ref C_BadValue) = some false
  ki_BadText_BadText : PySem.W.kitOne K (.ref C_BadText) (.ref C_BadText) = some true
  ki_BadText_BadPaper : PySem.W.kitOne K (.ref C_BadText) (.ref C_BadPaper) = some false
  ki_BadText_NoPiece : PySem.W.kitOne K (.ref C_BadText) (.ref C_NoPiece) = some false
  ki_BadText_TakenName : PySem.W.kitOne K (.ref C_BadText) (.ref C_TakenName) = some false
  ki_BadText_TooMany : PySem.W.kitOne K (.ref C_BadText) (.ref C_TooMany) = some false
  ki_BadText_LayError : PySem.W.kitOne K (.ref C_BadText) (.ref C_LayError) = some true
  ki_BadText_ValueError : PySem.W.kitOne K (.ref C_BadText) (.type "ValueError") = some false
  ki_BadText_LookupError : PySem.W.kitOne K (.ref C_BadText) (.type "LookupError") = some false
  ki_BadText_ArithmeticError : PySem.W.kitOne K (.ref C_BadText) (.type "ArithmeticError") = some false
  ki_BadText_Exception : PySem.W.kitOne K (.ref C_BadText) (.type "Exception") = some true
  ki_BadPaper_BadValue : PySem.W.kitOne K (.ref C_BadPaper) (.ref C_BadValue) = some false
  ki_BadPaper_BadText : PySem.W.kitOne K (.ref C_BadPaper) (.ref C_BadText) = some false
  ki_BadPaper_BadPaper : PySem.W.kitOne K (.ref C_BadPaper) (.ref C_BadPaper) = some true
  ki_BadPaper_NoPiece : PySem.W.kitOne K (.ref C_BadPaper) (.ref C_NoPiece) = some false
  ki_BadPaper_TakenName : PySem.W.kitOne K (.ref C_BadPaper) (.ref C_TakenName) = some false
  ki_BadPaper_TooMany : PySem.W.kitOne K (.ref C_BadPaper) (.ref C_TooMany) = some false
  ki_BadPaper_LayError : PySem.W.kitOne K (.ref C_BadPaper) (.ref C_LayError) = some true
  ki_BadPaper_ValueError : PySem.W.kitOne K (.ref C_BadPaper) (.type "ValueError") = some false
  ki_BadPaper_LookupError : PySem.W.kitOne K (.ref C_BadPaper) (.type "LookupError") = some false
  ki_BadPaper_ArithmeticError : PySem.W.kitOne K (.ref C_BadPaper) (.type "ArithmeticError") = some false
  ki_BadPaper_Exception : PySem.W.kitOne K (.ref C_BadPaper) (.type "Exception") = some true
  ki_NoPiece_BadValue : PySem.W.kitOne K (.ref C_NoPiece) (.ref C_BadValue) = some false
  ki_NoPiece_BadText : PySem.W.kitOne K (.ref C_NoPiece) (.ref C_BadText) = some false
  ki_NoPiece_BadPaper : PySem.W.kitOne K (.ref C_NoPiece) (.ref C_BadPaper) = some false
  ki_NoPiece_NoPiece : PySem.W.kitOne K (.ref C_NoPiece) (.ref C_NoPiece) = some true
  ki_NoPiece_TakenName : PySem.W.kitOne K (.ref C_NoPiece) (.ref C_TakenName) = some false
  ki_NoPiece_TooMany : PySem.W.kitOne K (.ref C_NoPiece) (.ref C_TooMany) = some false
  ki_NoPiece_LayError : PySem.W.kitOne K (.ref C_NoPiece) (.ref C_LayError) = some true
  ki_NoPiece_ValueError : PySem.W.kitOne K (.ref C_NoPiece) (.type "ValueError") = some false
  ki_NoPiece_LookupError : PySem.W.kitOne K (.ref C_NoPiece) (.type "LookupError") = some false
  ki_NoPiece_ArithmeticError : PySem.W.kitOne K (.ref C_NoPiece) (.type "ArithmeticError") = some false
  ki_NoPiece_Exception : PySem.W.kitOne K (.ref C_NoPiece) (.type "Exception") = some true
  ki_TakenName_BadValue : PySem.W.kitOne K (.ref C_TakenName) (.ref C_BadValue) = some false
  ki_TakenName_BadText : PySem.W.kitOne K (.ref C_TakenName) (.ref C_BadText) = some false
  ki_TakenName_BadPaper : PySem.W.kitOne K (.ref C_TakenName) (.ref C_BadPaper) = some false
  ki_TakenName_NoPiece : PySem.W.kitOne K (.ref C_TakenName) (.ref C_NoPiece) = some false
  ki_TakenName_TakenName : PySem.W.kitOne K (.ref C_TakenName) (.ref C_TakenName) = some true
  ki_TakenName_TooMany : PySem.W.kitOne K (.ref C_TakenName) (.ref C_TooMany) = some false
  ki_TakenName_LayError : PySem.W.kitOne K (.ref C_TakenName) (.ref C_LayError) = some true
  ki_TakenName_ValueError : PySem.W.kitOne K (.ref C_TakenName) (.type "ValueError") = some false
  ki_TakenName_LookupError : PySem.W.kitOne K (.ref C_TakenName) (.type "LookupError") = some false
  ki_TakenName_ArithmeticError : PySem.W.kitOne K (.ref C_TakenName) (.type "ArithmeticError") = some false
  ki_TakenName_Exception : PySem.W.kitOne K (.ref C_TakenName) (.type "Exception") = some true
  ki_TooMany_BadValue : PySem.W.kitOne K (.ref C_TooMany) (.ref C_BadValue) = some false
  ki_TooMany_BadText : PySem.W.kitOne K (.ref C_TooMany) (.ref C_BadText) = some false
  ki_TooMany_BadPaper : PySem.W.kitOne K (.ref C_TooMany) (.ref C_BadPaper) = some false
  ki_TooMany_NoPiece : PySem.W.kitOne K (.ref C_TooMany) (.ref C_NoPiece) = some false
  ki_TooMany_TakenName : PySem.W.kitOne K (.ref C_TooMany) (.ref C_TakenName) = some false
  ki_TooMany_TooMany : PySem.W.kitOne K (.ref C_TooMany) (.ref C_TooMany) = some true
  ki_TooMany_LayError : PySem.W.kitOne K (.ref C_TooMany) (.ref C_LayError) = some true
  ki_TooMany_ValueError : PySem.W.kitOne K (.ref C_TooMany) (.type "ValueError") = some false
  ki_TooMany_LookupError : PySem.W.kitOne K (.ref C_TooMany) (.type "LookupError") = some false
  ki_TooMany_ArithmeticError : PySem.W.kitOne K (.ref C_TooMany) (.type "ArithmeticError") = some false
  ki_TooMany_Exception : PySem.W.kitOne K (.ref C_TooMany) (.type "Exception") = some true
structure Cs where
  BadValue : Nat
  BadText : Nat
  BadPaper : Nat
  NoPiece : Nat
  TakenName : Nat
  TooMany : Nat
structure Cs.Ok (cs : Cs) : Prop where
  n_BadValue_BadText : cs.BadValue ≠ cs.BadText
  n_BadValue_BadPaper : cs.BadValue ≠ cs.BadPaper
  n_BadValue_NoPiece : cs.BadValue ≠ cs.NoPiece
  n_BadValue_TakenName : cs.BadValue ≠ cs.TakenName
  n_BadValue_TooMany : cs.BadValue ≠ cs.TooMany
  n_BadText_BadPaper : cs.BadText ≠ cs.BadPaper
  n_BadText_NoPiece : cs.BadText ≠ cs.NoPiece
  n_BadText_TakenName : cs.BadText ≠ cs.TakenName
  n_BadText_TooMany : cs.BadText ≠ cs.TooMany
  n_BadPaper_NoPiece : cs.BadPaper ≠ cs.NoPiece
  n_BadPaper_TakenName : cs.BadPaper ≠ cs.TakenName
  n_BadPaper_TooMany : cs.BadPaper ≠ cs.TooMany
  n_NoPiece_TakenName : cs.NoPiece ≠ cs.TakenName
  n_NoPiece_TooMany : cs.NoPiece ≠ cs.TooMany
  n_TakenName_TooMany : cs.TakenName ≠ cs.TooMany
def tbl (l : List (Nat × Bool)) (k : Nat) : Option Bool := (l.find? fun p => decide (p.1 = k)).map (·.2)
theorem tbl_ok {p : Nat → Bool → Prop} : ∀ {l : List (Nat × Bool)}, (∀ q ∈ l, p q.1 q.2) → ∀ k b, tbl l k = some b → p k b := fun {l} h k b e => by
  obtain ⟨q, e1, rfl⟩ := Option.map_eq_some_iff.mp e
  have e2 := of_decide_eq_true (List.find?_some (p := fun p : Nat × Bool => decide (p.1 = k)) e1)
  rw [← e2]
  exact h q (List.mem_of_find?_eq_some e1)
def tb_BadValue (cs : Cs) : Nat → Option Bool := tbl [(cs.BadValue, true), (cs.BadText, false), (cs.BadPaper, false), (cs.NoPiece, false), (cs.TakenName, false), (cs.TooMany, false)]
def tb_BadText (cs : Cs) : Nat → Option Bool := tbl [(cs.BadValue, false), (cs.BadText, true), (cs.BadPaper, false), (cs.NoPiece, false), (cs.TakenName, false), (cs.TooMany, false)]
def tb_BadPaper (cs : Cs) : Nat → Option Bool := tbl [(cs.BadValue, false), (cs.BadText, false), (cs.BadPaper, true), (cs.NoPiece, false), (cs.TakenName, false), (cs.TooMany, false)]
def tb_NoPiece (cs : Cs) : Nat → Option Bool := tbl [(cs.BadValue, false), (cs.BadText, false), (cs.BadPaper, false), (cs.NoPiece, true), (cs.TakenName, false), (cs.TooMany, false)]
def tb_TakenName (cs : Cs) : Nat → Option Bool := tbl [(cs.BadValue, false), (cs.BadText, false), (cs.BadPaper, false), (cs.NoPiece, false), (cs.TakenName, true), (cs.TooMany, false)]
def tb_TooMany (cs : Cs) : Nat → Option Bool := tbl [(cs.BadValue, false), (cs.BadText, false), (cs.BadPaper, false), (cs.NoPiece, false), (cs.TakenName, false), (cs.TooMany, true)]
def tb_LayError (cs : Cs) : Nat → Option Bool := tbl [(cs.BadValue, true), (cs.BadText, true), (cs.BadPaper, true), (cs.NoPiece, true), (cs.TakenName, true), (cs.TooMany, true)]
def tb_ValueError (cs : Cs) : Nat → Option Bool := tbl [(cs.BadValue, false), (cs.BadText, false), (cs.BadPaper, false), (cs.NoPiece, false), (cs.TakenName, false), (cs.TooMany, false)]
def tb_LookupError (cs : Cs) : Nat → Option Bool := tbl [(cs.BadValue, false), (cs.BadText, false), (cs.BadPaper, false), (cs.NoPiece, false), (cs.TakenName, false), (cs.TooMany, false)]
def tb_ArithmeticError (cs : Cs) : Nat → Option Bool := tbl [(cs.BadValue, false), (cs.BadText, false), (cs.BadPaper, false), (cs.NoPiece, false), (cs.TakenName, false), (cs.TooMany, false)]
def tb_Exception (cs : Cs) : Nat → Option Bool := tbl [(cs.BadValue, true), (cs.BadText, true), (cs.BadPaper, true), (cs.NoPiece, true), (cs.TakenName, true), (cs.TooMany, true)]
def ls_at (cs : Cs) (k : Nat) : Bool := decide (k = cs.BadValue) || decide (k = cs.BadText) || decide (k = cs.BadPaper)
def ls_name (cs : Cs) (k : Nat) : Bool := decide (k = cs.NoPiece) || decide (k = cs.TakenName)
section
variable {K : PySem.W.Frag} {mg : Str → Option Value}
def Top.cs (T : Top K mg) : Cs := ⟨T.C_BadValue, T.C_BadText, T.C_BadPaper, T.C_NoPiece, T.C_TakenName, T.C_TooMany⟩
theorem ki_ne {K : PySem.W.Frag} {a b : Addr} {c : Value} (h1 : PySem.W.kitOne K (.ref a) c = some true) (h2 : PySem.W.kitOne K (.ref b) c = some false) : a ≠ b := fun e => by
  rw [e, h2] at h1
  cases h1
theorem Top.csOk (T : Top K mg) : T.cs.Ok := ⟨ki_ne T.ki_BadValue_BadValue T.ki_BadText_BadValue, ki_ne T.ki_BadValue_BadValue T.ki_BadPaper_BadValue, ki_ne T.ki_BadValue_BadValue T.ki_NoPiece_BadValue, ki_ne T.ki_BadValue_BadValue T.ki_TakenName_BadValue, ki_ne T.ki_BadValue_BadValue T.ki_TooMany_BadValue, ki_ne T.ki_BadText_BadText T.ki_BadPaper_BadText, ki_ne T.ki_BadText_BadText T.ki_NoPiece_BadText, ki_ne T.ki_BadText_BadText T.ki_TakenName_BadText, ki_ne T.ki_BadText_BadText T.ki_TooMany_BadText, ki_ne T.ki_BadPaper_BadPaper T.ki_NoPiece_BadPaper, ki_ne T.ki_BadPaper_BadPaper T.ki_TakenName_BadPaper, ki_ne T.ki_BadPaper_BadPaper T.ki_TooMany_BadPaper, ki_ne T.ki_NoPiece_NoPiece T.ki_TakenName_NoPiece, ki_ne T.ki_NoPiece_NoPiece T.ki_TooMany_NoPiece, ki_ne T.ki_TakenName_TakenName T.ki_TooMany_TakenName⟩
theorem kt_BadValue (T : Top K mg) : ∀ C b, tb_BadValue T.cs C = some b → ExcC K C ∧ PySem.W.kitOne K (.ref C) (.ref T.C_BadValue) = some b := tbl_ok (p := fun C b => ExcC K C ∧ PySem.W.kitOne K (.ref C) (.ref T.C_BadValue) = some b) fun q hq => by
  simp only [List.mem_cons, List.not_mem_nil, or_false] at hq
  rcases hq with rfl | rfl | rfl | rfl | rfl | rfl
  · exact ⟨T.ec_BadValue, T.ki_BadValue_BadValue⟩
  · exact ⟨T.ec_BadText, T.ki_BadText_BadValue⟩
  · exact ⟨T.ec_BadPaper, T.ki_BadPaper_BadValue⟩
  · exact ⟨T.ec_NoPiece, T.ki_NoPiece_BadValue⟩
  · exact ⟨T.ec_TakenName, T.ki_TakenName_BadValue⟩
  · exact ⟨T.ec_TooMany, T.ki_TooMany_BadValue⟩
theorem kt_BadText (T : Top K mg) : ∀ C b, tb_BadText T.cs C = some b → ExcC K C ∧ PySem.W.kitOne K (.ref C) (.ref T.C_BadText) = some b := tbl_ok (p := fun C b => ExcC K C ∧ PySem.W.kitOne K (.ref C) (.ref T.C_BadText) = some b) fun q hq => by
  simp only [List.mem_cons, List.not_mem_nil, or_false] at hq
  rcases hq with rfl | rfl | rfl | rfl | rfl | rfl
  · exact ⟨T.ec_BadValue, T.ki_BadValue_BadText⟩
  · exact ⟨T.ec_BadText, T.ki_BadText_BadText⟩
  · exact ⟨T.ec_BadPaper, T.ki_BadPaper_BadText⟩
  · exact ⟨T.ec_NoPiece, T.ki_NoPiece_BadText⟩
  · exact ⟨T.ec_TakenName, T.ki_TakenName_BadText⟩
  · exact ⟨T.ec_TooMany, T.ki_TooMany_BadText⟩
theorem kt_BadPaper (T : Top K mg) : ∀ C b, tb_BadPaper T.cs C = some b → ExcC K C ∧ PySem.W.kitOne K (.ref C) (.ref T.C_BadPaper) = some b := tbl_ok (p := fun C b => ExcC K C ∧ PySem.W.kitOne K (.ref C) (.ref T.C_BadPaper) = some b) fun q hq => by
  simp only [List.mem_cons, List.not_mem_nil, or_false] at hq
  rcases hq with rfl | rfl | rfl | rfl | rfl | rfl
  · exact ⟨T.ec_BadValue, T.ki_BadValue_BadPaper⟩
  · exact ⟨T.ec_BadText, T.ki_BadText_BadPaper⟩
  · exact ⟨T.ec_BadPaper, T.ki_BadPaper_BadPaper⟩
  · exact ⟨T.ec_NoPiece, T.ki_NoPiece_BadPaper⟩
  · exact ⟨T.ec_TakenName, T.ki_TakenName_BadPaper⟩
  · exact ⟨T.ec_TooMany, T.ki_TooMany_BadPaper⟩
theorem kt_NoPiece (T : Top K mg) : ∀ C b, tb_NoPiece T.cs C = some b → ExcC K C ∧ PySem.W.kitOne K (.ref C) (.ref T.C_NoPiece) = some b := tbl_ok (p := fun C b => ExcC K C ∧ PySem.W.kitOne K (.ref C) (.ref T.C_NoPiece) = some b) fun q hq => by
  simp only [List.mem_cons, List.not_mem_nil, or_false] at hq
  rcases hq with rfl | rfl | rfl | rfl | rfl | rfl
  · exact ⟨T.ec_BadValue, T.ki_BadValue_NoPiece⟩
  · exact ⟨T.ec_BadText, T.ki_BadText_NoPiece⟩
  · exact ⟨T.ec_BadPaper, T.ki_BadPaper_NoPiece⟩
  · exact ⟨T.ec_NoPiece, T.ki_NoPiece_NoPiece⟩
  · exact ⟨T.ec_TakenName, T.ki_TakenName_NoPiece⟩
  · exact ⟨T.ec_TooMany, T.ki_TooMany_NoPiece⟩
theorem kt_TakenName (T : Top K mg) : ∀ C b, tb_TakenName T.cs C = some b → ExcC K C ∧ PySem.W.kitOne K (.ref C) (.ref T.C_TakenName) = some b := tbl_ok (p := fun C b => ExcC K C ∧ PySem.W.kitOne K (.ref C) (.ref T.C_TakenName) = some b) fun q hq => by
  simp only [List.mem_cons, List.not_mem_nil, or_false] at hq
  rcases hq with rfl | rfl | rfl | rfl | rfl | rfl
  · exact ⟨T.ec_BadValue, T.ki_BadValue_TakenName⟩
  · exact ⟨T.ec_BadText, T.ki_BadText_TakenName⟩
  · exact ⟨T.ec_BadPaper, T.ki_BadPaper_TakenName⟩
  · exact ⟨T.ec_NoPiece, T.ki_NoPiece_TakenName⟩
  · exact ⟨T.ec_TakenName, T.ki_TakenName_TakenName⟩
  · exact ⟨T.ec_TooMany, T.ki_TooMany_TakenName⟩
theorem kt_TooMany (T : Top K mg) : ∀ C b, tb_TooMany T.cs C = some b → ExcC K C ∧ PySem.W.kitOne K (.ref C) (.ref T.C_TooMany) = some b := tbl_ok (p := fun C b => ExcC K C ∧ PySem.W.kitOne K (.ref C) (.ref T.C_TooMany) = some b) fun q hq => by
  simp only [List.mem_cons, List.not_mem_nil, or_false] at hq
  rcases hq with rfl | rfl | rfl | rfl | rfl | rfl
  · exact ⟨T.ec_BadValue, T.ki_BadValue_TooMany⟩
  · exact ⟨T.ec_BadText, T.ki_BadText_TooMany⟩
  · exact ⟨T.ec_BadPaper, T.ki_BadPaper_TooMany⟩
  · exact ⟨T.ec_NoPiece, T.ki_NoPiece_TooMany⟩
  · exact ⟨T.ec_TakenName, T.ki_TakenName_TooMany⟩
  · exact ⟨T.ec_TooMany, T.ki_TooMany_TooMany⟩
theorem kt_LayError (T : Top K mg) : ∀ C b, tb_LayError T.cs C = some b → ExcC K C ∧ PySem.W.kitOne K (.ref C) (.ref T.C_LayError) = some b := tbl_ok (p := fun C b => ExcC K C ∧ PySem.W.kitOne K (.ref C) (.ref T.C_LayError) = some b) fun q hq => by
  simp only [List.mem_cons, List.not_mem_nil, or_false] at hq
  rcases hq with rfl | rfl | rfl | rfl | rfl | rfl
  · exact ⟨T.ec_BadValue, T.ki_BadValue_LayError⟩
  · exact ⟨T.ec_BadText, T.ki_BadText_LayError⟩
  · exact ⟨T.ec_BadPaper, T.ki_BadPaper_LayError⟩
  · exact ⟨T.ec_NoPiece, T.ki_NoPiece_LayError⟩
  · exact ⟨T.ec_TakenName, T.ki_TakenName_LayError⟩
  · exact ⟨T.ec_TooMany, T.ki_TooMany_LayError⟩
theorem kt_ValueError (T : Top K mg) : ∀ C b, tb_ValueError T.cs C = some b → ExcC K C ∧ PySem.W.kitOne K (.ref C) (.type "ValueError") = some b := tbl_ok (p := fun C b => ExcC K C ∧ PySem.W.kitOne K (.ref C) (.type "ValueError") = some b) fun q hq => by
  simp only [List.mem_cons, List.not_mem_nil, or_false] at hq
  rcases hq with rfl | rfl | rfl | rfl | rfl | rfl
  · exact ⟨T.ec_BadValue, T.ki_BadValue_ValueError⟩
  · exact ⟨T.ec_BadText, T.ki_BadText_ValueError⟩
  · exact ⟨T.ec_BadPaper, T.ki_BadPaper_ValueError⟩
  · exact ⟨T.ec_NoPiece, T.ki_NoPiece_ValueError⟩
  · exact ⟨T.ec_TakenName, T.ki_TakenName_ValueError⟩
  · exact ⟨T.ec_TooMany, T.ki_TooMany_ValueError⟩
theorem kt_LookupError (T : Top K mg) : ∀ C b, tb_LookupError T.cs C = some b → ExcC K C ∧ PySem.W.kitOne K (.ref C) (.type "LookupError") = some b := tbl_ok (p := fun C b => ExcC K C ∧ PySem.W.kitOne K (.ref C) (.type "LookupError") = some b) fun q hq => by
  simp only [List.mem_cons, List.not_mem_nil, or_false] at hq
  rcases hq with rfl | rfl | rfl | rfl | rfl | rfl
  · exact ⟨T.ec_BadValue, T.ki_BadValue_LookupError⟩
  · exact ⟨T.ec_BadText, T.ki_BadText_LookupError⟩
  · exact ⟨T.ec_BadPaper, T.ki_BadPaper_LookupError⟩
  · exact ⟨T.ec_NoPiece, T.ki_NoPiece_LookupError⟩
  · exact ⟨T.ec_TakenName, T.ki_TakenName_LookupError⟩
  · exact ⟨T.ec_TooMany, T.ki_TooMany_LookupError⟩
theorem kt_ArithmeticError (T : Top K mg) : ∀ C b, tb_ArithmeticError T.cs C = some b → ExcC K C ∧ PySem.W.kitOne K (.ref C) (.type "ArithmeticError") = some b := tbl_ok (p := fun C b => ExcC K C ∧ PySem.W.kitOne K (.ref C) (.type "ArithmeticError") = some b) fun q hq => by
  simp only [List.mem_cons, List.not_mem_nil, or_false] at hq
  rcases hq with rfl | rfl | rfl | rfl | rfl | rfl
  · exact ⟨T.ec_BadValue, T.ki_BadValue_ArithmeticError⟩
  · exact ⟨T.ec_BadText, T.ki_BadText_ArithmeticError⟩
  · exact ⟨T.ec_BadPaper, T.ki_BadPaper_ArithmeticError⟩
  · exact ⟨T.ec_NoPiece, T.ki_NoPiece_ArithmeticError⟩
  · exact ⟨T.ec_TakenName, T.ki_TakenName_ArithmeticError⟩
  · exact ⟨T.ec_TooMany, T.ki_TooMany_ArithmeticError⟩
theorem kt_Exception (T : Top K mg) : ∀ C b, tb_Exception T.cs C = some b → ExcC K C ∧ PySem.W.kitOne K (.ref C) (.type "Exception") = some b := tbl_ok (p := fun C b => ExcC K C ∧ PySem.W.kitOne K (.ref C) (.type "Exception") = some b) fun q hq => by
  simp only [List.mem_cons, List.not_mem_nil, or_false] at hq
  rcases hq with rfl | rfl | rfl | rfl | rfl | rfl
  · exact ⟨T.ec_BadValue, T.ki_BadValue_Exception⟩
  · exact ⟨T.ec_BadText, T.ki_BadText_Exception⟩
  · exact ⟨T.ec_BadPaper, T.ki_BadPaper_Exception⟩
  · exact ⟨T.ec_NoPiece, T.ki_NoPiece_Exception⟩
  · exact ⟨T.ec_TakenName, T.ki_TakenName_Exception⟩
  · exact ⟨T.ec_TooMany, T.ki_TooMany_Exception⟩
theorem hL_at (T : Top K mg) : ∀ C, ls_at T.cs C = true → XfC K C ∧ PySem.W.findIn K (.ref C) "at" = some none := fun C h => by
  unfold ls_at at h
  simp only [Bool.or_eq_true, decide_eq_true_eq] at h
  rcases h with (h | h) | h
  · rw [h]; exact ⟨T.xf_BadValue, T.nf_BadValue⟩
  · rw [h]; exact ⟨T.xf_BadText, T.nf_BadText⟩
  · rw [h]; exact ⟨T.xf_BadPaper, T.nf_BadPaper⟩
theorem hL_name (T : Top K mg) : ∀ C, ls_name T.cs C = true → XfC K C ∧ PySem.W.findIn K (.ref C) "name" = some none := fun C h => by
  unfold ls_name at h
  simp only [Bool.or_eq_true, decide_eq_true_eq] at h
  rcases h with h | h
  · rw [h]; exact ⟨T.xf_NoPiece, T.nf_NoPiece⟩
  · rw [h]; exact ⟨T.xf_TakenName, T.nf_TakenName⟩
end
section
variable {P : Program} {w : World} {K : PySem.W.Frag} {mg : Str → Option Value} {base : Heap}
theorem ok_init_BadValue (T : Top K mg) : FnOk P w K mg base CX0 1 T.aI_BadValue T.dI_BadValue ["self", "at"] (spF T.C_BadValue "at") := init_okF T.FI_BadValue sc_init_BadValue T.x_BadValue T.n_BadValue fun cdv A outer s H E => pss_one (ps_ostE (pv 0) (pv 1) rfl)
theorem ok_init_BadText (T : Top K mg) : FnOk P w K mg base CX0 1 T.aI_BadText T.dI_BadText ["self", "at"] (spF T.C_BadText "at") := init_okF T.FI_BadText sc_init_BadText T.x_BadText T.n_BadText fun cdv A outer s H E => pss_one (ps_ostE (pv 0) (pv 1) rfl)
theorem ok_init_BadPaper (T : Top K mg) : FnOk P w K mg base CX0 1 T.aI_BadPaper T.dI_BadPaper ["self", "at"] (spF T.C_BadPaper "at") := init_okF T.FI_BadPaper sc_init_BadPaper T.x_BadPaper T.n_BadPaper fun cdv A outer s H E => pss_one (ps_ostE (pv 0) (pv 1) rfl)
theorem ok_init_NoPiece (T : Top K mg) : FnOk P w K mg base CX0 1 T.aI_NoPiece T.dI_NoPiece ["self", "name"] (spF T.C_NoPiece "name") := init_okF T.FI_NoPiece sc_init_NoPiece T.x_NoPiece T.n_NoPiece fun cdv A outer s H E => pss_one (ps_ostE (pv 0) (pv 1) rfl)
theorem ok_init_TakenName (T : Top K mg) : FnOk P w K mg base CX0 1 T.aI_TakenName T.dI_TakenName ["self", "name"] (spF T.C_TakenName "name") := init_okF T.FI_TakenName sc_init_TakenName T.x_TakenName T.n_TakenName fun cdv A outer s H E => pss_one (ps_ostE (pv 0) (pv 1) rfl)
def p__law_so (self : FE) : SE :=
  (sSeq (sIf (qTest (q2 dIsN (qVar 1) (qC .none))) (sRet (q2 dIsN (qVar 0) (qC .none))) sNx) (sSeq (sIf (qTest (q1 (dIs "tuple") (qVar 1))) (sSeq (sIf (qOr (qNot (qTest (q1 (dIs "tuple") (qVar 0)))) (qTest (q2 dNe (qCall dLen (qCons (qVar 0) qNil)) (qCall dLen (qCons (qVar 1) qNil))))) (sRet (qC (.bool false))) sNx) (sSeq (sFor (qRng dRng1 (qCons (qCall dLen (qCons (qVar 1) qNil)) qNil)) (setD 2) (sIf (qNot (qTest (qCallF self (qCons (q2 dIx (qVar 0) (qVar 2)) (qCons (q2 dIx (qVar 1) (qVar 2)) qNil))))) (sRet (qC (.bool false))) sNx)) (sRet (qC (.bool true))))) sNx) (sSeq (sIf (qOr (qTest (q1 (dIs "bool") (qVar 1))) (qTest (q1 (dIs "bool") (qVar 0)))) (sRet (qAndV (q1 (dIs "bool") (qVar 1)) (qAndV (q1 (dIs "bool") (qVar 0)) (q2 dEq (qVar 0) (qVar 1))))) sNx) (sSeq (sIf (qTest (q1 (dIs "int") (qVar 1))) (sRet (qAndV (q1 (dIs "int") (qVar 0)) (q2 dEq (qVar 0) (qVar 1)))) sNx) (sRet (qAndV (q1 (dIs "str") (qVar 1)) (qAndV (q1 (dIs "str") (qVar 0)) (q2 dEq (qVar 0) (qVar 1)))))))))
def f__law_so : Nat → FE
  | 0 => fun _ => none
  | n + 1 => fnF 2 3 (p__law_so (f__law_so n))
theorem ok__law_so (T : Top K mg) : ∀ n : Nat, FnOk P w K mg base CX0 (n + 0) T.a__law_so T.d__law_so ["found", "meant"] (spX (f__law_so n))
  | 0 => fn_none
  | n + 1 => by
    have ih := ok__law_so T n
    exact fn_ok (k := n + 0) T.F__law_so sc__law_so fun cdv A outer s H E hr => by
      have hu := hr.units
      have hu2 := room65 hr
      have hu3 := hu_of hr
      exact ⟨_, (pss_cons (ps_if (pt_cmpR op_isN (pv 1) pe_non (nomark _)) (pss_one (ps_ret (pe_cmpR op_isN (pv 0) pe_non (nomark _)))) pss_nil) (pss_cons (ps_if (pt_val (pe_callB call_isi (by rfl) T.m_isinstance (by decide +kernel) (pa_cons (pv 1) (pa_cons (pe_bltn (v := .ty "tuple") (u := Value.type "tuple") (by rfl) T.m_tuple (by decide +kernel) rfl) pa_nil)))) (pss_cons (ps_if (PW.pt (pw_or (pt_not (pt_val (pe_callB call_isi (by rfl) T.m_isinstance (by decide +kernel) (pa_cons (pv 0) (pa_cons (pe_bltn (v := .ty "tuple") (u := Value.type "tuple") (by rfl) T.m_tuple (by decide +kernel) rfl) pa_nil))))) (pw_or1 (pt_cmpR (op_neA hu) (pe_callB call_len (by rfl) T.m_len (by decide +kernel) (pa_cons (pv 0) pa_nil)) (pe_callB call_len (by rfl) T.m_len (by decide +kernel) (pa_cons (pv 1) pa_nil)) (nomark _))))) (pss_one (ps_ret pe_bl)) pss_nil) (pss_cons (ps_for PassesOwn.never rfl (pi_range1 (by rfl) T.m_range (pa_cons (pe_callB call_len (by rfl) T.m_len (by decide +kernel) (pa_cons (pv 1) pa_nil)) pa_nil)) (pg_name (i := 2) sc__law_so.nd rfl (by first | exact Or.inl rfl | exact Or.inr rfl)) (pss_one (ps_if (pt_not (pt_val (pe_call (ih) hr (by rfl) T.g__law_so T.F__law_so.kp T.b__law_so .nil pass0 (pa_cons (pe_ix ix_seq (pv 0) (pv 2) (fun _ _ => rfl)) (pa_cons (pe_ix ix_seq (pv 1) (pv 2) (fun _ _ => rfl)) pa_nil))))) (pss_one (ps_ret pe_bl)) pss_nil))) (pss_one (ps_ret pe_bl)))) pss_nil) (pss_cons (ps_if (PW.pt (pw_or (pt_val (pe_callB call_isi (by rfl) T.m_isinstance (by decide +kernel) (pa_cons (pv 1) (pa_cons (pe_bltn (v := .ty "bool") (u := Value.type "bool") (by rfl) T.m_bool (by decide +kernel) rfl) pa_nil)))) (pw_or1 (pt_val (pe_callB call_isi (by rfl) T.m_isinstance (by decide +kernel) (pa_cons (pv 0) (pa_cons (pe_bltn (v := .ty "bool") (u := Value.type "bool") (by rfl) T.m_bool (by decide +kernel) rfl) pa_nil))))))) (pss_one (ps_ret (pe_and (pe_callB call_isi (by rfl) T.m_isinstance (by decide +kernel) (pa_cons (pv 1) (pa_cons (pe_bltn (v := .ty "bool") (u := Value.type "bool") (by rfl) T.m_bool (by decide +kernel) rfl) pa_nil))) (pe_and (pe_callB call_isi (by rfl) T.m_isinstance (by decide +kernel) (pa_cons (pv 0) (pa_cons (pe_bltn (v := .ty "bool") (u := Value.type "bool") (by rfl) T.m_bool (by decide +kernel) rfl) pa_nil))) (pe_one (pe_cmpR (op_eqA hu) (pv 0) (pv 1) (nomark _))))))) pss_nil) (pss_cons (ps_if (pt_val (pe_callB call_isi (by rfl) T.m_isinstance (by decide +kernel) (pa_cons (pv 1) (pa_cons (pe_bltn (v := .ty "int") (u := Value.type "int") (by rfl) T.m_int (by decide +kernel) rfl) pa_nil)))) (pss_one (ps_ret (pe_and (pe_callB call_isi (by rfl) T.m_isinstance (by decide +kernel) (pa_cons (pv 0) (pa_cons (pe_bltn (v := .ty "int") (u := Value.type "int") (by rfl) T.m_int (by decide +kernel) rfl) pa_nil))) (pe_one (pe_cmpR (op_eqA hu) (pv 0) (pv 1) (nomark _)))))) pss_nil) (pss_one (ps_ret (pe_and (pe_callB call_isi (by rfl) T.m_isinstance (by decide +kernel) (pa_cons (pv 1) (pa_cons (pe_bltn (v := .ty "str") (u := Value.type "str") (by rfl) T.m_str (by decide +kernel) rfl) pa_nil))) (pe_and (pe_callB call_isi (by rfl) T.m_isinstance (by decide +kernel) (pa_cons (pv 0) (pa_cons (pe_bltn (v := .ty "str") (u := Value.type "str") (by rfl) T.m_str (by decide +kernel) rfl) pa_nil))) (pe_one (pe_cmpR (op_eqA hu) (pv 0) (pv 1) (nomark _))))))))))), (s_seq (s_if (t_test (q_op o_isN (q_var).w (q_non).w)) (s_ret (q_op o_isN (q_var).w (q_non).w)) s_nx) (s_seq (s_if (t_B (q_is (n := "tuple") (q_var).w rfl)) (s_seq (s_if (t_or (t_not (t_B (q_is (n := "tuple") (q_var).w rfl))) (t_test (q_op o_ne ((q_cb c_len (qa_cons (q_var).w qa_nil))).w ((q_cb c_len (qa_cons (q_var).w qa_nil))).w))) (s_ret q_bl) s_nx) (s_seq (s_for (i_rng1 (qa_cons ((q_cb c_len (qa_cons (q_var).w qa_nil))).w qa_nil)) g_name (s_if (t_not (t_B (q_call (qd_cons (q_op o_ix (q_var).w (q_var).w) (qd_cons (q_op o_ix (q_var).w (q_var).w) qd_nil))))) (s_ret q_bl) s_nx)) (s_ret q_bl))) s_nx) (s_seq (s_if (t_or (t_B (q_is (n := "bool") (q_var).w rfl)) (t_B (q_is (n := "bool") (q_var).w rfl))) (s_ret (q_andV (q_is (n := "bool") (q_var).w rfl) (q_andV (q_is (n := "bool") (q_var).w rfl) (q_op o_eq (q_var).w (q_var).w)))) s_nx) (s_seq (s_if (t_B (q_is (n := "int") (q_var).w rfl)) (s_ret (q_andV (q_is (n := "int") (q_var).w rfl) (q_op o_eq (q_var).w (q_var).w))) s_nx) (s_ret (q_andV (q_is (n := "str") (q_var).w rfl) (q_andV (q_is (n := "str") (q_var).w rfl) (q_op o_eq (q_var).w (q_var).w))))))))⟩
def p__law_draw : SE :=
  (sSeq (sIf (qTest (q2 dLt (qVar 1) (qCall dLen (qCons (qVar 0) qNil)))) (sRet (q2 dMod (qCall dInt1 (qCons (q2 dIx (qVar 0) (qVar 1)) qNil)) (qVar 2))) sNx) (sSeq (sAsg (q2 dMod (qCall dInt1 (qCons (q2 dAdd (q2 dAdd (q2 dMul (q2 dIx (qVar 0) (q2 dMod (qCall dInt1 (qCons (qVar 1) qNil)) (qCall dLen (qCons (qVar 0) qNil)))) (qC (.int 40692))) (q2 dMul (qVar 1) (qC (.int 7919)))) (qC (.int 3))) qNil)) (qC (.int 2147483399))) (setD 3)) (sRet (q2 dMod (qCall dInt1 (qCons (q2 dMod (qCall dInt1 (qCons (q2 dAdd (q2 dMul (qVar 3) (qC (.int 48271))) (qVar 1)) qNil)) (qC (.int 2147483647))) qNil)) (qVar 2)))))
def f__law_draw : FE := fnF 3 4 p__law_draw
theorem ok__law_draw (T : Top K mg) : FnOk P w K mg base CX0 1 T.a__law_draw T.d__law_draw ["row", "at", "limit"] (spX f__law_draw) := fn_ok (k := 0) T.F__law_draw sc__law_draw fun cdv A outer s H E hr => by
    have hu := hr.units
    have hu2 := room65 hr
    have hu3 := hu_of hr
    exact ⟨_, (pss_cons (ps_if (pt_cmpR op_lt (pv 1) (pe_callB call_len (by rfl) T.m_len (by decide +kernel) (pa_cons (pv 0) pa_nil)) (nomark _)) (pss_one (ps_ret (pe_op op_mod (pe_callTy call_int1 (by rfl) T.m_int (by decide +kernel) (pa_cons (pe_ix ix_seq (pv 0) (pv 1) (fun _ _ => rfl)) pa_nil)) (pv 2)))) pss_nil) (pss_cons (ps_set (i := 3) sc__law_draw.nd rfl (by first | exact Or.inl rfl | exact Or.inr rfl) (pe_op op_mod (pe_callTy call_int1 (by rfl) T.m_int (by decide +kernel) (pa_cons (pe_op op_addA (pe_op op_addA (pe_op op_mulA (pe_ix ix_seq (pv 0) (pe_op op_mod (pe_callTy call_int1 (by rfl) T.m_int (by decide +kernel) (pa_cons (pv 1) pa_nil)) (pe_callB call_len (by rfl) T.m_len (by decide +kernel) (pa_cons (pv 0) pa_nil))) (fun _ _ => rfl)) pe_int) (pe_op op_mulA (pv 1) pe_int)) pe_int) pa_nil)) pe_int)) (pss_one (ps_ret (pe_op op_mod (pe_callTy call_int1 (by rfl) T.m_int (by decide +kernel) (pa_cons (pe_op op_mod (pe_callTy call_int1 (by rfl) T.m_int (by decide +kernel) (pa_cons (pe_op op_addA (pe_op op_mulA (pv 3) pe_int) (pv 1)) pa_nil)) pe_int) pa_nil)) (pv 2)))))), (s_seq (s_if (t_test (q_op o_lt (q_var).w ((q_cb c_len (qa_cons (q_var).w qa_nil))).w)) (s_ret (q_op o_mod ((q_cb c_int (qa_cons ((q_op o_ix (q_var).w (q_var).w)).w qa_nil))).w (q_var).w)) s_nx) (s_seq (s_asg (q_op o_mod ((q_cb c_int (qa_cons ((q_op o_add ((q_op o_add ((q_op o_mul ((q_op o_ix (q_var).w ((q_op o_mod ((q_cb c_int (qa_cons (q_var).w qa_nil))).w ((q_cb c_len (qa_cons (q_var).w qa_nil))).w)).w)).w (q_int).w)).w ((q_op o_mul (q_var).w (q_int).w)).w)).w (q_int).w)).w qa_nil))).w (q_int).w) (g_name (i := 3))) (s_ret (q_op o_mod ((q_cb c_int (qa_cons ((q_op o_mod ((q_cb c_int (qa_cons ((q_op o_add ((q_op o_mul (q_var).w (q_int).w)).w (q_var).w)).w qa_nil))).w (q_int).w)).w qa_nil))).w (q_var).w))))⟩
def p__law_take : SE :=
  (sSeq (sPut 1 (qC (.int 0)) (q2 dAdd (q2 dIx (qVarL 1) (qC (.int 0))) (qC (.int 1)))) (sRet (qCallF f__law_draw (qCons (qVar 0) (qCons (q2 dSub (q2 dIx (qVarL 1) (qC (.int 0))) (qC (.int 1))) (qCons (qVar 2) qNil))))))
def f__law_take : FE := fnF 3 3 p__law_take
theorem ok__law_take (T : Top K mg) : FnOk P w K mg base CX0 2 T.a__law_take T.d__law_take ["row", "spot", "limit"] (spX f__law_take) := fn_ok (k := 1) T.F__law_take sc__law_take fun cdv A outer s H E hr => by
    have hu := hr.units
    have hu2 := room65 hr
    have hu3 := hu_of hr
    exact ⟨_, (pss_cons (ps_asg (pe_op op_addA (pe_ix ix_seq (pv 1) pe_int (fun _ _ => rfl)) pe_int) (pg_sub (pv 1) pe_int set_list)) (pss_one (ps_ret (pe_call (ok__law_draw T) (hr.mono (by decide)) (by rfl) T.g__law_draw T.F__law_draw.kp T.b__law_draw .nil pass0 (pa_cons (pv 0) (pa_cons (pe_op op_sub (pe_ix ix_seq (pv 1) pe_int (fun _ _ => rfl)) pe_int) (pa_cons (pv 2) pa_nil))))))), (s_seq (s_put (i := 1) (q_op o_add ((q_op o_ix w_var (q_int).w)).w (q_int).w) q_int) (s_ret (q_call (qd_cons q_var (qd_cons (q_op o_sub ((q_op o_ix w_var (q_int).w)).w (q_int).w) (qd_cons q_var qd_nil))))))⟩
def p__law_of (cs : Cs) : SE :=
  (sSeq (sAsg (qLst (qCons (qIsX (tb_BadValue cs) (qVar 0)) (qCons (qIsX (tb_BadText cs) (qVar 0)) (qCons (qIsX (tb_BadPaper cs) (qVar 0)) qNil)))) (setD 1)) (sRet (q2 dAdd (qVar 1) (qLst (qCons (qIsX (tb_NoPiece cs) (qVar 0)) (qCons (qIsX (tb_TakenName cs) (qVar 0)) (qCons (qIsX (tb_TooMany cs) (qVar 0)) qNil)))))))
def f__law_of (cs : Cs) : FE := fnF 1 2 (p__law_of cs)
theorem ok__law_of (T : Top K mg) : FnOk P w K mg base CX0 1 T.a__law_of T.d__law_of ["value"] (spX (f__law_of T.cs)) := fn_ok (k := 0) T.F__law_of sc__law_of fun cdv A outer s H E hr => by
    have hu := hr.units
    have hu2 := room65 hr
    have hu3 := hu_of hr
    exact ⟨_, (pss_cons (ps_set (i := 1) sc__law_of.nd rfl (by first | exact Or.inl rfl | exact Or.inr rfl) (pe_lst (pa_cons (pe_callB call_isV (by rfl) T.m_isinstance (by decide +kernel) (pa_cons (pv 0) (pa_cons (pe_glob (v := .ref T.C_BadValue) (by rfl) T.gC_BadValue rfl) pa_nil))) (pa_cons (pe_callB call_isV (by rfl) T.m_isinstance (by decide +kernel) (pa_cons (pv 0) (pa_cons (pe_glob (v := .ref T.C_BadText) (by rfl) T.gC_BadText rfl) pa_nil))) (pa_cons (pe_callB call_isV (by rfl) T.m_isinstance (by decide +kernel) (pa_cons (pv 0) (pa_cons (pe_glob (v := .ref T.C_BadPaper) (by rfl) T.gC_BadPaper rfl) pa_nil))) pa_nil))))) (pss_one (ps_ret (pe_op op_addA (pv 1) (pe_lst (pa_cons (pe_callB call_isV (by rfl) T.m_isinstance (by decide +kernel) (pa_cons (pv 0) (pa_cons (pe_glob (v := .ref T.C_NoPiece) (by rfl) T.gC_NoPiece rfl) pa_nil))) (pa_cons (pe_callB call_isV (by rfl) T.m_isinstance (by decide +kernel) (pa_cons (pv 0) (pa_cons (pe_glob (v := .ref T.C_TakenName) (by rfl) T.gC_TakenName rfl) pa_nil))) (pa_cons (pe_callB call_isV (by rfl) T.m_isinstance (by decide +kernel) (pa_cons (pv 0) (pa_cons (pe_glob (v := .ref T.C_TooMany) (by rfl) T.gC_TooMany rfl) pa_nil))) pa_nil)))))))), (s_seq (s_asg (q_lst (qd_cons (q_isX (c := .ref T.C_BadValue) (cv := .ref T.C_BadValue) (tb := tb_BadValue T.cs) (fun u r => r) (kt_BadValue T) q_var) (qd_cons (q_isX (c := .ref T.C_BadText) (cv := .ref T.C_BadText) (tb := tb_BadText T.cs) (fun u r => r) (kt_BadText T) q_var) (qd_cons (q_isX (c := .ref T.C_BadPaper) (cv := .ref T.C_BadPaper) (tb := tb_BadPaper T.cs) (fun u r => r) (kt_BadPaper T) q_var) qd_nil)))) (g_name (i := 1))) (s_ret (q_op o_add (q_var).w ((q_lst (qd_cons (q_isX (c := .ref T.C_NoPiece) (cv := .ref T.C_NoPiece) (tb := tb_NoPiece T.cs) (fun u r => r) (kt_NoPiece T) q_var) (qd_cons (q_isX (c := .ref T.C_TakenName) (cv := .ref T.C_TakenName) (tb := tb_TakenName T.cs) (fun u r => r) (kt_TakenName T) q_var) (qd_cons (q_isX (c := .ref T.C_TooMany) (cv := .ref T.C_TooMany) (tb := tb_TooMany T.cs) (fun u r => r) (kt_TooMany T) q_var) qd_nil))))).w)))⟩
def p__law_foreign (cs : Cs) : SE :=
  (sSeq (sIf (qOr (qTest (qIsX (tb_ValueError cs) (qVar 0))) (qTest (qIsX (tb_LookupError cs) (qVar 0)))) (sRet (qC (.bool true))) sNx) (sRet (qOrV (qIsX (tb_ArithmeticError cs) (qVar 0)) (qNotV (qIsX (tb_Exception cs) (qVar 0))))))
def f__law_foreign (cs : Cs) : FE := fnF 1 1 (p__law_foreign cs)
theorem ok__law_foreign (T : Top K mg) : FnOk P w K mg base CX0 1 T.a__law_foreign T.d__law_foreign ["value"] (spX (f__law_foreign T.cs)) := fn_ok (k := 0) T.F__law_foreign sc__law_foreign fun cdv A outer s H E hr => by
    have hu := hr.units
    have hu2 := room65 hr
    have hu3 := hu_of hr
    exact ⟨_, (pss_cons (ps_if (PW.pt (pw_or (pt_val (pe_callB call_isV (by rfl) T.m_isinstance (by decide +kernel) (pa_cons (pv 0) (pa_cons (pe_bltn (v := .ty "ValueError") (u := Value.type "ValueError") (by rfl) T.m_ValueError (by decide +kernel) rfl) pa_nil)))) (pw_or1 (pt_val (pe_callB call_isV (by rfl) T.m_isinstance (by decide +kernel) (pa_cons (pv 0) (pa_cons (pe_bltn (v := .ty "LookupError") (u := Value.type "LookupError") (by rfl) T.m_LookupError (by decide +kernel) rfl) pa_nil))))))) (pss_one (ps_ret pe_bl)) pss_nil) (pss_one (ps_ret (pe_or (pe_callB call_isV (by rfl) T.m_isinstance (by decide +kernel) (pa_cons (pv 0) (pa_cons (pe_bltn (v := .ty "ArithmeticError") (u := Value.type "ArithmeticError") (by rfl) T.m_ArithmeticError (by decide +kernel) rfl) pa_nil))) (pe_one (pe_not (pe_callB call_isV (by rfl) T.m_isinstance (by decide +kernel) (pa_cons (pv 0) (pa_cons (pe_bltn (v := .ty "Exception") (u := Value.type "Exception") (by rfl) T.m_Exception (by decide +kernel) rfl) pa_nil))))))))), (s_seq (s_if (t_or (t_B (q_isX (c := .ty "ValueError") (cv := .type "ValueError") (tb := tb_ValueError T.cs) (fun u r => r) (kt_ValueError T) q_var)) (t_B (q_isX (c := .ty "LookupError") (cv := .type "LookupError") (tb := tb_LookupError T.cs) (fun u r => r) (kt_LookupError T) q_var))) (s_ret q_bl) s_nx) (s_ret (q_orV (q_isX (c := .ty "ArithmeticError") (cv := .type "ArithmeticError") (tb := tb_ArithmeticError T.cs) (fun u r => r) (kt_ArithmeticError T) q_var) (q_notV (q_isX (c := .ty "Exception") (cv := .type "Exception") (tb := tb_Exception T.cs) (fun u r => r) (kt_Exception T) q_var)))))⟩
def p__law_caught : SE :=
  sCaught
def f__law_caught : FE := fnF 1 2 p__law_caught
theorem ok__law_caught (T : Top K mg) : FnOk P w K mg base CX0 3 T.a__law_caught T.d__law_caught ["at"] (spX f__law_caught) := fn_ok (k := 2) T.F__law_caught sc__law_caught fun cdv A outer s H E hr => by
    have hu := hr.units
    have hu2 := room65 hr
    have hu3 := hu_of hr
    exact ⟨_, (pss_one (ps_try_as (i := 1) rfl rfl sc__law_caught.nd rfl rfl ⟨rfl, by decide, Or.inl T.gC_LayError⟩ takes0 (fun W pn xe tk _ => pss_cons (ps_if (pt_cmpR (op_eqA hu) (pv 0) pe_int (nomark _)) (pss_one (ps_raise rfl tk (pmk_mk0 PySem.F.excBase_Exception T.q_TooMany T.gC_TooMany T.kp_TooMany (raises_own T.sb_TooMany T.ty_TooMany) (by rfl)))) pss_nil) (pss_one (ps_raise rfl tk (pmkE T.x_NoPiece T.i_NoPiece T.t_NoPiece (ok_init_NoPiece T) (hr.mono (by decide)) T.bI_NoPiece pass0 (by rfl) T.gC_NoPiece (pa_cons (pv 0) pa_nil))))) (fun a oe cls d pn hz hf => pss_one (ps_ret (pe_callB (call_isU hz hf) (by rfl) T.m_isinstance (by decide +kernel) (pa_cons (pv 1) (pa_cons (pe_glob (v := .ref T.C_NoPiece) (by rfl) T.gC_NoPiece rfl) pa_nil))))))), (s_caught (f := "name") (t_test (q_op o_eq (q_var).w (q_int).w)) T.em_TooMany T.em_NoPiece T.ec_TooMany T.ec_NoPiece T.ki_TooMany_NoPiece T.ki_NoPiece_NoPiece)⟩
def pb__law_numbers : SE :=
  (sIf (qTest (q2 dGe (qVar 2) (q2 dPow (qC (.int 10)) (qC (.int 18))))) (sSeq (sAsg (qVar 2) (setD 3)) (sFor (qRng dRng1 (qCons (qC (.int 60)) qNil)) (setD 4) (sSeq (sIf (qTest (q2 dEq (qVar 3) (qC (.int 0)))) sBk sNx) (sSeq (sApp 1 (q2 dMod (qCall dInt1 (qCons (qVar 3) qNil)) (qC (.int 997)))) (sAsg (q2 dDiv (qVar 3) (qC (.int 997))) (setD 3)))))) (sFor (qRng dRng1 (qCons (qC (.int 4)) qNil)) (setD 4) (sSeq (sAsg (q2 dMod (qCall dInt1 (qCons (q2 dAdd (q2 dAdd (q2 dMul (qVar 2) (qC (.int 48271))) (q2 dMul (qVar 4) (qC (.int 69621)))) (qC (.int 11))) qNil)) (qC (.int 2147483647))) (setD 5)) (sApp 1 (q2 dMod (qCall dInt1 (qCons (q2 dAdd (q2 dMul (qVar 5) (qC (.int 16807))) (qVar 4)) qNil)) (qC (.int 2147483629)))))))
def pr__law_numbers : SE :=
  (sSeq (sIf (qTest (q2 dEq (qCall dLen (qCons (qVarL 1) qNil)) (qC (.int 0)))) (sApp 1 (qC (.int 0))) sNx) (sFrz 1 (sRet (qVar 1))))
def f__law_numbers : List Int → Option D := numF 6 (setD 2) pb__law_numbers pr__law_numbers
theorem ok__law_numbers (T : Top K mg) : FnOk P w K mg base CX0 1 T.a__law_numbers T.d__law_numbers ["script"] (spNum K f__law_numbers) := by
  refine T.F__law_numbers.ok sc__law_numbers (fun vs H Q E h => ?_) (fun cdv A outer s H vs Q E hr h => ?_)
  · obtain ⟨a, ns, d, rfl, _⟩ := h
    rfl
  · obtain ⟨a, ns, d, rfl, hS, hl, hf, q⟩ := h
    have hu := hr.units
    have hu2 := room65 hr
    have hu3 := hu_of hr
    exact ⟨_, (pss_cons (ps_set (i := 1) sc__law_numbers.nd rfl (by first | exact Or.inl rfl | exact Or.inr rfl) (pe_lst pa_nil)) (pss_cons (ps_for PassesOwn.never rfl (pi_seq (pe_slice sl_M (pv 0) po_none (po_some pe_int))) (pg_name (i := 2) sc__law_numbers.nd rfl (by first | exact Or.inl rfl | exact Or.inr rfl)) (pss_one (ps_if (pt_cmpR op_ge (pv 2) (pe_op op_pow pe_int pe_int) (nomark _)) (pss_cons (ps_set (i := 3) sc__law_numbers.nd rfl (by first | exact Or.inl rfl | exact Or.inr rfl) (pv 2)) (pss_one (ps_for PassesOwn.never rfl (pi_range1 (by rfl) T.m_range (pa_cons pe_int pa_nil)) (pg_name (i := 4) sc__law_numbers.nd rfl (by first | exact Or.inl rfl | exact Or.inr rfl)) (pss_cons (ps_if (pt_cmpR (op_eqA hu) (pv 3) pe_int (nomark _)) (pss_one ps_break) pss_nil) (pss_cons (ps_expr (pe_bm PySem.F.plainAttrs_list PySem.F.slot_list_append PySem.F.type_list_append mt_append (pv 1) (pa_cons (pe_op op_mod (pe_callTy call_int1 (by rfl) T.m_int (by decide +kernel) (pa_cons (pv 3) pa_nil)) pe_int) pa_nil))) (pss_one (ps_set (i := 3) sc__law_numbers.nd rfl (by first | exact Or.inl rfl | exact Or.inr rfl) (pe_op op_divA (pv 3) pe_int)))))))) (pss_one (ps_for PassesOwn.never rfl (pi_range1 (by rfl) T.m_range (pa_cons pe_int pa_nil)) (pg_name (i := 4) sc__law_numbers.nd rfl (by first | exact Or.inl rfl | exact Or.inr rfl)) (pss_cons (ps_set (i := 5) sc__law_numbers.nd rfl (by first | exact Or.inl rfl | exact Or.inr rfl) (pe_op op_mod (pe_callTy call_int1 (by rfl) T.m_int (by decide +kernel) (pa_cons (pe_op op_addA (pe_op op_addA (pe_op op_mulA (pv 2) pe_int) (pe_op op_mulA (pv 4) pe_int)) pe_int) pa_nil)) pe_int)) (pss_one (ps_expr (pe_bm PySem.F.plainAttrs_list PySem.F.slot_list_append PySem.F.type_list_append mt_append (pv 1) (pa_cons (pe_op op_mod (pe_callTy call_int1 (by rfl) T.m_int (by decide +kernel) (pa_cons (pe_op op_addA (pe_op op_mulA (pv 5) pe_int) (pv 4)) pa_nil)) pe_int) pa_nil)))))))))) (pss_cons (ps_if (pt_cmpR (op_eqA hu) (pe_callB call_len (by rfl) T.m_len (by decide +kernel) (pa_cons (pv 1) pa_nil)) pe_int (nomark _)) (pss_one (ps_expr (pe_bm PySem.F.plainAttrs_list PySem.F.slot_list_append PySem.F.type_list_append mt_append (pv 1) (pa_cons pe_int pa_nil)))) pss_nil) (pss_one (ps_ret (pv 1)))))), num_read (N := 5) (by decide) g_name (s_if (t_test (q_op o_ge (q_var).w ((q_op o_pow (q_int).w (q_int).w)).w)) (s_seq (s_asg q_var (g_name (i := 3))) (s_for (i_rng1 (qa_cons (q_int).w qa_nil)) g_name (s_seq (s_if (t_test (q_op o_eq (q_var).w (q_int).w)) s_bk s_nx) (s_seq (s_app (i := 1) (q_op o_mod ((q_cb c_int (qa_cons (q_var).w qa_nil))).w (q_int).w)) (s_asg (q_op o_div (q_var).w (q_int).w) (g_name (i := 3))))))) (s_for (i_rng1 (qa_cons (q_int).w qa_nil)) g_name (s_seq (s_asg (q_op o_mod ((q_cb c_int (qa_cons ((q_op o_add ((q_op o_add ((q_op o_mul (q_var).w (q_int).w)).w ((q_op o_mul (q_var).w (q_int).w)).w)).w (q_int).w)).w qa_nil))).w (q_int).w) (g_name (i := 5))) (s_app (i := 1) (q_op o_mod ((q_cb c_int (qa_cons ((q_op o_add ((q_op o_mul (q_var).w (q_int).w)).w (q_var).w)).w qa_nil))).w (q_int).w))))) (s_seq (s_if (t_test (q_op o_eq ((q_cb c_len (qa_cons w_var qa_nil))).w (q_int).w)) (s_app (i := 1) q_int) s_nx) (s_frz (s_ret q_var))) hS hl hf q⟩
def p_law (cs : Cs) : SE :=
  (sSeq (sOwn 2 (qCons (qC (.int 0)) qNil)) (sSeq (sAsgX (x2 dSub (xCall f__law_take (rCons (xq (qVar 1)) (rConsS 2 (rCons (xq (qC (.int 997))) rNil)))) (xq (qC (.int 9)))) (setD 3)) (sSeq (sAsgX (x2 dIx (xq (qLst (qCons (qC .none) (qCons (q1 dNeg (qVar 3)) (qCons (qC (.str "x")) (qCons (qTup (qCons (qVar 3) (qCons (qC (.int 2)) qNil))) (qCons (qC (.bool true)) qNil))))))) (xCall f__law_take (rCons (xq (qVar 1)) (rConsS 2 (rCons (xq (qC (.int 5))) rNil))))) (setD 4)) (sSeq (sFor (qSeq (qLst (qCons (qMk cs.BadValue "at" (qVar 3)) (qCons (qMk cs.BadText "at" (qVar 3)) (qCons (qMk cs.BadPaper "at" (qVar 3)) (qCons (qMk cs.BadValue "at" (qVar 3)) (qCons (qMk cs.BadText "at" (qVar 3)) (qCons (qMk cs.BadPaper "at" (qVar 3)) qNil)))))))) (setD 5) (sIf (qNot (qTest (qCallF (f__law_so 8) (qCons (qXf (ls_at cs) "at" (qVar 5)) (qCons (qVar 3) qNil))))) (sRet (qC (.bool false))) sNx)) (sSeq (sFor (qSeq (qLst (qCons (qMk cs.NoPiece "name" (qVar 4)) (qCons (qMk cs.TakenName "name" (qVar 4)) (qCons (qMk cs.NoPiece "name" (qVar 4)) (qCons (qMk cs.TakenName "name" (qVar 4)) qNil)))))) (setD 5) (sIf (qNot (qTest (qCallF (f__law_so 8) (qCons (qXf (ls_name cs) "name" (qVar 5)) (qCons (qVar 4) qNil))))) (sRet (qC (.bool false))) sNx)) (sSeq (sAsg (qLst (qCons (qMk cs.BadValue "at" (qVar 3)) (qCons (qMk cs.BadText "at" (qVar 3)) (qCons (qMk cs.BadPaper "at" (qVar 3)) (qCons (qMk cs.NoPiece "name" (qVar 4)) (qCons (qMk cs.TakenName "name" (qVar 4)) (qCons (qMk0 cs.TooMany) qNil))))))) (setD 6)) (sSeq (sFor (qRng dRng1 (qCons (qC (.int 6)) qNil)) (setD 7) (sIf (qOr (qTest (q2 dNe (qCallF (f__law_of cs) (qCons (q2 dIx (qVar 6) (qVar 7)) qNil)) (qLc (qRng dRng1 (qCons (qC (.int 6)) qNil)) (setD 8) qYes (q2 dEq (qVar 8) (qVar 7)) [8]))) (qOr (qTest (qCallF (f__law_foreign cs) (qCons (q2 dIx (qVar 6) (qVar 7)) qNil))) (qNot (qTest (qIsX (tb_LayError cs) (q2 dIx (qVar 6) (qVar 7))))))) (sRet (qC (.bool false))) sNx)) (sRetX (xAndV (xq (qNotV (qCallF f__law_caught (qCons (qC (.int 0)) qNil)))) (xCall f__law_caught (rCons (x2 dAdd (xq (qC (.int 1))) (xCall f__law_take (rCons (xq (qVar 1)) (rConsS 2 (rCons (xq (qC (.int 9))) rNil))))) rNil)))))))))))
def NL : Nat := 8
/-- what is left of the law: without the machine -/
def Main : Prop := ∀ cs : Cs, cs.Ok → ∀ ns : List Int, ns.length ≤ 63 → ∃ d δ', f__law_numbers ns = some d ∧ p_law cs (lawSt (8 + 1) d) = some (.rt (.bool true), δ')
theorem ok_law (hM : Main) (T : Top K mg) : FnOk P w K mg base CX0 9 T.a_law T.d_law ["script"] (spLawM K) := by
  refine T.F_law.ok sc_law (fun vs H Q E h => ?_) (fun cdv A outer s H vs Q E hr h => ?_)
  · obtain ⟨a, ns, rfl, _⟩ := h
    rfl
  · obtain ⟨a, ns, rfl, hS, hl, q⟩ := h
    obtain ⟨d, δ', hf, hp⟩ := hM T.cs T.csOk ns hl
    have hu := hr.units
    have hu2 := room65 hr
    have hu3 := hu_of hr
    exact ⟨_, (pss_cons (ps_set (i := 1) sc_law.nd rfl (by first | exact Or.inl rfl | exact Or.inr rfl) (pe_call (ok__law_numbers T) (hr.mono (by decide)) (by rfl) T.g__law_numbers T.F__law_numbers.kp T.b__law_numbers .nil pass0 (pa_cons (pv 0) pa_nil))) (pss_cons (ps_set (i := 2) sc_law.nd rfl (by first | exact Or.inl rfl | exact Or.inr rfl) (pe_lst (pa_cons pe_int pa_nil))) (pss_cons (ps_set (i := 3) sc_law.nd rfl (by first | exact Or.inl rfl | exact Or.inr rfl) (pe_op op_sub (pe_call (ok__law_take T) (hr.mono (by decide)) (by rfl) T.g__law_take T.F__law_take.kp T.b__law_take .nil pass0 (pa_cons (pv 1) (pa_cons (pv 2) (pa_cons pe_int pa_nil)))) pe_int)) (pss_cons (ps_set (i := 4) sc_law.nd rfl (by first | exact Or.inl rfl | exact Or.inr rfl) (pe_ix ix_seq (pe_lst (pa_cons pe_non (pa_cons (pe_un un_neg (pv 3)) (pa_cons pe_str (pa_cons (pe_tup (pa_cons (pv 3) (pa_cons pe_int pa_nil))) (pa_cons pe_bl pa_nil)))))) (pe_call (ok__law_take T) (hr.mono (by decide)) (by rfl) T.g__law_take T.F__law_take.kp T.b__law_take .nil pass0 (pa_cons (pv 1) (pa_cons (pv 2) (pa_cons pe_int pa_nil)))) (fun _ _ => rfl))) (pss_cons (ps_for PassesOwn.never rfl (pi_seq (pe_lst (pa_cons (peE T.x_BadValue T.i_BadValue T.t_BadValue (ok_init_BadValue T) (hr.mono (by decide)) T.bI_BadValue pass0 (by rfl) T.gC_BadValue (pa_cons (pv 3) pa_nil)) (pa_cons (peE T.x_BadText T.i_BadText T.t_BadText (ok_init_BadText T) (hr.mono (by decide)) T.bI_BadText pass0 (by rfl) T.gC_BadText (pa_cons (pv 3) pa_nil)) (pa_cons (peE T.x_BadPaper T.i_BadPaper T.t_BadPaper (ok_init_BadPaper T) (hr.mono (by decide)) T.bI_BadPaper pass0 (by rfl) T.gC_BadPaper (pa_cons (pv 3) pa_nil)) (pa_cons (peEk (f := "at") T.x_BadValue T.i_BadValue T.t_BadValue (ok_init_BadValue T) (hr.mono (by decide)) T.kbI_BadValue pass0 (by rfl) T.gC_BadValue (pk_cons (pv 3) pk_nil)) (pa_cons (peEk (f := "at") T.x_BadText T.i_BadText T.t_BadText (ok_init_BadText T) (hr.mono (by decide)) T.kbI_BadText pass0 (by rfl) T.gC_BadText (pk_cons (pv 3) pk_nil)) (pa_cons (peEk (f := "at") T.x_BadPaper T.i_BadPaper T.t_BadPaper (ok_init_BadPaper T) (hr.mono (by decide)) T.kbI_BadPaper pass0 (by rfl) T.gC_BadPaper (pk_cons (pv 3) pk_nil)) pa_nil)))))))) (pg_name (i := 5) sc_law.nd rfl (by first | exact Or.inl rfl | exact Or.inr rfl)) (pss_one (ps_if (pt_not (pt_val (pe_call (ok__law_so T 8) (hr.mono (by decide)) (by rfl) T.g__law_so T.F__law_so.kp T.b__law_so .nil pass0 (pa_cons (pe_xfV (pv 5)) (pa_cons (pv 3) pa_nil))))) (pss_one (ps_ret pe_bl)) pss_nil))) (pss_cons (ps_for PassesOwn.never rfl (pi_seq (pe_lst (pa_cons (peE T.x_NoPiece T.i_NoPiece T.t_NoPiece (ok_init_NoPiece T) (hr.mono (by decide)) T.bI_NoPiece pass0 (by rfl) T.gC_NoPiece (pa_cons (pv 4) pa_nil)) (pa_cons (peE T.x_TakenName T.i_TakenName T.t_TakenName (ok_init_TakenName T) (hr.mono (by decide)) T.bI_TakenName pass0 (by rfl) T.gC_TakenName (pa_cons (pv 4) pa_nil)) (pa_cons (peEk (f := "name") T.x_NoPiece T.i_NoPiece T.t_NoPiece (ok_init_NoPiece T) (hr.mono (by decide)) T.kbI_NoPiece pass0 (by rfl) T.gC_NoPiece (pk_cons (pv 4) pk_nil)) (pa_cons (peEk (f := "name") T.x_TakenName T.i_TakenName T.t_TakenName (ok_init_TakenName T) (hr.mono (by decide)) T.kbI_TakenName pass0 (by rfl) T.gC_TakenName (pk_cons (pv 4) pk_nil)) pa_nil)))))) (pg_name (i := 5) sc_law.nd rfl (by first | exact Or.inl rfl | exact Or.inr rfl)) (pss_one (ps_if (pt_not (pt_val (pe_call (ok__law_so T 8) (hr.mono (by decide)) (by rfl) T.g__law_so T.F__law_so.kp T.b__law_so .nil pass0 (pa_cons (pe_xfV (pv 5)) (pa_cons (pv 4) pa_nil))))) (pss_one (ps_ret pe_bl)) pss_nil))) (pss_cons (ps_set (i := 6) sc_law.nd rfl (by first | exact Or.inl rfl | exact Or.inr rfl) (pe_lst (pa_cons (peE T.x_BadValue T.i_BadValue T.t_BadValue (ok_init_BadValue T) (hr.mono (by decide)) T.bI_BadValue pass0 (by rfl) T.gC_BadValue (pa_cons (pv 3) pa_nil)) (pa_cons (peE T.x_BadText T.i_BadText T.t_BadText (ok_init_BadText T) (hr.mono (by decide)) T.bI_BadText pass0 (by rfl) T.gC_BadText (pa_cons (pv 3) pa_nil)) (pa_cons (peE T.x_BadPaper T.i_BadPaper T.t_BadPaper (ok_init_BadPaper T) (hr.mono (by decide)) T.bI_BadPaper pass0 (by rfl) T.gC_BadPaper (pa_cons (pv 3) pa_nil)) (pa_cons (peE T.x_NoPiece T.i_NoPiece T.t_NoPiece (ok_init_NoPiece T) (hr.mono (by decide)) T.bI_NoPiece pass0 (by rfl) T.gC_NoPiece (pa_cons (pv 4) pa_nil)) (pa_cons (peE T.x_TakenName T.i_TakenName T.t_TakenName (ok_init_TakenName T) (hr.mono (by decide)) T.bI_TakenName pass0 (by rfl) T.gC_TakenName (pa_cons (pv 4) pa_nil)) (pa_cons (pe_mk0 PySem.F.excBase_Exception T.q_TooMany T.gC_TooMany T.kp_TooMany (by rfl)) pa_nil)))))))) (pss_cons (ps_for PassesOwn.never rfl (pi_range1 (by rfl) T.m_range (pa_cons pe_int pa_nil)) (pg_name (i := 7) sc_law.nd rfl (by first | exact Or.inl rfl | exact Or.inr rfl)) (pss_one (ps_if (PW.pt (pw_or (pt_cmpR (op_neA hu) (pe_call (ok__law_of T) (hr.mono (by decide)) (by rfl) T.g__law_of T.F__law_of.kp T.b__law_of .nil pass0 (pa_cons (pe_ix ix_seq (pv 6) (pv 7) (fun _ _ => rfl)) pa_nil)) (pe_lc (own := [("one", 8)]) rfl sc_law.nd (pi_range1 (by rfl) T.m_range (pa_cons pe_int pa_nil)) (blkOk_by (N := ["script", "row", "spot", "at", "other", "made", "every", "k", "one"]) (sc := defScope s_law) (by decide +kernel)) (fun _ _ _ _ _ => (pg_name (i := 8) sc_law.nd rfl (by first | exact Or.inl rfl | exact Or.inr rfl))) (fun _ _ _ _ _ => pts_nil) (fun _ _ _ _ _ => (pe_cmpR (op_eqA hu) (pv 8) (pv 7) (nomark _)))) (nomark _)) (pw_or (pt_val (pe_call (ok__law_foreign T) (hr.mono (by decide)) (by rfl) T.g__law_foreign T.F__law_foreign.kp T.b__law_foreign .nil pass0 (pa_cons (pe_ix ix_seq (pv 6) (pv 7) (fun _ _ => rfl)) pa_nil))) (pw_or1 (pt_not (pt_val (pe_callB call_isV (by rfl) T.m_isinstance (by decide +kernel) (pa_cons (pe_ix ix_seq (pv 6) (pv 7) (fun _ _ => rfl)) (pa_cons (pe_glob (v := .ref T.C_LayError) (by rfl) T.gC_LayError rfl) pa_nil))))))))) (pss_one (ps_ret pe_bl)) pss_nil))) (pss_one (ps_ret (pe_and (pe_not (pe_call (ok__law_caught T) (hr.mono (by decide)) (by rfl) T.g__law_caught T.F__law_caught.kp T.b__law_caught .nil pass0 (pa_cons pe_int pa_nil))) (pe_one (pe_call (ok__law_caught T) (hr.mono (by decide)) (by rfl) T.g__law_caught T.F__law_caught.kp T.b__law_caught .nil pass0 (pa_cons (pe_op op_addA pe_int (pe_call (ok__law_take T) (hr.mono (by decide)) (by rfl) T.g__law_take T.F__law_take.kp T.b__law_take .nil pass0 (pa_cons (pv 1) (pa_cons (pv 2) (pa_cons pe_int pa_nil))))) pa_nil)))))))))))))), law_read (N := 8) (by decide) (s_seq (s_own (qd_cons q_int qd_nil)) (s_seq (s_asgX (x_op o_sub (x_call (r_cons (q_var).x (r_consS (r_cons (q_int).x r_nil)))) (q_int).x) (g_name (i := 3))) (s_seq (s_asgX (x_op o_ix ((q_lst (qd_cons q_non (qd_cons (q_un u_neg (q_var).w) (qd_cons q_str (qd_cons (q_tup (qd_cons q_var (qd_cons q_int qd_nil))) (qd_cons q_bl qd_nil))))))).x (x_call (r_cons (q_var).x (r_consS (r_cons (q_int).x r_nil))))) (g_name (i := 4))) (s_seq (s_for (i_seq (q_lst (qd_cons (q_mk q_var) (qd_cons (q_mk q_var) (qd_cons (q_mk q_var) (qd_cons (q_mkK q_var) (qd_cons (q_mkK q_var) (qd_cons (q_mkK q_var) qd_nil)))))))) g_name (s_if (t_not (t_B (q_call (qd_cons (q_xf (Ls := ls_at T.cs) (hL_at T) q_var) (qd_cons q_var qd_nil))))) (s_ret q_bl) s_nx)) (s_seq (s_for (i_seq (q_lst (qd_cons (q_mk q_var) (qd_cons (q_mk q_var) (qd_cons (q_mkK q_var) (qd_cons (q_mkK q_var) qd_nil)))))) g_name (s_if (t_not (t_B (q_call (qd_cons (q_xf (Ls := ls_name T.cs) (hL_name T) q_var) (qd_cons q_var qd_nil))))) (s_ret q_bl) s_nx)) (s_seq (s_asg (q_lst (qd_cons (q_mk q_var) (qd_cons (q_mk q_var) (qd_cons (q_mk q_var) (qd_cons (q_mk q_var) (qd_cons (q_mk q_var) (qd_cons q_mk0 qd_nil))))))) (g_name (i := 6))) (s_seq (s_for (i_rng1 (qa_cons (q_int).w qa_nil)) g_name (s_if (t_or (t_test (q_op o_ne ((q_call (qd_cons (q_op o_ix (q_var).w (q_var).w) qd_nil))).w ((q_lc ((i_rng1 (qa_cons (q_int).w qa_nil))).w g_name (by decide) t_yes (q_op o_eq (q_var).w (q_var).w))).w)) (t_or (t_B (q_call (qd_cons (q_op o_ix (q_var).w (q_var).w) qd_nil))) (t_not (t_B (q_isX (c := .ref T.C_LayError) (cv := .ref T.C_LayError) (tb := tb_LayError T.cs) (fun u r => r) (kt_LayError T) (q_op o_ix (q_var).w (q_var).w)))))) (s_ret q_bl) s_nx)) (s_retX (x_andV ((q_notV (q_call (qd_cons q_int qd_nil)))).x (x_call (r_cons (x_op o_add (q_int).x (x_call (r_cons (q_var).x (r_consS (r_cons (q_int).x r_nil))))) r_nil))))))))))) hS hl hf hp q⟩
end
end K00

set_option maxHeartbeats 4000000
namespace K00
open PySem L2 Pu
theorem iSub {i j : Int} : dSub (.int i) (.int j) = some (.int (i - j)) := rfl
theorem iAdd {i j : Int} : dAdd (.int i) (.int j) = some (.int (i + j)) := rfl
theorem iLe {i j : Int} : dLe (.int i) (.int j) = some (.bool (decide (i ≤ j))) := rfl
theorem iLt {i j : Int} : dLt (.int i) (.int j) = some (.bool (decide (i < j))) := rfl
theorem iGt {i j : Int} : dGt (.int i) (.int j) = some (.bool (decide (j < i))) := rfl
theorem iGe {i j : Int} : dGe (.int i) (.int j) = some (.bool (decide (j ≤ i))) := rfl
theorem iMul {i j : Int} : dMul (.int i) (.int j) = if CMulA i j then some (.int (i * j)) else none := rfl
theorem iMod {i j : Int} : dMod (.int i) (.int j) = if 0 < j then some (.int (i % j)) else none := rfl
theorem rng4 : dRng1 [.int 4] = some [.int 0, .int 1, .int 2, .int 3] := rfl
theorem atI_nat' {xs : List D} {i : Nat} : atI xs (i : Int) = xs[i]? := by
  unfold atI ixN
  by_cases h : i < xs.length
  · rw [if_pos (by omega), if_pos (by omega)]; simp
  · rw [if_pos (by omega), if_neg (by omega), List.getElem?_eq_none (by omega)]; rfl
theorem mul_ok {i j : Int} (h : -(2 ^ 64) < i ∧ i < 2 ^ 64) : CMulA i j := .inl (.inl h)
theorem mul_okR {i j : Int} (h : -(2 ^ 64) < j ∧ j < 2 ^ 64) : CMulA i j := .inl (.inr h)
theorem lenL {xs : List D} : dLen [.list xs] = some (.int xs.length) := rfl
theorem lenT {xs : List D} : dLen [.tuple xs] = some (.int xs.length) := rfl
theorem dRange_len {lo : Int} {n : Nat} : (dRange lo n).length = n := by simp [dRange]
theorem rngN {n : Nat} (h : n < 2 ^ 62) : dRng1 [.int (n : Int)] = some (dRange 0 n) := by
  unfold dRng1
  dsimp only
  rw [if_pos ⟨by omega, by omega⟩, Int.toNat_natCast]
/-! loops that only look -/
theorem chkLoop {g : GE} {b : SE} {S : Pst → Prop} {c : D → Bool} : ∀ {ds : List D}, (∀ d ∈ ds, ∀ δ, S δ → ∃ δ1, S δ1 ∧ (g d δ).bind b = some (if c d = true then .nx else .rt (.bool false), δ1)) → ∀ δ, S δ → ∃ δ1, S δ1 ∧ forGo g b ds δ = some (if ds.all c = true then .nx else .rt (.bool false), δ1)
  | [], _, δ, h => ⟨δ, h, rfl⟩
  | d :: ds, hs, δ, h => by
    obtain ⟨δ1, h1, e1⟩ := hs d List.mem_cons_self δ h
    obtain ⟨δg, eg, eb⟩ := Option.bind_eq_some_iff.mp e1
    unfold forGo
    rw [eg, Option.bind_some, eb, Option.bind_some]
    by_cases hc : c d = true
    · rw [if_pos hc]
      obtain ⟨δ2, h2, e2⟩ := chkLoop (ds := ds) (fun x hx => hs x (List.mem_cons_of_mem _ hx)) δ1 h1
      refine ⟨δ2, h2, ?_⟩
      rw [List.all_cons, hc, Bool.true_and]
      exact e2
    · rw [if_neg hc]
      refine ⟨δ1, h1, ?_⟩
      rw [List.all_cons, Bool.eq_false_iff.mpr hc, Bool.false_and, if_neg (by decide)]
theorem ne_int (i j : Int) : dNe (.int i) (.int j) = some (.bool (!decide (i = j))) := rfl
theorem eq_int (i j : Int) : dEq (.int i) (.int j) = some (.bool (decide (i = j))) := rfl
def SoT (n : Nat) (d : D) : Prop := f__law_so n [.im d, .im d] = some (.bool true, [.im d, .im d])
theorem so_int (n : Nat) (i : Int) : SoT (n + 1) (.int i) := by
  have e : f__law_so (n + 1) = fnF 2 3 (p__law_so (f__law_so n)) := rfl
  have t1 : dIs "tuple" (.int i) = some (.bool false) := rfl
  have t2 : dIs "bool" (.int i) = some (.bool false) := rfl
  have t3 : dIs "int" (.int i) = some (.bool true) := rfl
  have t4 : dIsN (.int i) .none = some (.bool false) := rfl
  unfold SoT
  rw [e]
  simp -implicitDefEqProofs only [p__law_so, fnF, runF, mark, fin, List.length_cons, List.length_nil, if_true, if_pos, Option.bind_some, Option.map_some, Option.bind_none, Option.map_none, List.replicate, List.append, List.cons_append, List.nil_append, Nat.reduceAdd, Nat.reduceSub, sSeq, sAsg, sRet, sIf, sNx, sBk, sCt, sPar, setPar, setD, List.set_cons_zero, List.set_cons_succ, Nat.reduceLT, q2, q1, qVar, qVarL, qC, qNil, qCons, qTup, qLst, qCall, qCallF, qTest, qAnd, qOr, qNot, qIf, qAndV, qOrV, qNotV, dTup, dLst, List.map_cons, List.map_nil, List.getElem?_cons_zero, List.getElem?_cons_succ, ↓reduceIte, sFor, qRng, gtTup, gsCons, gsNil, dNeg, forGo, Nat.reduceLeDiff, Int.cast_ofNat_Int, Int.natCast_zero, Int.natCast_one, iSub, iLe, iLt, iGt, iGe, iAdd, iMul, iMod, asB, Bool.not_true, Bool.not_false, Bool.false_eq_true, t1, t2, t3, t4, eq_int, decide_true]
def soB (n : Nat) : SE := (sIf (qNot (qTest (qCallF (f__law_so n) (qCons (q2 dIx (qVar 0) (qVar 2)) (qCons (q2 dIx (qVar 1) (qVar 2)) qNil))))) (sRet (qC (.bool false))) sNx)
theorem so_tup {n : Nat} {ds : List D} (hl : ds.length < 2 ^ 62) (h : ∀ d ∈ ds, SoT n d) : SoT (n + 1) (.tuple ds) := by
  have e : f__law_so (n + 1) = fnF 2 3 (p__law_so (f__law_so n)) := rfl
  have t1 : dIs "tuple" (.tuple ds) = some (.bool true) := rfl
  have t4 : dIsN (.tuple ds) .none = some (.bool false) := rfl
  obtain ⟨δ1, ⟨y, e1⟩, e2⟩ := chkLoop (g := setD 2) (b := soB n) (S := fun δ => ∃ y, δ = [.im (.tuple ds), .im (.tuple ds), y]) (c := fun _ => true) (ds := dRange 0 ds.length) (fun d hd δ hδ => by
    obtain ⟨y, rfl⟩ := hδ
    obtain ⟨j, hj, e⟩ := List.mem_map.mp hd
    rw [List.mem_range] at hj
    have e' : d = .int (j : Int) := by rw [← e]; simp
    subst e'
    have i1 : dIx (.tuple ds) (.int (j : Int)) = some ds[j] := by
      show atI ds (j : Int) = _
      rw [atI_nat', List.getElem?_eq_getElem hj]
    have i2 := h ds[j] (List.getElem_mem hj)
    unfold SoT at i2
    refine ⟨_, ⟨.im (.int (j : Int)), rfl⟩, ?_⟩
    simp -implicitDefEqProofs only [soB, fnF, runF, mark, fin, List.length_cons, List.length_nil, if_true, if_pos, Option.bind_some, Option.map_some, Option.bind_none, Option.map_none, List.replicate, List.append, List.cons_append, List.nil_append, Nat.reduceAdd, Nat.reduceSub, sSeq, sAsg, sRet, sIf, sNx, sBk, sCt, sPar, setPar, setD, List.set_cons_zero, List.set_cons_succ, Nat.reduceLT, q2, q1, qVar, qVarL, qC, qNil, qCons, qTup, qLst, qCall, qCallF, qTest, qAnd, qOr, qNot, qIf, qAndV, qOrV, qNotV, dTup, dLst, List.map_cons, List.map_nil, List.getElem?_cons_zero, List.getElem?_cons_succ, ↓reduceIte, sFor, qRng, gtTup, gsCons, gsNil, dNeg, forGo, Nat.reduceLeDiff, Int.cast_ofNat_Int, Int.natCast_zero, Int.natCast_one, iSub, iLe, iLt, iGt, iGe, iAdd, iMul, iMod, asB, Bool.not_true, Bool.not_false, Bool.false_eq_true, i1, i2]) [.im (.tuple ds), .im (.tuple ds), .no] ⟨_, rfl⟩
  have e3 : (dRange 0 ds.length).all (fun _ => true) = true := List.all_eq_true.mpr fun _ _ => rfl
  rw [e3, if_pos rfl, e1] at e2
  unfold soB at e2
  unfold SoT
  rw [e]
  simp -implicitDefEqProofs only [p__law_so, fnF, runF, mark, fin, List.length_cons, List.length_nil, if_true, if_pos, Option.bind_some, Option.map_some, Option.bind_none, Option.map_none, List.replicate, List.append, List.cons_append, List.nil_append, Nat.reduceAdd, Nat.reduceSub, sSeq, sAsg, sRet, sIf, sNx, sBk, sCt, sPar, setPar, setD, List.set_cons_zero, List.set_cons_succ, Nat.reduceLT, q2, q1, qVar, qVarL, qC, qNil, qCons, qTup, qLst, qCall, qCallF, qTest, qAnd, qOr, qNot, qIf, qAndV, qOrV, qNotV, dTup, dLst, List.map_cons, List.map_nil, List.getElem?_cons_zero, List.getElem?_cons_succ, ↓reduceIte, sFor, qRng, gtTup, gsCons, gsNil, dNeg, forGo, Nat.reduceLeDiff, Int.cast_ofNat_Int, Int.natCast_zero, Int.natCast_one, iSub, iLe, iLt, iGt, iGe, iAdd, iMul, iMod, asB, Bool.not_true, Bool.not_false, Bool.false_eq_true, t1, t4, lenT, ne_int, decide_true, rngN hl, e2]
def eR (row : List Int) : D := .list (row.map .int)
theorem int1 (i : Int) : dInt1 [.int i] = some (.int i) := rfl
theorem iDiv (i : Int) : dDiv (.int i) (.int 997) = some (.int (i / 997)) := by
  show (if CDivW i 997 then some (PyData.int (i / 997)) else if CDivN i 997 then some (PyData.int (i.fdiv 997)) else none) = _
  rw [if_pos (show CDivW i 997 from ⟨by decide, by decide⟩)]
theorem app_int {acc : List Int} {i : Int} : acc.map PyData.int ++ [.int i] = (acc ++ [i]).map .int := by simp
def n1B : SE := (sSeq (sIf (qTest (q2 dEq (qVar 3) (qC (.int 0)))) sBk sNx) (sSeq (sApp 1 (q2 dMod (qCall dInt1 (qCons (qVar 3) qNil)) (qC (.int 997)))) (sAsg (q2 dDiv (qVar 3) (qC (.int 997))) (setD 3))))
theorem n1Loop {x2 x5 : Sv} : ∀ (ds : List D) (acc : List Int) (left : Int) (x4 : Sv), acc.length + ds.length < 100000 → ∃ (acc' : List Int) (y3 y4 : Sv), acc'.length ≤ acc.length + ds.length ∧ forGo (setD 4) n1B ds [.no, .ce none (.l (acc.map .int)), x2, .im (.int left), x4, x5] = some (.nx, [.no, .ce none (.l (acc'.map .int)), x2, y3, y4, x5])
  | [], acc, left, x4, _ => ⟨acc, _, _, Nat.le_refl _, rfl⟩
  | d :: ds, acc, left, x4, h => by
    rw [List.length_cons] at h
    have hl : (acc.map PyData.int).length < 100000 := by rw [List.length_map]; omega
    by_cases h0 : left = 0
    · refine ⟨acc, .im (.int left), .im d, by simp, ?_⟩
      simp -implicitDefEqProofs only [n1B, fnF, runF, mark, fin, List.length_cons, List.length_nil, if_true, if_pos, Option.bind_some, Option.map_some, Option.bind_none, Option.map_none, List.replicate, List.append, List.cons_append, List.nil_append, Nat.reduceAdd, Nat.reduceSub, sSeq, sAsg, sRet, sIf, sNx, sBk, sCt, sPar, setPar, setD, List.set_cons_zero, List.set_cons_succ, Nat.reduceLT, q2, q1, qVar, qVarL, qC, qNil, qCons, qTup, qLst, qCall, qCallF, qTest, qAnd, qOr, qNot, qIf, qAndV, qOrV, qNotV, dTup, dLst, List.map_cons, List.map_nil, List.getElem?_cons_zero, List.getElem?_cons_succ, ↓reduceIte, sFor, qRng, gtTup, gsCons, gsNil, dNeg, forGo, Nat.reduceLeDiff, Int.cast_ofNat_Int, Int.natCast_zero, Int.natCast_one, iSub, iLe, iLt, iGt, iGe, iAdd, iMul, iMod, asB, Bool.not_true, Bool.not_false, Bool.false_eq_true, eq_int, h0, decide_true]
    · obtain ⟨acc', y3, y4, l1, e1⟩ := n1Loop (x2 := x2) (x5 := x5) ds (acc ++ [left % 997]) (left / 997) (.im d) (by simp; omega)
      refine ⟨acc', y3, y4, by simp at l1 ⊢; omega, ?_⟩
      rw [← e1]
      have z : (0 : Int) < 997 := by decide
      simp -implicitDefEqProofs only [n1B, fnF, runF, mark, fin, List.length_cons, List.length_nil, if_true, if_pos, Option.bind_some, Option.map_some, Option.bind_none, Option.map_none, List.replicate, List.append, List.cons_append, List.nil_append, Nat.reduceAdd, Nat.reduceSub, sSeq, sAsg, sRet, sIf, sNx, sBk, sCt, sPar, setPar, setD, List.set_cons_zero, List.set_cons_succ, Nat.reduceLT, q2, q1, qVar, qVarL, qC, qNil, qCons, qTup, qLst, qCall, qCallF, qTest, qAnd, qOr, qNot, qIf, qAndV, qOrV, qNotV, dTup, dLst, List.map_cons, List.map_nil, List.getElem?_cons_zero, List.getElem?_cons_succ, ↓reduceIte, sFor, qRng, gtTup, gsCons, gsNil, dNeg, forGo, Nat.reduceLeDiff, Int.cast_ofNat_Int, Int.natCast_zero, Int.natCast_one, iSub, iLe, iLt, iGt, iGe, iAdd, iMul, iMod, asB, Bool.not_true, Bool.not_false, Bool.false_eq_true, eq_int, h0, decide_false, sApp, getL, int1, hl, z, iDiv, app_int]
def n2B : SE := (sSeq (sAsg (q2 dMod (qCall dInt1 (qCons (q2 dAdd (q2 dAdd (q2 dMul (qVar 2) (qC (.int 48271))) (q2 dMul (qVar 4) (qC (.int 69621)))) (qC (.int 11))) qNil)) (qC (.int 2147483647))) (setD 5)) (sApp 1 (q2 dMod (qCall dInt1 (qCons (q2 dAdd (q2 dMul (qVar 5) (qC (.int 16807))) (qVar 4)) qNil)) (qC (.int 2147483629)))))
theorem n2Loop {x3 : Sv} {cell : Int} : ∀ (ks : List Int) (acc : List Int) (x4 x5 : Sv), acc.length + ks.length < 100000 → ∃ (acc' : List Int) (y4 y5 : Sv), acc'.length ≤ acc.length + ks.length ∧ forGo (setD 4) n2B (ks.map .int) [.no, .ce none (.l (acc.map .int)), .im (.int cell), x3, x4, x5] = some (.nx, [.no, .ce none (.l (acc'.map .int)), .im (.int cell), x3, y4, y5])
  | [], acc, x4, x5, _ => ⟨acc, _, _, Nat.le_refl _, rfl⟩
  | k :: ks, acc, x4, x5, h => by
    rw [List.length_cons] at h
    have hl : (acc.map PyData.int).length < 100000 := by rw [List.length_map]; omega
    have c1 : CMulA cell 48271 := mul_okR (by decide)
    have c2 : CMulA k 69621 := mul_okR (by decide)
    have c3 : CMulA ((cell * 48271 + k * 69621 + 11) % 2147483647) 16807 := mul_okR (by decide)
    have z1 : (0 : Int) < 2147483647 := by decide
    have z2 : (0 : Int) < 2147483629 := by decide
    obtain ⟨acc', y4, y5, l1, e1⟩ := n2Loop (x3 := x3) (cell := cell) ks (acc ++ [((cell * 48271 + k * 69621 + 11) % 2147483647 * 16807 + k) % 2147483629]) (.im (.int k)) (.im (.int ((cell * 48271 + k * 69621 + 11) % 2147483647))) (by simp; omega)
    refine ⟨acc', y4, y5, by simp at l1 ⊢; omega, ?_⟩
    rw [← e1]
    simp -implicitDefEqProofs only [n2B, fnF, runF, mark, fin, List.length_cons, List.length_nil, if_true, if_pos, Option.bind_some, Option.map_some, Option.bind_none, Option.map_none, List.replicate, List.append, List.cons_append, List.nil_append, Nat.reduceAdd, Nat.reduceSub, sSeq, sAsg, sRet, sIf, sNx, sBk, sCt, sPar, setPar, setD, List.set_cons_zero, List.set_cons_succ, Nat.reduceLT, q2, q1, qVar, qVarL, qC, qNil, qCons, qTup, qLst, qCall, qCallF, qTest, qAnd, qOr, qNot, qIf, qAndV, qOrV, qNotV, dTup, dLst, List.map_cons, List.map_nil, List.getElem?_cons_zero, List.getElem?_cons_succ, ↓reduceIte, sFor, qRng, gtTup, gsCons, gsNil, dNeg, forGo, Nat.reduceLeDiff, Int.cast_ofNat_Int, Int.natCast_zero, Int.natCast_one, iSub, iLe, iLt, iGt, iGe, iAdd, iMul, iMod, asB, Bool.not_true, Bool.not_false, Bool.false_eq_true, sApp, getL, int1, hl, z1, z2, c1, c2, c3, app_int]
theorem ge18 : dPow (.int 10) (.int 18) = some (.int 1000000000000000000) := by
  show (if CPow 10 18 then some (PyData.int ((10 : Int) ^ (18 : Int).toNat)) else none) = _
  rw [if_pos (show CPow 10 18 from ⟨by decide, by decide, by decide⟩)]
  rfl
theorem forGo_nx {g : GE} {b : SE} {d : D} {ds : List D} {δ δ1 δ2 : Pst} (h1 : g d δ = some δ1) (h2 : b δ1 = some (.nx, δ2)) : forGo g b (d :: ds) δ = forGo g b ds δ2 := by
  simp -implicitDefEqProofs only [forGo, h1, h2, Option.bind_some]
theorem nLoop : ∀ (ns : List Int) (acc : List Int) (x2 x3 x4 x5 : Sv), acc.length + 60 * ns.length < 100000 → ∃ (acc' : List Int) (y2 y3 y4 y5 : Sv), acc'.length ≤ acc.length + 60 * ns.length ∧ forGo (setD 2) pb__law_numbers (ns.map .int) [.no, .ce none (.l (acc.map .int)), x2, x3, x4, x5] = some (.nx, [.no, .ce none (.l (acc'.map .int)), y2, y3, y4, y5])
  | [], acc, x2, x3, x4, x5, _ => ⟨acc, _, _, _, _, Nat.le_refl _, rfl⟩
  | n :: ns, acc, x2, x3, x4, x5, h => by
    rw [List.length_cons] at h
    have p0 : pb__law_numbers = (sIf (qTest (q2 dGe (qVar 2) (q2 dPow (qC (.int 10)) (qC (.int 18))))) (sSeq (sAsg (qVar 2) (setD 3)) (sFor (qRng dRng1 (qCons (qC (.int 60)) qNil)) (setD 4) n1B)) (sFor (qRng dRng1 (qCons (qC (.int 4)) qNil)) (setD 4) n2B)) := rfl
    by_cases hc : (1000000000000000000 : Int) ≤ n
    · have r60 : dRng1 [.int 60] = some (dRange 0 60) := rngN (n := 60) (by decide)
      obtain ⟨a1, y3, y4, l1, e1⟩ := n1Loop (x2 := .im (.int n)) (x5 := x5) (dRange 0 60) acc n x4 (by rw [dRange_len]; omega)
      rw [dRange_len] at l1
      obtain ⟨a2, z2, z3, z4, z5, l2, e2⟩ := nLoop ns a1 (.im (.int n)) y3 y4 x5 (by omega)
      refine ⟨a2, z2, z3, z4, z5, by simp; omega, ?_⟩
      rw [← e2, List.map_cons]
      refine forGo_nx (δ1 := [.no, .ce none (.l (acc.map .int)), .im (.int n), x3, x4, x5]) rfl ?_
      rw [p0]
      simp -implicitDefEqProofs only [fnF, runF, mark, fin, List.length_cons, List.length_nil, if_true, if_pos, Option.bind_some, Option.map_some, Option.bind_none, Option.map_none, List.replicate, List.append, List.cons_append, List.nil_append, Nat.reduceAdd, Nat.reduceSub, sSeq, sAsg, sRet, sIf, sNx, sBk, sCt, sPar, setPar, setD, List.set_cons_zero, List.set_cons_succ, Nat.reduceLT, q2, q1, qVar, qVarL, qC, qNil, qCons, qTup, qLst, qCall, qCallF, qTest, qAnd, qOr, qNot, qIf, qAndV, qOrV, qNotV, dTup, dLst, List.map_cons, List.map_nil, List.getElem?_cons_zero, List.getElem?_cons_succ, ↓reduceIte, sFor, qRng, gtTup, gsCons, gsNil, dNeg, forGo, Nat.reduceLeDiff, Int.cast_ofNat_Int, Int.natCast_zero, Int.natCast_one, iSub, iLe, iLt, iGt, iGe, iAdd, iMul, iMod, asB, Bool.not_true, Bool.not_false, Bool.false_eq_true, ge18, hc, decide_true, r60, e1]
    · obtain ⟨a1, y4, y5, l1, e1⟩ := n2Loop (x3 := x3) (cell := n) [0, 1, 2, 3] acc x4 x5 (by simp; omega)
      simp -implicitDefEqProofs only [List.length_cons, List.length_nil] at l1
      obtain ⟨a2, z2, z3, z4, z5, l2, e2⟩ := nLoop ns a1 (.im (.int n)) x3 y4 y5 (by omega)
      refine ⟨a2, z2, z3, z4, z5, by simp; omega, ?_⟩
      have e1' : forGo (setD 4) n2B [.int 0, .int 1, .int 2, .int 3] [.no, .ce none (.l (acc.map .int)), .im (.int n), x3, x4, x5] = some (.nx, [.no, .ce none (.l (a1.map .int)), .im (.int n), x3, y4, y5]) := e1
      rw [← e2, List.map_cons]
      refine forGo_nx (δ1 := [.no, .ce none (.l (acc.map .int)), .im (.int n), x3, x4, x5]) rfl ?_
      rw [p0]
      simp -implicitDefEqProofs only [ite_false, sIf, qTest, q2, qVar, qC, List.getElem?_cons_zero, List.getElem?_cons_succ, Option.bind_some, ge18, iGe, asB, hc, decide_false, Bool.false_eq_true, sFor, qRng, qCons, qNil, Option.map_some, rng4]
      rw [e1']
theorem e_numbers {ns : List Int} (h : ns.length ≤ 63) : ∃ row : List Int, row ≠ [] ∧ row.length ≤ 4000 ∧ f__law_numbers ns = some (eR row) := by
  obtain ⟨acc, y2, y3, y4, y5, l1, e1⟩ := nLoop ns [] .no .no .no .no (by simp; omega)
  rw [List.length_nil, Nat.zero_add] at l1
  have e0 : f__law_numbers ns = numF 6 (setD 2) pb__law_numbers (sSeq (sIf (qTest (q2 dEq (qCall dLen (qCons (qVarL 1) qNil)) (qC (.int 0)))) (sApp 1 (qC (.int 0))) sNx) (sFrz 1 (sRet (qVar 1)))) ns := rfl
  have s0 : numSt 6 = [.no, .ce none (.l (([] : List Int).map .int)), .no, .no, .no, .no] := rfl
  by_cases hz : acc = []
  · subst hz
    refine ⟨[0], by simp, by simp, ?_⟩
    rw [e0]
    unfold numF
    rw [s0, e1]
    rfl
  · refine ⟨acc, hz, by omega, ?_⟩
    have hl : ¬ ((((acc.map PyData.int).length : Nat) : Int) = 0) := by
      have := List.length_pos_iff.mpr hz
      rw [List.length_map]
      omega
    rw [e0]
    unfold numF
    rw [s0, e1]
    simp -implicitDefEqProofs only [fnF, runF, mark, fin, List.length_cons, List.length_nil, if_true, if_pos, Option.bind_some, Option.map_some, Option.bind_none, Option.map_none, List.replicate, List.append, List.cons_append, List.nil_append, Nat.reduceAdd, Nat.reduceSub, sSeq, sAsg, sRet, sIf, sNx, sBk, sCt, sPar, setPar, setD, List.set_cons_zero, List.set_cons_succ, Nat.reduceLT, q2, q1, qVar, qVarL, qC, qNil, qCons, qTup, qLst, qCall, qCallF, qTest, qAnd, qOr, qNot, qIf, qAndV, qOrV, qNotV, dTup, dLst, List.map_cons, List.map_nil, List.getElem?_cons_zero, List.getElem?_cons_succ, ↓reduceIte, sFor, qRng, gtTup, gsCons, gsNil, dNeg, forGo, Nat.reduceLeDiff, Int.cast_ofNat_Int, Int.natCast_zero, Int.natCast_one, iSub, iLe, iLt, iGt, iGe, iAdd, iMul, iMod, asB, Bool.not_true, Bool.not_false, Bool.false_eq_true, lenL, eq_int, hl, decide_false, sFrz, eR]

theorem atR {row : List Int} {k : Nat} (hk : k < row.length) : dIx (eR row) (.int (k : Int)) = some (.int (row.getD k 0)) := by
  show atI (row.map PyData.int) (k : Int) = _
  rw [atI_nat', List.getElem?_map, List.getD_eq_getElem?_getD, List.getElem?_eq_getElem hk]
  rfl
theorem lenR (row : List Int) : dLen [eR row] = some (.int row.length) := by
  show some (PyData.int (row.map PyData.int).length) = _
  rw [List.length_map]
theorem e_draw {row : List Int} (hr : row ≠ []) {a : Int} (ha : 0 ≤ a) {lim : Int} (hl : 0 < lim) : ∃ r : Int, 0 ≤ r ∧ r < lim ∧ f__law_draw [.im (eR row), .im (.int a), .im (.int lim)] = some (.int r, [.im (eR row), .im (.int a), .im (.int lim)]) := by
  have hpos := List.length_pos_iff.mpr hr
  by_cases h : a < row.length
  · have e0 : a = ((a.toNat : Nat) : Int) := by omega
    have e1 := atR (row := row) (k := a.toNat) (by omega)
    rw [← e0] at e1
    refine ⟨row.getD a.toNat 0 % lim, Int.emod_nonneg _ (by omega), Int.emod_lt_of_pos _ hl, ?_⟩
    simp -implicitDefEqProofs only [f__law_draw, p__law_draw, fnF, runF, mark, fin, List.length_cons, List.length_nil, if_true, if_pos, Option.bind_some, Option.map_some, Option.bind_none, Option.map_none, List.replicate, List.append, List.cons_append, List.nil_append, Nat.reduceAdd, Nat.reduceSub, sSeq, sAsg, sRet, sIf, sNx, sBk, sCt, sPar, setPar, setD, List.set_cons_zero, List.set_cons_succ, Nat.reduceLT, q2, q1, qVar, qVarL, qC, qNil, qCons, qTup, qLst, qCall, qCallF, qTest, qAnd, qOr, qNot, qIf, qAndV, qOrV, qNotV, dTup, dLst, List.map_cons, List.map_nil, List.getElem?_cons_zero, List.getElem?_cons_succ, ↓reduceIte, sFor, qRng, gtTup, gsCons, gsNil, dNeg, forGo, Nat.reduceLeDiff, Int.cast_ofNat_Int, Int.natCast_zero, Int.natCast_one, iSub, iLe, iLt, iGt, iGe, iAdd, iMul, iMod, asB, Bool.not_true, Bool.not_false, Bool.false_eq_true, lenR, h, decide_true, e1, int1, hl]
  · have hm : 0 ≤ a % (row.length : Int) := Int.emod_nonneg _ (by omega)
    have hm2 : a % (row.length : Int) < row.length := Int.emod_lt_of_pos _ (by omega)
    have e0 : a % (row.length : Int) = (((a % (row.length : Int)).toNat : Nat) : Int) := by omega
    have e1 := atR (row := row) (k := (a % (row.length : Int)).toNat) (by omega)
    rw [← e0] at e1
    have z0 : (0 : Int) < (row.length : Int) := by omega
    have z1 : (0 : Int) < 2147483399 := by decide
    have z2 : (0 : Int) < 2147483647 := by decide
    have c1 : CMulA (row.getD (a % (row.length : Int)).toNat 0) 40692 := mul_okR (by decide)
    have c2 : CMulA a 7919 := mul_okR (by decide)
    have c3 : ∀ x : Int, CMulA x 48271 := fun x => mul_okR (by decide)
    refine ⟨((row.getD (a % (row.length : Int)).toNat 0 * 40692 + a * 7919 + 3) % 2147483399 * 48271 + a) % 2147483647 % lim, Int.emod_nonneg _ (by omega), Int.emod_lt_of_pos _ hl, ?_⟩
    simp -implicitDefEqProofs only [f__law_draw, p__law_draw, fnF, runF, mark, fin, List.length_cons, List.length_nil, if_true, if_pos, Option.bind_some, Option.map_some, Option.bind_none, Option.map_none, List.replicate, List.append, List.cons_append, List.nil_append, Nat.reduceAdd, Nat.reduceSub, sSeq, sAsg, sRet, sIf, sNx, sBk, sCt, sPar, setPar, setD, List.set_cons_zero, List.set_cons_succ, Nat.reduceLT, q2, q1, qVar, qVarL, qC, qNil, qCons, qTup, qLst, qCall, qCallF, qTest, qAnd, qOr, qNot, qIf, qAndV, qOrV, qNotV, dTup, dLst, List.map_cons, List.map_nil, List.getElem?_cons_zero, List.getElem?_cons_succ, ↓reduceIte, sFor, qRng, gtTup, gsCons, gsNil, dNeg, forGo, Nat.reduceLeDiff, Int.cast_ofNat_Int, Int.natCast_zero, Int.natCast_one, iSub, iLe, iLt, iGt, iGe, iAdd, iMul, iMod, asB, Bool.not_true, Bool.not_false, Bool.false_eq_true, lenR, h, decide_false, int1, z0, e1, z1, z2, c1, c2, c3, hl]
theorem e_take {row : List Int} (hr : row ≠ []) {s : Int} (hs : 0 ≤ s) {lim : Int} (hl : 0 < lim) : ∃ r : Int, 0 ≤ r ∧ r < lim ∧ f__law_take [.im (eR row), .ce none (.l [.int s]), .im (.int lim)] = some (.int r, [.im (eR row), .ce none (.l [.int (s + 1)]), .im (.int lim)]) := by
  obtain ⟨r, h1, h2, e1⟩ := e_draw hr (a := s + 1 - 1) (by omega) hl
  refine ⟨r, h1, h2, ?_⟩
  have i0 : dIx (.list [.int s]) (.int 0) = some (.int s) := rfl
  have i1 : dIx (.list [.int (s + 1)]) (.int 0) = some (.int (s + 1)) := rfl
  have ix : ixN 1 0 = some 0 := rfl
  simp -implicitDefEqProofs only [f__law_take, p__law_take, fnF, runF, mark, fin, List.length_cons, List.length_nil, if_true, if_pos, Option.bind_some, Option.map_some, Option.bind_none, Option.map_none, List.replicate, List.append, List.cons_append, List.nil_append, Nat.reduceAdd, Nat.reduceSub, sSeq, sAsg, sRet, sIf, sNx, sBk, sCt, sPar, setPar, setD, List.set_cons_zero, List.set_cons_succ, Nat.reduceLT, q2, q1, qVar, qVarL, qC, qNil, qCons, qTup, qLst, qCall, qCallF, qTest, qAnd, qOr, qNot, qIf, qAndV, qOrV, qNotV, dTup, dLst, List.map_cons, List.map_nil, List.getElem?_cons_zero, List.getElem?_cons_succ, ↓reduceIte, sFor, qRng, gtTup, gsCons, gsNil, dNeg, forGo, Nat.reduceLeDiff, Int.cast_ofNat_Int, Int.natCast_zero, Int.natCast_one, iSub, iLe, iLt, iGt, iGe, iAdd, iMul, iMod, asB, Bool.not_true, Bool.not_false, Bool.false_eq_true, sPut, asI, getL, i0, i1, ix, e1]
theorem x_take {row : List Int} (hr : row ≠ []) {xa xc : XE} {i : Nat} {δ δ1 : Pst} {w w0 : Option Nat} {c0 : Cn} {s lim : Int} (ha : xa δ = some (eR row, δ)) (h0 : δ[i]? = some (.ce w0 c0)) (hc : xc δ = some (.int lim, δ1)) (h1 : δ1[i]? = some (.ce w (.l [.int s]))) (hs : 0 ≤ s) (hl : 0 < lim) :
    ∃ r : Int, 0 ≤ r ∧ r < lim ∧ xCall f__law_take (rCons xa (rConsS i (rCons xc rNil))) δ = some (.int r, δ1.set i (.ce w (.l [.int (s + 1)]))) := by
  obtain ⟨r, r1, r2, e1⟩ := e_take hr hs hl
  refine ⟨r, r1, r2, ?_⟩
  have e2 : rCons xa (rConsS i (rCons xc rNil)) δ = some ([.d (eR row), .s i, .d (.int lim)], δ1) := by
    unfold rCons rConsS rNil
    rw [ha, Option.bind_some]
    dsimp only
    rw [h0]
    dsimp only
    rw [hc]
    rfl
  have e3 : mkAs δ1 [.d (eR row), .s i, .d (.int lim)] = some [.im (eR row), .ce none (.l [.int s]), .im (.int lim)] := by
    unfold mkAs mkAs
    rw [h1]
    rfl
  have e4 : putAs δ1 [.d (eR row), .s i, .d (.int lim)] [.im (eR row), .ce none (.l [.int (s + 1)]), .im (.int lim)] = some (δ1.set i (.ce w (.l [.int (s + 1)]))) := by
    unfold putAs putAs
    rw [h1]
    rfl
  unfold xCall
  rw [e2, Option.bind_some]
  dsimp only
  rw [if_pos ⟨by simp [slotsOf], by simp [newsOf]⟩, e3, Option.bind_some, e1, Option.bind_some]
  dsimp only
  rw [e4]
  rfl
/-- the plain use: row at its place, the limit quiet -/
theorem x_takeQ {row : List Int} (hr : row ≠ []) {j i : Nat} {q : QE} {δ : Pst} {w : Option Nat} {s lim : Int} (ha : δ[j]? = some (.im (eR row))) (hc : q δ = some (.int lim)) (h1 : δ[i]? = some (.ce w (.l [.int s]))) (hs : 0 ≤ s) (hl : 0 < lim) :
    ∃ r : Int, 0 ≤ r ∧ r < lim ∧ xCall f__law_take (rCons (xq (qVar j)) (rConsS i (rCons (xq q) rNil))) δ = some (.int r, δ.set i (.ce w (.l [.int (s + 1)]))) := by
  refine x_take hr (δ1 := δ) ?_ h1 ?_ h1 hs hl
  · unfold xq qVar
    rw [ha]
    rfl
  · unfold xq
    rw [hc]
    rfl
theorem sw_skip {t : QT} {p rest : SE} {δ : Pst} {Q : Out → Pst → Prop} (h : t δ = some false) (k : SW rest δ Q) : SW (sSeq (sIf t p sNx) rest) δ Q := sw_seq (sw_if h (fun h => nomatch h) fun _ => sw_nx k)
theorem so_eq (n : Nat) : f__law_so (n + 1) = fnF 2 3 (p__law_so (f__law_so n)) := rfl
theorem so_str (n : Nat) (z : Str) : SoT (n + 1) (.str z) := by
  unfold SoT
  rw [so_eq]
  obtain ⟨_, _, e, rfl, rfl⟩ := fn_w (n := 2) (N := 3) (body := p__law_so (f__law_so n)) (as := [.im (.str z), .im (.str z)]) (Q := fun d as' => d = .bool true ∧ as' = [.im (.str z), .im (.str z)]) rfl rfl (by
    change SW _ [.im (.str z), .im (.str z), .no] _
    refine sw_skip (t := qTest (q2 dIsN (qVar 1) (qC .none))) rfl (sw_skip (t := qTest (q1 (dIs "tuple") (qVar 1))) rfl (sw_skip (t := qOr (qTest (q1 (dIs "bool") (qVar 1))) (qTest (q1 (dIs "bool") (qVar 0)))) rfl (sw_skip (t := qTest (q1 (dIs "int") (qVar 1))) rfl ?_)))
    have a1 : (q1 (dIs "str") (qVar 1)) [.im (.str z), .im (.str z), .no] = some (.bool true) := rfl
    have a2 : (q1 (dIs "str") (qVar 0)) [.im (.str z), .im (.str z), .no] = some (.bool true) := rfl
    have a3 : (q2 dEq (qVar 0) (qVar 1)) [.im (.str z), .im (.str z), .no] = some (.bool true) := by
      show some (PyData.bool (decide (z = z))) = _
      rw [decide_eq_true rfl]
    exact sw_rt (qandV_t a1 (qandV_t a2 a3)) ⟨_, _, rfl, rfl, rfl, rfl⟩)
  exact e
theorem so_bool (b : Bool) : f__law_so 8 [.im (.bool b), .im (.bool b)] = some (.bool true, [.im (.bool b), .im (.bool b)]) := by
  cases b <;> rfl
end K00

set_option maxHeartbeats 4000000
namespace K00
open PySem L2 Pu
def lw (row : List Int) (s : Int) (r : List Sv) : Pst := .no :: .im (eR row) :: .ce none (.l [.int s]) :: r
def lTk (q : QE) : XE := xCall f__law_take (rCons (xq (qVar 1)) (rConsS 2 (rCons (xq q) rNil)))
theorem tkL {row : List Int} (hr : row ≠ []) {s : Int} (hs : 0 ≤ s) {r : List Sv} {q : QE} {lim : Int} (hq : q (lw row s r) = some (.int lim)) (hl : 0 < lim) {Q : D → Pst → Prop} (k : ∀ v s' : Int, 0 ≤ v → v < lim → 0 ≤ s' → Q (.int v) (lw row s' r)) : XW (lTk q) (lw row s r) Q := by
  obtain ⟨v, v0, v1, e⟩ := x_takeQ hr (j := 1) (i := 2) (q := q) (δ := lw row s r) (w := none) (s := s) (lim := lim) rfl hq rfl hs hl
  exact ⟨_, _, e, k v (s + 1) v0 v1 (by omega)⟩
theorem sw_no {t : QT} {p : SE} {δ : Pst} {Q : Out → Pst → Prop} (h : t δ = some false) (k : Q .nx δ) : SW (sIf t p sNx) δ Q := sw_if h (fun z => nomatch z) fun _ => sw_nx k
/-! the classes of errors -/
/-- x is an error of the class at C -/
def IsC (x : D) (C : Nat) : Prop := ∃ y z, x = .dict [(.int (C : Nat), y), z]
theorem isC_ex (C : Nat) (f : Str) (d : D) : IsC (exD C f d) C := ⟨_, _, rfl⟩
theorem isC_e0 (C : Nat) : IsC (ex0D C) C := ⟨_, _, rfl⟩
theorem isX_ok {tb : Nat → Option Bool} {q : QE} {δ : Pst} {x : D} {C : Nat} {b : Bool} (h : q δ = some x) (hx : IsC x C) (ht : tb C = some b) : qIsX tb q δ = some (.bool b) := by
  obtain ⟨y, z, rfl⟩ := hx
  unfold qIsX
  rw [h, Option.bind_some]
  show (tb (C : Int).toNat).map PyData.bool = _
  rw [Int.toNat_natCast, ht]
  rfl
/-- what the law's questions say of the j-th class -/
structure Tbs (cs : Cs) (C : Nat) (j : Nat) : Prop where
  a0 : tb_BadValue cs C = some (decide (j = 0))
  a1 : tb_BadText cs C = some (decide (j = 1))
  a2 : tb_BadPaper cs C = some (decide (j = 2))
  a3 : tb_NoPiece cs C = some (decide (j = 3))
  a4 : tb_TakenName cs C = some (decide (j = 4))
  a5 : tb_TooMany cs C = some (decide (j = 5))
  b0 : tb_ValueError cs C = some false
  b1 : tb_LookupError cs C = some false
  b2 : tb_ArithmeticError cs C = some false
  b3 : tb_Exception cs C = some true
  b4 : tb_LayError cs C = some true
theorem find_fst {a : Nat} {b : Bool} {l : List (Nat × Bool)} : tbl ((a, b) :: l) a = some b := by
  unfold tbl
  rw [List.find?_cons_of_pos (by exact decide_eq_true rfl)]
  rfl
theorem find_nxt {a k : Nat} {b : Bool} {l : List (Nat × Bool)} (h : a ≠ k) : tbl ((a, b) :: l) k = tbl l k := by
  unfold tbl
  rw [List.find?_cons_of_neg (by rw [decide_eq_false (show ¬ (a, b).1 = k from h)]; decide)]
theorem tbs0 {cs : Cs} (ok : cs.Ok) : Tbs cs cs.BadValue 0 := by
  constructor <;> exact find_fst
theorem tbs1 {cs : Cs} (ok : cs.Ok) : Tbs cs cs.BadText 1 := by
  constructor <;> exact (find_nxt ok.n_BadValue_BadText).trans find_fst
theorem tbs2 {cs : Cs} (ok : cs.Ok) : Tbs cs cs.BadPaper 2 := by
  constructor <;> exact (find_nxt ok.n_BadValue_BadPaper).trans ((find_nxt ok.n_BadText_BadPaper).trans find_fst)
theorem tbs3 {cs : Cs} (ok : cs.Ok) : Tbs cs cs.NoPiece 3 := by
  constructor <;> exact (find_nxt ok.n_BadValue_NoPiece).trans ((find_nxt ok.n_BadText_NoPiece).trans ((find_nxt ok.n_BadPaper_NoPiece).trans find_fst))
theorem tbs4 {cs : Cs} (ok : cs.Ok) : Tbs cs cs.TakenName 4 := by
  constructor <;> exact (find_nxt ok.n_BadValue_TakenName).trans ((find_nxt ok.n_BadText_TakenName).trans ((find_nxt ok.n_BadPaper_TakenName).trans ((find_nxt ok.n_NoPiece_TakenName).trans find_fst)))
theorem tbs5 {cs : Cs} (ok : cs.Ok) : Tbs cs cs.TooMany 5 := by
  constructor <;> exact (find_nxt ok.n_BadValue_TooMany).trans ((find_nxt ok.n_BadText_TooMany).trans ((find_nxt ok.n_BadPaper_TooMany).trans ((find_nxt ok.n_NoPiece_TooMany).trans ((find_nxt ok.n_TakenName_TooMany).trans find_fst))))
def ofL (j : Nat) : D := .list [.bool (decide (j = 0)), .bool (decide (j = 1)), .bool (decide (j = 2)), .bool (decide (j = 3)), .bool (decide (j = 4)), .bool (decide (j = 5))]
theorem qc3 {a b c : QE} {δ : Pst} {x y z : D} (ha : a δ = some x) (hb : b δ = some y) (hc : c δ = some z) : (qLst (qCons a (qCons b (qCons c qNil)))) δ = some (.list [x, y, z]) := by
  unfold qLst qCons qNil
  rw [ha, hb, hc]
  rfl
theorem e_of {cs : Cs} {x : D} {C j : Nat} (hx : IsC x C) (T : Tbs cs C j) : f__law_of cs [.im x] = some (ofL j, [.im x]) := by
  have l1 : (qLst (qCons (qIsX (tb_BadValue cs) (qVar 0)) (qCons (qIsX (tb_BadText cs) (qVar 0)) (qCons (qIsX (tb_BadPaper cs) (qVar 0)) qNil)))) [.im x, .no] = some (.list [.bool (decide (j = 0)), .bool (decide (j = 1)), .bool (decide (j = 2))]) := qc3 (isX_ok rfl hx T.a0) (isX_ok rfl hx T.a1) (isX_ok rfl hx T.a2)
  have l2 : (qLst (qCons (qIsX (tb_NoPiece cs) (qVar 0)) (qCons (qIsX (tb_TakenName cs) (qVar 0)) (qCons (qIsX (tb_TooMany cs) (qVar 0)) qNil)))) [.im x, .im (.list [.bool (decide (j = 0)), .bool (decide (j = 1)), .bool (decide (j = 2))])] = some (.list [.bool (decide (j = 3)), .bool (decide (j = 4)), .bool (decide (j = 5))]) := qc3 (isX_ok rfl hx T.a3) (isX_ok rfl hx T.a4) (isX_ok rfl hx T.a5)
  exact fn_rt (ms := [.im x]) (δ := [.im x, .im (.list [.bool (decide (j = 0)), .bool (decide (j = 1)), .bool (decide (j = 2))])]) rfl rfl ((sq_nx (asg_ok (i := 1) l1 (by simp))).trans (ret_ok (q2_ok rfl l2 rfl))) rfl
theorem e_foreign {cs : Cs} {x : D} {C j : Nat} (hx : IsC x C) (T : Tbs cs C j) : f__law_foreign cs [.im x] = some (.bool false, [.im x]) := by
  have t : (qOr (qTest (qIsX (tb_ValueError cs) (qVar 0))) (qTest (qIsX (tb_LookupError cs) (qVar 0)))) [.im x] = some false := qor_f (qt_ok (isX_ok rfl hx T.b0)) (qt_ok (isX_ok rfl hx T.b1))
  have r : (qOrV (qIsX (tb_ArithmeticError cs) (qVar 0)) (qNotV (qIsX (tb_Exception cs) (qVar 0)))) [.im x] = some (.bool false) := by
    unfold qOrV qNotV
    rw [isX_ok rfl hx T.b2, isX_ok rfl hx T.b3]
    rfl
  exact fn_rt (ms := [.im x]) (δ := [.im x]) rfl rfl ((sq_nx ((sif_f t).trans rfl)).trans (ret_ok r)) rfl
theorem e_caught (i : Int) : f__law_caught [.im (.int i)] = some (.bool (decide (i ≠ 0)), [.im (.int i)]) :=
  fn_rt (ms := [.im (.int i)]) (δ := [.im (.int i), .no]) rfl rfl rfl rfl
theorem xf_ok {Ls : Nat → Bool} {n : Str} {q : QE} {δ : Pst} {C : Nat} {d : D} (h : q δ = some (exD C n d)) (hl : Ls C = true) : qXf Ls n q δ = some d := by
  unfold qXf
  rw [h, Option.bind_some]
  show (if n = n ∧ Ls (C : Int).toNat = true then some d else none) = _
  rw [Int.toNat_natCast, if_pos ⟨rfl, hl⟩]
theorem qcc {a : QE} {r : QA} {δ : Pst} {x : D} {xs : List D} (ha : a δ = some x) (hr : r δ = some xs) : (qCons a r) δ = some (x :: xs) := by
  unfold qCons
  rw [ha, Option.bind_some, hr]
  rfl
theorem mk_ok {K : Nat} {f : Str} {q : QE} {δ : Pst} {d : D} (h : q δ = some d) : qMk K f q δ = some (exD K f d) := by
  unfold qMk
  rw [h]
  rfl
theorem xw_andV {a b : XE} {δ : Pst} {Q : D → Pst → Prop} (h : XW a δ fun d δ1 => d = .bool true ∧ XW b δ1 Q) : XW (xAndV a b) δ Q := by
  obtain ⟨d, δ1, e, rfl, d2, δ2, e2, k⟩ := h
  refine ⟨d2, δ2, ?_, k⟩
  unfold xAndV
  rw [e]
  exact e2
theorem xw_1 {f : FE} {a : XE} {δ : Pst} {Q : D → Pst → Prop} (h : XW a δ fun x δ1 => ∃ r, f [.im x] = some (r, [.im x]) ∧ Q r δ1) : XW (xCall f (rCons a rNil)) δ Q := by
  obtain ⟨x, δ1, e, r, e2, k⟩ := h
  exact ⟨r, δ1, xcf1 e e2, k⟩
def lpQ (cs : Cs) : QT := (qOr (qTest (q2 dNe (qCallF (f__law_of cs) (qCons (q2 dIx (qVar 6) (qVar 7)) qNil)) (qLc (qRng dRng1 (qCons (qC (.int 6)) qNil)) (setD 8) qYes (q2 dEq (qVar 8) (qVar 7)) [8]))) (qOr (qTest (qCallF (f__law_foreign cs) (qCons (q2 dIx (qVar 6) (qVar 7)) qNil))) (qNot (qTest (qIsX (tb_LayError cs) (q2 dIx (qVar 6) (qVar 7)))))))
theorem lpQ_ok {cs : Cs} {row : List Int} {s : Int} {x3 x4 x5 x8 : Sv} {ex : List D} {j C : Nat} {x : D} (h6 : j < 6) (hj : ex[j]? = some x) (hx : IsC x C) (T : Tbs cs C j) : lpQ cs (lw row s [x3, x4, x5, .im (.list ex), .im (.int (j : Nat)), x8]) = some false := by
  have ix : (q2 dIx (qVar 6) (qVar 7)) (lw row s [x3, x4, x5, .im (.list ex), .im (.int (j : Nat)), x8]) = some x := q2_ok (x := .list ex) rfl (y := .int (j : Nat)) rfl (by
    show atI ex ((j : Nat) : Int) = _
    rw [atI_nat', hj])
  have lc : (qLc (qRng dRng1 (qCons (qC (.int 6)) qNil)) (setD 8) qYes (q2 dEq (qVar 8) (qVar 7)) [8]) (lw row s [x3, x4, x5, .im (.list ex), .im (.int (j : Nat)), x8]) = some (ofL j) := by
    have : j = 0 ∨ j = 1 ∨ j = 2 ∨ j = 3 ∨ j = 4 ∨ j = 5 := by omega
    rcases this with rfl | rfl | rfl | rfl | rfl | rfl <;> rfl
  have ne : dNe (ofL j) (ofL j) = some (.bool false) := by
    have : j = 0 ∨ j = 1 ∨ j = 2 ∨ j = 3 ∨ j = 4 ∨ j = 5 := by omega
    rcases this with rfl | rfl | rfl | rfl | rfl | rfl <;> rfl
  exact qor_f (qt_ok (q2_ok (qcf1 ix (e_of hx T)) lc ne)) (qor_f (qt_ok (qcf1 ix (e_foreign hx T))) (qn_ok (qt_ok (isX_ok ix hx T.b4))))
theorem so_non : SoT 8 .none := rfl
theorem so_other {at_ : Int} : ∀ v : Int, 0 ≤ v → v < 5 → ∃ d, dIx (.list [PyData.none, .int (-at_), .str "x", .tuple [.int at_, .int 2], .bool true]) (.int v) = some d ∧ SoT 8 d := fun v v0 v1 => by
  have hv : v = 0 ∨ v = 1 ∨ v = 2 ∨ v = 3 ∨ v = 4 := by omega
  rcases hv with rfl | rfl | rfl | rfl | rfl
  · exact ⟨_, rfl, so_non⟩
  · exact ⟨_, rfl, so_int 7 _⟩
  · exact ⟨_, rfl, so_str 7 _⟩
  · exact ⟨_, rfl, so_tup (show 2 < 2 ^ 62 by decide) fun d hd => by
      simp only [List.mem_cons, List.not_mem_nil, or_false] at hd
      rcases hd with rfl | rfl <;> exact so_int 6 _⟩
  · exact ⟨_, rfl, so_bool true⟩
def otherQ : QE := (qLst (qCons (qC .none) (qCons (q1 dNeg (qVar 3)) (qCons (qC (.str "x")) (qCons (qTup (qCons (qVar 3) (qCons (qC (.int 2)) qNil))) (qCons (qC (.bool true)) qNil))))))
def madeA (cs : Cs) : QE := (qLst (qCons (qMk cs.BadValue "at" (qVar 3)) (qCons (qMk cs.BadText "at" (qVar 3)) (qCons (qMk cs.BadPaper "at" (qVar 3)) (qCons (qMk cs.BadValue "at" (qVar 3)) (qCons (qMk cs.BadText "at" (qVar 3)) (qCons (qMk cs.BadPaper "at" (qVar 3)) qNil)))))))
def madeN (cs : Cs) : QE := (qLst (qCons (qMk cs.NoPiece "name" (qVar 4)) (qCons (qMk cs.TakenName "name" (qVar 4)) (qCons (qMk cs.NoPiece "name" (qVar 4)) (qCons (qMk cs.TakenName "name" (qVar 4)) qNil)))))
def everyQ (cs : Cs) : QE := (qLst (qCons (qMk cs.BadValue "at" (qVar 3)) (qCons (qMk cs.BadText "at" (qVar 3)) (qCons (qMk cs.BadPaper "at" (qVar 3)) (qCons (qMk cs.NoPiece "name" (qVar 4)) (qCons (qMk cs.TakenName "name" (qVar 4)) (qCons (qMk0 cs.TooMany) qNil)))))))
def everyL (cs : Cs) (a o : D) : List D := [exD cs.BadValue "at" a, exD cs.BadText "at" a, exD cs.BadPaper "at" a, exD cs.NoPiece "name" o, exD cs.TakenName "name" o, ex0D cs.TooMany]
theorem every_at {cs : Cs} (ok : cs.Ok) {a o : D} : ∀ j, j < 6 → ∃ x C, (everyL cs a o)[j]? = some x ∧ IsC x C ∧ Tbs cs C j := fun j hj => by
  have : j = 0 ∨ j = 1 ∨ j = 2 ∨ j = 3 ∨ j = 4 ∨ j = 5 := by omega
  rcases this with rfl | rfl | rfl | rfl | rfl | rfl
  · exact ⟨_, _, rfl, isC_ex _ _ _, tbs0 ok⟩
  · exact ⟨_, _, rfl, isC_ex _ _ _, tbs1 ok⟩
  · exact ⟨_, _, rfl, isC_ex _ _ _, tbs2 ok⟩
  · exact ⟨_, _, rfl, isC_ex _ _ _, tbs3 ok⟩
  · exact ⟨_, _, rfl, isC_ex _ _ _, tbs4 ok⟩
  · exact ⟨_, _, rfl, isC_e0 _, tbs5 ok⟩
theorem main : Main := fun cs ok ns hn => by
  obtain ⟨row, hr, _, en⟩ := e_numbers hn
  have go : SW (p_law cs) (lawSt (8 + 1) (eR row)) fun o _ => o = .rt (.bool true) := by
    have p0 : p_law cs = (sSeq (sOwn 2 (qCons (qC (.int 0)) qNil)) (sSeq (sAsgX (x2 dSub (lTk (qC (.int 997))) (xq (qC (.int 9)))) (setD 3)) (sSeq (sAsgX (x2 dIx (xq otherQ) (lTk (qC (.int 5)))) (setD 4)) (sSeq (sFor (qSeq (madeA cs)) (setD 5) (sIf (qNot (qTest (qCallF (f__law_so 8) (qCons (qXf (ls_at cs) "at" (qVar 5)) (qCons (qVar 3) qNil))))) (sRet (qC (.bool false))) sNx)) (sSeq (sFor (qSeq (madeN cs)) (setD 5) (sIf (qNot (qTest (qCallF (f__law_so 8) (qCons (qXf (ls_name cs) "name" (qVar 5)) (qCons (qVar 4) qNil))))) (sRet (qC (.bool false))) sNx)) (sSeq (sAsg (everyQ cs) (setD 6)) (sSeq (sFor (qRng dRng1 (qCons (qC (.int 6)) qNil)) (setD 7) (sIf (lpQ cs) (sRet (qC (.bool false))) sNx)) (sRetX (xAndV (xq (qNotV (qCallF f__law_caught (qCons (qC (.int 0)) qNil)))) (xCall f__law_caught (rCons (x2 dAdd (xq (qC (.int 1))) (lTk (qC (.int 9)))) rNil))))))))))) := rfl
    rw [p0]
    refine sw_seq (sw_own (ds := [.int 0]) rfl (by simp) (by simp [lawSt]) ?_)
    change SW _ (lw row 0 [.no, .no, .no, .no, .no, .no]) _
    refine sw_sX (xw_2 (tkL hr (Int.le_refl 0) rfl (by decide) fun v s1 v0 v1 hs1 => xw_q rfl ⟨.int (v - 9), rfl, by simp [lw], ?_⟩))
    generalize v - 9 = a
    change SW _ (lw row s1 [.im (.int a), .no, .no, .no, .no, .no]) _
    refine sw_sX (xw_2 (xw_q (d := .list [PyData.none, .int (-a), .str "x", .tuple [.int a, .int 2], .bool true]) rfl (tkL hr hs1 rfl (by decide) fun w s2 w0 w1 hs2 => ?_)))
    obtain ⟨o, eo, so⟩ := so_other (at_ := a) w w0 w1
    refine ⟨o, eo, by simp [lw], ?_⟩
    change SW _ (lw row s2 [.im (.int a), .im o, .no, .no, .no, .no]) _
    have la : ∀ C, (C = cs.BadValue ∨ C = cs.BadText ∨ C = cs.BadPaper) → ls_at cs C = true := fun C h => by
      unfold ls_at
      rcases h with rfl | rfl | rfl <;> simp
    have ln : ∀ C, (C = cs.NoPiece ∨ C = cs.TakenName) → ls_name cs C = true := fun C h => by
      unfold ls_name
      rcases h with rfl | rfl <;> simp
    refine sw_seq (sw_for (ds := [exD cs.BadValue "at" (.int a), exD cs.BadText "at" (.int a), exD cs.BadPaper "at" (.int a), exD cs.BadValue "at" (.int a), exD cs.BadText "at" (.int a), exD cs.BadPaper "at" (.int a)]) rfl (fun ds δ => ∃ x5, δ = lw row s2 [.im (.int a), .im o, x5, .no, .no, .no] ∧ ∀ d ∈ ds, ∃ C, d = exD C "at" (.int a) ∧ ls_at cs C = true) ⟨_, rfl, fun d hd => ?_⟩ ?_ ?_)
    · simp only [List.mem_cons, List.not_mem_nil, or_false] at hd
      rcases hd with rfl | rfl | rfl | rfl | rfl | rfl
      · exact ⟨_, rfl, la _ (.inl rfl)⟩
      · exact ⟨_, rfl, la _ (.inr (.inl rfl))⟩
      · exact ⟨_, rfl, la _ (.inr (.inr rfl))⟩
      · exact ⟨_, rfl, la _ (.inl rfl)⟩
      · exact ⟨_, rfl, la _ (.inr (.inl rfl))⟩
      · exact ⟨_, rfl, la _ (.inr (.inr rfl))⟩
    · rintro d ds δ ⟨x5, rfl, hd⟩
      obtain ⟨C, rfl, hl⟩ := hd d List.mem_cons_self
      refine ⟨lw row s2 [.im (.int a), .im o, .im (exD C "at" (.int a)), .no, .no, .no], rfl, ?_⟩
      exact sw_no (qn_ok (qt_ok (qcf2 (xf_ok (q := qVar 5) (C := C) rfl hl) (y := .int a) rfl (so_int 7 a)))) ⟨_, rfl, fun e he => hd e (List.mem_cons_of_mem _ he)⟩
    · rintro δ ⟨x5, rfl, _⟩
      show SW _ _ _
      refine sw_seq (sw_for (ds := [exD cs.NoPiece "name" o, exD cs.TakenName "name" o, exD cs.NoPiece "name" o, exD cs.TakenName "name" o]) rfl (fun ds δ => ∃ x5, δ = lw row s2 [.im (.int a), .im o, x5, .no, .no, .no] ∧ ∀ d ∈ ds, ∃ C, d = exD C "name" o ∧ ls_name cs C = true) ⟨_, rfl, fun d hd => ?_⟩ ?_ ?_)
      · simp only [List.mem_cons, List.not_mem_nil, or_false] at hd
        rcases hd with rfl | rfl | rfl | rfl
        · exact ⟨_, rfl, ln _ (.inl rfl)⟩
        · exact ⟨_, rfl, ln _ (.inr rfl)⟩
        · exact ⟨_, rfl, ln _ (.inl rfl)⟩
        · exact ⟨_, rfl, ln _ (.inr rfl)⟩
      · rintro d ds δ ⟨x5, rfl, hd⟩
        obtain ⟨C, rfl, hl⟩ := hd d List.mem_cons_self
        refine ⟨lw row s2 [.im (.int a), .im o, .im (exD C "name" o), .no, .no, .no], rfl, ?_⟩
        exact sw_no (qn_ok (qt_ok (qcf2 (xf_ok (q := qVar 5) (C := C) rfl hl) (y := o) rfl so))) ⟨_, rfl, fun e he => hd e (List.mem_cons_of_mem _ he)⟩
      · rintro δ ⟨x5, rfl, _⟩
        show SW _ _ _
        refine sw_sq (d := .list (everyL cs (.int a) o)) rfl (by simp [lw]) ?_
        change SW _ (lw row s2 [.im (.int a), .im o, x5, .im (.list (everyL cs (.int a) o)), .no, .no]) _
        refine sw_seq (sw_for (ds := [0, 1, 2, 3, 4, 5].map fun j : Nat => .int (j : Nat)) rfl (fun ds δ => ∃ (js : List Nat) (x7 : Sv), δ = lw row s2 [.im (.int a), .im o, x5, .im (.list (everyL cs (.int a) o)), x7, .no] ∧ ds = js.map (fun j : Nat => .int (j : Nat)) ∧ ∀ j ∈ js, j < 6) ⟨[0, 1, 2, 3, 4, 5], _, rfl, rfl, by decide⟩ ?_ ?_)
        · rintro d ds δ ⟨js, x7, rfl, hd, hj⟩
          cases js with
          | nil => cases hd
          | cons j js =>
            rw [List.map_cons] at hd
            obtain ⟨rfl, rfl⟩ := List.cons.inj hd
            refine ⟨lw row s2 [.im (.int a), .im o, x5, .im (.list (everyL cs (.int a) o)), .im (.int (j : Nat)), .no], rfl, ?_⟩
            obtain ⟨x, C, hx, ic, T⟩ := every_at (a := .int a) (o := o) ok j (hj j List.mem_cons_self)
            exact sw_no (lpQ_ok (hj j List.mem_cons_self) hx ic T) ⟨js, _, rfl, rfl, fun i hi => hj i (List.mem_cons_of_mem _ hi)⟩
        · rintro δ ⟨js, x7, rfl, _, _⟩
          show SW _ _ _
          refine sw_rtX (xw_andV (xw_q (d := .bool true) ?_ ⟨rfl, ?_⟩))
          · have := qcf1 (f := f__law_caught) (a := qC (.int 0)) (δ := lw row s2 [.im (.int a), .im o, x5, .im (.list (everyL cs (.int a) o)), x7, .no]) (x := .int 0) rfl (e_caught 0)
            unfold qNotV
            rw [this]
            rfl
          · refine xw_1 (xw_2 (xw_q rfl (tkL hr hs2 rfl (by decide) fun v s3 v0 v1 hs3 => ⟨.int (1 + v), rfl, _, e_caught _, ?_⟩)))
            rw [decide_eq_true (by omega)]
  obtain ⟨o, δ', e, rfl⟩ := go
  exact ⟨eR row, δ', en, e⟩
end K00

set_option maxHeartbeats 4000000
namespace K00
open PySem L2 Pu
theorem all_mk {l : PySem.W.OpenLaw} {w : World} {K : PySem.W.Frag} {h : Heap} {mg : Str → Option Value} {fa : Addr} (hM : Main) (X : K.In h) (G : h.Ns mainGlobals mg) (hfa : mg "law" = some (.ref fa))
    {f__law_so : Addr} {od__law_so an__law_so : Option Addr} {sl__law_so : Array (Option Value)} {oc__law_so kV__law_so dc__law_so pm__law_so cd__law_so ct__law_so : Value}
    (a__law_so : PySem.W.nsIn K mainGlobals "_law_so" = some (some (.ref f__law_so))) (l__law_so : K.lookup f__law_so = some ⟨oc__law_so, od__law_so, .func (PySem.W.fnOf "_law_so" "_law_so" (defArgs s__law_so) (defBody s__law_so) (defScope s__law_so) .none kV__law_so dc__law_so pm__law_so an__law_so cd__law_so ct__law_so), sl__law_so⟩) (c__law_so : PySem.W.codeIn K cd__law_so "_law_so" = true) (k__law_so : PySem.W.keepIn K (.ref f__law_so) = true)
    {f__law_draw : Addr} {od__law_draw an__law_draw : Option Addr} {sl__law_draw : Array (Option Value)} {oc__law_draw kV__law_draw dc__law_draw pm__law_draw cd__law_draw ct__law_draw : Value}
    (a__law_draw : PySem.W.nsIn K mainGlobals "_law_draw" = some (some (.ref f__law_draw))) (l__law_draw : K.lookup f__law_draw = some ⟨oc__law_draw, od__law_draw, .func (PySem.W.fnOf "_law_draw" "_law_draw" (defArgs s__law_draw) (defBody s__law_draw) (defScope s__law_draw) .none kV__law_draw dc__law_draw pm__law_draw an__law_draw cd__law_draw ct__law_draw), sl__law_draw⟩) (c__law_draw : PySem.W.codeIn K cd__law_draw "_law_draw" = true) (k__law_draw : PySem.W.keepIn K (.ref f__law_draw) = true)
    {f__law_take : Addr} {od__law_take an__law_take : Option Addr} {sl__law_take : Array (Option Value)} {oc__law_take kV__law_take dc__law_take pm__law_take cd__law_take ct__law_take : Value}
    (a__law_take : PySem.W.nsIn K mainGlobals "_law_take" = some (some (.ref f__law_take))) (l__law_take : K.lookup f__law_take = some ⟨oc__law_take, od__law_take, .func (PySem.W.fnOf "_law_take" "_law_take" (defArgs s__law_take) (defBody s__law_take) (defScope s__law_take) .none kV__law_take dc__law_take pm__law_take an__law_take cd__law_take ct__law_take), sl__law_take⟩) (c__law_take : PySem.W.codeIn K cd__law_take "_law_take" = true) (k__law_take : PySem.W.keepIn K (.ref f__law_take) = true)
    {f__law_of : Addr} {od__law_of an__law_of : Option Addr} {sl__law_of : Array (Option Value)} {oc__law_of kV__law_of dc__law_of pm__law_of cd__law_of ct__law_of : Value}
    (a__law_of : PySem.W.nsIn K mainGlobals "_law_of" = some (some (.ref f__law_of))) (l__law_of : K.lookup f__law_of = some ⟨oc__law_of, od__law_of, .func (PySem.W.fnOf "_law_of" "_law_of" (defArgs s__law_of) (defBody s__law_of) (defScope s__law_of) .none kV__law_of dc__law_of pm__law_of an__law_of cd__law_of ct__law_of), sl__law_of⟩) (c__law_of : PySem.W.codeIn K cd__law_of "_law_of" = true) (k__law_of : PySem.W.keepIn K (.ref f__law_of) = true)
    {f__law_foreign : Addr} {od__law_foreign an__law_foreign : Option Addr} {sl__law_foreign : Array (Option Value)} {oc__law_foreign kV__law_foreign dc__law_foreign pm__law_foreign cd__law_foreign ct__law_foreign : Value}
    (a__law_foreign : PySem.W.nsIn K mainGlobals "_law_foreign" = some (some (.ref f__law_foreign))) (l__law_foreign : K.lookup f__law_foreign = some ⟨oc__law_foreign, od__law_foreign, .func (PySem.W.fnOf "_law_foreign" "_law_foreign" (defArgs s__law_foreign) (defBody s__law_foreign) (defScope s__law_foreign) .none kV__law_foreign dc__law_foreign pm__law_foreign an__law_foreign cd__law_foreign ct__law_foreign), sl__law_foreign⟩) (c__law_foreign : PySem.W.codeIn K cd__law_foreign "_law_foreign" = true) (k__law_foreign : PySem.W.keepIn K (.ref f__law_foreign) = true)
    {f__law_caught : Addr} {od__law_caught an__law_caught : Option Addr} {sl__law_caught : Array (Option Value)} {oc__law_caught kV__law_caught dc__law_caught pm__law_caught cd__law_caught ct__law_caught : Value}
    (a__law_caught : PySem.W.nsIn K mainGlobals "_law_caught" = some (some (.ref f__law_caught))) (l__law_caught : K.lookup f__law_caught = some ⟨oc__law_caught, od__law_caught, .func (PySem.W.fnOf "_law_caught" "_law_caught" (defArgs s__law_caught) (defBody s__law_caught) (defScope s__law_caught) .none kV__law_caught dc__law_caught pm__law_caught an__law_caught cd__law_caught ct__law_caught), sl__law_caught⟩) (c__law_caught : PySem.W.codeIn K cd__law_caught "_law_caught" = true) (k__law_caught : PySem.W.keepIn K (.ref f__law_caught) = true)
    {f__law_numbers : Addr} {od__law_numbers an__law_numbers : Option Addr} {sl__law_numbers : Array (Option Value)} {oc__law_numbers kV__law_numbers dc__law_numbers pm__law_numbers cd__law_numbers ct__law_numbers : Value}
    (a__law_numbers : PySem.W.nsIn K mainGlobals "_law_numbers" = some (some (.ref f__law_numbers))) (l__law_numbers : K.lookup f__law_numbers = some ⟨oc__law_numbers, od__law_numbers, .func (PySem.W.fnOf "_law_numbers" "_law_numbers" (defArgs s__law_numbers) (defBody s__law_numbers) (defScope s__law_numbers) .none kV__law_numbers dc__law_numbers pm__law_numbers an__law_numbers cd__law_numbers ct__law_numbers), sl__law_numbers⟩) (c__law_numbers : PySem.W.codeIn K cd__law_numbers "_law_numbers" = true) (k__law_numbers : PySem.W.keepIn K (.ref f__law_numbers) = true)
    {f_law : Addr} {od_law an_law : Option Addr} {sl_law : Array (Option Value)} {oc_law kV_law dc_law pm_law cd_law ct_law : Value}
    (a_law : PySem.W.nsIn K mainGlobals "law" = some (some (.ref f_law))) (l_law : K.lookup f_law = some ⟨oc_law, od_law, .func (PySem.W.fnOf "law" "law" (defArgs s_law) (defBody s_law) (defScope s_law) .none kV_law dc_law pm_law an_law cd_law ct_law), sl_law⟩) (c_law : PySem.W.codeIn K cd_law "law" = true) (k_law : PySem.W.keepIn K (.ref f_law) = true)
    {C_BadValue : Addr} (zC_BadValue : PySem.W.nsIn K mainGlobals "BadValue" = some (some (.ref C_BadValue)))
    {C_BadText : Addr} (zC_BadText : PySem.W.nsIn K mainGlobals "BadText" = some (some (.ref C_BadText)))
    {C_BadPaper : Addr} (zC_BadPaper : PySem.W.nsIn K mainGlobals "BadPaper" = some (some (.ref C_BadPaper)))
    {C_NoPiece : Addr} (zC_NoPiece : PySem.W.nsIn K mainGlobals "NoPiece" = some (some (.ref C_NoPiece)))
    {C_TakenName : Addr} (zC_TakenName : PySem.W.nsIn K mainGlobals "TakenName" = some (some (.ref C_TakenName)))
    {C_TooMany : Addr} (zC_TooMany : PySem.W.nsIn K mainGlobals "TooMany" = some (some (.ref C_TooMany)))
    {C_LayError : Addr} (zC_LayError : PySem.W.nsIn K mainGlobals "LayError" = some (some (.ref C_LayError)))
    (wn : PySem.W.specialIn K (.builtin "object.__class__") "__get__" = some (some (.builtin "getset_descriptor.__get__"))) (wt : PySem.W.takesIn K (.builtin "object.__class__") = some true)
    (zg_BadValue : PySem.W.findIn K (.ref C_BadValue) "__getattribute__" = some (some (.builtin "BaseException.__getattribute__"))) (zh_BadValue : PySem.W.findIn K (.ref C_BadValue) "__getattr__" = some none) (zb_BadValue : PySem.W.subIn K (.ref C_BadValue) (.type "BaseException") = some true) (zd_BadValue : PySem.W.hasDictIn K C_BadValue = true) (za_BadValue : PySem.W.findIn K (.ref C_BadValue) "__class__" = some (some (.builtin "object.__class__"))) (zM_BadValue : PySem.W.mroIn K C_BadValue (.type "object") = some true) (zy_BadValue : PySem.W.typeIn K (.ref C_BadValue) = some (.type "type")) (zp_BadValue : PySem.W.keepIn K (.ref C_BadValue) = true)
    (zg_BadText : PySem.W.findIn K (.ref C_BadText) "__getattribute__" = some (some (.builtin "BaseException.__getattribute__"))) (zh_BadText : PySem.W.findIn K (.ref C_BadText) "__getattr__" = some none) (zb_BadText : PySem.W.subIn K (.ref C_BadText) (.type "BaseException") = some true) (zd_BadText : PySem.W.hasDictIn K C_BadText = true) (za_BadText : PySem.W.findIn K (.ref C_BadText) "__class__" = some (some (.builtin "object.__class__"))) (zM_BadText : PySem.W.mroIn K C_BadText (.type "object") = some true) (zy_BadText : PySem.W.typeIn K (.ref C_BadText) = some (.type "type")) (zp_BadText : PySem.W.keepIn K (.ref C_BadText) = true)
    (zg_BadPaper : PySem.W.findIn K (.ref C_BadPaper) "__getattribute__" = some (some (.builtin "BaseException.__getattribute__"))) (zh_BadPaper : PySem.W.findIn K (.ref C_BadPaper) "__getattr__" = some none) (zb_BadPaper : PySem.W.subIn K (.ref C_BadPaper) (.type "BaseException") = some true) (zd_BadPaper : PySem.W.hasDictIn K C_BadPaper = true) (za_BadPaper : PySem.W.findIn K (.ref C_BadPaper) "__class__" = some (some (.builtin "object.__class__"))) (zM_BadPaper : PySem.W.mroIn K C_BadPaper (.type "object") = some true) (zy_BadPaper : PySem.W.typeIn K (.ref C_BadPaper) = some (.type "type")) (zp_BadPaper : PySem.W.keepIn K (.ref C_BadPaper) = true)
    (zg_NoPiece : PySem.W.findIn K (.ref C_NoPiece) "__getattribute__" = some (some (.builtin "BaseException.__getattribute__"))) (zh_NoPiece : PySem.W.findIn K (.ref C_NoPiece) "__getattr__" = some none) (zb_NoPiece : PySem.W.subIn K (.ref C_NoPiece) (.type "BaseException") = some true) (zd_NoPiece : PySem.W.hasDictIn K C_NoPiece = true) (za_NoPiece : PySem.W.findIn K (.ref C_NoPiece) "__class__" = some (some (.builtin "object.__class__"))) (zM_NoPiece : PySem.W.mroIn K C_NoPiece (.type "object") = some true) (zy_NoPiece : PySem.W.typeIn K (.ref C_NoPiece) = some (.type "type")) (zp_NoPiece : PySem.W.keepIn K (.ref C_NoPiece) = true)
    (zg_TakenName : PySem.W.findIn K (.ref C_TakenName) "__getattribute__" = some (some (.builtin "BaseException.__getattribute__"))) (zh_TakenName : PySem.W.findIn K (.ref C_TakenName) "__getattr__" = some none) (zb_TakenName : PySem.W.subIn K (.ref C_TakenName) (.type "BaseException") = some true) (zd_TakenName : PySem.W.hasDictIn K C_TakenName = true) (za_TakenName : PySem.W.findIn K (.ref C_TakenName) "__class__" = some (some (.builtin "object.__class__"))) (zM_TakenName : PySem.W.mroIn K C_TakenName (.type "object") = some true) (zy_TakenName : PySem.W.typeIn K (.ref C_TakenName) = some (.type "type")) (zp_TakenName : PySem.W.keepIn K (.ref C_TakenName) = true)
    (zg_TooMany : PySem.W.findIn K (.ref C_TooMany) "__getattribute__" = some (some (.builtin "BaseException.__getattribute__"))) (zh_TooMany : PySem.W.findIn K (.ref C_TooMany) "__getattr__" = some none) (zb_TooMany : PySem.W.subIn K (.ref C_TooMany) (.type "BaseException") = some true) (zd_TooMany : PySem.W.hasDictIn K C_TooMany = true) (za_TooMany : PySem.W.findIn K (.ref C_TooMany) "__class__" = some (some (.builtin "object.__class__"))) (zM_TooMany : PySem.W.mroIn K C_TooMany (.type "object") = some true) (zy_TooMany : PySem.W.typeIn K (.ref C_TooMany) = some (.type "type")) (zp_TooMany : PySem.W.keepIn K (.ref C_TooMany) = true)
    {aI_BadValue : Addr} {odI_BadValue anI_BadValue : Option Addr} {slI_BadValue : Array (Option Value)} {ocI_BadValue kVI_BadValue dcI_BadValue pmI_BadValue cdI_BadValue ctI_BadValue : Value}
    (zi_BadValue : PySem.W.findIn K (.ref C_BadValue) "__init__" = some (some (.ref aI_BadValue))) (zl_BadValue : K.lookup aI_BadValue = some ⟨ocI_BadValue, odI_BadValue, .func (PySem.W.fnOf "__init__" "BadValue.__init__" (defArgs s_init_BadValue) (defBody s_init_BadValue) (defScope s_init_BadValue) .none kVI_BadValue dcI_BadValue pmI_BadValue anI_BadValue cdI_BadValue ctI_BadValue), slI_BadValue⟩) (zc_BadValue : PySem.W.codeIn K cdI_BadValue "BadValue.__init__" = true) (zk_BadValue : PySem.W.keepIn K (.ref aI_BadValue) = true) (zt_BadValue : PySem.W.typeIn K (.ref aI_BadValue) = some (.type "function"))
    (zm_BadValue : PySem.W.excInitIn K C_BadValue exL "Exception.__new__" = true) (zo_BadValue : PySem.W.excOver K C_BadValue exL = true) (zs_BadValue : PySem.W.findIn K (.ref C_BadValue) "__setattr__" = some (some (.builtin "object.__setattr__"))) (zn_BadValue : PySem.W.takerIn K C_BadValue "at" = some none) (zf_BadValue : PySem.W.findIn K (.ref C_BadValue) "at" = some none)
    {aI_BadText : Addr} {odI_BadText anI_BadText : Option Addr} {slI_BadText : Array (Option Value)} {ocI_BadText kVI_BadText dcI_BadText pmI_BadText cdI_BadText ctI_BadText : Value}
    (zi_BadText : PySem.W.findIn K (.ref C_BadText) "__init__" = some (some (.ref aI_BadText))) (zl_BadText : K.lookup aI_BadText = some ⟨ocI_BadText, odI_BadText, .func (PySem.W.fnOf "__init__" "BadText.__init__" (defArgs s_init_BadText) (defBody s_init_BadText) (defScope s_init_BadText) .none kVI_BadText dcI_BadText pmI_BadText anI_BadText cdI_BadText ctI_BadText), slI_BadText⟩) (zc_BadText : PySem.W.codeIn K cdI_BadText "BadText.__init__" = true) (zk_BadText : PySem.W.keepIn K (.ref aI_BadText) = true) (zt_BadText : PySem.W.typeIn K (.ref aI_BadText) = some (.type "function"))
    (zm_BadText : PySem.W.excInitIn K C_BadText exL "Exception.__new__" = true) (zo_BadText : PySem.W.excOver K C_BadText exL = true) (zs_BadText : PySem.W.findIn K (.ref C_BadText) "__setattr__" = some (some (.builtin "object.__setattr__"))) (zn_BadText : PySem.W.takerIn K C_BadText "at" = some none) (zf_BadText : PySem.W.findIn K (.ref C_BadText) "at" = some none)
    {aI_BadPaper : Addr} {odI_BadPaper anI_BadPaper : Option Addr} {slI_BadPaper : Array (Option Value)} {ocI_BadPaper kVI_BadPaper dcI_BadPaper pmI_BadPaper cdI_BadPaper ctI_BadPaper : Value}
    (zi_BadPaper : PySem.W.findIn K (.ref C_BadPaper) "__init__" = some (some (.ref aI_BadPaper))) (zl_BadPaper : K.lookup aI_BadPaper = some ⟨ocI_BadPaper, odI_BadPaper, .func (PySem.W.fnOf "__init__" "BadPaper.__init__" (defArgs s_init_BadPaper) (defBody s_init_BadPaper) (defScope s_init_BadPaper) .none kVI_BadPaper dcI_BadPaper pmI_BadPaper anI_BadPaper cdI_BadPaper ctI_BadPaper), slI_BadPaper⟩) (zc_BadPaper : PySem.W.codeIn K cdI_BadPaper "BadPaper.__init__" = true) (zk_BadPaper : PySem.W.keepIn K (.ref aI_BadPaper) = true) (zt_BadPaper : PySem.W.typeIn K (.ref aI_BadPaper) = some (.type "function"))
    (zm_BadPaper : PySem.W.excInitIn K C_BadPaper exL "Exception.__new__" = true) (zo_BadPaper : PySem.W.excOver K C_BadPaper exL = true) (zs_BadPaper : PySem.W.findIn K (.ref C_BadPaper) "__setattr__" = some (some (.builtin "object.__setattr__"))) (zn_BadPaper : PySem.W.takerIn K C_BadPaper "at" = some none) (zf_BadPaper : PySem.W.findIn K (.ref C_BadPaper) "at" = some none)
    {aI_NoPiece : Addr} {odI_NoPiece anI_NoPiece : Option Addr} {slI_NoPiece : Array (Option Value)} {ocI_NoPiece kVI_NoPiece dcI_NoPiece pmI_NoPiece cdI_NoPiece ctI_NoPiece : Value}
    (zi_NoPiece : PySem.W.findIn K (.ref C_NoPiece) "__init__" = some (some (.ref aI_NoPiece))) (zl_NoPiece : K.lookup aI_NoPiece = some ⟨ocI_NoPiece, odI_NoPiece, .func (PySem.W.fnOf "__init__" "NoPiece.__init__" (defArgs s_init_NoPiece) (defBody s_init_NoPiece) (defScope s_init_NoPiece) .none kVI_NoPiece dcI_NoPiece pmI_NoPiece anI_NoPiece cdI_NoPiece ctI_NoPiece), slI_NoPiece⟩) (zc_NoPiece : PySem.W.codeIn K cdI_NoPiece "NoPiece.__init__" = true) (zk_NoPiece : PySem.W.keepIn K (.ref aI_NoPiece) = true) (zt_NoPiece : PySem.W.typeIn K (.ref aI_NoPiece) = some (.type "function"))
    (zm_NoPiece : PySem.W.excInitIn K C_NoPiece exL "Exception.__new__" = true) (zo_NoPiece : PySem.W.excOver K C_NoPiece exL = true) (zs_NoPiece : PySem.W.findIn K (.ref C_NoPiece) "__setattr__" = some (some (.builtin "object.__setattr__"))) (zn_NoPiece : PySem.W.takerIn K C_NoPiece "name" = some none) (zf_NoPiece : PySem.W.findIn K (.ref C_NoPiece) "name" = some none)
    {aI_TakenName : Addr} {odI_TakenName anI_TakenName : Option Addr} {slI_TakenName : Array (Option Value)} {ocI_TakenName kVI_TakenName dcI_TakenName pmI_TakenName cdI_TakenName ctI_TakenName : Value}
    (zi_TakenName : PySem.W.findIn K (.ref C_TakenName) "__init__" = some (some (.ref aI_TakenName))) (zl_TakenName : K.lookup aI_TakenName = some ⟨ocI_TakenName, odI_TakenName, .func (PySem.W.fnOf "__init__" "TakenName.__init__" (defArgs s_init_TakenName) (defBody s_init_TakenName) (defScope s_init_TakenName) .none kVI_TakenName dcI_TakenName pmI_TakenName anI_TakenName cdI_TakenName ctI_TakenName), slI_TakenName⟩) (zc_TakenName : PySem.W.codeIn K cdI_TakenName "TakenName.__init__" = true) (zk_TakenName : PySem.W.keepIn K (.ref aI_TakenName) = true) (zt_TakenName : PySem.W.typeIn K (.ref aI_TakenName) = some (.type "function"))
    (zm_TakenName : PySem.W.excInitIn K C_TakenName exL "Exception.__new__" = true) (zo_TakenName : PySem.W.excOver K C_TakenName exL = true) (zs_TakenName : PySem.W.findIn K (.ref C_TakenName) "__setattr__" = some (some (.builtin "object.__setattr__"))) (zn_TakenName : PySem.W.takerIn K C_TakenName "name" = some none) (zf_TakenName : PySem.W.findIn K (.ref C_TakenName) "name" = some none)
    (zq_TooMany : PySem.W.excIn K C_TooMany exL "Exception.__new__" = true)
    (yb : PySem.W.subIn K (.ref C_LayError) (.type "BaseException") = some true) (yd : PySem.W.hasDictIn K C_LayError = true) (yt : PySem.W.typeIn K (.ref C_LayError) = some (.type "type"))
    (ys_TooMany : PySem.W.subIn K (.ref C_TooMany) (.ref C_LayError) = some true)
    (ys_NoPiece : PySem.W.subIn K (.ref C_NoPiece) (.ref C_LayError) = some true)
    (k_BadValue_BadValue : PySem.W.kitOne K (.ref C_BadValue) (.ref C_BadValue) = some true)
    (k_BadValue_BadText : PySem.W.kitOne K (.ref C_BadValue) (.ref C_BadText) = some false)
    (k_BadValue_BadPaper : PySem.W.kitOne K (.ref C_BadValue) (.ref C_BadPaper) = some false)
    (k_BadValue_NoPiece : PySem.W.kitOne K (.ref C_BadValue) (.ref C_NoPiece) = some false)
    (k_BadValue_TakenName : PySem.W.kitOne K (.ref C_BadValue) (.ref C_TakenName) = some false)
    (k_BadValue_TooMany : PySem.W.kitOne K (.ref C_BadValue) (.ref C_TooMany) = some false)
    (k_BadValue_LayError : PySem.W.kitOne K (.ref C_BadValue) (.ref C_LayError) = some true)
    (k_BadValue_ValueError : PySem.W.kitOne K (.ref C_BadValue) (.type "ValueError") = some false)
    (k_BadValue_LookupError : PySem.W.kitOne K (.ref C_BadValue) (.type "LookupError") = some false)
    (k_BadValue_ArithmeticError : PySem.W.kitOne K (.ref C_BadValue) (.type "ArithmeticError") = some false)
    (k_BadValue_Exception : PySem.W.kitOne K (.ref C_BadValue) (.type "Exception") = some true)
    (k_BadText_BadValue : PySem.W.kitOne K (.ref C_BadText) (.ref C_BadValue) = some false)
    (k_BadText_BadText : PySem.W.kitOne K (.ref C_BadText) (.ref C_BadText) = some true)
    (k_BadText_BadPaper : PySem.W.kitOne K (.ref C_BadText) (.ref C_BadPaper) = some false)
    (k_BadText_NoPiece : PySem.W.kitOne K (.ref C_BadText) (.ref C_NoPiece) = some false)
    (k_BadText_TakenName : PySem.W.kitOne K (.ref C_BadText) (.ref C_TakenName) = some false)
    (k_BadText_TooMany : PySem.W.kitOne K (.ref C_BadText) (.ref C_TooMany) = some false)
    (k_BadText_LayError : PySem.W.kitOne K (.ref C_BadText) (.ref C_LayError) = some true)
    (k_BadText_ValueError : PySem.W.kitOne K (.ref C_BadText) (.type "ValueError") = some false)
    (k_BadText_LookupError : PySem.W.kitOne K (.ref C_BadText) (.type "LookupError") = some false)
    (k_BadText_ArithmeticError : PySem.W.kitOne K (.ref C_BadText) (.type "ArithmeticError") = some false)
    (k_BadText_Exception : PySem.W.kitOne K (.ref C_BadText) (.type "Exception") = some true)
    (k_BadPaper_BadValue : PySem.W.kitOne K (.ref C_BadPaper) (.ref C_BadValue) = some false)
    (k_BadPaper_BadText : PySem.W.kitOne K (.ref C_BadPaper) (.ref C_BadText) = some false)
    (k_BadPaper_BadPaper : PySem.W.kitOne K (.ref C_BadPaper) (.ref C_BadPaper) = some true)
    (k_BadPaper_NoPiece : PySem.W.kitOne K (.ref C_BadPaper) (.ref C_NoPiece) = some false)
    (k_BadPaper_TakenName : PySem.W.kitOne K (.ref C_BadPaper) (.ref C_TakenName) = some false)
    (k_BadPaper_TooMany : PySem.W.kitOne K (.ref C_BadPaper) (.ref C_TooMany) = some false)
    (k_BadPaper_LayError : PySem.W.kitOne K (.ref C_BadPaper) (.ref C_LayError) = some true)
    (k_BadPaper_ValueError : PySem.W.kitOne K (.ref C_BadPaper) (.type "ValueError") = some false)
    (k_BadPaper_LookupError : PySem.W.kitOne K (.ref C_BadPaper) (.type "LookupError") = some false)
    (k_BadPaper_ArithmeticError : PySem.W.kitOne K (.ref C_BadPaper) (.type "ArithmeticError") = some false)
    (k_BadPaper_Exception : PySem.W.kitOne K (.ref C_BadPaper) (.type "Exception") = some true)
    (k_NoPiece_BadValue : PySem.W.kitOne K (.ref C_NoPiece) (.ref C_BadValue) = some false)
    (k_NoPiece_BadText : PySem.W.kitOne K (.ref C_NoPiece) (.ref C_BadText) = some false)
    (k_NoPiece_BadPaper : PySem.W.kitOne K (.ref C_NoPiece) (.ref C_BadPaper) = some false)
    (k_NoPiece_NoPiece : PySem.W.kitOne K (.ref C_NoPiece) (.ref C_NoPiece) = some true)
    (k_NoPiece_TakenName : PySem.W.kitOne K (.ref C_NoPiece) (.ref C_TakenName) = some false)
    (k_NoPiece_TooMany : PySem.W.kitOne K (.ref C_NoPiece) (.ref C_TooMany) = some false)
    (k_NoPiece_LayError : PySem.W.kitOne K (.ref C_NoPiece) (.ref C_LayError) = some true)
    (k_NoPiece_ValueError : PySem.W.kitOne K (.ref C_NoPiece) (.type "ValueError") = some false)
    (k_NoPiece_LookupError : PySem.W.kitOne K (.ref C_NoPiece) (.type "LookupError") = some false)
    (k_NoPiece_ArithmeticError : PySem.W.kitOne K (.ref C_NoPiece) (.type "ArithmeticError") = some false)
    (k_NoPiece_Exception : PySem.W.kitOne K (.ref C_NoPiece) (.type "Exception") = some true)
    (k_TakenName_BadValue : PySem.W.kitOne K (.ref C_TakenName) (.ref C_BadValue) = some false)
    (k_TakenName_BadText : PySem.W.kitOne K (.ref C_TakenName) (.ref C_BadText) = some false)
    (k_TakenName_BadPaper : PySem.W.kitOne K (.ref C_TakenName) (.ref C_BadPaper) = some false)
    (k_TakenName_NoPiece : PySem.W.kitOne K (.ref C_TakenName) (.ref C_NoPiece) = some false)
    (k_TakenName_TakenName : PySem.W.kitOne K (.ref C_TakenName) (.ref C_TakenName) = some true)
    (k_TakenName_TooMany : PySem.W.kitOne K (.ref C_TakenName) (.ref C_TooMany) = some false)
    (k_TakenName_LayError : PySem.W.kitOne K (.ref C_TakenName) (.ref C_LayError) = some true)
    (k_TakenName_ValueError : PySem.W.kitOne K (.ref C_TakenName) (.type "ValueError") = some false)
    (k_TakenName_LookupError : PySem.W.kitOne K (.ref C_TakenName) (.type "LookupError") = some false)
    (k_TakenName_ArithmeticError : PySem.W.kitOne K (.ref C_TakenName) (.type "ArithmeticError") = some false)
    (k_TakenName_Exception : PySem.W.kitOne K (.ref C_TakenName) (.type "Exception") = some true)
    (k_TooMany_BadValue : PySem.W.kitOne K (.ref C_TooMany) (.ref C_BadValue) = some false)
    (k_TooMany_BadText : PySem.W.kitOne K (.ref C_TooMany) (.ref C_BadText) = some false)
    (k_TooMany_BadPaper : PySem.W.kitOne K (.ref C_TooMany) (.ref C_BadPaper) = some false)
    (k_TooMany_NoPiece : PySem.W.kitOne K (.ref C_TooMany) (.ref C_NoPiece) = some false)
    (k_TooMany_TakenName : PySem.W.kitOne K (.ref C_TooMany) (.ref C_TakenName) = some false)
    (k_TooMany_TooMany : PySem.W.kitOne K (.ref C_TooMany) (.ref C_TooMany) = some true)
    (k_TooMany_LayError : PySem.W.kitOne K (.ref C_TooMany) (.ref C_LayError) = some true)
    (k_TooMany_ValueError : PySem.W.kitOne K (.ref C_TooMany) (.type "ValueError") = some false)
    (k_TooMany_LookupError : PySem.W.kitOne K (.ref C_TooMany) (.type "LookupError") = some false)
    (k_TooMany_ArithmeticError : PySem.W.kitOne K (.ref C_TooMany) (.type "ArithmeticError") = some false)
    (k_TooMany_Exception : PySem.W.kitOne K (.ref C_TooMany) (.type "Exception") = some true)
    (z_ArithmeticError : PySem.W.nsIn K mainGlobals "ArithmeticError" = some none)
    (z_Exception : PySem.W.nsIn K mainGlobals "Exception" = some none)
    (z_LookupError : PySem.W.nsIn K mainGlobals "LookupError" = some none)
    (z_ValueError : PySem.W.nsIn K mainGlobals "ValueError" = some none)
    (z_bool : PySem.W.nsIn K mainGlobals "bool" = some none)
    (z_int : PySem.W.nsIn K mainGlobals "int" = some none)
    (z_isinstance : PySem.W.nsIn K mainGlobals "isinstance" = some none)
    (z_len : PySem.W.nsIn K mainGlobals "len" = some none)
    (z_range : PySem.W.nsIn K mainGlobals "range" = some none)
    (z_str : PySem.W.nsIn K mainGlobals "str" = some none)
    (z_tuple : PySem.W.nsIn K mainGlobals "tuple" = some none)
    : ∃ fd : FuncData, (∀ (s : Shared) (v : Value), BindsTo s fd ⟨[v], []⟩ [("script", v)]) ∧ ∀ base : Heap, K.In base → base.Ns mainGlobals mg → FnOk l.prog w K mg base CX0 9 fa fd ["script"] (spLawM K) := by
  have e := hfa.symm.trans (PySem.W.mg_of X G a_law)
  cases e
  let T : Top K mg := {
    a__law_so := _,
    d__law_so := _,
    F__law_so := fun_mk (st := s__law_so) l__law_so c__law_so k__law_so,
    g__law_so := PySem.W.mg_of X G a__law_so,
    b__law_so := (fun_mk (st := s__law_so) l__law_so c__law_so k__law_so).binds (ps := ["found", "meant"]) (fun _ _ _ _ _ _ us hl => match us, hl with | [_, _], _ => rfl),
    a__law_draw := _,
    d__law_draw := _,
    F__law_draw := fun_mk (st := s__law_draw) l__law_draw c__law_draw k__law_draw,
    g__law_draw := PySem.W.mg_of X G a__law_draw,
    b__law_draw := (fun_mk (st := s__law_draw) l__law_draw c__law_draw k__law_draw).binds (ps := ["row", "at", "limit"]) (fun _ _ _ _ _ _ us hl => match us, hl with | [_, _, _], _ => rfl),
    a__law_take := _,
    d__law_take := _,
    F__law_take := fun_mk (st := s__law_take) l__law_take c__law_take k__law_take,
    g__law_take := PySem.W.mg_of X G a__law_take,
    b__law_take := (fun_mk (st := s__law_take) l__law_take c__law_take k__law_take).binds (ps := ["row", "spot", "limit"]) (fun _ _ _ _ _ _ us hl => match us, hl with | [_, _, _], _ => rfl),
    a__law_of := _,
    d__law_of := _,
    F__law_of := fun_mk (st := s__law_of) l__law_of c__law_of k__law_of,
    g__law_of := PySem.W.mg_of X G a__law_of,
    b__law_of := (fun_mk (st := s__law_of) l__law_of c__law_of k__law_of).binds (ps := ["value"]) (fun _ _ _ _ _ _ us hl => match us, hl with | [_], _ => rfl),
    a__law_foreign := _,
    d__law_foreign := _,
    F__law_foreign := fun_mk (st := s__law_foreign) l__law_foreign c__law_foreign k__law_foreign,
    g__law_foreign := PySem.W.mg_of X G a__law_foreign,
    b__law_foreign := (fun_mk (st := s__law_foreign) l__law_foreign c__law_foreign k__law_foreign).binds (ps := ["value"]) (fun _ _ _ _ _ _ us hl => match us, hl with | [_], _ => rfl),
    a__law_caught := _,
    d__law_caught := _,
    F__law_caught := fun_mk (st := s__law_caught) l__law_caught c__law_caught k__law_caught,
    g__law_caught := PySem.W.mg_of X G a__law_caught,
    b__law_caught := (fun_mk (st := s__law_caught) l__law_caught c__law_caught k__law_caught).binds (ps := ["at"]) (fun _ _ _ _ _ _ us hl => match us, hl with | [_], _ => rfl),
    a__law_numbers := _,
    d__law_numbers := _,
    F__law_numbers := fun_mk (st := s__law_numbers) l__law_numbers c__law_numbers k__law_numbers,
    g__law_numbers := PySem.W.mg_of X G a__law_numbers,
    b__law_numbers := (fun_mk (st := s__law_numbers) l__law_numbers c__law_numbers k__law_numbers).binds (ps := ["script"]) (fun _ _ _ _ _ _ us hl => match us, hl with | [_], _ => rfl),
    a_law := _,
    d_law := _,
    F_law := fun_mk (st := s_law) l_law c_law k_law,
    g_law := PySem.W.mg_of X G a_law,
    b_law := (fun_mk (st := s_law) l_law c_law k_law).binds (ps := ["script"]) (fun _ _ _ _ _ _ us hl => match us, hl with | [_], _ => rfl),
    C_BadValue := _,
    gC_BadValue := PySem.W.mg_of X G zC_BadValue,
    C_BadText := _,
    gC_BadText := PySem.W.mg_of X G zC_BadText,
    C_BadPaper := _,
    gC_BadPaper := PySem.W.mg_of X G zC_BadPaper,
    C_NoPiece := _,
    gC_NoPiece := PySem.W.mg_of X G zC_NoPiece,
    C_TakenName := _,
    gC_TakenName := PySem.W.mg_of X G zC_TakenName,
    C_TooMany := _,
    gC_TooMany := PySem.W.mg_of X G zC_TooMany,
    C_LayError := _,
    gC_LayError := PySem.W.mg_of X G zC_LayError,
    ec_BadValue := ⟨zg_BadValue, zh_BadValue, zb_BadValue, zd_BadValue, za_BadValue, wn, wt, zM_BadValue⟩,
    ec_BadText := ⟨zg_BadText, zh_BadText, zb_BadText, zd_BadText, za_BadText, wn, wt, zM_BadText⟩,
    ec_BadPaper := ⟨zg_BadPaper, zh_BadPaper, zb_BadPaper, zd_BadPaper, za_BadPaper, wn, wt, zM_BadPaper⟩,
    ec_NoPiece := ⟨zg_NoPiece, zh_NoPiece, zb_NoPiece, zd_NoPiece, za_NoPiece, wn, wt, zM_NoPiece⟩,
    ec_TakenName := ⟨zg_TakenName, zh_TakenName, zb_TakenName, zd_TakenName, za_TakenName, wn, wt, zM_TakenName⟩,
    ec_TooMany := ⟨zg_TooMany, zh_TooMany, zb_TooMany, zd_TooMany, za_TooMany, wn, wt, zM_TooMany⟩,
    aI_BadValue := _,
    dI_BadValue := _,
    FI_BadValue := fun_mk (st := s_init_BadValue) zl_BadValue zc_BadValue zk_BadValue,
    bI_BadValue := (fun_mk (st := s_init_BadValue) zl_BadValue zc_BadValue zk_BadValue).binds (ps := ["self", "at"]) (fun _ _ _ _ _ _ us hl => match us, hl with | [_, _], _ => rfl),
    kbI_BadValue := ⟨fun s us ws _ l1 l2 => match us, ws, l1, l2 with | [_], [_], _, _ => .of_eq rfl, fun h1 h2 => h1.append h2⟩,
    x_BadValue := ⟨zm_BadValue, zo_BadValue, zd_BadValue, zs_BadValue, zb_BadValue, zy_BadValue, zp_BadValue⟩,
    i_BadValue := zi_BadValue,
    t_BadValue := zt_BadValue,
    n_BadValue := zn_BadValue,
    nf_BadValue := zf_BadValue,
    xf_BadValue := ⟨zg_BadValue, zh_BadValue, zb_BadValue, zd_BadValue⟩,
    aI_BadText := _,
    dI_BadText := _,
    FI_BadText := fun_mk (st := s_init_BadText) zl_BadText zc_BadText zk_BadText,
    bI_BadText := (fun_mk (st := s_init_BadText) zl_BadText zc_BadText zk_BadText).binds (ps := ["self", "at"]) (fun _ _ _ _ _ _ us hl => match us, hl with | [_, _], _ => rfl),
    kbI_BadText := ⟨fun s us ws _ l1 l2 => match us, ws, l1, l2 with | [_], [_], _, _ => .of_eq rfl, fun h1 h2 => h1.append h2⟩,
    x_BadText := ⟨zm_BadText, zo_BadText, zd_BadText, zs_BadText, zb_BadText, zy_BadText, zp_BadText⟩,
    i_BadText := zi_BadText,
    t_BadText := zt_BadText,
    n_BadText := zn_BadText,
    nf_BadText := zf_BadText,
    xf_BadText := ⟨zg_BadText, zh_BadText, zb_BadText, zd_BadText⟩,
    aI_BadPaper := _,
    dI_BadPaper := _,
    FI_BadPaper := fun_mk (st := s_init_BadPaper) zl_BadPaper zc_BadPaper zk_BadPaper,
    bI_BadPaper := (fun_mk (st := s_init_BadPaper) zl_BadPaper zc_BadPaper zk_BadPaper).binds (ps := ["self", "at"]) (fun _ _ _ _ _ _ us hl => match us, hl with | [_, _], _ => rfl),
    kbI_BadPaper := ⟨fun s us ws _ l1 l2 => match us, ws, l1, l2 with | [_], [_], _, _ => .of_eq rfl, fun h1 h2 => h1.append h2⟩,
    x_BadPaper := ⟨zm_BadPaper, zo_BadPaper, zd_BadPaper, zs_BadPaper, zb_BadPaper, zy_BadPaper, zp_BadPaper⟩,
    i_BadPaper := zi_BadPaper,
    t_BadPaper := zt_BadPaper,
    n_BadPaper := zn_BadPaper,
    nf_BadPaper := zf_BadPaper,
    xf_BadPaper := ⟨zg_BadPaper, zh_BadPaper, zb_BadPaper, zd_BadPaper⟩,
    aI_NoPiece := _,
    dI_NoPiece := _,
    FI_NoPiece := fun_mk (st := s_init_NoPiece) zl_NoPiece zc_NoPiece zk_NoPiece,
    bI_NoPiece := (fun_mk (st := s_init_NoPiece) zl_NoPiece zc_NoPiece zk_NoPiece).binds (ps := ["self", "name"]) (fun _ _ _ _ _ _ us hl => match us, hl with | [_, _], _ => rfl),
    kbI_NoPiece := ⟨fun s us ws _ l1 l2 => match us, ws, l1, l2 with | [_], [_], _, _ => .of_eq rfl, fun h1 h2 => h1.append h2⟩,
    x_NoPiece := ⟨zm_NoPiece, zo_NoPiece, zd_NoPiece, zs_NoPiece, zb_NoPiece, zy_NoPiece, zp_NoPiece⟩,
    i_NoPiece := zi_NoPiece,
    t_NoPiece := zt_NoPiece,
    n_NoPiece := zn_NoPiece,
    nf_NoPiece := zf_NoPiece,
    xf_NoPiece := ⟨zg_NoPiece, zh_NoPiece, zb_NoPiece, zd_NoPiece⟩,
    aI_TakenName := _,
    dI_TakenName := _,
    FI_TakenName := fun_mk (st := s_init_TakenName) zl_TakenName zc_TakenName zk_TakenName,
    bI_TakenName := (fun_mk (st := s_init_TakenName) zl_TakenName zc_TakenName zk_TakenName).binds (ps := ["self", "name"]) (fun _ _ _ _ _ _ us hl => match us, hl with | [_, _], _ => rfl),
    kbI_TakenName := ⟨fun s us ws _ l1 l2 => match us, ws, l1, l2 with | [_], [_], _, _ => .of_eq rfl, fun h1 h2 => h1.append h2⟩,
    x_TakenName := ⟨zm_TakenName, zo_TakenName, zd_TakenName, zs_TakenName, zb_TakenName, zy_TakenName, zp_TakenName⟩,
    i_TakenName := zi_TakenName,
    t_TakenName := zt_TakenName,
    n_TakenName := zn_TakenName,
    nf_TakenName := zf_TakenName,
    xf_TakenName := ⟨zg_TakenName, zh_TakenName, zb_TakenName, zd_TakenName⟩,
    q_TooMany := zq_TooMany,
    kp_TooMany := zp_TooMany,
    sb_TooMany := zb_TooMany,
    ty_TooMany := zy_TooMany,
    em_TooMany := PySem.W.exm_ref yb yd yt ys_TooMany,
    em_NoPiece := PySem.W.exm_ref yb yd yt ys_NoPiece,
    ki_BadValue_BadValue := k_BadValue_BadValue,
    ki_BadValue_BadText := k_BadValue_BadText,
    ki_BadValue_BadPaper := k_BadValue_BadPaper,
    ki_BadValue_NoPiece := k_BadValue_NoPiece,
    ki_BadValue_TakenName := k_BadValue_TakenName,
    ki_BadValue_TooMany := k_BadValue_TooMany,
    ki_BadValue_LayError := k_BadValue_LayError,
    ki_BadValue_ValueError := k_BadValue_ValueError,
    ki_BadValue_LookupError := k_BadValue_LookupError,
    ki_BadValue_ArithmeticError := k_BadValue_ArithmeticError,
    ki_BadValue_Exception := k_BadValue_Exception,
    ki_BadText_BadValue := k_BadText_BadValue,
    ki_BadText_BadText := k_BadText_BadText,
    ki_BadText_BadPaper := k_BadText_BadPaper,
    ki_BadText_NoPiece := k_BadText_NoPiece,
    ki_BadText_TakenName := k_BadText_TakenName,
    ki_BadText_TooMany := k_BadText_TooMany,
    ki_BadText_LayError := k_BadText_LayError,
    ki_BadText_ValueError := k_BadText_ValueError,
    ki_BadText_LookupError := k_BadText_LookupError,
    ki_BadText_ArithmeticError := k_BadText_ArithmeticError,
    ki_BadText_Exception := k_BadText_Exception,
    ki_BadPaper_BadValue := k_BadPaper_BadValue,
    ki_BadPaper_BadText := k_BadPaper_BadText,
    ki_BadPaper_BadPaper := k_BadPaper_BadPaper,
    ki_BadPaper_NoPiece := k_BadPaper_NoPiece,
    ki_BadPaper_TakenName := k_BadPaper_TakenName,
    ki_BadPaper_TooMany := k_BadPaper_TooMany,
    ki_BadPaper_LayError := k_BadPaper_LayError,
    ki_BadPaper_ValueError := k_BadPaper_ValueError,
    ki_BadPaper_LookupError := k_BadPaper_LookupError,
    ki_BadPaper_ArithmeticError := k_BadPaper_ArithmeticError,
    ki_BadPaper_Exception := k_BadPaper_Exception,
    ki_NoPiece_BadValue := k_NoPiece_BadValue,
    ki_NoPiece_BadText := k_NoPiece_BadText,
    ki_NoPiece_BadPaper := k_NoPiece_BadPaper,
    ki_NoPiece_NoPiece := k_NoPiece_NoPiece,
    ki_NoPiece_TakenName := k_NoPiece_TakenName,
    ki_NoPiece_TooMany := k_NoPiece_TooMany,
    ki_NoPiece_LayError := k_NoPiece_LayError,
    ki_NoPiece_ValueError := k_NoPiece_ValueError,
    ki_NoPiece_LookupError := k_NoPiece_LookupError,
    ki_NoPiece_ArithmeticError := k_NoPiece_ArithmeticError,
    ki_NoPiece_Exception := k_NoPiece_Exception,
    ki_TakenName_BadValue := k_TakenName_BadValue,
    ki_TakenName_BadText := k_TakenName_BadText,
    ki_TakenName_BadPaper := k_TakenName_BadPaper,
    ki_TakenName_NoPiece := k_TakenName_NoPiece,
    ki_TakenName_TakenName := k_TakenName_TakenName,
    ki_TakenName_TooMany := k_TakenName_TooMany,
    ki_TakenName_LayError := k_TakenName_LayError,
    ki_TakenName_ValueError := k_TakenName_ValueError,
    ki_TakenName_LookupError := k_TakenName_LookupError,
    ki_TakenName_ArithmeticError := k_TakenName_ArithmeticError,
    ki_TakenName_Exception := k_TakenName_Exception,
    ki_TooMany_BadValue := k_TooMany_BadValue,
    ki_TooMany_BadText := k_TooMany_BadText,
    ki_TooMany_BadPaper := k_TooMany_BadPaper,
    ki_TooMany_NoPiece := k_TooMany_NoPiece,
    ki_TooMany_TakenName := k_TooMany_TakenName,
    ki_TooMany_TooMany := k_TooMany_TooMany,
    ki_TooMany_LayError := k_TooMany_LayError,
    ki_TooMany_ValueError := k_TooMany_ValueError,
    ki_TooMany_LookupError := k_TooMany_LookupError,
    ki_TooMany_ArithmeticError := k_TooMany_ArithmeticError,
    ki_TooMany_Exception := k_TooMany_Exception,
    m_ArithmeticError := PySem.W.mg_none_of X G z_ArithmeticError,
    m_Exception := PySem.W.mg_none_of X G z_Exception,
    m_LookupError := PySem.W.mg_none_of X G z_LookupError,
    m_ValueError := PySem.W.mg_none_of X G z_ValueError,
    m_bool := PySem.W.mg_none_of X G z_bool,
    m_int := PySem.W.mg_none_of X G z_int,
    m_isinstance := PySem.W.mg_none_of X G z_isinstance,
    m_len := PySem.W.mg_none_of X G z_len,
    m_range := PySem.W.mg_none_of X G z_range,
    m_str := PySem.W.mg_none_of X G z_str,
    m_tuple := PySem.W.mg_none_of X G z_tuple }
  exact ⟨PySem.W.fnOf "law" "law" (defArgs s_law) (defBody s_law) (defScope s_law) .none kV_law dc_law pm_law an_law cd_law ct_law, fun s v => .of_eq rfl, fun base _ _ => ok_law hM T⟩
end K00

open PySem PySem.W PyProof.Rows
set_option maxHeartbeats 0 in
theorem PySem.Challenge.cw_snuglay_k00_errors_holds : PySem.Challenge.rw_snuglay_k00_errors.Holds := by
  w_on; o_law; k_head; (case hw => w_witness2)
  k_fill
  refine L2.walk_of (l := PySem.Challenge.rw_snuglay_k00_errors) (n := 63) (k := 9) (x := "script") (CX := fun _ => L2.CX0) (sp := fun w => Pu.spLawM _) rfl (by decide) rfl ⟨rfl, by decide, by decide⟩ (fun w h Y => PySem.W.kIn_of Y) ?F (fun _ _ a ns hl _ hS => ⟨a, ns, rfl, hS, hl, fun _ => rfl⟩) (fun _ _ _ _ _ h => h)
  case F =>
    intro w mg fa h KX G hmg
    refine' K00.all_mk K00.main KX G hmg ?a__law_so ?l__law_so ?c__law_so ?k__law_so ?a__law_draw ?l__law_draw ?c__law_draw ?k__law_draw ?a__law_take ?l__law_take ?c__law_take ?k__law_take ?a__law_of ?l__law_of ?c__law_of ?k__law_of ?a__law_foreign ?l__law_foreign ?c__law_foreign ?k__law_foreign ?a__law_caught ?l__law_caught ?c__law_caught ?k__law_caught ?a__law_numbers ?l__law_numbers ?c__law_numbers ?k__law_numbers ?a_law ?l_law ?c_law ?k_law ?zC_BadValue ?zC_BadText ?zC_BadPaper ?zC_NoPiece ?zC_TakenName ?zC_TooMany ?zC_LayError ?wn ?wt ?zg_BadValue ?zh_BadValue ?zb_BadValue ?zd_BadValue ?za_BadValue ?zM_BadValue ?zy_BadValue ?zp_BadValue ?zg_BadText ?zh_BadText ?zb_BadText ?zd_BadText ?za_BadText ?zM_BadText ?zy_BadText ?zp_BadText ?zg_BadPaper ?zh_BadPaper ?zb_BadPaper ?zd_BadPaper ?za_BadPaper ?zM_BadPaper ?zy_BadPaper ?zp_BadPaper ?zg_NoPiece ?zh_NoPiece ?zb_NoPiece ?zd_NoPiece ?za_NoPiece ?zM_NoPiece ?zy_NoPiece ?zp_NoPiece ?zg_TakenName ?zh_TakenName ?zb_TakenName ?zd_TakenName ?za_TakenName ?zM_TakenName ?zy_TakenName ?zp_TakenName ?zg_TooMany ?zh_TooMany ?zb_TooMany ?zd_TooMany ?za_TooMany ?zM_TooMany ?zy_TooMany ?zp_TooMany ?zi_BadValue ?zl_BadValue ?zc_BadValue ?zk_BadValue ?zt_BadValue ?zm_BadValue ?zo_BadValue ?zs_BadValue ?zn_BadValue ?zf_BadValue ?zi_BadText ?zl_BadText ?zc_BadText ?zk_BadText ?zt_BadText ?zm_BadText ?zo_BadText ?zs_BadText ?zn_BadText ?zf_BadText ?zi_BadPaper ?zl_BadPaper ?zc_BadPaper ?zk_BadPaper ?zt_BadPaper ?zm_BadPaper ?zo_BadPaper ?zs_BadPaper ?zn_BadPaper ?zf_BadPaper ?zi_NoPiece ?zl_NoPiece ?zc_NoPiece ?zk_NoPiece ?zt_NoPiece ?zm_NoPiece ?zo_NoPiece ?zs_NoPiece ?zn_NoPiece ?zf_NoPiece ?zi_TakenName ?zl_TakenName ?zc_TakenName ?zk_TakenName ?zt_TakenName ?zm_TakenName ?zo_TakenName ?zs_TakenName ?zn_TakenName ?zf_TakenName ?zq_TooMany ?yb ?yd ?yt ?ys_TooMany ?ys_NoPiece ?k_BadValue_BadValue ?k_BadValue_BadText ?k_BadValue_BadPaper ?k_BadValue_NoPiece ?k_BadValue_TakenName ?k_BadValue_TooMany ?k_BadValue_LayError ?k_BadValue_ValueError ?k_BadValue_LookupError ?k_BadValue_ArithmeticError ?k_BadValue_Exception ?k_BadText_BadValue ?k_BadText_BadText ?k_BadText_BadPaper ?k_BadText_NoPiece ?k_BadText_TakenName ?k_BadText_TooMany ?k_BadText_LayError ?k_BadText_ValueError ?k_BadText_LookupError ?k_BadText_ArithmeticError ?k_BadText_Exception ?k_BadPaper_BadValue ?k_BadPaper_BadText ?k_BadPaper_BadPaper ?k_BadPaper_NoPiece ?k_BadPaper_TakenName ?k_BadPaper_TooMany ?k_BadPaper_LayError ?k_BadPaper_ValueError ?k_BadPaper_LookupError ?k_BadPaper_ArithmeticError ?k_BadPaper_Exception ?k_NoPiece_BadValue ?k_NoPiece_BadText ?k_NoPiece_BadPaper ?k_NoPiece_NoPiece ?k_NoPiece_TakenName ?k_NoPiece_TooMany ?k_NoPiece_LayError ?k_NoPiece_ValueError ?k_NoPiece_LookupError ?k_NoPiece_ArithmeticError ?k_NoPiece_Exception ?k_TakenName_BadValue ?k_TakenName_BadText ?k_TakenName_BadPaper ?k_TakenName_NoPiece ?k_TakenName_TakenName ?k_TakenName_TooMany ?k_TakenName_LayError ?k_TakenName_ValueError ?k_TakenName_LookupError ?k_TakenName_ArithmeticError ?k_TakenName_Exception ?k_TooMany_BadValue ?k_TooMany_BadText ?k_TooMany_BadPaper ?k_TooMany_NoPiece ?k_TooMany_TakenName ?k_TooMany_TooMany ?k_TooMany_LayError ?k_TooMany_ValueError ?k_TooMany_LookupError ?k_TooMany_ArithmeticError ?k_TooMany_Exception ?z_ArithmeticError ?z_Exception ?z_LookupError ?z_ValueError ?z_bool ?z_int ?z_isinstance ?z_len ?z_range ?z_str ?z_tuple
    (case a__law_so => k_is)
    (case l__law_so => k_is)
    (case c__law_so => k_is)
    (case k__law_so => k_is)
    (case a__law_draw => k_is)
    (case l__law_draw => k_is)
    (case c__law_draw => k_is)
    (case k__law_draw => k_is)
    (case a__law_take => k_is)
    (case l__law_take => k_is)
    (case c__law_take => k_is)
    (case k__law_take => k_is)
    (case a__law_of => k_is)
    (case l__law_of => k_is)
    (case c__law_of => k_is)
    (case k__law_of => k_is)
    (case a__law_foreign => k_is)
    (case l__law_foreign => k_is)
    (case c__law_foreign => k_is)
    (case k__law_foreign => k_is)
    (case a__law_caught => k_is)
    (case l__law_caught => k_is)
    (case c__law_caught => k_is)
    (case k__law_caught => k_is)
    (case a__law_numbers => k_is)
    (case l__law_numbers => k_is)
    (case c__law_numbers => k_is)
    (case k__law_numbers => k_is)
    (case a_law => k_is)
    (case l_law => k_is)
    (case c_law => k_is)
    (case k_law => k_is)
    (case zC_BadValue => first | k_is | rfl | decide +kernel)
    (case zC_BadText => first | k_is | rfl | decide +kernel)
    (case zC_BadPaper => first | k_is | rfl | decide +kernel)
    (case zC_NoPiece => first | k_is | rfl | decide +kernel)
    (case zC_TakenName => first | k_is | rfl | decide +kernel)
    (case zC_TooMany => first | k_is | rfl | decide +kernel)
    (case zC_LayError => first | k_is | rfl | decide +kernel)
    (case wn => first | k_is | rfl | decide +kernel)
    (case wt => first | k_is | rfl | decide +kernel)
    (case zg_BadValue => first | k_is | rfl | decide +kernel)
    (case zh_BadValue => first | k_is | rfl | decide +kernel)
    (case zb_BadValue => first | k_is | rfl | decide +kernel)
    (case zd_BadValue => first | k_is | rfl | decide +kernel)
    (case za_BadValue => first | k_is | rfl | decide +kernel)
    (case zM_BadValue => first | k_is | rfl | decide +kernel)
    (case zy_BadValue => first | k_is | rfl | decide +kernel)
    (case zp_BadValue => first | k_is | rfl | decide +kernel)
    (case zg_BadText => first | k_is | rfl | decide +kernel)
    (case zh_BadText => first | k_is | rfl | decide +kernel)
    (case zb_BadText => first | k_is | rfl | decide +kernel)
    (case zd_BadText => first | k_is | rfl | decide +kernel)
    (case za_BadText => first | k_is | rfl | decide +kernel)
    (case zM_BadText => first | k_is | rfl | decide +kernel)
    (case zy_BadText => first | k_is | rfl | decide +kernel)
    (case zp_BadText => first | k_is | rfl | decide +kernel)
    (case zg_BadPaper => first | k_is | rfl | decide +kernel)
    (case zh_BadPaper => first | k_is | rfl | decide +kernel)
    (case zb_BadPaper => first | k_is | rfl | decide +kernel)
    (case zd_BadPaper => first | k_is | rfl | decide +kernel)
    (case za_BadPaper => first | k_is | rfl | decide +kernel)
    (case zM_BadPaper => first | k_is | rfl | decide +kernel)
    (case zy_BadPaper => first | k_is | rfl | decide +kernel)
    (case zp_BadPaper => first | k_is | rfl | decide +kernel)
    (case zg_NoPiece => first | k_is | rfl | decide +kernel)
    (case zh_NoPiece => first | k_is | rfl | decide +kernel)
    (case zb_NoPiece => first | k_is | rfl | decide +kernel)
    (case zd_NoPiece => first | k_is | rfl | decide +kernel)
    (case za_NoPiece => first | k_is | rfl | decide +kernel)
    (case zM_NoPiece => first | k_is | rfl | decide +kernel)
    (case zy_NoPiece => first | k_is | rfl | decide +kernel)
    (case zp_NoPiece => first | k_is | rfl | decide +kernel)
    (case zg_TakenName => first | k_is | rfl | decide +kernel)
    (case zh_TakenName => first | k_is | rfl | decide +kernel)
    (case zb_TakenName => first | k_is | rfl | decide +kernel)
    (case zd_TakenName => first | k_is | rfl | decide +kernel)
    (case za_TakenName => first | k_is | rfl | decide +kernel)
    (case zM_TakenName => first | k_is | rfl | decide +kernel)
    (case zy_TakenName => first | k_is | rfl | decide +kernel)
    (case zp_TakenName => first | k_is | rfl | decide +kernel)
    (case zg_TooMany => first | k_is | rfl | decide +kernel)
    (case zh_TooMany => first | k_is | rfl | decide +kernel)
    (case zb_TooMany => first | k_is | rfl | decide +kernel)
    (case zd_TooMany => first | k_is | rfl | decide +kernel)
    (case za_TooMany => first | k_is | rfl | decide +kernel)
    (case zM_TooMany => first | k_is | rfl | decide +kernel)
    (case zy_TooMany => first | k_is | rfl | decide +kernel)
    (case zp_TooMany => first | k_is | rfl | decide +kernel)
    (case zi_BadValue => first | k_is | rfl | decide +kernel)
    (case zl_BadValue => first | k_is | rfl | decide +kernel)
    (case zc_BadValue => first | k_is | rfl | decide +kernel)
    (case zk_BadValue => first | k_is | rfl | decide +kernel)
    (case zt_BadValue => first | k_is | rfl | decide +kernel)
    (case zm_BadValue => first | k_is | rfl | decide +kernel)
    (case zo_BadValue => first | k_is | rfl | decide +kernel)
    (case zs_BadValue => first | k_is | rfl | decide +kernel)
    (case zn_BadValue => first | k_is | rfl | decide +kernel)
    (case zf_BadValue => first | k_is | rfl | decide +kernel)
    (case zi_BadText => first | k_is | rfl | decide +kernel)
    (case zl_BadText => first | k_is | rfl | decide +kernel)
    (case zc_BadText => first | k_is | rfl | decide +kernel)
    (case zk_BadText => first | k_is | rfl | decide +kernel)
    (case zt_BadText => first | k_is | rfl | decide +kernel)
    (case zm_BadText => first | k_is | rfl | decide +kernel)
    (case zo_BadText => first | k_is | rfl | decide +kernel)
    (case zs_BadText => first | k_is | rfl | decide +kernel)
    (case zn_BadText => first | k_is | rfl | decide +kernel)
    (case zf_BadText => first | k_is | rfl | decide +kernel)
    (case zi_BadPaper => first | k_is | rfl | decide +kernel)
    (case zl_BadPaper => first | k_is | rfl | decide +kernel)
    (case zc_BadPaper => first | k_is | rfl | decide +kernel)
    (case zk_BadPaper => first | k_is | rfl | decide +kernel)
    (case zt_BadPaper => first | k_is | rfl | decide +kernel)
    (case zm_BadPaper => first | k_is | rfl | decide +kernel)
    (case zo_BadPaper => first | k_is | rfl | decide +kernel)
    (case zs_BadPaper => first | k_is | rfl | decide +kernel)
    (case zn_BadPaper => first | k_is | rfl | decide +kernel)
    (case zf_BadPaper => first | k_is | rfl | decide +kernel)
    (case zi_NoPiece => first | k_is | rfl | decide +kernel)
    (case zl_NoPiece => first | k_is | rfl | decide +kernel)
    (case zc_NoPiece => first | k_is | rfl | decide +kernel)
    (case zk_NoPiece => first | k_is | rfl | decide +kernel)
    (case zt_NoPiece => first | k_is | rfl | decide +kernel)
    (case zm_NoPiece => first | k_is | rfl | decide +kernel)
    (case zo_NoPiece => first | k_is | rfl | decide +kernel)
    (case zs_NoPiece => first | k_is | rfl | decide +kernel)
    (case zn_NoPiece => first | k_is | rfl | decide +kernel)
    (case zf_NoPiece => first | k_is | rfl | decide +kernel)
    (case zi_TakenName => first | k_is | rfl | decide +kernel)
    (case zl_TakenName => first | k_is | rfl | decide +kernel)
    (case zc_TakenName => first | k_is | rfl | decide +kernel)
    (case zk_TakenName => first | k_is | rfl | decide +kernel)
    (case zt_TakenName => first | k_is | rfl | decide +kernel)
    (case zm_TakenName => first | k_is | rfl | decide +kernel)
    (case zo_TakenName => first | k_is | rfl | decide +kernel)
    (case zs_TakenName => first | k_is | rfl | decide +kernel)
    (case zn_TakenName => first | k_is | rfl | decide +kernel)
    (case zf_TakenName => first | k_is | rfl | decide +kernel)
    (case zq_TooMany => first | k_exc | k_is)
    (case yb => first | k_is | rfl | decide +kernel)
    (case yd => first | k_is | rfl | decide +kernel)
    (case yt => first | k_is | rfl | decide +kernel)
    (case ys_TooMany => first | k_is | rfl | decide +kernel)
    (case ys_NoPiece => first | k_is | rfl | decide +kernel)
    (case k_BadValue_BadValue => first | k_is | rfl | decide +kernel)
    (case k_BadValue_BadText => first | k_is | rfl | decide +kernel)
    (case k_BadValue_BadPaper => first | k_is | rfl | decide +kernel)
    (case k_BadValue_NoPiece => first | k_is | rfl | decide +kernel)
    (case k_BadValue_TakenName => first | k_is | rfl | decide +kernel)
    (case k_BadValue_TooMany => first | k_is | rfl | decide +kernel)
    (case k_BadValue_LayError => first | k_is | rfl | decide +kernel)
    (case k_BadValue_ValueError => first | k_is | rfl | decide +kernel)
    (case k_BadValue_LookupError => first | k_is | rfl | decide +kernel)
    (case k_BadValue_ArithmeticError => first | k_is | rfl | decide +kernel)
    (case k_BadValue_Exception => first | k_is | rfl | decide +kernel)
    (case k_BadText_BadValue => first | k_is | rfl | decide +kernel)
    (case k_BadText_BadText => first | k_is | rfl | decide +kernel)
    (case k_BadText_BadPaper => first | k_is | rfl | decide +kernel)
    (case k_BadText_NoPiece => first | k_is | rfl | decide +kernel)
    (case k_BadText_TakenName => first | k_is | rfl | decide +kernel)
    (case k_BadText_TooMany => first | k_is | rfl | decide +kernel)
    (case k_BadText_LayError => first | k_is | rfl | decide +kernel)
    (case k_BadText_ValueError => first | k_is | rfl | decide +kernel)
    (case k_BadText_LookupError => first | k_is | rfl | decide +kernel)
    (case k_BadText_ArithmeticError => first | k_is | rfl | decide +kernel)
    (case k_BadText_Exception => first | k_is | rfl | decide +kernel)
    (case k_BadPaper_BadValue => first | k_is | rfl | decide +kernel)
    (case k_BadPaper_BadText => first | k_is | rfl | decide +kernel)
    (case k_BadPaper_BadPaper => first | k_is | rfl | decide +kernel)
    (case k_BadPaper_NoPiece => first | k_is | rfl | decide +kernel)
    (case k_BadPaper_TakenName => first | k_is | rfl | decide +kernel)
    (case k_BadPaper_TooMany => first | k_is | rfl | decide +kernel)
    (case k_BadPaper_LayError => first | k_is | rfl | decide +kernel)
    (case k_BadPaper_ValueError => first | k_is | rfl | decide +kernel)
    (case k_BadPaper_LookupError => first | k_is | rfl | decide +kernel)
    (case k_BadPaper_ArithmeticError => first | k_is | rfl | decide +kernel)
    (case k_BadPaper_Exception => first | k_is | rfl | decide +kernel)
    (case k_NoPiece_BadValue => first | k_is | rfl | decide +kernel)
    (case k_NoPiece_BadText => first | k_is | rfl | decide +kernel)
    (case k_NoPiece_BadPaper => first | k_is | rfl | decide +kernel)
    (case k_NoPiece_NoPiece => first | k_is | rfl | decide +kernel)
    (case k_NoPiece_TakenName => first | k_is | rfl | decide +kernel)
    (case k_NoPiece_TooMany => first | k_is | rfl | decide +kernel)
    (case k_NoPiece_LayError => first | k_is | rfl | decide +kernel)
    (case k_NoPiece_ValueError => first | k_is | rfl | decide +kernel)
    (case k_NoPiece_LookupError => first | k_is | rfl | decide +kernel)
    (case k_NoPiece_ArithmeticError => first | k_is | rfl | decide +kernel)
    (case k_NoPiece_Exception => first | k_is | rfl | decide +kernel)
    (case k_TakenName_BadValue => first | k_is | rfl | decide +kernel)
    (case k_TakenName_BadText => first | k_is | rfl | decide +kernel)
    (case k_TakenName_BadPaper => first | k_is | rfl | decide +kernel)
    (case k_TakenName_NoPiece => first | k_is | rfl | decide +kernel)
    (case k_TakenName_TakenName => first | k_is | rfl | decide +kernel)
    (case k_TakenName_TooMany => first | k_is | rfl | decide +kernel)
    (case k_TakenName_LayError => first | k_is | rfl | decide +kernel)
    (case k_TakenName_ValueError => first | k_is | rfl | decide +kernel)
    (case k_TakenName_LookupError => first | k_is | rfl | decide +kernel)
    (case k_TakenName_ArithmeticError => first | k_is | rfl | decide +kernel)
    (case k_TakenName_Exception => first | k_is | rfl | decide +kernel)
    (case k_TooMany_BadValue => first | k_is | rfl | decide +kernel)
    (case k_TooMany_BadText => first | k_is | rfl | decide +kernel)
    (case k_TooMany_BadPaper => first | k_is | rfl | decide +kernel)
    (case k_TooMany_NoPiece => first | k_is | rfl | decide +kernel)
    (case k_TooMany_TakenName => first | k_is | rfl | decide +kernel)
    (case k_TooMany_TooMany => first | k_is | rfl | decide +kernel)
    (case k_TooMany_LayError => first | k_is | rfl | decide +kernel)
    (case k_TooMany_ValueError => first | k_is | rfl | decide +kernel)
    (case k_TooMany_LookupError => first | k_is | rfl | decide +kernel)
    (case k_TooMany_ArithmeticError => first | k_is | rfl | decide +kernel)
    (case k_TooMany_Exception => first | k_is | rfl | decide +kernel)
    (case z_ArithmeticError => k_is)
    (case z_Exception => k_is)
    (case z_LookupError => k_is)
    (case z_ValueError => k_is)
    (case z_bool => k_is)
    (case z_int => k_is)
    (case z_isinstance => k_is)
    (case z_len => k_is)
    (case z_range => k_is)
    (case z_str => k_is)
    (case z_tuple => k_is)

