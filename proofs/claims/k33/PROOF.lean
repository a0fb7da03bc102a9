import PyProof.Rows.All
import Wide.All
import OpenK.AllK
import Wide.FinOn
import HandS.ForMost
import HandS.IsInst
import HandS.StrMore
import HandS.Strs
import HandS.TupAny
import HandS.TupMul
import HandS.Gcd
import HandS.Lambda
import HandS.SetTxt0
import HandS.TupSets
import PyProof.Rows.SortShellAny
import PyProof.WalksMore
import HandS.Deep
import HandS.TupLe
import KE.GoesEnum
import HandS.Wide
import HandS.WordsExc
import HandS.DictComp
import KE.GoesSet
import KE.DataMinMax
import HandS.SortKw
import HandS.Style
import HandS.Zip
import HandS.ExcInit
import HandS.ExcField
import HandS.TryMany
import KE.KNestM
import KE.KDictZip
import KE.KExcIs
import HandS.SortRule
import KE.LtData
import KE.SortData
import HandS.Flow
import PySem.Challenge.RW_nearhours_k33_ring_papers_by_hand
set_option Elab.async false
set_option linter.all false
set_option maxRecDepth 100000
/-! a layer of plain data over the hand layer: values without addresses -/
namespace PL
open PySem PySem.Spec PyProof.Rows L2

abbrev D := PyData

/-! ### dicts as data: a mark tells whether the keys are ints and texts, or tuples of them -/
def keyD : Key → D
  | .inl i => .int i
  | .inr s => .str s
def keyT (k : List Key) : D := .tuple (k.map keyD)
def kvK (es : List (Key × D)) : List (D × D) := (.bool false, .none) :: es.map fun p => (keyD p.1, p.2)
def kvT (es : List (List Key × D)) : List (D × D) := (.bool true, .none) :: es.map fun p => (keyT p.1, p.2)
theorem keyD_inj : ∀ {a b : Key}, keyD a = keyD b → a = b
  | .inl _, .inl _, h => by cases h; rfl
  | .inr _, .inr _, h => by cases h; rfl
  | .inl _, .inr _, h => by cases h
  | .inr _, .inl _, h => by cases h
/-! ### data in a part of the heap -/
mutual
/-- v is d, all of whose lists and tuples stand in Z -/
inductive Dq (Z : Hp) : V → D → Prop
  | non : Dq Z .non .none
  | bl (b : Bool) : Dq Z (.bl b) (.bool b)
  | int (i : Int) : Dq Z (.int i) (.int i)
  | str (x : Str) : Dq Z (.str x) (.str x)
  | lst {a : Addr} {xs : List V} {ds : List D} : Z a = some (.lst xs) → Dqs Z xs ds → Dq Z (.ref a) (.list ds)
  | tup {a : Addr} {xs : List V} {ds : List D} : Z a = some (.tup xs) → Dqs Z xs ds → Dq Z (.ref a) (.tuple ds)
  | dK {a : Addr} {kvs : List (Key × V)} {es : List (Key × D)} {m : List (D × D)} : Z a = some (.dK kvs) → kvs.map (·.1) = es.map (·.1) → Dqs Z (kvs.map (·.2)) (es.map (·.2)) → m = kvK es → Dq Z (.ref a) (.dict m)
  | dT {a : Addr} {kvs : List (List Key × V)} {es : List (List Key × D)} {m : List (D × D)} : Z a = some (.dT kvs) → kvs.map (·.1) = es.map (·.1) → Dqs Z (kvs.map (·.2)) (es.map (·.2)) → m = kvT es → Dq Z (.ref a) (.dict m)
inductive Dqs (Z : Hp) : List V → List D → Prop
  | nil : Dqs Z [] []
  | cons {v : V} {vs : List V} {d : D} {ds : List D} : Dq Z v d → Dqs Z vs ds → Dqs Z (v :: vs) (d :: ds)
end
mutual
theorem dp_mono' {Z Z' : Hp} (h : Same Z Z') : ∀ {v : V} {d : D}, Dq Z v d → Dq Z' v d
  | _, _, .non => .non
  | _, _, .bl b => .bl b
  | _, _, .int i => .int i
  | _, _, .str x => .str x
  | _, _, .lst a b => .lst (h _ _ a) (dps_mono' h b)
  | _, _, .tup a b => .tup (h _ _ a) (dps_mono' h b)
  | _, _, .dK a e b m => .dK (h _ _ a) e (dps_mono' h b) m
  | _, _, .dT a e b m => .dT (h _ _ a) e (dps_mono' h b) m
theorem dps_mono' {Z Z' : Hp} (h : Same Z Z') : ∀ {vs : List V} {ds : List D}, Dqs Z vs ds → Dqs Z' vs ds
  | _, _, .nil => .nil
  | _, _, .cons a b => .cons (dp_mono' h a) (dps_mono' h b)
end
theorem dp_mono {Z Z' : Hp} (h : Same Z Z') (d : D) (v : V) (q : Dq Z v d) : Dq Z' v d := dp_mono' h q
theorem dps_mono {Z Z' : Hp} (h : Same Z Z') (ds : List D) (vs : List V) (q : Dqs Z vs ds) : Dqs Z' vs ds := dps_mono' h q
mutual
/-- .. as the hand layer says it -/
theorem dq_dp {K : PySem.W.Frag} {Z : Hp} : ∀ (d : D) (v : V), d.canLay0 = true → Dq Z v d → Dp K Z v d
  | .none, _, _, q => by cases q; exact .non
  | .bool _, _, _, q => by cases q; exact .bl _
  | .int _, _, _, q => by cases q; exact .int _
  | .str _, _, _, q => by cases q; exact .str _
  | .list ds, _, l, q => by cases q with | lst a b => exact .lst (SqL.of a) (dqs_dp ds _ l b)
  | .tuple ds, _, l, q => by cases q with | tup a b => exact .tup (SqT.of a) (dqs_dp ds _ l b)
  | .dict _, _, l, q => by cases l
theorem dqs_dp {K : PySem.W.Frag} {Z : Hp} : ∀ (ds : List D) (vs : List V), PyData.canLayAll0 ds = true → Dqs Z vs ds → DpAll K Z vs ds
  | [], _, _, q => by cases q; exact .nil
  | d :: ds, _, l, q => by
    rw [show PyData.canLayAll0 (d :: ds) = (d.canLay0 && PyData.canLayAll0 ds) from rfl, Bool.and_eq_true] at l
    cases q with | cons a b => exact .cons (dq_dp d _ l.1 a) (dqs_dp ds _ l.2 b)
end
theorem dps_len {Z : Hp} : ∀ {vs : List V} {ds : List D}, Dqs Z vs ds → vs.length = ds.length
  | _, [], q => by cases q; rfl
  | _, d :: ds, q => by cases q with | cons a b => simp [dps_len b]
theorem dps_get {Z : Hp} : ∀ {vs : List V} {ds : List D} {i : Nat} {d : D}, Dqs Z vs ds → ds[i]? = some d → ∃ v, vs[i]? = some v ∧ Dq Z v d
  | _, [], i, d, q, h => by simp at h
  | _, d :: ds, 0, e, q, h => by cases q with | cons a b => simp at h; subst h; exact ⟨_, rfl, a⟩
  | _, d :: ds, i + 1, e, q, h => by
    cases q with
    | cons a b =>
      obtain ⟨v, h1, h2⟩ := dps_get b (by simpa using h)
      exact ⟨v, by simpa using h1, h2⟩
theorem dps_get' {Z : Hp} : ∀ {vs : List V} {ds : List D} {i : Nat} {v : V}, Dqs Z vs ds → vs[i]? = some v → ∃ d, ds[i]? = some d ∧ Dq Z v d
  | _, [], i, d, q, h => by cases q; simp at h
  | _, d :: ds, 0, e, q, h => by cases q with | cons a b => simp at h; subst h; exact ⟨_, rfl, a⟩
  | _, d :: ds, i + 1, e, q, h => by
    cases q with
    | cons a b =>
      obtain ⟨v, h1, h2⟩ := dps_get' b (by simpa using h)
      exact ⟨v, by simpa using h1, h2⟩
theorem dps_app {Z : Hp} : ∀ {vs : List V} {ds : List D} {ws : List V} {es : List D}, Dqs Z vs ds → Dqs Z ws es → Dqs Z (vs ++ ws) (ds ++ es)
  | _, [], _, _, q, r => by cases q; exact r
  | _, d :: ds, _, _, q, r => by cases q with | cons a b => exact .cons a (dps_app b r)
theorem dps_take {Z : Hp} : ∀ (n : Nat) {vs : List V} {ds : List D}, Dqs Z vs ds → Dqs Z (vs.take n) (ds.take n)
  | 0, _, _, _ => by simp; exact .nil
  | n + 1, _, [], q => by cases q; simp; exact .nil
  | n + 1, _, d :: ds, q => by cases q with | cons a b => simp; exact .cons a (dps_take n b)
theorem dps_drop {Z : Hp} : ∀ (n : Nat) {vs : List V} {ds : List D}, Dqs Z vs ds → Dqs Z (vs.drop n) (ds.drop n)
  | 0, _, _, q => by simpa using q
  | n + 1, _, [], q => by cases q; simp; exact .nil
  | n + 1, _, d :: ds, q => by cases q with | cons a b => simp; exact dps_drop n b
theorem dps_rev {Z : Hp} : ∀ {vs : List V} {ds : List D}, Dqs Z vs ds → Dqs Z vs.reverse ds.reverse
  | _, [], q => by cases q; simp; exact .nil
  | _, d :: ds, q => by cases q with | cons a b => simp; exact dps_app (dps_rev b) (.cons a .nil)
theorem dps_ints {Z : Hp} : ∀ (ns : List Int), Dqs Z (ns.map V.int) (ns.map PyData.int)
  | [] => .nil
  | n :: ns => .cons (.int n) (dps_ints ns)
theorem dps_strs {Z : Hp} : ∀ (ns : List Str), Dqs Z (ns.map V.str) (ns.map PyData.str)
  | [] => .nil
  | n :: ns => .cons (.str n) (dps_strs ns)

/-! ### slots and values -/
inductive S where
  | dat (d : D)
  | feed (cs : List D)
  | own (ds : List D)
  /-- a list of the feed's that stays as it is -/
  | ro (ds : List D)
  /-- dicts of the def's own -/
  | odK (es : List (Key × D))
  | odT (es : List (List Key × D))
  /-- this very value: a lambda, an exception in hand -/
  | raw (v : V)
def S.lent : S → Bool
  | .own _ => false
  | .odK _ => false
  | .odT _ => false
  | _ => true
/-- an object that the def alone holds, and changes -/
def S.mine : S → Bool
  | .own _ => true
  | .odK _ => true
  | .odT _ => true
  | _ => false

/-- a thing of the def's (or the law's) own that draws change: its value, its objects, what holds of them -/
structure Fd where
  ref : V
  cs : List D
  own : Addr → Prop
  ok : Hp → Prop
  away : ∀ H p, ok H → H p = none → ¬ own p
  here : ∀ H H', ok H → (∀ a, own a → H' a = H a) → (∀ a h, H a = some (.ext h) → H' a = H a) → ok H'
  ro : V → List D → Prop
  reads : ∀ H v ds, ok H → ro v ds → ∃ a vs, v = .ref a ∧ H a = some (.lst vs) ∧ ∀ Z, Dqs Z vs ds
/-- a is none of its objects -/
def nf (F : Option Fd) (a : Addr) : Prop := ∀ x, F = some x → ¬ x.own a
/-- there is one, of such a kind -/
def HasF (fam : Fd → Prop) (F : Option Fd) : Prop := ∃ y, F = some y ∧ fam y
theorem HasF.all {fam : Fd → Prop} {F : Option Fd} (h : HasF fam F) : ∀ y, F = some y → fam y := fun y e => by
  obtain ⟨z, e1, h1⟩ := h
  rw [e] at e1
  cases e1
  exact h1
/-- how the heap may change: all but the feed stays, the data part grows by new objects alone -/
structure Fr (F : Option Fd) (H Z H' Z' : Hp) : Prop where
  keep : ∀ a o, nf F a → H a = some o → H' a = some o
  zz : Same Z Z'
  zh : Same Z' H'
  new : ∀ a o, Z' a = some o → Z a = none → H a = none
  notF : ∀ a o, Z' a = some o → nf F a
/-- the feed -/
def FeedOk (F : Option Fd) (H : Hp) : Prop := ∀ x, F = some x → x.ok H
theorem FeedOk.ne {F : Option Fd} {H : Hp} {p : Addr} (fd : FeedOk F H) (np : H p = none) : nf F p := fun x e => x.away H p (fd x e) np
/-- another object than these changes -/
theorem FeedOk.other {F : Option Fd} {H : Hp} {p : Addr} {o : HO} (fd : FeedOk F H) (np : nf F p) (nx : ∀ h, H p ≠ some (.ext h)) : FeedOk F (upd H p o) := fun x e =>
  x.here H _ (fd x e) (fun a ha => upd_ne fun z => np x e (z ▸ ha)) fun a h e' => upd_ne fun z => nx h (z ▸ e')
theorem FeedOk.made {F : Option Fd} {H : Hp} {p : Addr} {o : HO} (fd : FeedOk F H) (np : H p = none) : FeedOk F (upd H p o) := fd.other (fd.ne np) fun h e => by rw [np] at e; cases e

theorem Fr.refl {F : Option Fd} {H Z : Hp} (h : Same Z H) (hf : ∀ a o, Z a = some o → nf F a) : Fr F H Z H Z := ⟨fun _ _ _ e => e, fun _ _ e => e, h, fun a o e n => (by rw [e] at n; cases n), hf⟩
theorem Fr.trans {F : Option Fd} {H Z H1 Z1 H2 Z2 : Hp} (a : Fr F H Z H1 Z1) (b : Fr F H1 Z1 H2 Z2) : Fr F H Z H2 Z2 where
  keep := fun c o n e => b.keep c o n (a.keep c o n e)
  zz := a.zz.trans b.zz
  zh := b.zh
  notF := b.notF
  new := fun c o e n => by
    cases q : Z1 c with
    | some u => exact a.new c u q n
    | none =>
      have h1 := b.new c o e q
      have h2 := b.notF c o e
      cases r : H c with
      | none => rfl
      | some u => rw [a.keep c u h2 r] at h1; cases h1

/-- a value is what s says; H0: the def's entry -/
def SV (F : Option Fd) (H0 H Z : Hp) (v : V) : S → Prop
  | .dat d => Dq Z v d
  | .feed cs => ∃ x, F = some x ∧ v = x.ref ∧ x.cs = cs
  | .own ds => ∃ a vs, v = .ref a ∧ H a = some (.lst vs) ∧ Z a = none ∧ H0 a = none ∧ nf F a ∧ Dqs Z vs ds
  | .ro ds => ∃ x, F = some x ∧ x.ro v ds
  | .odK es => ∃ a kvs, v = .ref a ∧ H a = some (.dK kvs) ∧ Z a = none ∧ H0 a = none ∧ nf F a ∧ kvs.map (·.1) = es.map (·.1) ∧ Dqs Z (kvs.map (·.2)) (es.map (·.2))
  | .odT es => ∃ a kvs, v = .ref a ∧ H a = some (.dT kvs) ∧ Z a = none ∧ H0 a = none ∧ nf F a ∧ kvs.map (·.1) = es.map (·.1) ∧ Dqs Z (kvs.map (·.2)) (es.map (·.2))
  | .raw u => v = u
/-- where an object of its own stands -/
theorem SV.at {F : Option Fd} {H0 H Z : Hp} {v : V} {s : S} (h : SV F H0 H Z v s) (m : s.mine = true) : ∃ a o, v = .ref a ∧ H a = some o ∧ Z a = none ∧ H0 a = none ∧ nf F a := by
  cases s with
  | dat d => cases m
  | feed cs => cases m
  | ro ds => cases m
  | raw u => cases m
  | own ds => obtain ⟨a, vs, e, h1, h2, h3, h4, _⟩ := h; exact ⟨a, _, e, h1, h2, h3, h4⟩
  | odK es => obtain ⟨a, vs, e, h1, h2, h3, h4, _⟩ := h; exact ⟨a, _, e, h1, h2, h3, h4⟩
  | odT es => obtain ⟨a, vs, e, h1, h2, h3, h4, _⟩ := h; exact ⟨a, _, e, h1, h2, h3, h4⟩
/-- .. it is none of those that never change -/
theorem SV.plain {F : Option Fd} {H0 H Z : Hp} {a : Addr} {s : S} (h : SV F H0 H Z (.ref a) s) (m : s.mine = true) : ∀ k, H a ≠ some (.ext k) := by
  intro k z
  cases s with
  | dat d => cases m
  | feed cs => cases m
  | ro ds => cases m
  | raw u => cases m
  | own ds => obtain ⟨b, vs, e, h1, _⟩ := h; cases e; rw [h1] at z; cases z
  | odK es => obtain ⟨b, vs, e, h1, _⟩ := h; cases e; rw [h1] at z; cases z
  | odT es => obtain ⟨b, vs, e, h1, _⟩ := h; cases e; rw [h1] at z; cases z
/-- .. read by another heap -/
theorem SV.to {F : Option Fd} {H0 H Z H' Z' : Hp} {v : V} {s : S} (h : SV F H0 H Z v s) (zz : Same Z Z') (k : s.mine = true → ∀ a o, v = .ref a → H a = some o → H' a = some o ∧ Z' a = none) : SV F H0 H' Z' v s := by
  cases s with
  | dat d => exact dp_mono zz d v h
  | feed cs => exact h
  | ro ds => exact h
  | raw u => exact h
  | own ds =>
    obtain ⟨a, vs, e, h1, h2, h3, h4, h5⟩ := h
    obtain ⟨k1, k2⟩ := k rfl a _ e h1
    exact ⟨a, vs, e, k1, k2, h3, h4, dps_mono zz ds vs h5⟩
  | odK es =>
    obtain ⟨a, vs, e, h1, h2, h3, h4, h5, h6⟩ := h
    obtain ⟨k1, k2⟩ := k rfl a _ e h1
    exact ⟨a, vs, e, k1, k2, h3, h4, h5, dps_mono zz _ _ h6⟩
  | odT es =>
    obtain ⟨a, vs, e, h1, h2, h3, h4, h5, h6⟩ := h
    obtain ⟨k1, k2⟩ := k rfl a _ e h1
    exact ⟨a, vs, e, k1, k2, h3, h4, h5, dps_mono zz _ _ h6⟩
theorem SV.next {F : Option Fd} {H0 H Z H' Z' : Hp} {v : V} {s : S} (h : SV F H0 H Z v s) (f : Fr F H Z H' Z') : SV F H0 H' Z' v s := by
  refine h.to f.zz fun m a o e h1 => ?_
  obtain ⟨a', o', e', h1', h2, h3, h4⟩ := h.at m
  rw [e] at e'
  cases e'
  refine ⟨f.keep a o h4 h1, ?_⟩
  cases q : Z' a with
  | none => rfl
  | some u =>
    have := f.new a u q h2
    rw [this] at h1; cases h1
theorem SV.lent {F : Option Fd} {H0 H1 H Z : Hp} {v : V} {s : S} (h : SV F H0 H Z v s) (l : s.lent = true) : SV F H1 H Z v s := by
  cases s with
  | dat d => exact h
  | feed cs => exact h
  | ro ds => exact h
  | raw u => exact h
  | own ds => cases l
  | odK ds => cases l
  | odT ds => cases l

abbrev Env' := List (Option S)
/-- the state within a def: H0, Z0 at the entry -/
structure Sta (F : Option Fd) (H0 Z0 H Z : Hp) (σ : L2.St) (ρ : Env') : Prop where
  fr : Fr F H0 Z0 H Z
  fd : FeedOk F H
  len : σ.length = ρ.length
  env : ∀ (i : Nat) (s : S), ρ[i]? = some (some s) → ∃ v, σ[i]? = some (some v) ∧ SV F H0 H Z v s
  sep : ∀ (i j : Nat) (a : Addr) (s t : S), ρ[i]? = some (some s) → ρ[j]? = some (some t) → s.mine = true → t.mine = true → σ[i]? = some (some (V.ref a)) → σ[j]? = some (some (V.ref a)) → i = j
theorem Sta.next {F : Option Fd} {H0 Z0 H Z H' Z' : Hp} {σ : L2.St} {ρ : Env'} (h : Sta F H0 Z0 H Z σ ρ) (f : Fr F H Z H' Z') (fd : FeedOk F H') : Sta F H0 Z0 H' Z' σ ρ :=
  ⟨h.fr.trans f, fd, h.len, fun i s e => let ⟨v, e1, e2⟩ := h.env i s e; ⟨v, e1, e2.next f⟩, h.sep⟩
theorem Sta.set {F : Option Fd} {H0 Z0 H Z : Hp} {σ : L2.St} {ρ : Env'} (h : Sta F H0 Z0 H Z σ ρ) (i : Nat) {s : S} {v : V} (sv : SV F H0 H Z v s) (l : s.lent = true) : Sta F H0 Z0 H Z (σ.set i (some v)) (ρ.set i (some s)) := by
  refine ⟨h.fr, h.fd, by simp [h.len], fun j s' e => ?_, fun j k a s1 s2 e1 e2 m1 m2 e3 e4 => ?_⟩
  · by_cases hj : i = j
    · subst hj
      by_cases hi : i < ρ.length
      · rw [List.getElem?_set_self hi] at e
        cases e
        exact ⟨v, List.getElem?_set_self (by rw [h.len]; exact hi), sv⟩
      · rw [List.getElem?_eq_none (by simp; omega)] at e; cases e
    · rw [List.getElem?_set_ne hj] at e
      rw [List.getElem?_set_ne hj]
      exact h.env j s' e
  · have go : ∀ m t, (ρ.set i (some s))[m]? = some (some t) → t.mine = true → i ≠ m := fun m t e mt z => by
      subst z
      by_cases hi : i < ρ.length
      · rw [List.getElem?_set_self hi] at e
        cases e
        cases s <;> first | (cases mt; done) | (cases l; done)
      · rw [List.getElem?_eq_none (by simp; omega)] at e; cases e
    have n1 := go j s1 e1 m1
    have n2 := go k s2 e2 m2
    rw [List.getElem?_set_ne n1] at e1 e3
    rw [List.getElem?_set_ne n2] at e2 e4
    exact h.sep j k a s1 s2 e1 e2 m1 m2 e3 e4

/-- an exception: its class by name, its fields -/
structure Xn where
  cls : Str
  fs : List (Str × D)

/-- where one stands: the def's context, the feed, the entry's heaps; what is wanted of exceptions and what they look like -/
structure Cp where
  X : Cx
  F : Option Fd
  H0 : Hp
  Z0 : Hp
  EE : XK := fun _ _ _ => False
  XV : Value → Option Addr → Hp → Hp → Xn → Prop := fun _ _ _ _ _ => False

/-- what an expression's value may be: any s of q, wherever the heap then stands -/
def Kt (C : Cp) (H Z : Hp) (q : S → Prop) (Q : VK) : Prop :=
  ∀ s v H' Z', Fr C.F H Z H' Z' → FeedOk C.F H' → SV C.F C.H0 H' Z' v s → q s → Q v H'
/-- what may be raised -/
def Ke (C : Cp) (H Z : Hp) (e : Xn → Prop) : Prop :=
  ∀ x cls d H' Z', Fr C.F H Z H' Z' → FeedOk C.F H' → C.XV cls d H' Z' x → e x → C.EE cls d H'
abbrev Sta.at (C : Cp) (H Z : Hp) (σ : L2.St) (ρ : Env') : Prop := Sta C.F C.H0 C.Z0 H Z σ ρ
theorem Kt.here {C : Cp} {H Z : Hp} {σ : L2.St} {ρ : Env'} {q : S → Prop} {Q : VK} {s : S} {v : V} (k : Kt C H Z q Q) (h : Sta.at C H Z σ ρ) (sv : SV C.F C.H0 H Z v s) (hq : q s) : Q v H :=
  k s v H Z (Fr.refl h.fr.zh h.fr.notF) h.fd sv hq
theorem Kt.next {C : Cp} {H Z H1 Z1 : Hp} {q : S → Prop} {Q : VK} (k : Kt C H Z q Q) (f : Fr C.F H Z H1 Z1) : Kt C H1 Z1 q Q :=
  fun s v H' Z' f' fd sv hq => k s v H' Z' (f.trans f') fd sv hq
theorem Ke.next {C : Cp} {H Z H1 Z1 : Hp} {e : Xn → Prop} (k : Ke C H Z e) (f : Fr C.F H Z H1 Z1) : Ke C H1 Z1 e :=
  fun x cls d H' Z' f' fd sv hq => k x cls d H' Z' (f.trans f') fd sv hq

abbrev W := Env' → (S → Prop) → (Xn → Prop) → Prop
abbrev WB := Env' → (Bool → Prop) → (Xn → Prop) → Prop
abbrev WA := Env' → (List S → Prop) → (Xn → Prop) → Prop

def tP (C : Cp) (w : W) : TE := fun σ H Q => ∃ Z ρ q e, Sta.at C H Z σ ρ ∧ w ρ q e ∧ Kt C H Z q Q ∧ Ke C H Z e
/-- an expression by its plain meaning -/
def E (C : Cp) (e : Expr) (w : W) : Prop := PE C.X e (tP C w)
def tPT (C : Cp) (w : WB) : TT := fun σ H Q => ∃ Z ρ q e, Sta.at C H Z σ ρ ∧ w ρ q e ∧ (∀ b H' Z', Fr C.F H Z H' Z' → FeedOk C.F H' → q b → Q b H') ∧ Ke C H Z e
/-- a test -/
def T (C : Cp) (e : Expr) (w : WB) : Prop := PT C.X e (tPT C w)
inductive SVs (F : Option Fd) (H0 H Z : Hp) : List V → List S → Prop
  | nil : SVs F H0 H Z [] []
  | cons {v : V} {vs : List V} {s : S} {ss : List S} : SV F H0 H Z v s → SVs F H0 H Z vs ss → SVs F H0 H Z (v :: vs) (s :: ss)
theorem SVs.next {F : Option Fd} {H0 H Z H' Z' : Hp} (f : Fr F H Z H' Z') : ∀ {vs : List V} {ss : List S}, SVs F H0 H Z vs ss → SVs F H0 H' Z' vs ss
  | _, _, .nil => .nil
  | _, _, .cons a b => .cons (a.next f) (SVs.next f b)
theorem SVs.lent {F : Option Fd} {H0 H1 H Z : Hp} : ∀ {vs : List V} {ss : List S}, SVs F H0 H Z vs ss → ss.all S.lent = true → SVs F H1 H Z vs ss
  | _, _, .nil, _ => .nil
  | _, _, .cons a b, l => by
    simp only [List.all_cons, Bool.and_eq_true] at l
    exact .cons (a.lent l.1) (SVs.lent b l.2)
theorem SVs.len {F : Option Fd} {H0 H Z : Hp} : ∀ {vs : List V} {ss : List S}, SVs F H0 H Z vs ss → vs.length = ss.length
  | _, _, .nil => rfl
  | _, _, .cons a b => by simp [SVs.len b]
theorem SVs.get {F : Option Fd} {H0 H Z : Hp} : ∀ {vs : List V} {ss : List S} {i : Nat} {s : S}, SVs F H0 H Z vs ss → ss[i]? = some s → ∃ v, vs[i]? = some v ∧ SV F H0 H Z v s
  | _, _, _, _, .nil, e => by simp at e
  | _, _, 0, _, .cons a b, e => by simp at e; subst e; exact ⟨_, rfl, a⟩
  | _, _, i + 1, _, .cons a b, e => by
    obtain ⟨v, h1, h2⟩ := SVs.get (i := i) b (by simpa using e)
    exact ⟨v, by simpa using h1, h2⟩
theorem SVs.dats {F : Option Fd} {H0 H Z : Hp} : ∀ {vs : List V} {ds : List D}, SVs F H0 H Z vs (ds.map S.dat) → Dqs Z vs ds
  | _, [], q => by cases q; exact .nil
  | _, d :: ds, q => by cases q with | cons a b => exact .cons a (SVs.dats b)
def tPA (C : Cp) (w : WA) : TA := fun σ H Q => ∃ Z ρ q e, Sta.at C H Z σ ρ ∧ w ρ q e ∧ (∀ ss vs H' Z', Fr C.F H Z H' Z' → FeedOk C.F H' → SVs C.F C.H0 H' Z' vs ss → q ss → Q vs H') ∧ Ke C H Z e
def A (C : Cp) (es : List Expr) (w : WA) : Prop := PA C.X es (tPA C w)

theorem weakE {X : Cx} {e : Expr} {t t' : TE} (h : PE X e t) (k : ∀ σ H Q, t' σ H Q → t σ H Q) : PE X e t' := ⟨fun pins s σ H Q I q => h.run pins s σ H Q I (k _ _ _ q)⟩
theorem weakT {X : Cx} {e : Expr} {t t' : TT} (h : PT X e t) (k : ∀ σ H Q, t' σ H Q → t σ H Q) : PT X e t' := ⟨fun pins s σ H Q I q => h.run pins s σ H Q I (k _ _ _ q)⟩
theorem weakA {X : Cx} {e : List Expr} {t t' : TA} (h : PA X e t) (k : ∀ σ H Q, t' σ H Q → t σ H Q) : PA X e t' := ⟨fun p pins s σ H Q I q => h.run p pins s σ H Q I (k _ _ _ q)⟩

section
variable {C : Cp}
/-! ### names, constants -/
def wVar (i : Nat) : W := fun ρ q _ => ∃ s, ρ[i]? = some (some s) ∧ q s
def wD (d : D) : W := fun _ q _ => q (.dat d)
theorem e_var (i : Nat) {x : Str} {pos : Pos} (h : PE C.X (.Name x pos) (tVar i)) : E C (.Name x pos) (wVar i) :=
  weakE h fun σ H Q ⟨Z, ρ, q, e, st, ⟨s, e1, e2⟩, k, _⟩ => let ⟨v, h1, h2⟩ := st.env i s e1; ⟨v, h1, k.here st h2 e2⟩
theorem e_int {i j pos} : E C (.Constant (.int i) j pos) (wD (.int i)) := weakE pe_int fun σ H Q ⟨Z, ρ, q, e, st, e2, k, _⟩ => k.here st (s := .dat (.int i)) (Dq.int i) e2
theorem e_bl {i j pos} : E C (.Constant (.bool i) j pos) (wD (.bool i)) := weakE pe_bl fun σ H Q ⟨Z, ρ, q, e, st, e2, k, _⟩ => k.here st (s := .dat (.bool i)) (Dq.bl i) e2
theorem e_str {i j pos} : E C (.Constant (.str i) j pos) (wD (.str i)) := weakE pe_str fun σ H Q ⟨Z, ρ, q, e, st, e2, k, _⟩ => k.here st (s := .dat (.str i)) (Dq.str i) e2
theorem e_non {j pos} : E C (.Constant .none j pos) (wD .none) := weakE pe_non fun σ H Q ⟨Z, ρ, q, e, st, e2, k, _⟩ => k.here st (s := .dat .none) Dq.non e2

/-! ### arguments -/
def wNil : WA := fun _ q _ => q []
def wCons (a : W) (r : WA) : WA := fun ρ q e => a ρ (fun s => r ρ (fun ss => q (s :: ss)) e) e
theorem a_nil : A C [] wNil := weakA pa_nil fun σ H Q ⟨Z, ρ, q, e, st, e2, k, _⟩ => k [] [] H Z (Fr.refl st.fr.zh st.fr.notF) st.fd .nil e2
theorem a_cons {e : Expr} {es : List Expr} {a : W} {r : WA} (ha : E C e a) (hr : A C es r) (hs : starEach (e :: es) C.X.env = (false, eval e C.X.env) :: starEach es C.X.env := by rfl) : A C (e :: es) (wCons a r) :=
  weakA (pa_cons ha hr hs) fun σ H Q ⟨Z, ρ, q, e, st, hw, k, ke⟩ =>
    ⟨Z, ρ, _, e, st, hw, fun s1 x H1 Z1 f1 fd1 sv1 hq1 => ⟨Z1, ρ, _, e, st.next f1 fd1, hq1, fun ss vs H2 Z2 f2 fd2 sv2 hq2 => k _ _ H2 Z2 (f1.trans f2) fd2 (.cons (sv1.next f2) sv2) hq2, ke.next f1⟩, ke⟩

/-! ### what is made new -/
theorem Fr.made {F : Option Fd} {H Z : Hp} {p : Addr} {o : HO} (h : Fr F H Z H Z) (fd : FeedOk F H) (np : H p = none) : Fr F H Z (upd H p o) (upd Z p o) := by
  have zp : Z p = none := by
    cases q : Z p with
    | none => rfl
    | some u => rw [h.zh p u q] at np; cases np
  refine ⟨fun a u n e => ?_, fun a u e => ?_, fun a u e => ?_, fun a u e n => ?_, fun a u e => ?_⟩
  · rw [upd_ne (ne_of_none e np)]; exact e
  · rw [upd_ne (ne_of_none e zp)]; exact e
  · by_cases ha : a = p
    · subst ha; rw [upd_same] at e ⊢; exact e
    · rw [upd_ne ha] at e ⊢; exact h.zh a u e
  · by_cases ha : a = p
    · subst ha; exact np
    · rw [upd_ne ha, n] at e; cases e
  · by_cases ha : a = p
    · subst ha
      exact fd.ne np
    · rw [upd_ne ha] at e; exact h.notF a u e
theorem Same.made {Z : Hp} {p : Addr} {o : HO} (zp : Z p = none) : Same Z (upd Z p o) := fun a u e => by rw [upd_ne (ne_of_none e zp)]; exact e
theorem Kt.tup {C : Cp} {H Z : Hp} {q : S → Prop} {Q : VK} {p : Addr} {vs : List V} {ds : List D} (k : Kt C H Z q Q) (h : Fr C.F H Z H Z) (fd : FeedOk C.F H) (np : H p = none) (dv : Dqs Z vs ds) (hq : q (.dat (.tuple ds))) : Q (.ref p) (upd H p (.tup vs)) :=
  have f := h.made (o := .tup vs) fd np
  k (.dat (.tuple ds)) _ _ _ f (fd.made np) (Dq.tup upd_same (dps_mono f.zz ds vs dv)) hq
theorem Kt.lst {C : Cp} {H Z : Hp} {q : S → Prop} {Q : VK} {p : Addr} {vs : List V} {ds : List D} (k : Kt C H Z q Q) (h : Fr C.F H Z H Z) (fd : FeedOk C.F H) (np : H p = none) (dv : Dqs Z vs ds) (hq : q (.dat (.list ds))) : Q (.ref p) (upd H p (.lst vs)) :=
  have f := h.made (o := .lst vs) fd np
  k (.dat (.list ds)) _ _ _ f (fd.made np) (Dq.lst upd_same (dps_mono f.zz ds vs dv)) hq
/-- the data of what was told, if it is data alone -/
def wTup (r : WA) : W := fun ρ q e => r ρ (fun ss => ∃ ds, ss = ds.map S.dat ∧ ds.length ≤ sizeLine ∧ q (.dat (.tuple ds))) e
def wLst (r : WA) : W := fun ρ q e => r ρ (fun ss => ∃ ds, ss = ds.map S.dat ∧ ds.length ≤ sizeLine ∧ q (.dat (.list ds))) e
theorem e_tup {es : List Expr} {x1} {pos : Pos} {r : WA} (h : A C es r) : E C (.Tuple es x1 pos) (wTup r) :=
  weakE (pe_tup h) fun σ H Q ⟨Z, ρ, q, e, st, hw, k, ke⟩ => ⟨Z, ρ, _, e, st, hw, fun ss vs H1 Z1 f1 fd1 sv ⟨ds, e1, z, hq⟩ => by
    subst e1
    refine ⟨by rw [sv.len]; simpa using z, fun p np => ?_⟩
    exact (k.next f1).tup (Fr.refl f1.zh f1.notF) fd1 np sv.dats hq, ke⟩
theorem e_lst {es : List Expr} {pos : Pos} {r : WA} (h : A C es r) : E C (.List es pos) (wLst r) :=
  weakE (pe_lst h) fun σ H Q ⟨Z, ρ, q, e, st, hw, k, ke⟩ => ⟨Z, ρ, _, e, st, hw, fun ss vs H1 Z1 f1 fd1 sv ⟨ds, e1, z, hq⟩ => by
    subst e1
    refine ⟨by rw [sv.len]; simpa using z, fun p np => ?_⟩
    exact (k.next f1).lst (Fr.refl f1.zh f1.notF) fd1 np sv.dats hq, ke⟩

/-! ### two-place operations, built-ins on arguments -/
abbrev O2 := S → S → (S → Prop) → Prop
/-- at these heaps, with such an end -/
structure At (C : Cp) (H Z : Hp) (q : S → Prop) (Q : VK) : Prop where
  fr : Fr C.F H Z H Z
  fd : FeedOk C.F H
  k : Kt C H Z q Q
theorem At.ret {C : Cp} {H Z : Hp} {q : S → Prop} {Q : VK} {s : S} {v : V} (a : At C H Z q Q) (sv : SV C.F C.H0 H Z v s) (hq : q s) : Q v H := a.k s v H Z a.fr a.fd sv hq
theorem At.tup {C : Cp} {H Z : Hp} {q : S → Prop} {Q : VK} {p : Addr} {vs : List V} {ds : List D} (a : At C H Z q Q) (np : H p = none) (dv : Dqs Z vs ds) (hq : q (.dat (.tuple ds))) : Q (.ref p) (upd H p (.tup vs)) := a.k.tup a.fr a.fd np dv hq
theorem At.lst {C : Cp} {H Z : Hp} {q : S → Prop} {Q : VK} {p : Addr} {vs : List V} {ds : List D} (a : At C H Z q Q) (np : H p = none) (dv : Dqs Z vs ds) (hq : q (.dat (.list ds))) : Q (.ref p) (upd H p (.lst vs)) := a.k.lst a.fr a.fd np dv hq
def rP (C : Cp) (o : O2) : R2 := fun x y H Q => ∃ Z s1 s2 q, At C H Z q Q ∧ SV C.F C.H0 H Z x s1 ∧ SV C.F C.H0 H Z y s2 ∧ o s1 s2 q
def Op (C : Cp) (f : Value → Value → Sem Value) (o : O2) : Prop := OpR C.X f (rP C o)
def w2 (o : O2) (a b : W) : W := fun ρ q e => a ρ (fun x => b ρ (fun y => o x y q) e) e
theorem tP2 {o : O2} {a b : W} {σ : L2.St} {H : Hp} {Q : VK} (h : tP C (w2 o a b) σ H Q) : tOp (rP C o) (tP C a) (tP C b) σ H Q := by
  obtain ⟨Z, ρ, q, e, st, hw, k, ke⟩ := h
  refine ⟨Z, ρ, _, e, st, hw, fun s1 x H1 Z1 f1 fd1 sv1 hq1 => ?_, ke⟩
  refine ⟨Z1, ρ, _, e, st.next f1 fd1, hq1, fun s2 y H2 Z2 f2 fd2 sv2 hq2 => ?_, ke.next f1⟩
  exact ⟨Z2, s1, s2, q, ⟨Fr.refl f2.zh f2.notF, fd2, k.next (f1.trans f2)⟩, sv1.next f2, sv2, hq2⟩
theorem e_op {op : Operator} {o : O2} {a b : Expr} {wa wb : W} {pos : Pos} (ho : Op C (binaryOp op) o) (ha : E C a wa) (hb : E C b wb) : E C (.BinOp a op b pos) (w2 o wa wb) :=
  weakE (pe_op ho ha hb) fun σ H Q h => tP2 h
theorem e_cmp {op : CmpOp} {o : O2} {a b : Expr} {wa wb : W} {pos : Pos} (ho : Op C (compareOp op) o) (ha : E C a wa) (hb : E C b wb) (hm : behindInMarks op b = false) : E C (.Compare a [op] [b] pos) (w2 o wa wb) :=
  weakE (pe_cmpR ho ha hb hm) fun σ H Q h => tP2 h
/-- a built-in function (or type) by its arguments -/
abbrev OA := List S → (S → Prop) → Prop
def rPA (C : Cp) (o : OA) : List V → Hp → VK → Prop := fun vs H Q => ∃ Z ss q, At C H Z q Q ∧ SVs C.F C.H0 H Z vs ss ∧ o ss q
def Bi (C : Cp) (f : Value) (o : OA) : Prop := CallR C.X f (rPA C o)
def wBi (o : OA) (r : WA) : W := fun ρ q e => r ρ (fun ss => o ss q) e
theorem e_bi {x : Str} {p pos : Pos} {e : Expr} {es : List Expr} {r : WA} {id : String} {o : OA} (hc : Bi C (.builtin id) o) (hg : Gl C.X x) (hm : C.X.mg x = none) (hv : bootBuiltins x = some (.builtin id)) (ha : A C (e :: es) r)
    (hn : x ≠ "__name__" := by decide) (hdb : (x == ("__debug__" : Str)) = false := by decide)
    (he : starEach (e :: es) C.X.env = (false, eval e C.X.env) :: starEach es C.X.env := by rfl) (hpl : (backTo pos (starEach es C.X.env)).any (·.1) = false := by rfl) : E C (.Call (.Name x p) (e :: es) [] pos) (wBi o r) :=
  weakE (pe_callB hc hg hm hv ha hn hdb he hpl) fun σ H Q ⟨Z, ρ, q, e, st, hw, k, ke⟩ => ⟨Z, ρ, _, e, st, hw, fun ss vs H1 Z1 f1 fd1 sv ho => ⟨Z1, ss, q, ⟨Fr.refl f1.zh f1.notF, fd1, k.next f1⟩, sv, ho⟩, ke⟩
theorem e_ty {x : Str} {p pos : Pos} {e : Expr} {es : List Expr} {r : WA} {id : String} {o : OA} (hc : Bi C (.type id) o) (hg : Gl C.X x) (hm : C.X.mg x = none) (hv : bootBuiltins x = some (.type id)) (ha : A C (e :: es) r)
    (hn : x ≠ "__name__" := by decide) (hdb : (x == ("__debug__" : Str)) = false := by decide)
    (he : starEach (e :: es) C.X.env = (false, eval e C.X.env) :: starEach es C.X.env := by rfl) (hpl : (backTo pos (starEach es C.X.env)).any (·.1) = false := by rfl) : E C (.Call (.Name x p) (e :: es) [] pos) (wBi o r) :=
  weakE (pe_callTy hc hg hm hv ha hn hdb he hpl) fun σ H Q ⟨Z, ρ, q, e, st, hw, k, ke⟩ => ⟨Z, ρ, _, e, st, hw, fun ss vs H1 Z1 f1 fd1 sv ho => ⟨Z1, ss, q, ⟨Fr.refl f1.zh f1.notF, fd1, k.next f1⟩, sv, ho⟩, ke⟩
end
end PL

/-! the operations over plain data -/
namespace PL
open PySem PySem.Spec PyProof.Rows L2
section
variable {C : Cp}

/-! ### ints -/
def oInt (c : Int → Int → Prop) (g : Int → Int → D) : O2
  | .dat (.int i), .dat (.int j), q => c i j ∧ q (.dat (g i j))
  | _, _, _ => False
theorem oInt_to {c : Int → Int → Prop} {g : Int → Int → D} {s1 s2 : S} {q : S → Prop} (h : oInt c g s1 s2 q) : ∃ i j, s1 = .dat (.int i) ∧ s2 = .dat (.int j) ∧ c i j ∧ q (.dat (g i j)) := by
  unfold oInt at h
  split at h
  · exact ⟨_, _, rfl, rfl, h.1, h.2⟩
  · exact h.elim
theorem op_int {f : Value → Value → Sem Value} {c : Int → Int → Prop} {g : Int → Int → V} {g' : Int → Int → D} (h : OpR C.X f (rI c g)) (hg : ∀ i j Z, Dq Z (g i j) (g' i j)) : Op C f (oInt c g') := by
  intro pins s σ H x y v u Q I rx ry ⟨Z, s1, s2, q, a, sv1, sv2, ho⟩
  obtain ⟨i, j, rfl, rfl, hc, hq⟩ := oInt_to ho
  cases (show Dq Z x (.int i) from sv1)
  cases (show Dq Z y (.int j) from sv2)
  exact h pins s σ H _ _ v u Q I rx ry ⟨i, j, rfl, rfl, hc, a.ret (s := .dat (g' i j)) (hg i j Z) hq⟩
theorem op_int0 {f : Value → Value → Sem Value} {g : Int → Int → V} {g' : Int → Int → D} (h : OpR C.X f (rI0 g)) (hg : ∀ i j Z, Dq Z (g i j) (g' i j)) : Op C f (oInt (fun _ _ => True) g') :=
  op_int (c := fun _ _ => True) (fun pins s σ H x y v u Q I rx ry ⟨i, j, e1, e2, _, q⟩ => h pins s σ H x y v u Q I rx ry ⟨i, j, e1, e2, q⟩) hg
def oSub : O2 := oInt (fun _ _ => True) fun i j => .int (i - j)
theorem o_sub : Op C (binaryOp .Sub) oSub := op_int0 op_sub fun _ _ _ => Dq.int _
def oDiv : O2 := oInt CDiv fun i j => .int (i / j)
theorem o_div : Op C (binaryOp .FloorDiv) oDiv := op_int op_fdiv fun _ _ _ => Dq.int _
def oMod : O2 := oInt (fun _ j => 0 < j) fun i j => .int (i % j)
theorem o_mod : Op C (binaryOp .Mod) oMod := op_int op_mod fun _ _ _ => Dq.int _
def oPow : O2 := oInt CPow fun i j => .int (i ^ j.toNat)
theorem o_pow : Op C (binaryOp .Pow) oPow := op_int op_pow fun _ _ _ => Dq.int _
/-- order of ints and of texts -/
def strLt (a b : Str) : Bool := decide (a.cps.toList < b.cps.toList)
def oOrd (p : Int → Int → Bool) (r : Str → Str → Bool) : O2
  | .dat (.int i), .dat (.int j), q => q (.dat (.bool (p i j)))
  | .dat (.str i), .dat (.str j), q => q (.dat (.bool (r i j)))
  | _, _, _ => False
theorem op_ord {f : Value → Value → Sem Value} {p : Int → Int → Bool} {r : Str → Str → Bool} (h : OpR C.X f (rI0 fun i j => .bl (p i j))) (h2 : OpR C.X f (fun x y H Q => ∃ i j, x = .str i ∧ y = .str j ∧ Q (.bl (r i j)) H)) : Op C f (oOrd p r) := by
  intro pins s σ H x y v u Q I rx ry ⟨Z, s1, s2, q, a, sv1, sv2, ho⟩
  unfold oOrd at ho
  split at ho
  · rename_i i j
    cases (show Dq Z x (.int i) from sv1)
    cases (show Dq Z y (.int j) from sv2)
    exact h pins s σ H _ _ v u Q I rx ry ⟨i, j, rfl, rfl, a.ret (s := .dat (.bool _)) (Dq.bl _) ho⟩
  · rename_i i j
    cases (show Dq Z x (.str i) from sv1)
    cases (show Dq Z y (.str j) from sv2)
    exact h2 pins s σ H _ _ v u Q I rx ry ⟨i, j, rfl, rfl, a.ret (s := .dat (.bool _)) (Dq.bl _) ho⟩
  · exact ho.elim
def oLt : O2 := oOrd (fun i j => decide (i < j)) strLt
def oLe : O2 := oOrd (fun i j => decide (i ≤ j)) fun a b => !strLt b a
def oGt : O2 := oOrd (fun i j => decide (j < i)) fun a b => strLt b a
def oGe : O2 := oOrd (fun i j => decide (j ≤ i)) fun a b => !strLt a b
theorem o_lt : Op C (compareOp .Lt) oLt := op_ord op_lt op_lt_str
theorem o_le : Op C (compareOp .LtE) oLe := op_ord op_le op_le_str
theorem o_gt : Op C (compareOp .Gt) oGt := op_ord op_gt op_gt_str
theorem o_ge : Op C (compareOp .GtE) oGe := op_ord op_ge op_ge_str

/-! ### + and * -/
def S.lst : S → Option (List D)
  | .dat (.list xs) => some xs
  | .own xs => some xs
  | .ro xs => some xs
  | _ => none
theorem SV.lst {F : Option Fd} {H0 H Z : Hp} {x : V} {s : S} {xs : List D} (h : SV F H0 H Z x s) (zh : Same Z H) (fd : FeedOk F H) (e : s.lst = some xs) : ∃ a vs, x = .ref a ∧ H a = some (.lst vs) ∧ Dqs Z vs xs := by
  unfold S.lst at e
  split at e
  · rename_i ys
    cases e
    cases (show Dq Z x (.list xs) from h) with
    | lst h1 h2 => exact ⟨_, _, rfl, zh _ _ h1, h2⟩
  · rename_i ys
    cases e
    obtain ⟨a, vs, e1, e2, _, _, _, h5⟩ := h
    exact ⟨a, vs, e1, e2, h5⟩
  · rename_i ys
    cases e
    obtain ⟨y, e1, e2⟩ := h
    obtain ⟨a, vs, e3, e4, e5⟩ := y.reads H x _ (fd y e1) e2
    exact ⟨a, vs, e3, e4, e5 Z⟩
  · cases e
def oAdd : O2 := fun x y q => match x, y with
  | .dat (.int i), .dat (.int j) => q (.dat (.int (i + j)))
  | .dat (.str i), .dat (.str j) => i.length + j.length ≤ sizeLine ∧ q (.dat (.str (i ++ j)))
  | .dat (.tuple xs), .dat (.tuple ys) => xs.length + ys.length ≤ sizeLine ∧ q (.dat (.tuple (xs ++ ys)))
  | x, y => ∃ xs ys, x.lst = some xs ∧ y.lst = some ys ∧ xs.length + ys.length ≤ sizeLine ∧ q (.dat (.list (xs ++ ys)))
theorem o_add : Op C (binaryOp .Add) oAdd := by
  intro pins s σ H x y v u Q I rx ry ⟨Z, s1, s2, q, a, sv1, sv2, ho⟩
  unfold oAdd at ho
  split at ho
  · rename_i i j
    cases (show Dq Z x (.int i) from sv1)
    cases (show Dq Z y (.int j) from sv2)
    exact op_add pins s σ H _ _ v u Q I rx ry ⟨i, j, rfl, rfl, a.ret (s := .dat (.int _)) (Dq.int _) ho⟩
  · rename_i i j
    cases (show Dq Z x (.str i) from sv1)
    cases (show Dq Z y (.str j) from sv2)
    exact op_add_str pins s σ H _ _ v u Q I rx ry ⟨i, j, rfl, rfl, ho.1, a.ret (s := .dat (.str _)) (Dq.str _) ho.2⟩
  · rename_i xs ys
    cases (show Dq Z x (.tuple xs) from sv1) with
    | @tup b vs _ h1 h2 =>
    cases (show Dq Z y (.tuple ys) from sv2) with
    | @tup c ws _ h3 h4 =>
    have l1 := dps_len h2
    have l2 := dps_len h4
    refine op_catA pins s σ H _ _ v u Q I rx ry ⟨b, c, vs, ws, rfl, rfl, SqT.of (a.fr.zh _ _ h1), SqT.of (a.fr.zh _ _ h3), by rw [l1, l2]; exact ho.1, fun e => ?_, fun e e' => ?_, fun e e' p np => ?_⟩
    · subst e
      cases h2
      exact a.ret (s := .dat (.tuple ([] ++ ys))) (Dq.tup h3 h4) ho.2
    · subst e'
      cases h4
      exact a.ret (s := .dat (.tuple (xs ++ []))) (by rw [List.append_nil]; exact Dq.tup h1 h2) ho.2
    · exact a.tup np (dps_app h2 h4) ho.2
  · obtain ⟨xs, ys, e1, e2, hl, hq⟩ := ho
    obtain ⟨b, vs, rfl, h1, h2⟩ := sv1.lst a.fr.zh a.fd e1
    obtain ⟨c, ws, rfl, h3, h4⟩ := sv2.lst a.fr.zh a.fd e2
    refine op_cat pins s σ H _ _ v u Q I rx ry ⟨b, c, vs, ws, rfl, rfl, h1, h3, by rw [dps_len h2, dps_len h4]; exact hl, fun p np => ?_⟩
    exact a.lst np (dps_app h2 h4) hq
theorem dps_rep {Z : Hp} {vs : List V} {ds : List D} (h : Dqs Z vs ds) : ∀ n : Nat, Dqs Z (List.replicate n vs).flatten (List.replicate n ds).flatten
  | 0 => by simp; exact .nil
  | n + 1 => by simp only [List.replicate_succ, List.flatten_cons]; exact dps_app h (dps_rep h n)
def oMul : O2 := fun x y q => match x, y with
  | .dat (.int i), .dat (.int j) => CMul i j ∧ q (.dat (.int (i * j)))
  | .dat (.tuple xs), .dat (.int k) => xs ≠ [] ∧ 2 ≤ k ∧ k ≤ 1000 ∧ xs.length ≤ 1000 ∧ q (.dat (.tuple (List.replicate k.toNat xs).flatten))
  | _, _ => False
end
end PL

/-! equality, membership, isinstance, len, built-ins, texts' methods -/
namespace PL
open PySem PySem.Spec PyProof.Rows L2
section
variable {C : Cp}
theorem o_mul : Op C (binaryOp .Mult) oMul := by
  intro pins s σ H x y v u Q I rx ry ⟨Z, s1, s2, q, a, sv1, sv2, ho⟩
  unfold oMul at ho
  split at ho
  · rename_i i j
    cases (show Dq Z x (.int i) from sv1)
    cases (show Dq Z y (.int j) from sv2)
    exact op_mul pins s σ H _ _ v u Q I rx ry ⟨i, j, rfl, rfl, ho.1, a.ret (s := .dat (.int _)) (Dq.int _) ho.2⟩
  · rename_i xs k
    cases (show Dq Z x (.tuple xs) from sv1) with
    | @tup b vs _ h1 h2 =>
    cases (show Dq Z y (.int k) from sv2)
    have l1 := dps_len h2
    obtain ⟨ne, k1, k2, l, hq⟩ := ho
    refine op_repT pins s σ H _ _ v u Q I rx ry ⟨b, k, vs, rfl, rfl, SqT.of (a.fr.zh _ _ h1), fun e => ?_, k1, k2, by rw [l1]; exact l, fun p np => ?_⟩
    · subst e
      cases h2
      exact ne rfl
    · exact a.tup np (dps_rep h2 k.toNat) hq
  · exact ho.elim

/-! ### == and != -/
def S.data : S → Option D
  | .dat d => some d
  | .own ds => some (.list ds)
  | .ro ds => some (.list ds)
  | _ => none
theorem lay_of {d : D} (h : SeqAt.shaped d = true) : d.canLay0 = true := (Bool.and_eq_true_iff.mp h).1
theorem SV.dp {K : PySem.W.Frag} {F : Option Fd} {H0 H Z : Hp} {x : V} {s : S} {d : D} (h : SV F H0 H Z x s) (zh : Same Z H) (fd : FeedOk F H) (e : s.data = some d) (l : SeqAt.shaped d = true) : Dp K H x d := by
  have l := lay_of l
  cases s with
  | odK es => cases e
  | odT es => cases e
  | dat d' =>
    cases e
    exact dq_dp _ _ l (dp_mono zh _ _ h)
  | own ds =>
    cases e
    obtain ⟨a, vs, e1, e2, _, _, _, h5⟩ := h
    rw [e1]
    exact .lst (SqL.of e2) (dqs_dp _ _ l (dps_mono zh _ _ h5))
  | feed cs => cases e
  | raw u => cases e
  | ro ds =>
    cases e
    obtain ⟨y, e1, e2⟩ := h
    obtain ⟨a, vs, e3, e4, e5⟩ := y.reads H x _ (fd y e1) e2
    rw [e3]
    exact .lst (SqL.of e4) (dqs_dp _ _ l (e5 H))
def oEq (neg : Bool) : O2 := fun x y q => ∃ d e, x.data = some d ∧ y.data = some e ∧ SeqAt.shaped d = true ∧ SeqAt.shaped e = true ∧ q (.dat (.bool (if neg then !PyData.eqv d e else PyData.eqv d e)))
theorem o_eq (hu : C.X.A.units + 64 < cLine) : Op C (compareOp .Eq) (oEq false) := by
  intro pins s σ H x y v u Q I rx ry ⟨Z, s1, s2, q, a, sv1, sv2, d, e, e1, e2, h1, h2, hq⟩
  exact op_eqD hu pins s σ H x y v u Q I rx ry ⟨d, e, sv1.dp a.fr.zh a.fd e1 h1, sv2.dp a.fr.zh a.fd e2 h2, h1, h2, a.ret (s := .dat (.bool _)) (Dq.bl _) hq⟩
theorem o_ne (hu : C.X.A.units + 64 < cLine) : Op C (compareOp .NotEq) (oEq true) := by
  intro pins s σ H x y v u Q I rx ry ⟨Z, s1, s2, q, a, sv1, sv2, d, e, e1, e2, h1, h2, hq⟩
  exact op_neD hu pins s σ H x y v u Q I rx ry ⟨d, e, sv1.dp a.fr.zh a.fd e1 h1, sv2.dp a.fr.zh a.fd e2 h2, h1, h2, a.ret (s := .dat (.bool _)) (Dq.bl _) hq⟩

/-! ### a sign in a text -/
def oInSign (neg : Bool) : O2
  | .dat (.str a), .dat (.str b), q => ∃ c, a = ⟨#[c]⟩ ∧ q (.dat (.bool (if neg then !decide (c ∈ b.cps.toList) else decide (c ∈ b.cps.toList))))
  | _, _, _ => False
theorem o_inSign : Op C (compareOp .In) (oInSign false) := by
  intro pins s σ H x y v u Q I rx ry ⟨Z, s1, s2, q, a, sv1, sv2, ho⟩
  unfold oInSign at ho
  split at ho
  · rename_i i j q'
    obtain ⟨c, e, hq⟩ := ho
    subst e
    cases (show Dq Z x (.str _) from sv1)
    cases (show Dq Z y (.str _) from sv2)
    exact op_in_sign pins s σ H _ _ v u Q I rx ry ⟨c, _, rfl, rfl, a.ret (s := .dat (.bool _)) (Dq.bl _) hq⟩
  · exact ho.elim
theorem o_notInSign : Op C (compareOp .NotIn) (oInSign true) := by
  intro pins s σ H x y v u Q I rx ry ⟨Z, s1, s2, q, a, sv1, sv2, ho⟩
  unfold oInSign at ho
  split at ho
  · rename_i i j q'
    obtain ⟨c, e, hq⟩ := ho
    subst e
    cases (show Dq Z x (.str _) from sv1)
    cases (show Dq Z y (.str _) from sv2)
    exact op_notIn_sign pins s σ H _ _ v u Q I rx ry ⟨c, _, rfl, rfl, a.ret (s := .dat (.bool _)) (Dq.bl _) hq⟩
  · exact ho.elim

/-! ### isinstance -/
def tyN : D → String
  | .none => "NoneType"
  | .bool _ => "bool"
  | .int _ => "int"
  | .str _ => "str"
  | .list _ => "list"
  | .tuple _ => "tuple"
  | .dict _ => "dict"
/-- whether d is an instance of the built-in type -/
def isTy (T : String) (d : D) : Bool := tyN d == T || (T == "int" && tyN d == "bool")
theorem ty_of {K : PySem.W.Frag} {Z H : Hp} {x : V} {d : D} (h : Dq Z x d) (hd : ∀ m, d ≠ .dict m) (zh : Same Z H) : TyX K H x (.type (tyN d)) := by
  cases h with
  | dK _ _ _ _ => exact absurd rfl (hd _)
  | dT _ _ _ _ => exact absurd rfl (hd _)
  | non => exact .base .non
  | bl b => exact .base (.bl b)
  | int i => exact .base (.int i)
  | str i => exact .base (.str i)
  | lst a b => exact .base (.lst (zh _ _ a))
  | tup a b => exact .base (.tup (zh _ _ a))
def tyOkB (T : String) : Bool := ["NoneType", "bool", "int", "str", "list", "tuple"].all fun t => decide (kitB t T = some (t == T || (T == "int" && t == "bool")))
theorem kit_is {K : PySem.W.Frag} {T : String} (hT : tyOkB T = true) {d : D} (hd : ∀ kvs, d ≠ .dict kvs) : PySem.W.kitOne K (.type (tyN d)) (.type T) = some (isTy T d) := by
  unfold tyOkB at hT
  rw [List.all_eq_true] at hT
  refine kit_ty ?_
  cases d with
  | dict kvs => exact absurd rfl (hd kvs)
  | none => exact of_decide_eq_true (hT "NoneType" (by simp))
  | bool b => exact of_decide_eq_true (hT "bool" (by simp))
  | int b => exact of_decide_eq_true (hT "int" (by simp))
  | str b => exact of_decide_eq_true (hT "str" (by simp))
  | list b => exact of_decide_eq_true (hT "list" (by simp))
  | tuple b => exact of_decide_eq_true (hT "tuple" (by simp))
def isDict : D → Bool
  | .dict _ => true
  | _ => false
def wIs (T : String) (w : W) : W := fun ρ q e => w ρ (fun s => ∃ d, s = .dat d ∧ isDict d = false ∧ q (.dat (.bool (isTy T d)))) e
theorem e_is {T : String} {y : Str} {e : Expr} {w : W} {p p2 pos : Pos} (he : E C e w) (hT : tyOkB T = true) (hg : Gl C.X "isinstance") (hm : C.X.mg "isinstance" = none) (hg2 : Gl C.X y) (hm2 : C.X.mg y = none) (hv2 : bootBuiltins y = some (.type T))
    (hv : bootBuiltins "isinstance" = some (.builtin "isinstance") := by decide +kernel) (hn : y ≠ "__name__" := by decide) (hd : (y == ("__debug__" : Str)) = false := by decide)
    (h1 : starEach [e, .Name y p2] C.X.env = (false, eval e C.X.env) :: starEach [.Name y p2] C.X.env := by rfl) :
    E C (.Call (.Name "isinstance" p) [e, .Name y p2] [] pos) (wIs T w) :=
  weakE (pe_callB call_isi hg hm hv (pa_cons he (pa_cons (pe_bltn (v := .ty T) hg2 hm2 hv2 rfl hn hd) pa_nil) h1) (by decide) (by decide) h1) fun σ H Q ⟨Z, ρ, q, ex, st, hw, k, ke⟩ =>
    ⟨Z, ρ, _, ex, st, hw, fun s1 x H1 Z1 f1 fd1 sv1 ⟨d, e1, nd, hq⟩ => by
      subst e1
      have dq : Dq Z1 x d := sv1
      have nd' : ∀ m, d ≠ .dict m := fun m z => by subst z; cases nd
      refine ⟨x, .ty T, .type (tyN d), .type T, isTy T d, rfl, .ty T, ty_of dq nd' f1.zh, kit_is hT nd', ?_⟩
      exact k (.dat (.bool _)) _ H1 Z1 f1 fd1 (Dq.bl _) hq, ke⟩

/-! ### len -/
def oLen : OA
  | [.dat (.str z)], q => z.length ≤ sizeLine ∧ q (.dat (.int z.length))
  | [.dat (.tuple xs)], q => q (.dat (.int xs.length))
  | [.dat (.list xs)], q => q (.dat (.int xs.length))
  | [.own xs], q => q (.dat (.int xs.length))
  | [.ro xs], q => q (.dat (.int xs.length))
  | _, _ => False
theorem svs1 {F : Option Fd} {H0 H Z : Hp} {vs : List V} {s : S} (h : SVs F H0 H Z vs [s]) : ∃ v, vs = [v] ∧ SV F H0 H Z v s := by
  cases h with
  | cons a b => cases b; exact ⟨_, rfl, a⟩
theorem svs2 {F : Option Fd} {H0 H Z : Hp} {vs : List V} {s t : S} (h : SVs F H0 H Z vs [s, t]) : ∃ v w, vs = [v, w] ∧ SV F H0 H Z v s ∧ SV F H0 H Z w t := by
  cases h with
  | cons a b => obtain ⟨w, e, c⟩ := svs1 b; exact ⟨_, w, by rw [e], a, c⟩
theorem b_len : Bi C (.builtin "len") oLen := by
  intro pins s σ H vs us Q I r ⟨Z, ss, q, a, sv, ho⟩
  unfold oLen at ho
  split at ho
  · obtain ⟨v, rfl, h⟩ := svs1 sv
    cases (show Dq Z v (.str _) from h)
    exact call_len_str pins s σ H _ us Q I r ⟨_, rfl, ho.1, a.ret (s := .dat (.int _)) (Dq.int _) ho.2⟩
  · obtain ⟨v, rfl, h⟩ := svs1 sv
    cases (show Dq Z v (.tuple _) from h) with
    | tup h1 h2 => exact call_len_seq pins s σ H _ us Q I r ⟨_, _, rfl, .inr (SqT.of (a.fr.zh _ _ h1)), by rw [dps_len h2]; exact a.ret (s := .dat (.int _)) (Dq.int _) ho⟩
  · obtain ⟨v, rfl, h⟩ := svs1 sv
    obtain ⟨b, ws, rfl, h1, h2⟩ := h.lst a.fr.zh a.fd rfl
    exact call_len_seq pins s σ H _ us Q I r ⟨_, _, rfl, .inl (SqL.of h1), by rw [dps_len h2]; exact a.ret (s := .dat (.int _)) (Dq.int _) ho⟩
  · obtain ⟨v, rfl, h⟩ := svs1 sv
    obtain ⟨b, ws, rfl, h1, h2⟩ := h.lst a.fr.zh a.fd rfl
    exact call_len_seq pins s σ H _ us Q I r ⟨_, _, rfl, .inl (SqL.of h1), by rw [dps_len h2]; exact a.ret (s := .dat (.int _)) (Dq.int _) ho⟩
  · obtain ⟨v, rfl, h⟩ := svs1 sv
    obtain ⟨b, ws, rfl, h1, h2⟩ := h.lst a.fr.zh a.fd rfl
    exact call_len_seq pins s σ H _ us Q I r ⟨_, _, rfl, .inl (SqL.of h1), by rw [dps_len h2]; exact a.ret (s := .dat (.int _)) (Dq.int _) ho⟩
  · exact ho.elim

/-! ### int, abs, gcd, list, tuple, all, any -/
def oInt1 : OA
  | [.dat (.int i)], q => q (.dat (.int i))
  | [.dat (.bool b)], q => q (.dat (.int (if b then 1 else 0)))
  | _, _ => False
theorem b_int : Bi C (.type "int") oInt1 := by
  intro pins s σ H vs us Q I r ⟨Z, ss, q, a, sv, ho⟩
  unfold oInt1 at ho
  split at ho
  · obtain ⟨v, rfl, h⟩ := svs1 sv
    cases (show Dq Z v (.int _) from h)
    exact call_int1 pins s σ H _ us Q I r (.inl ⟨_, rfl, a.ret (s := .dat (.int _)) (Dq.int _) ho⟩)
  · obtain ⟨v, rfl, h⟩ := svs1 sv
    cases (show Dq Z v (.bool _) from h)
    exact call_int1 pins s σ H _ us Q I r (.inr ⟨_, rfl, a.ret (s := .dat (.int _)) (Dq.int _) ho⟩)
  · exact ho.elim
def oAbs : OA
  | [.dat (.int i)], q => q (.dat (.int (if i < 0 then -i else i)))
  | _, _ => False
theorem b_abs : Bi C (.builtin "abs") oAbs := by
  intro pins s σ H vs us Q I r ⟨Z, ss, q, a, sv, ho⟩
  unfold oAbs at ho
  split at ho
  · obtain ⟨v, rfl, h⟩ := svs1 sv
    cases (show Dq Z v (.int _) from h)
    exact call_abs pins s σ H _ us Q I r ⟨_, rfl, a.ret (s := .dat (.int _)) (Dq.int _) ho⟩
  · exact ho.elim
def oGcd : OA
  | [.dat (.int i), .dat (.int j)], q => q (.dat (.int ((Nat.gcd i.natAbs j.natAbs : Nat) : Int)))
  | _, _ => False
theorem b_gcd : Bi C (.builtin "math.gcd") oGcd := by
  intro pins s σ H vs us Q I r ⟨Z, ss, q, a, sv, ho⟩
  unfold oGcd at ho
  split at ho
  · obtain ⟨v, w, rfl, h, h'⟩ := svs2 sv
    cases (show Dq Z v (.int _) from h)
    cases (show Dq Z w (.int _) from h')
    exact cr_gcd pins s σ H _ us Q I r ⟨_, _, rfl, a.ret (s := .dat (.int _)) (Dq.int _) ho⟩
  · exact ho.elim
/-- f(..), f a module's name of a built-in function -/
theorem e_bf {x : Str} {p pos : Pos} {e : Expr} {es : List Expr} {r : WA} {id : String} {o : OA} (hc : Bi C (.builtin id) o) (hg : Gl C.X x) (hm : C.X.mg x = some (.builtin id)) (ha : A C (e :: es) r) (hdb : (x == ("__debug__" : Str)) = false := by decide)
    (he : starEach (e :: es) C.X.env = (false, eval e C.X.env) :: starEach es C.X.env := by rfl) (hpl : (backTo pos (starEach es C.X.env)).any (·.1) = false := by rfl) : E C (.Call (.Name x p) (e :: es) [] pos) (wBi o r) :=
  weakE (pe_callBfun hc hg hm ha hdb he hpl) fun σ H Q ⟨Z, ρ, q, e, st, hw, k, ke⟩ => ⟨Z, ρ, _, e, st, hw, fun ss vs H1 Z1 f1 fd1 sv ho => ⟨Z1, ss, q, ⟨Fr.refl f1.zh f1.notF, fd1, k.next f1⟩, sv, ho⟩, ke⟩
def oList : OA
  | [.dat (.tuple xs)], q => q (.dat (.list xs))
  | [.dat (.list xs)], q => q (.dat (.list xs))
  | [.own xs], q => q (.dat (.list xs))
  | _, _ => False
theorem b_list : Bi C (.type "list") oList := by
  intro pins s σ H vs us Q I r ⟨Z, ss, q, a, sv, ho⟩
  unfold oList at ho
  split at ho
  · obtain ⟨v, rfl, h⟩ := svs1 sv
    cases (show Dq Z v (.tuple _) from h) with
    | tup h1 h2 => exact call_list_of pins s σ H _ us Q I r ⟨_, _, rfl, .inr (SqT.of (a.fr.zh _ _ h1)), fun p np => a.lst np h2 ho⟩
  · obtain ⟨v, rfl, h⟩ := svs1 sv
    obtain ⟨b, ws, rfl, h1, h2⟩ := h.lst a.fr.zh a.fd rfl
    exact call_list_of pins s σ H _ us Q I r ⟨_, _, rfl, .inl (SqL.of h1), fun p np => a.lst np h2 ho⟩
  · obtain ⟨v, rfl, h⟩ := svs1 sv
    obtain ⟨b, ws, rfl, h1, h2⟩ := h.lst a.fr.zh a.fd rfl
    exact call_list_of pins s σ H _ us Q I r ⟨_, _, rfl, .inl (SqL.of h1), fun p np => a.lst np h2 ho⟩
  · exact ho.elim
def oTuple : OA
  | [.dat (.tuple xs)], q => q (.dat (.tuple xs))
  | [.dat (.list xs)], q => q (.dat (.tuple xs))
  | [.own xs], q => q (.dat (.tuple xs))
  | _, _ => False
theorem b_tuple : Bi C (.type "tuple") oTuple := by
  intro pins s σ H vs us Q I r ⟨Z, ss, q, a, sv, ho⟩
  unfold oTuple at ho
  split at ho
  · obtain ⟨v, rfl, h⟩ := svs1 sv
    cases (show Dq Z v (.tuple _) from h) with
    | tup h1 h2 => exact call_tuple_of pins s σ H _ us Q I r ⟨_, _, rfl, .inr ⟨SqT.of (a.fr.zh _ _ h1), a.ret (s := .dat (.tuple _)) (Dq.tup h1 h2) ho⟩⟩
  · obtain ⟨v, rfl, h⟩ := svs1 sv
    obtain ⟨b, ws, rfl, h1, h2⟩ := h.lst a.fr.zh a.fd rfl
    exact call_tuple_of pins s σ H _ us Q I r ⟨_, _, rfl, .inl ⟨SqL.of h1, fun p np => a.tup np h2 ho⟩⟩
  · obtain ⟨v, rfl, h⟩ := svs1 sv
    obtain ⟨b, ws, rfl, h1, h2⟩ := h.lst a.fr.zh a.fd rfl
    exact call_tuple_of pins s σ H _ us Q I r ⟨_, _, rfl, .inl ⟨SqL.of h1, fun p np => a.tup np h2 ho⟩⟩
  · exact ho.elim
theorem dps_bls {Z : Hp} : ∀ {vs : List V} (bs : List Bool), Dqs Z vs (bs.map PyData.bool) → vs = bs.map V.bl
  | _, [], h => by cases h; rfl
  | _, b :: bs, h => by
    cases h with
    | cons h1 h2 =>
      have := dps_bls bs h2
      cases (show Dq Z _ (.bool b) from h1)
      rw [this]; rfl
/-- all(..), any(..) of a list of bools -/
def oAll (f : List Bool → Bool) : OA
  | [s], q => ∃ bs : List Bool, s.lst = some (bs.map PyData.bool) ∧ q (.dat (.bool (f bs)))
  | _, _ => False
theorem b_all (hc : C.X.calm = true) : Bi C (.builtin "all") (oAll fun bs => bs.all id) := by
  intro pins s σ H vs us Q I r ⟨Z, ss, q, a, sv, ho⟩
  unfold oAll at ho
  split at ho
  · obtain ⟨bs, e, hq⟩ := ho
    obtain ⟨v, rfl, h⟩ := svs1 sv
    obtain ⟨b, ws, rfl, h1, h2⟩ := h.lst a.fr.zh a.fd e
    have e2 := dps_bls bs h2
    subst e2
    exact cr_all hc pins s σ H _ us Q I r ⟨_, _, rfl, SqL.of h1, a.ret (s := .dat (.bool _)) (Dq.bl _) hq⟩
  · exact ho.elim
theorem b_any (hc : C.X.calm = true) : Bi C (.builtin "any") (oAll fun bs => bs.any id) := by
  intro pins s σ H vs us Q I r ⟨Z, ss, q, a, sv, ho⟩
  unfold oAll at ho
  split at ho
  · obtain ⟨bs, e, hq⟩ := ho
    obtain ⟨v, rfl, h⟩ := svs1 sv
    obtain ⟨b, ws, rfl, h1, h2⟩ := h.lst a.fr.zh a.fd e
    have e2 := dps_bls bs h2
    subst e2
    exact cr_any hc pins s σ H _ us Q I r ⟨_, _, rfl, SqL.of h1, a.ret (s := .dat (.bool _)) (Dq.bl _) hq⟩
  · exact ho.elim
end
end PL

/-! tests, and/or/not, conditional expressions, chains, subscripts, slices, texts' methods -/
namespace PL
open PySem PySem.Spec PyProof.Rows L2
section
variable {C : Cp} {a b c : Expr} {wa wb wc : W} {pos : Pos}
/-! ### tests -/
/-- a value that is to be a bool -/
def wT (w : W) : WB := fun ρ q e => w ρ (fun s => ∃ b, s = .dat (.bool b) ∧ q b) e
theorem t_of {e : Expr} {w : W} (h : E C e w) (he : ∀ whole, isTrue e C.X.env whole = (do let v ← whole; standAt e.pos; holding [v] (truthy v)) := by intro _; rfl) : T C e (wT w) :=
  weakT (pt_val h he) fun σ H Q ⟨Z, ρ, q, ex, st, hw, k, ke⟩ => ⟨Z, ρ, _, ex, st, hw, fun s v H' Z' f fd sv ⟨b, e1, hq⟩ => by
    subst e1
    cases (show Dq Z' v (.bool b) from sv)
    exact ⟨b, rfl, k b H' Z' f fd hq⟩, ke⟩
theorem t_cmp {op : CmpOp} {o : O2} (ho : Op C (compareOp op) o) (ha : E C a wa) (hb : E C b wb) (hm : behindInMarks op b = false) : T C (.Compare a [op] [b] pos) (wT (w2 o wa wb)) :=
  weakT (pt_cmpR ho ha hb hm) fun σ H Q ⟨Z, ρ, q, ex, st, hw, k, ke⟩ => tP2 ⟨Z, ρ, _, ex, st, hw, fun s v H' Z' f fd sv ⟨b, e1, hq⟩ => by
    subst e1
    cases (show Dq Z' v (.bool b) from sv)
    exact ⟨b, rfl, k b H' Z' f fd hq⟩, ke⟩
/-- truth of a datum -/
def tru : S → (Bool → Prop) → Prop
  | .dat .none, q => q false
  | .dat (.bool b), q => q b
  | .dat (.int i), q => q (i != 0)
  | .dat (.str z), q => z.length ≤ sizeLine ∧ q ((z.length : Int) != 0)
  | .dat (.list xs), q => q (!xs.isEmpty)
  | .dat (.tuple xs), q => q (!xs.isEmpty)
  | .own xs, q => q (!xs.isEmpty)
  | _, _ => False
def wTru (w : W) : WB := fun ρ q e => w ρ (fun s => tru s q) e
theorem emp_eq {Z : Hp} {vs : List V} {ds : List D} (h : Dqs Z vs ds) : vs.isEmpty = ds.isEmpty := by cases h <;> rfl
theorem t_tru {e : Expr} {w : W} (h : E C e w) (he : ∀ whole, isTrue e C.X.env whole = (do let v ← whole; standAt e.pos; holding [v] (truthy v)) := by intro _; rfl) : T C e (wTru w) :=
  weakT (pt_truth h he) fun σ H Q ⟨Z, ρ, q, ex, st, hw, k, ke⟩ => ⟨Z, ρ, _, ex, st, hw, fun s v H' Z' f fd sv hq => by
    unfold tru at hq
    dsimp only at hq
    split at hq
    · cases (show Dq Z' v _ from sv); exact ⟨_, rfl, k _ H' Z' f fd hq⟩
    · cases (show Dq Z' v _ from sv); exact ⟨_, rfl, k _ H' Z' f fd hq⟩
    · cases (show Dq Z' v _ from sv); exact ⟨_, rfl, k _ H' Z' f fd hq⟩
    · cases (show Dq Z' v _ from sv); exact ⟨_, ⟨hq.1, rfl⟩, k _ H' Z' f fd hq.2⟩
    · obtain ⟨b, ws, rfl, h1, h2⟩ := sv.lst f.zh fd rfl
      exact ⟨_, .inl ⟨_, SqL.of h1, rfl⟩, k _ H' Z' f fd (by rw [emp_eq h2]; exact hq)⟩
    · cases (show Dq Z' v _ from sv) with
      | tup h1 h2 => exact ⟨_, .inr (.inl ⟨_, SqT.of (f.zh _ _ h1), rfl⟩), k _ H' Z' f fd (by rw [emp_eq h2]; exact hq)⟩
    · obtain ⟨b, ws, rfl, h1, h2⟩ := sv.lst f.zh fd rfl
      exact ⟨_, .inl ⟨_, SqL.of h1, rfl⟩, k _ H' Z' f fd (by rw [emp_eq h2]; exact hq)⟩
    · exact hq.elim, ke⟩

/-! ### and, or, not -/
def wNotB (t : WB) : WB := fun ρ q e => t ρ (fun b => q (!b)) e
def wAndB (t u : WB) : WB := fun ρ q e => t ρ (fun b => if b = true then u ρ q e else q false) e
def wOrB (t u : WB) : WB := fun ρ q e => t ρ (fun b => if b = true then q true else u ρ q e) e
variable {ta tb : WB} {rest : List Expr}
theorem t_not (h : T C a ta) : T C (.UnaryOp .Not a pos) (wNotB ta) :=
  weakT (pt_not h) fun σ H Q ⟨Z, ρ, q, ex, st, hw, k, ke⟩ => ⟨Z, ρ, _, ex, st, hw, fun b H' Z' f fd hq => k _ H' Z' f fd hq, ke⟩
/-- .. whatever the whole is -/
def TW (C : Cp) (e : Expr) (w : WB) : Prop := PW C.X e (tPT C w)
theorem TW.t (h : TW C a ta) : T C a ta := PW.pt h
theorem tw_and1 (h : T C a ta) : TW C (.BoolOp .And [a] pos) ta := pw_and1 h
theorem tw_or1 (h : T C a ta) : TW C (.BoolOp .Or [a] pos) ta := pw_or1 h
theorem weakW {X : Cx} {e : Expr} {t t' : TT} (h : PW X e t) (k : ∀ σ H Q, t' σ H Q → t σ H Q) : PW X e t' := ⟨fun wh pins s σ H Q I q => h.run wh pins s σ H Q I (k _ _ _ q)⟩
theorem tw_and (ha : T C a ta) (hb : TW C (.BoolOp .And (b :: rest) pos) tb) : TW C (.BoolOp .And (a :: b :: rest) pos) (wAndB ta tb) :=
  weakW (pw_and ha hb) fun σ H Q ⟨Z, ρ, q, ex, st, hw, k, ke⟩ => ⟨Z, ρ, _, ex, st, hw, fun b H' Z' f fd hq => by
    cases b with
    | true => exact ⟨Z', ρ, q, ex, st.next f fd, hq, fun b H2 Z2 f2 fd2 h2 => k b H2 Z2 (f.trans f2) fd2 h2, ke.next f⟩
    | false => exact k false H' Z' f fd hq, ke⟩
theorem tw_or (ha : T C a ta) (hb : TW C (.BoolOp .Or (b :: rest) pos) tb) : TW C (.BoolOp .Or (a :: b :: rest) pos) (wOrB ta tb) :=
  weakW (pw_or ha hb) fun σ H Q ⟨Z, ρ, q, ex, st, hw, k, ke⟩ => ⟨Z, ρ, _, ex, st, hw, fun b H' Z' f fd hq => by
    cases b with
    | false => exact ⟨Z', ρ, q, ex, st.next f fd, hq, fun b H2 Z2 f2 fd2 h2 => k b H2 Z2 (f.trans f2) fd2 h2, ke.next f⟩
    | true => exact k true H' Z' f fd hq, ke⟩
/-- .. as values, the first ones bools -/
def wAnd (x y : W) : W := fun ρ q e => x ρ (fun s => ∃ b, s = .dat (.bool b) ∧ if b = true then y ρ q e else q (.dat (.bool false))) e
def wOr (x y : W) : W := fun ρ q e => x ρ (fun s => ∃ b, s = .dat (.bool b) ∧ if b = true then q (.dat (.bool true)) else y ρ q e) e
def wNot (x : W) : W := fun ρ q e => x ρ (fun s => ∃ b, s = .dat (.bool b) ∧ q (.dat (.bool (!b)))) e
theorem e_one {op} (h : E C a wa) : E C (.BoolOp op [a] pos) wa := pe_one h
theorem e_and (ha : E C a wa) (hb : E C (.BoolOp .And (b :: rest) pos) wb) : E C (.BoolOp .And (a :: b :: rest) pos) (wAnd wa wb) :=
  weakE (pe_and ha hb) fun σ H Q ⟨Z, ρ, q, ex, st, hw, k, ke⟩ => ⟨Z, ρ, _, ex, st, hw, fun s v H' Z' f fd sv ⟨b, e1, hq⟩ => by
    subst e1
    cases (show Dq Z' v (.bool b) from sv)
    refine ⟨b, rfl, ?_⟩
    cases b with
    | true => exact ⟨Z', ρ, q, ex, st.next f fd, hq, k.next f, ke.next f⟩
    | false => exact k (.dat (.bool false)) _ H' Z' f fd (Dq.bl _) hq, ke⟩
theorem e_or (ha : E C a wa) (hb : E C (.BoolOp .Or (b :: rest) pos) wb) : E C (.BoolOp .Or (a :: b :: rest) pos) (wOr wa wb) :=
  weakE (pe_or ha hb) fun σ H Q ⟨Z, ρ, q, ex, st, hw, k, ke⟩ => ⟨Z, ρ, _, ex, st, hw, fun s v H' Z' f fd sv ⟨b, e1, hq⟩ => by
    subst e1
    cases (show Dq Z' v (.bool b) from sv)
    refine ⟨b, rfl, ?_⟩
    cases b with
    | false => exact ⟨Z', ρ, q, ex, st.next f fd, hq, k.next f, ke.next f⟩
    | true => exact k (.dat (.bool true)) _ H' Z' f fd (Dq.bl _) hq, ke⟩
theorem e_not (ha : E C a wa) : E C (.UnaryOp .Not a pos) (wNot wa) :=
  weakE (pe_not ha) fun σ H Q ⟨Z, ρ, q, ex, st, hw, k, ke⟩ => ⟨Z, ρ, _, ex, st, hw, fun s v H' Z' f fd sv ⟨b, e1, hq⟩ => by
    subst e1
    cases (show Dq Z' v (.bool b) from sv)
    exact ⟨b, rfl, k (.dat (.bool _)) _ H' Z' f fd (Dq.bl _) hq⟩, ke⟩
/-- x if t else y -/
def wIfE (t : WB) (x y : W) : W := fun ρ q e => t ρ (fun b => if b = true then x ρ q e else y ρ q e) e
theorem e_if {t : WB} (hc : T C c t) (ha : E C a wa) (hb : E C b wb) : E C (.IfExp c a b pos) (wIfE t wa wb) :=
  weakE (pe_ifExp hc ha hb) fun σ H Q ⟨Z, ρ, q, ex, st, hw, k, ke⟩ => ⟨Z, ρ, _, ex, st, hw, fun b H' Z' f fd hq => by
    cases b with
    | true => exact ⟨Z', ρ, q, ex, st.next f fd, hq, k.next f, ke.next f⟩
    | false => exact ⟨Z', ρ, q, ex, st.next f fd, hq, k.next f, ke.next f⟩, ke⟩
/-- a op1 b op2 c, as a test -/
def wChain (o1 o2 : O2) (x y z : W) : WB := fun ρ q e => x ρ (fun s => y ρ (fun t => o1 s t fun r => ∃ b, r = .dat (.bool b) ∧ if b = true then z ρ (fun u => o2 t u fun r => ∃ b, r = .dat (.bool b) ∧ q b) e else q false) e) e
theorem t_chain {op op' : CmpOp} {o1 o2 : O2} (h1 : Op C (compareOp op) o1) (h2 : Op C (compareOp op') o2) (ha : E C a wa) (hb : E C b wb) (hc : E C c wc)
    (hm : lastMarks [op, op'] [b, c] = false := by with_unfolding_all rfl) : T C (.Compare a [op, op'] [b, c] pos) (wChain o1 o2 wa wb wc) :=
  weakT (pt_chain h1 h2 ha hb hc hm) fun σ H Q ⟨Z, ρ, q, ex, st, hw, k, ke⟩ => by
    refine ⟨Z, ρ, _, ex, st, hw, fun s x H1 Z1 f1 fd1 sv1 q1 => ?_, ke⟩
    refine ⟨Z1, ρ, _, ex, st.next f1 fd1, q1, fun t y H2 Z2 f2 fd2 sv2 q2 => ?_, ke.next f1⟩
    refine ⟨Z2, s, t, _, ⟨Fr.refl f2.zh f2.notF, fd2, fun r v H3 Z3 f3 fd3 sv3 ⟨b, e3, q3⟩ => ?_⟩, sv1.next f2, sv2, q2⟩
    subst e3
    cases (show Dq Z3 v (.bool b) from sv3)
    have f13 := (f1.trans f2).trans f3
    refine ⟨b, rfl, ?_⟩
    cases b with
    | false => exact ⟨false, rfl, k false H3 Z3 f13 fd3 q3⟩
    | true =>
      refine ⟨Z3, ρ, _, ex, st.next f13 fd3, q3, fun u z H4 Z4 f4 fd4 sv4 q4 => ?_, ke.next f13⟩
      refine ⟨Z4, t, u, _, ⟨Fr.refl f4.zh f4.notF, fd4, fun r v H5 Z5 f5 fd5 sv5 ⟨b, e5, q5⟩ => ?_⟩, (sv2.next f3).next f4, sv4, q4⟩
      subst e5
      cases (show Dq Z5 v (.bool b) from sv5)
      exact ⟨b, rfl, k b H5 Z5 ((f13.trans f4).trans f5) fd5 q5⟩

/-! ### subscripts -/
def oIx : O2
  | .dat (.tuple xs), .dat (.int i), q => ∃ d, atI xs i = some d ∧ q (.dat d)
  | .dat (.list xs), .dat (.int i), q => ∃ d, atI xs i = some d ∧ q (.dat d)
  | .own xs, .dat (.int i), q => ∃ d, atI xs i = some d ∧ q (.dat d)
  | .ro xs, .dat (.int i), q => ∃ d, atI xs i = some d ∧ q (.dat d)
  | .dat (.str z), .dat (.int i), q => z.length ≤ sizeLine ∧ ∃ c, atI z.cps.toList i = some c ∧ q (.dat (.str ⟨#[c]⟩))
  | _, _, _ => False
theorem atI_dps {Z : Hp} {vs : List V} {ds : List D} {i : Int} {d : D} (h : Dqs Z vs ds) (e : atI ds i = some d) : ∃ v, atI vs i = some v ∧ Dq Z v d := by
  unfold atI at e ⊢
  rw [dps_len h]
  cases e1 : ixN ds.length i with
  | none => rw [e1] at e; cases e
  | some j =>
    rw [e1] at e
    exact dps_get h e
theorem ix_any : IxR C.X (rP C oIx) := by
  intro value slice pins s σ H x y v u Q I rx ry ⟨Z, s1, s2, q, at', sv1, sv2, ho⟩ hs
  unfold oIx at ho
  split at ho
  · obtain ⟨d, e, hq⟩ := ho
    cases (show Dq Z y (.int _) from sv2)
    cases (show Dq Z x (.tuple _) from sv1) with
    | tup h1 h2 =>
      obtain ⟨w, e2, h3⟩ := atI_dps h2 e
      exact ix_tup value slice pins s σ H _ _ v u Q I rx ry ⟨_, _, _, w, rfl, rfl, SqT.of (at'.fr.zh _ _ h1), e2, at'.ret (s := .dat d) h3 hq⟩ hs
  · obtain ⟨d, e, hq⟩ := ho
    cases (show Dq Z y (.int _) from sv2)
    obtain ⟨b, ws, rfl, h1, h2⟩ := sv1.lst at'.fr.zh at'.fd rfl
    obtain ⟨w, e2, h3⟩ := atI_dps h2 e
    exact ix_list value slice pins s σ H _ _ v u Q I rx ry ⟨_, _, _, w, rfl, rfl, SqL.of h1, e2, at'.ret (s := .dat d) h3 hq⟩ hs
  · obtain ⟨d, e, hq⟩ := ho
    cases (show Dq Z y (.int _) from sv2)
    obtain ⟨b, ws, rfl, h1, h2⟩ := sv1.lst at'.fr.zh at'.fd rfl
    obtain ⟨w, e2, h3⟩ := atI_dps h2 e
    exact ix_list value slice pins s σ H _ _ v u Q I rx ry ⟨_, _, _, w, rfl, rfl, SqL.of h1, e2, at'.ret (s := .dat d) h3 hq⟩ hs
  · obtain ⟨d, e, hq⟩ := ho
    cases (show Dq Z y (.int _) from sv2)
    obtain ⟨b, ws, rfl, h1, h2⟩ := sv1.lst at'.fr.zh at'.fd rfl
    obtain ⟨w, e2, h3⟩ := atI_dps h2 e
    exact ix_list value slice pins s σ H _ _ v u Q I rx ry ⟨_, _, _, w, rfl, rfl, SqL.of h1, e2, at'.ret (s := .dat d) h3 hq⟩ hs
  · obtain ⟨hl, c, e, hq⟩ := ho
    cases (show Dq Z y (.int _) from sv2)
    cases (show Dq Z x (.str _) from sv1)
    exact ix_str value slice pins s σ H _ _ v u Q I rx ry ⟨_, _, c, rfl, rfl, hl, e, at'.ret (s := .dat (.str _)) (Dq.str _) hq⟩ hs
  · exact ho.elim
theorem e_ix (ha : E C a wa) (hb : E C b wb) (hs : PlainIx b) : E C (.Subscript a b pos) (w2 oIx wa wb) := weakE (pe_ix ix_any ha hb hs) fun σ H Q h => tP2 h

/-! ### slices -/
abbrev WO := Env' → (Option Int → Prop) → (Xn → Prop) → Prop
def tPO (C : Cp) (w : WO) : TO := fun σ H Q => ∃ Z ρ q e, Sta.at C H Z σ ρ ∧ w ρ q e ∧ (∀ b H' Z', Fr C.F H Z H' Z' → FeedOk C.F H' → q b → Q b H') ∧ Ke C H Z e
def O (C : Cp) (e : Option Expr) (w : WO) : Prop := PO C.X e (tPO C w)
theorem weakO {X : Cx} {e : Option Expr} {t t' : TO} (h : PO X e t) (k : ∀ σ H Q, t' σ H Q → t σ H Q) : PO X e t' := ⟨fun pins s σ H Q I q => h.run pins s σ H Q I (k _ _ _ q)⟩
def wNoPart : WO := fun _ q _ => q none
def wPart (w : W) : WO := fun ρ q e => w ρ (fun s => ∃ i, s = .dat (.int i) ∧ q (some i)) e
theorem o_none : O C none wNoPart := weakO po_none fun σ H Q ⟨Z, ρ, q, ex, st, hw, k, ke⟩ => k none H Z (Fr.refl st.fr.zh st.fr.notF) st.fd hw
theorem o_some (h : E C a wa) : O C (some a) (wPart wa) := weakO (po_some h) fun σ H Q ⟨Z, ρ, q, ex, st, hw, k, ke⟩ => ⟨Z, ρ, _, ex, st, hw, fun s v H' Z' f fd sv ⟨i, e1, hq⟩ => by
  subst e1
  cases (show Dq Z' v (.int i) from sv)
  exact ⟨i, rfl, k _ H' Z' f fd hq⟩, ke⟩
def cutD {α : Type} (xs : List α) (lo hi : Option Int) : List α := (xs.drop (HT.sIx xs.length 0 lo)).take (HT.sIx xs.length xs.length hi - HT.sIx xs.length 0 lo)
theorem dps_cut {Z : Hp} {vs : List V} {ds : List D} (h : Dqs Z vs ds) (lo hi : Option Int) : Dqs Z (cutV vs lo hi) (cutD ds lo hi) := by
  unfold cutV cutD
  rw [dps_len h]
  exact dps_take _ (dps_drop _ h)
theorem cut_all {α : Type} {xs : List α} {lo hi : Option Int} (h : HT.sIx xs.length 0 lo = 0 ∧ HT.sIx xs.length xs.length hi = xs.length) : cutD xs lo hi = xs := by
  unfold cutD
  rw [h.1, h.2, List.drop_zero, Nat.sub_zero, List.take_length]
def oSl (lo hi : Option Int) : S → (S → Prop) → Prop
  | .dat (.tuple xs), q => q (.dat (.tuple (cutD xs lo hi)))
  | .dat (.list xs), q => q (.dat (.list (cutD xs lo hi)))
  | .own xs, q => q (.dat (.list (cutD xs lo hi)))
  | .dat (.str z), q => z.length ≤ sizeLine ∧ q (.dat (.str (cutS z lo hi)))
  | _, _ => False
def wSl (x : W) (lo hi : WO) : W := fun ρ q e => x ρ (fun s => lo ρ (fun l => hi ρ (fun h => oSl l h s q) e) e) e
theorem sl_any : SlR C.X (fun x lo hi H Q => ∃ Z s q, At C H Z q Q ∧ SV C.F C.H0 H Z x s ∧ oSl lo hi s q) := by
  intro pins s σ H x v vl vu lo hi sl Q I rx hs pl pu ⟨Z, s1, q, at', sv1, ho⟩
  unfold oSl at ho
  split at ho
  · cases (show Dq Z x (.tuple _) from sv1) with
    | tup h1 h2 =>
      refine sl_tupA pins s σ H _ v vl vu lo hi sl Q I rx hs pl pu ⟨_, _, rfl, SqT.of (at'.fr.zh _ _ h1), fun e => ?_, fun e p np => at'.tup np (dps_cut h2 lo hi) ho⟩
      rw [dps_len h2] at e
      rw [cut_all e] at ho
      exact at'.ret (s := .dat (.tuple _)) (Dq.tup h1 h2) ho
  · obtain ⟨b, ws, rfl, h1, h2⟩ := sv1.lst at'.fr.zh at'.fd rfl
    exact sl_list pins s σ H _ v vl vu lo hi sl Q I rx hs pl pu ⟨_, _, rfl, SqL.of h1, fun p np => at'.lst np (dps_cut h2 lo hi) ho⟩
  · obtain ⟨b, ws, rfl, h1, h2⟩ := sv1.lst at'.fr.zh at'.fd rfl
    exact sl_list pins s σ H _ v vl vu lo hi sl Q I rx hs pl pu ⟨_, _, rfl, SqL.of h1, fun p np => at'.lst np (dps_cut h2 lo hi) ho⟩
  · cases (show Dq Z x (.str _) from sv1)
    exact sl_str pins s σ H _ v vl vu lo hi sl Q I rx hs pl pu ⟨_, rfl, ho.1, at'.ret (s := .dat (.str _)) (Dq.str _) ho.2⟩
  · exact ho.elim
theorem e_sl {lo hi : Option Expr} {wl wh : WO} {p2 : Pos} (ha : E C a wa) (hl : O C lo wl) (hh : O C hi wh) : E C (.Subscript a (.Slice lo hi none p2) pos) (wSl wa wl wh) :=
  weakE (pe_slice sl_any ha hl hh) fun σ H Q ⟨Z, ρ, q, ex, st, hw, k, ke⟩ => by
    refine ⟨Z, ρ, _, ex, st, hw, fun s x H1 Z1 f1 fd1 sv1 q1 => ?_, ke⟩
    refine ⟨Z1, ρ, _, ex, st.next f1 fd1, q1, fun l H2 Z2 f2 fd2 q2 => ?_, ke.next f1⟩
    refine ⟨Z2, ρ, _, ex, (st.next f1 fd1).next f2 fd2, q2, fun h H3 Z3 f3 fd3 q3 => ?_, (ke.next f1).next f2⟩
    exact ⟨Z3, s, q, ⟨Fr.refl f3.zh f3.notF, fd3, k.next ((f1.trans f2).trans f3)⟩, (sv1.next f2).next f3, q3⟩

/-! ### texts' methods -/
def oM0 (g : Str → D) : S → (S → Prop) → Prop
  | .dat (.str z), q => q (.dat (g z))
  | _, _ => False
def wM0 (o : S → (S → Prop) → Prop) (x : W) : W := fun ρ q e => x ρ (fun s => o s q) e
theorem e_m0 {name : Str} {apos cpos : Pos} {id : String} {g : Str → Bool} (slot : Slot "str" name id) (hty : typeOf (.builtin id) = pure (.type "method_descriptor"))
    (hm : MtR C.X id (fun x xs H Q => ∃ a, x = .str a ∧ xs = [] ∧ True ∧ Q (.bl (g a)) H)) (ho : E C a wa)
    (hbase : attributeBase a name C.X.env (eval a C.X.env) = eval a C.X.env := by rfl) (hline : (apos.endLine == cpos.line) = true := by rfl) : E C (.Call (.Attribute a name apos) [] [] cpos) (wM0 (oM0 fun z => .bool (g z)) wa) :=
  weakE (pe_bm0 PySem.F.plainAttrs_str slot hty hm ho hbase hline) fun σ H Q ⟨Z, ρ, q, ex, st, hw, k, ke⟩ => ⟨Z, ρ, _, ex, st, hw, fun s x H1 Z1 f1 fd1 sv1 q1 => by
    unfold oM0 at q1
    dsimp only at q1
    split at q1
    · cases (show Dq Z1 x (.str _) from sv1)
      exact ⟨rfl, _, rfl, rfl, trivial, k (.dat (.bool _)) _ H1 Z1 f1 fd1 (Dq.bl _) q1⟩
    · exact q1.elim, ke⟩
end
end PL

/-! defs by their plain meaning: statements, bodies, calls -/
namespace PL
open PySem PySem.Spec PyProof.Rows L2

/-! ### statements -/
structure Po where
  nx : Env' → Prop
  rt : S → Prop
  ex : Xn → Prop
  bk : Env' → Prop := fun _ => False
  ct : Env' → Prop := fun _ => False
abbrev WS := Po → Env' → Prop
structure Ends' (C : Cp) (P : Po) (D : Ends) : Prop where
  nx : ∀ σ ρ H Z, Sta.at C H Z σ ρ → P.nx ρ → D.nx σ H
  bk : ∀ σ ρ H Z, Sta.at C H Z σ ρ → P.bk ρ → D.bk σ H
  ct : ∀ σ ρ H Z, Sta.at C H Z σ ρ → P.ct ρ → D.ct σ H
  rt : ∀ s v H Z, Fr C.F C.H0 C.Z0 H Z → FeedOk C.F H → s.lent = true → SV C.F C.H0 H Z v s → P.rt s → D.rt v H
  ex : ∀ x cls d H Z, Fr C.F C.H0 C.Z0 H Z → FeedOk C.F H → C.XV cls d H Z x → P.ex x → C.EE cls d H
def tPS (C : Cp) (w : WS) : TS := fun D σ H => ∃ Z ρ P, Sta.at C H Z σ ρ ∧ w P ρ ∧ Ends' C P D
def St1 (C : Cp) (st : Stmt) (w : WS) : Prop := PS C.X st (tPS C w)
def Sts (C : Cp) (st : List Stmt) (w : WS) : Prop := PSs C.X st (tPS C w)
theorem weakS {X : Cx} {e : Stmt} {t t' : TS} (h : PS X e t) (k : ∀ D σ H, t' D σ H → t D σ H) : PS X e t' := ⟨fun pins s σ H Q I q => h.run pins s σ H Q I (k _ _ _ q)⟩
theorem weakSs {X : Cx} {e : List Stmt} {t t' : TS} (h : PSs X e t) (k : ∀ D σ H, t' D σ H → t D σ H) : PSs X e t' := ⟨fun pins s σ H Q I q => h.run pins s σ H Q I (k _ _ _ q)⟩
theorem Ends'.ke {C : Cp} {P : Po} {D : Ends} {H Z : Hp} {σ : L2.St} {ρ : Env'} (d : Ends' C P D) (st : Sta.at C H Z σ ρ) : Ke C H Z P.ex := fun x cls e H' Z' f fd xv hx => d.ex x cls e H' Z' (st.fr.trans f) fd xv hx
section
variable {C : Cp} {e c : Expr} {w : W} {t : WB} {pos : Pos} {st : Stmt} {rest a b : List Stmt} {u v : WS}
def wNx : WS := fun P ρ => P.nx ρ
def wSeq (u v : WS) : WS := fun P ρ => u { P with nx := v P } ρ
theorem ss_nil : Sts C [] wNx := weakSs pss_nil fun D σ H ⟨Z, ρ, P, s, h, d⟩ => d.nx _ _ _ _ s h
theorem ss_cons (h1 : St1 C st u) (h2 : Sts C rest v) : Sts C (st :: rest) (wSeq u v) :=
  weakSs (pss_cons h1 h2) fun D σ H ⟨Z, ρ, P, s, h, d⟩ => ⟨Z, ρ, _, s, h, ⟨fun σ' ρ' H' Z' s' h' => ⟨Z', ρ', P, s', h', d⟩, d.bk, d.ct, d.rt, d.ex⟩⟩
theorem ss_one (h1 : St1 C st u) : Sts C [st] u := pss_one h1
theorem s_pass : St1 C (.Pass pos) wNx := weakS ps_pass fun D σ H ⟨Z, ρ, P, s, h, d⟩ => d.nx _ _ _ _ s h
theorem s_brk : St1 C (.Break pos) (fun P ρ => P.bk ρ) := weakS ps_break fun D σ H ⟨Z, ρ, P, s, h, d⟩ => d.bk _ _ _ _ s h
theorem s_cnt : St1 C (.Continue pos) (fun P ρ => P.ct ρ) := weakS ps_continue fun D σ H ⟨Z, ρ, P, s, h, d⟩ => d.ct _ _ _ _ s h
theorem s_doc {x j pos'} : St1 C (.Expr (.Constant (.str x) j pos) pos') wNx := weakS ps_doc fun D σ H ⟨Z, ρ, P, s, h, d⟩ => d.nx _ _ _ _ s h
def wDrop (w : W) : WS := fun P ρ => w ρ (fun _ => P.nx ρ) P.ex
theorem s_expr (he : E C e w) (hs : swapsWith e none pos.line C.X.env = pure false := by rfl) : St1 C (.Expr e pos) (wDrop w) :=
  weakS (ps_expr he hs) fun D σ H ⟨Z, ρ, P, s, h, d⟩ => ⟨Z, ρ, _, _, s, h, fun x v H' Z' f fd sv hq => d.nx _ _ _ _ (s.next f fd) hq, d.ke s⟩
theorem List.set_getElem?_self_of {α : Type} {l : List α} {i : Nat} {x : α} (e : l[i]? = some x) : l.set i x = l := by
  apply List.ext_getElem?
  intro j
  by_cases hj : i = j
  · subst hj
    rw [List.getElem?_set_self (List.getElem?_eq_some_iff.mp e).1, e]
  · rw [List.getElem?_set_ne hj]
/-- what leaves a def is never its own list -/
def S.frz : S → S
  | .own ds => .dat (.list ds)
  | .odK es => .dat (.dict (kvK es))
  | .odT es => .dat (.dict (kvT es))
  | s => s
/-- an own object becomes data -/
theorem SV.frz {F : Option Fd} {H0 H Z : Hp} {v : V} {s : S} (sv : SV F H0 H Z v s) (m : s.mine = true) : ∃ p o, v = .ref p ∧ H p = some o ∧ Z p = none ∧ H0 p = none ∧ nf F p ∧ SV F H0 H (upd Z p o) v s.frz := by
  cases s with
  | dat d => cases m
  | feed cs => cases m
  | ro ds => cases m
  | raw u => cases m
  | own ds =>
    obtain ⟨p, vs, e, h1, h2, h3, h4, h5⟩ := sv
    refine ⟨p, _, e, h1, h2, h3, h4, ?_⟩
    show Dq _ v _
    rw [e]
    exact .lst upd_same (dps_mono (Same.made h2) _ _ h5)
  | odK es =>
    obtain ⟨p, vs, e, h1, h2, h3, h4, h5, h6⟩ := sv
    refine ⟨p, _, e, h1, h2, h3, h4, ?_⟩
    show Dq _ v _
    rw [e]
    exact .dK upd_same h5 (dps_mono (Same.made h2) _ _ h6) rfl
  | odT es =>
    obtain ⟨p, vs, e, h1, h2, h3, h4, h5, h6⟩ := sv
    refine ⟨p, _, e, h1, h2, h3, h4, ?_⟩
    show Dq _ v _
    rw [e]
    exact .dT upd_same h5 (dps_mono (Same.made h2) _ _ h6) rfl
theorem Fr.frz {F : Option Fd} {H0 Z0 H Z : Hp} {p : Addr} {o : HO} (f : Fr F H0 Z0 H Z) (h1 : H p = some o) (h2 : Z p = none) (h3 : H0 p = none) (h4 : nf F p) : Fr F H0 Z0 H (upd Z p o) := by
  have zz : Same Z (upd Z p o) := Same.made h2
  refine ⟨f.keep, f.zz.trans zz, fun q u hq => ?_, fun q u hq hn => ?_, fun q u hq => ?_⟩
  · by_cases hp : q = p
    · subst hp; rw [upd_same] at hq; cases hq; exact h1
    · rw [upd_ne hp] at hq; exact f.zh q u hq
  · by_cases hp : q = p
    · subst hp; exact h3
    · rw [upd_ne hp] at hq; exact f.new q u hq hn
  · by_cases hp : q = p
    · subst hp; exact h4
    · rw [upd_ne hp] at hq; exact f.notF q u hq
theorem frz_not {s : S} (h : s.mine = false) : s.frz = s := by cases s <;> first | rfl | cases h
theorem frz_out {F : Option Fd} {H0 Z0 H Z : Hp} {v : V} {s : S} (f : Fr F H0 Z0 H Z) (sv : SV F H0 H Z v s) : ∃ Z', Fr F H0 Z0 H Z' ∧ SV F H0 H Z' v s.frz := by
  cases m : s.mine with
  | false => exact ⟨Z, f, by rw [frz_not m]; exact sv⟩
  | true =>
    obtain ⟨p, o, e, h1, h2, h3, h4, h5⟩ := sv.frz m
    exact ⟨_, f.frz h1 h2 h3 h4, h5⟩
/-- from here on what slot i holds is data -/
theorem Sta.frz {F : Option Fd} {H0 Z0 H Z : Hp} {σ : L2.St} {ρ : Env'} (st : Sta F H0 Z0 H Z σ ρ) {i : Nat} {s : S} (e : ρ[i]? = some (some s)) : ∃ Z', Sta F H0 Z0 H Z' σ (ρ.set i (some s.frz)) := by
  have hi : i < ρ.length := (List.getElem?_eq_some_iff.mp e).1
  cases m : s.mine with
  | false =>
    refine ⟨Z, ?_⟩
    rw [frz_not m, List.set_getElem?_self_of e]
    exact st
  | true =>
    obtain ⟨v, ev, sv⟩ := st.env i s e
    obtain ⟨p, o, e1, h1, h2, h3, h4, h5⟩ := sv.frz m
    subst e1
    have nm : s.frz.mine = false := by cases s <;> rfl
    refine ⟨upd Z p o, st.fr.frz h1 h2 h3 h4, st.fd, by rw [List.length_set]; exact st.len, fun j t ej => ?_, fun j k a s1 s2 ej ek m1 m2 vj vk => ?_⟩
    · by_cases hj : i = j
      · subst hj
        rw [List.getElem?_set_self hi] at ej
        cases ej
        exact ⟨_, ev, h5⟩
      · rw [List.getElem?_set_ne hj] at ej
        obtain ⟨w, ew, sw⟩ := st.env j t ej
        refine ⟨w, ew, sw.to (Same.made h2) fun mt a u e2 h6 => ⟨h6, ?_⟩⟩
        subst e2
        obtain ⟨b, u', e3, _, zb, _⟩ := sw.at mt
        cases e3
        have na : a ≠ p := fun z => by
          subst z
          exact hj (st.sep i j a s t e ej m mt ev ew)
        rw [upd_ne na]
        exact zb
    · have go : ∀ (l : Nat) (u : S), (ρ.set i (some s.frz))[l]? = some (some u) → u.mine = true → i ≠ l := fun l u e' mu z => by
        subst z
        rw [List.getElem?_set_self hi] at e'
        cases e'
        rw [nm] at mu; cases mu
      have n1 := go j s1 ej m1
      have n2 := go k s2 ek m2
      rw [List.getElem?_set_ne n1] at ej
      rw [List.getElem?_set_ne n2] at ek
      exact st.sep j k a s1 s2 ej ek m1 m2 vj vk
def wRet (w : W) : WS := fun P ρ => w ρ (fun s => s.frz.lent = true ∧ P.rt s.frz) P.ex
theorem s_ret (he : E C e w) : St1 C (.Return (some e) pos) (wRet w) :=
  weakS (ps_ret he) fun D σ H ⟨Z, ρ, P, s, h, d⟩ => ⟨Z, ρ, _, _, s, h, fun x v H' Z' f fd sv ⟨hl, hq⟩ => by
    obtain ⟨Z2, f2, sv2⟩ := frz_out (s.fr.trans f) sv
    exact d.rt _ v H' Z2 f2 fd hl sv2 hq, d.ke s⟩
def wRetN : WS := fun P _ => P.rt (.dat .none)
theorem s_retN : St1 C (.Return none pos) wRetN := weakS ps_retN fun D σ H ⟨Z, ρ, P, s, h, d⟩ => d.rt (.dat .none) _ H Z s.fr s.fd rfl Dq.non h
def wIf (t : WB) (u v : WS) : WS := fun P ρ => t ρ (fun b => if b = true then u P ρ else v P ρ) P.ex
theorem s_if (hc : T C c t) (ha : Sts C a u) (hb : Sts C b v) : St1 C (.If c a b pos) (wIf t u v) :=
  weakS (ps_if hc ha hb) fun D σ H ⟨Z, ρ, P, s, h, d⟩ => ⟨Z, ρ, _, _, s, h, fun b H' Z' f fd hq => by
    cases b with
    | true => exact ⟨Z', ρ, P, s.next f fd, hq, d⟩
    | false => exact ⟨Z', ρ, P, s.next f fd, hq, d⟩, d.ke s⟩
/-- slot i is given up: what it holds stays as it is from here on -/
def wFrz (i : Nat) (v : WS) : WS := fun P ρ => ∃ s, ρ[i]? = some (some s) ∧ v P (ρ.set i (some s.frz))
theorem ss_frz (i : Nat) (h : Sts C rest v) : Sts C rest (wFrz i v) := weakSs h fun D σ H ⟨Z, ρ, P, s, ⟨x, e, hw⟩, d⟩ =>
  let ⟨Z', s'⟩ := s.frz e
  ⟨Z', _, P, s', hw, d⟩
/-- name = e -/
def wSet (i : Nat) (w : W) : WS := fun P ρ => w ρ (fun s => s.lent = true ∧ P.nx (ρ.set i (some s))) P.ex
theorem s_set {i : Nat} {x : Str} {pos' : Pos} (hN : C.X.N.Nodup) (hi : C.X.N[i]? = some x) (hx : Loc C.X.env.scope x) (he : E C e w) (hs : swapsWith e (some (.Name x pos')) pos.line C.X.env = pure false := by rfl)
    (hf : C.X.fn x = true ∨ C.X.env.scope.names.lookup x = some .local := by first | exact .inl rfl | exact .inr rfl | assumption) : St1 C (.Assign [.Name x pos'] e pos) (wSet i w) :=
  weakS (ps_set hN hi hx he hs hf) fun D σ H ⟨Z, ρ, P, s, h, d⟩ => ⟨Z, ρ, _, _, s, h, fun y v H' Z' f fd sv hq => d.nx _ _ _ _ ((s.next f fd).set i sv hq.1) hq.2, d.ke s⟩
/-! ### targets -/
abbrev WG := D → Env' → (Env' → Prop) → Prop
abbrev WGs := List D → Env' → (Env' → Prop) → Prop
def tPG (C : Cp) (g : WG) : TG := fun v σ H Q => ∃ Z ρ d q, Sta.at C H Z σ ρ ∧ Dq Z v d ∧ g d ρ q ∧ ∀ σ' ρ' H' Z', Sta.at C H' Z' σ' ρ' → Fr C.F H Z H' Z' → q ρ' → Q σ' H'
def tPGs (C : Cp) (g : WGs) : TGs := fun vs σ H Q => ∃ Z ρ ds q, Sta.at C H Z σ ρ ∧ Dqs Z vs ds ∧ g ds ρ q ∧ ∀ σ' ρ' H' Z', Sta.at C H' Z' σ' ρ' → Fr C.F H Z H' Z' → q ρ' → Q σ' H'
def G (C : Cp) (tg : Expr) (g : WG) : Prop := PG C.X tg (tPG C g)
def Gs (C : Cp) (tg : List Expr) (g : WGs) : Prop := PGs C.X tg (tPGs C g)
theorem weakG {X : Cx} {e : Expr} {t t' : TG} (h : PG X e t) (k : ∀ v σ H Q, t' v σ H Q → t v σ H Q) : PG X e t' := ⟨fun pins s σ H v u Q I r q => h.run pins s σ H v u Q I r (k _ _ _ _ q)⟩
theorem weakGs {X : Cx} {e : List Expr} {t t' : TGs} (h : PGs X e t) (k : ∀ v σ H Q, t' v σ H Q → t v σ H Q) : PGs X e t' := ⟨fun pins s σ H v u Q I r q => h.run pins s σ H v u Q I r (k _ _ _ _ q)⟩
def gNm (i : Nat) : WG := fun d ρ q => q (ρ.set i (some (.dat d)))
theorem g_nm {i : Nat} {x : Str} (hN : C.X.N.Nodup) (hi : C.X.N[i]? = some x) (hx : Loc C.X.env.scope x) (hf : C.X.fn x = true ∨ C.X.env.scope.names.lookup x = some .local := by first | exact .inl rfl | exact .inr rfl | assumption) : G C (.Name x pos) (gNm i) :=
  weakG (pg_name hN hi hx hf) fun v σ H Q ⟨Z, ρ, d, q, s, dq, hg, k⟩ => k _ _ _ Z (s.set i (s := .dat d) dq rfl) (Fr.refl s.fr.zh s.fr.notF) hg
def gN : WGs := fun ds ρ q => ds = [] ∧ q ρ
def gC (g : WG) (r : WGs) : WGs := fun ds ρ q => ∃ d es, ds = d :: es ∧ g d ρ fun ρ' => r es ρ' q
theorem gs_nil : Gs C [] gN := weakGs pgs_nil fun v σ H Q ⟨Z, ρ, ds, q, s, dq, ⟨e, hg⟩, k⟩ => by
  subst e
  cases dq
  exact ⟨rfl, k _ _ _ Z s (Fr.refl s.fr.zh s.fr.notF) hg⟩
theorem gs_cons {es : List Expr} {g : WG} {r : WGs} (h1 : G C e g) (h2 : Gs C es r) (hs : (assignEach (e :: es) C.X.env).map (·.2) = assign e C.X.env :: (assignEach es C.X.env).map (·.2) := by rfl) : Gs C (e :: es) (gC g r) :=
  weakGs (pgs_cons h1 h2 hs) fun v σ H Q ⟨Z, ρ, ds, q, s, dq, ⟨d, es, e, hg⟩, k⟩ => by
    subst e
    cases dq with
    | cons a b => exact ⟨_, _, rfl, Z, ρ, d, _, s, a, hg, fun σ' ρ' H' Z' s' f' hr => ⟨Z', ρ', es, q, s', dps_mono f'.zz _ _ b, hr, fun σ2 ρ2 H2 Z2 s2 f2 h2 => k _ _ _ _ s2 (f'.trans f2) h2⟩⟩
def gTp (n : Nat) (r : WGs) : WG := fun d ρ q => ∃ ds, d = .tuple ds ∧ ds.length = n ∧ r ds ρ q
theorem g_tup {es : List Expr} {k : Nat} {r : WGs} {n : Nat} (hc : C.X.calm = true) (h : Gs C es r) (hn : (assignEach es C.X.env).length = n := by rfl) (hst : (assignEach es C.X.env).findIdx? (·.1) = none := by rfl) : G C (.Tuple es k pos) (gTp n r) :=
  weakG (pg_tup hc h hn hst) fun v σ H Q ⟨Z, ρ, d, q, s, dq, ⟨ds, e, hl, hg⟩, k⟩ => by
    subst e
    cases dq with
    | tup h1 h2 => exact ⟨_, _, rfl, SqT.of (s.fr.zh _ _ h1), by rw [dps_len h2]; exact hl, Z, ρ, ds, q, s, h2, hg, k⟩
/-- target = e -/
def wAsg (w : W) (g : WG) : WS := fun P ρ => w ρ (fun s => ∃ d, s = .dat d ∧ g d ρ P.nx) P.ex
theorem s_asg {tg : Expr} {g : WG} (he : E C e w) (hg : G C tg g) (hs : swapsWithSole [tg] e pos.line C.X.env = pure false := by rfl) (hw : swappedStores [tg] e C.X.env = pure none := by rfl)
    (h1 : (assignEach [tg] C.X.env).map (·.2) = [assign tg C.X.env] := by rfl) : St1 C (.Assign [tg] e pos) (wAsg w g) :=
  weakS (ps_asg he hg hs hw h1) fun D σ H ⟨Z, ρ, P, s, h, d⟩ => ⟨Z, ρ, _, _, s, h, fun y v H' Z' f fd sv ⟨dd, e1, hq⟩ => by
    subst e1
    exact ⟨Z', ρ, dd, _, s.next f fd, sv, hq, fun σ' ρ' H2 Z2 s2 _ h2 => d.nx _ _ _ _ s2 h2⟩, d.ke s⟩
end
end PL

/-! defs: what they promise, their bodies, their calls -/
namespace PL
open PySem PySem.Spec PyProof.Rows L2

/-- a def's promise where no guard is known to run (for repr of containers) -/
structure FnG (P : Program) (w : World) (K : PySem.W.Frag) (mg : Str → Option Value) (base : Heap) (CX : CXT)
    (k : Nat) (f : Addr) (fd : FuncData) (ps : List Str) (sp : Sp) : Prop where
  len : ∀ vs H Q E, sp vs H Q E → vs.length = ps.length
  run : ∀ (A : Around) (outer : List Env) (s : Shared) (H : Hp) (args : Args) (us : List Value) (vs : List V) (Q : VK) (E : XK),
    Room k A → A.guards = some [] → Env0 P w K mg base A outer s H →
    BindsTo s fd args (ps.zip us) → Vals vs us → sp vs H Q E →
    codeAny (model P w) A (.call (.ref f) args) (CR CX outer P w H s Q E) s

/-- a def of the text, by its body -/
theorem fg_ofC {CX : CXT} {P : Program} {w : World} {K : PySem.W.Frag} {mg : Str → Option Value} {base : Heap} {x qual : Str} {st : Stmt} {f : Addr} {fd : FuncData} {N ps : List Str} {k : Nat} {sp : Sp}
    (F : Fun K x qual st f fd) (S : FnScope N ps (defScope st)) (len : ∀ vs H Q E, sp vs H Q E → vs.length = ps.length)
    (hb : ∀ (cdv : Value), fd.code = cdv → ∀ (A : Around) (outer : List Env) (s : Shared) (H : Hp) (vs : List V) (Q : VK) (E : XK), Room k (A.deeper (envOfC qual (defScope st) s.heap.objs.size f cdv)) → A.guards = some [] → sp vs H Q E →
      ∃ t, PSs (cxOf CX P w K mg base N qual (defScope st) f cdv A outer s H E) (defBody st) t ∧ t { nx := fun _ H' => Q .non H', rt := Q } (L2.start N vs) H) : FnG P w K mg base CX (k + 1) f fd ps sp := by
  obtain ⟨oc, od, kV, doc, pm, an, cdv, ct, osl, rfl, lk, hcd⟩ := F.ex
  constructor
  · exact len
  intro A outer s H args us vs Q E hr hgd env0 bd rv hs
  have lv := len vs H Q E hs
  have kIn : K.In s.heap := env0.mod.kin.keeps fun b o e => (env0.bs b o e).1
  have nlim : s.heap.NoLimit := env0.mod.nolimit.keeps fun b o e => (env0.bs b o e).1
  have kinds : ∀ y ∈ ps.zip us, (defScope st).names.lookup y.1 = some .local ∨
      ((defScope st).names.lookup y.1 = some .cell ∧ ((cellsFrom (s.heap.objs.size + 1) (defScope st).names []).lookup y.1).isSome = true) := by
    rintro ⟨n, v⟩ hy
    have q := S.par n (List.of_mem_zip hy).1
    rcases q with q | q
    · exact Or.inl q
    · exact Or.inr ⟨q, PySem.W.cellsFrom_some _ _ _ (.inl q)⟩
  apply codeAny_call_function hr.depth (kIn _ _ lk) rfl S.co S.gen rfl (PySem.W.codeRec_of kIn hcd)
  apply bd
  apply wpAny_newFunctionEnv_cells S.kind kinds
  intro env he s1 inc
  subst he
  constructor
  · exact nlim.keeps inc.toInCall.keep
  apply codeAny_func
  obtain ⟨t, ht, hq⟩ := hb cdv rfl A outer s H vs Q E (hr.deeper _) hgd hs
  have I := inv_start (CX := CX) (P := P) (K := K) (base := base) (E := E) S hr.hd env0 lv rv inc
  have body := ht.run [] s1 (L2.start N vs) H _ I hq
  refine wpAny_mono body ?_ (fun e s' h => h)
  intro fl s' h
  cases fl with
  | ret u =>
    obtain ⟨v, σ', H', J, rv', q⟩ := h
    exact ⟨v, H', J.os, J.bare, J.base, J.hok, rv', q⟩
  | next =>
    obtain ⟨σ', H', J, q⟩ := h
    exact ⟨V.non, H', J.os, J.bare, J.base, J.hok, rfl, q⟩
  | brk => obtain ⟨_, _, _, q⟩ := h; exact q.elim
  | cont => obtain ⟨_, _, _, q⟩ := h; exact q.elim

/-- a def of the text, by its body -/
theorem fg_of {CX : CXT} {P : Program} {w : World} {K : PySem.W.Frag} {mg : Str → Option Value} {base : Heap} {x qual : Str} {st : Stmt} {f : Addr} {fd : FuncData} {N ps : List Str} {k : Nat} {sp : Sp}
    (F : Fun K x qual st f fd) (S : FnScope N ps (defScope st)) (len : ∀ vs H Q E, sp vs H Q E → vs.length = ps.length)
    (hb : ∀ (cdv : Value) (A : Around) (outer : List Env) (s : Shared) (H : Hp) (vs : List V) (Q : VK) (E : XK), Room k (A.deeper (envOfC qual (defScope st) s.heap.objs.size f cdv)) → A.guards = some [] → sp vs H Q E →
      ∃ t, PSs (cxOf CX P w K mg base N qual (defScope st) f cdv A outer s H E) (defBody st) t ∧ t { nx := fun _ H' => Q .non H', rt := Q } (L2.start N vs) H) : FnG P w K mg base CX (k + 1) f fd ps sp :=
  fg_ofC F S len fun cdv _ => hb cdv

/-! ### plain promises -/
abbrev WF := List S → (S → Prop) → (Xn → Prop) → Prop
abbrev XVt := Value → Option Addr → Hp → Hp → Xn → Prop
def spF (F : Option Fd) (XV : XVt) (n : Nat) (w : WF) : Sp := fun vs H Q E => vs.length = n ∧ ∃ Z ss q e, Fr F H Z H Z ∧ FeedOk F H ∧ ss.all S.lent = true ∧ SVs F H H Z vs ss ∧ w ss q e ∧
  (∀ s v H' Z', Fr F H Z H' Z' → FeedOk F H' → s.lent = true → SV F H H' Z' v s → q s → Q v H') ∧ (∀ x cls d H' Z', Fr F H Z H' Z' → FeedOk F H' → XV cls d H' Z' x → e x → E cls d H')
def FnP (P : Program) (w : World) (K : PySem.W.Frag) (mg : Str → Option Value) (base : Heap) (CX : CXT) (fam : Fd → Prop) (XV : XVt) (k : Nat) (f : Addr) (fd : FuncData) (ps : List Str) (wf : WF) : Prop :=
  ∀ F : Option Fd, (HasF fam F) → FnG P w K mg base CX k f fd ps (spF F XV ps.length wf)
theorem FnP.imp {P : Program} {w : World} {K : PySem.W.Frag} {mg : Str → Option Value} {base : Heap} {CX : CXT} {fam : Fd → Prop} {XV : XVt} {k : Nat} {f : Addr} {fd : FuncData} {ps : List Str} {wf wf' : WF} (h : FnP P w K mg base CX fam XV k f fd ps wf)
    (hi : ∀ ss q e, ss.length = ps.length → wf' ss q e → wf ss q e) : FnP P w K mg base CX fam XV k f fd ps wf' := fun F hF =>
  have go : ∀ vs H Q E, spF F XV ps.length wf' vs H Q E → spF F XV ps.length wf vs H Q E := fun vs H Q E ⟨l, Z, ss, q, e, fr, fd, ln, sv, hw, k1, k2⟩ => ⟨l, Z, ss, q, e, fr, fd, ln, sv, hi ss q e (by rw [← sv.len]; exact l) hw, k1, k2⟩
  ⟨fun vs H Q E x => x.1, fun A outer s H args us vs Q E hr hg he hb hv hs => (h F hF).run A outer s H args us vs Q E hr hg he hb hv (go vs H Q E hs)⟩
/-- the names' values at the entry -/
def start' (n : Nat) (ss : List S) : Env' := ss.map some ++ List.replicate (n - ss.length) none
theorem sta_start {F : Option Fd} {H Z : Hp} {N : List Str} {vs : List V} {ss : List S} (fr : Fr F H Z H Z) (fd : FeedOk F H) (ln : ss.all S.lent = true) (sv : SVs F H H Z vs ss) : Sta F H Z H Z (L2.start N vs) (start' N.length ss) := by
  have hl := sv.len
  refine ⟨fr, fd, by simp [L2.start, start', hl], fun i s e => ?_, fun i j a s1 s2 e1 _ m1 => ?_⟩
  · unfold start' at e
    by_cases hi : i < ss.length
    · rw [List.getElem?_append_left (by simpa using hi), List.getElem?_map] at e
      cases q : ss[i]? with
      | none => rw [q] at e; cases e
      | some s' =>
        rw [q] at e
        cases e
        obtain ⟨v, h1, h2⟩ := sv.get q
        refine ⟨v, ?_, h2⟩
        unfold L2.start
        rw [List.getElem?_append_left (by simp; omega), List.getElem?_map, h1]
        rfl
    · rw [List.getElem?_append_right (by simpa using hi), List.getElem?_replicate] at e
      split at e <;> cases e
  · exfalso
    unfold start' at e1
    by_cases hi : i < ss.length
    · rw [List.getElem?_append_left (by simpa using hi), List.getElem?_map] at e1
      cases q : ss[i]? with
      | none => rw [q] at e1; cases e1
      | some s' =>
        rw [q] at e1
        cases e1
        have := List.all_eq_true.mp ln _ (List.mem_of_getElem? q)
        cases s1 <;> first | (cases m1; done) | (cases this; done)
    · rw [List.getElem?_append_right (by simpa using hi), List.getElem?_replicate] at e1
      split at e1 <;> cases e1
/-- the context of a def's body -/
def cpOf (X : Cx) (F : Option Fd) (H Z : Hp) (E : XK) (XV : XVt) : Cp := { X := X, F := F, H0 := H, Z0 := Z, EE := E, XV := XV }
def wBody (n : Nat) (ws : WS) : WF := fun ss q e => ws { nx := fun _ => q (.dat .none), rt := q, ex := e } (start' n ss)
/-- a def by its body's plain meaning -/
theorem fp_ofC {CX : CXT} {P : Program} {w : World} {K : PySem.W.Frag} {mg : Str → Option Value} {base : Heap} {fam : Fd → Prop} {XV : XVt} {x qual : Str} {st : Stmt} {f : Addr} {fd : FuncData} {N ps : List Str} {k : Nat} {wf : WF}
    (F : Fun K x qual st f fd) (S : FnScope N ps (defScope st)) {ws : WS}
    (hb : ∀ (cdv : Value), fd.code = cdv → ∀ (A : Around) (outer : List Env) (s : Shared) (H Z : Hp) (E : XK) (Fo : Option Fd), Room k (A.deeper (envOfC qual (defScope st) s.heap.objs.size f cdv)) → A.guards = some [] → (HasF fam Fo) →
      Sts (cpOf (cxOf CX P w K mg base N qual (defScope st) f cdv A outer s H E) Fo H Z E XV) (defBody st) ws)
    (hi : ∀ ss q e, ss.length = ps.length → wf ss q e → wBody N.length ws ss q e) : FnP P w K mg base CX fam XV (k + 1) f fd ps wf := fun Fo hF => by
  refine fg_ofC F S (fun vs H Q E h => h.1) fun cdv hcv A outer s H vs Q E hr hg ⟨l, Z, ss, q, e, fr, fd, ln, sv, hw, k1, k2⟩ => ?_
  refine ⟨_, hb cdv hcv A outer s H Z E Fo hr hg hF, Z, start' N.length ss, _, sta_start fr fd ln sv, hi ss q e (by rw [← sv.len]; exact l) hw, ?_⟩
  refine ⟨fun σ ρ H' Z' st' h => ?_, fun σ ρ H' Z' st' h => h.elim, fun σ ρ H' Z' st' h => h.elim, fun s v H' Z' f' fd' ln' sv' h => ?_, fun x cls d H' Z' f' fd' xv h => ?_⟩
  · exact k1 (.dat .none) .non H' Z' st'.fr st'.fd rfl Dq.non h
  · exact k1 s v H' Z' f' fd' ln' sv' h
  · exact k2 x cls d H' Z' f' fd' xv h

/-- a def by its body's plain meaning -/
theorem fp_of {CX : CXT} {P : Program} {w : World} {K : PySem.W.Frag} {mg : Str → Option Value} {base : Heap} {fam : Fd → Prop} {XV : XVt} {x qual : Str} {st : Stmt} {f : Addr} {fd : FuncData} {N ps : List Str} {k : Nat} {wf : WF}
    (F : Fun K x qual st f fd) (S : FnScope N ps (defScope st)) {ws : WS}
    (hb : ∀ (cdv : Value) (A : Around) (outer : List Env) (s : Shared) (H Z : Hp) (E : XK) (Fo : Option Fd), Room k (A.deeper (envOfC qual (defScope st) s.heap.objs.size f cdv)) → A.guards = some [] → (HasF fam Fo) →
      Sts (cpOf (cxOf CX P w K mg base N qual (defScope st) f cdv A outer s H E) Fo H Z E XV) (defBody st) ws)
    (hi : ∀ ss q e, ss.length = ps.length → wf ss q e → wBody N.length ws ss q e) : FnP P w K mg base CX fam XV (k + 1) f fd ps wf :=
  fp_ofC F S (fun cdv _ => hb cdv) hi

/-! ### calls -/
section
variable {C : Cp} {CX : CXT} {fam : Fd → Prop} {k : Nat} {f : Addr} {fd : FuncData} {ps : List Str} {wf : WF} {x : Str} {p pos : Pos} {e : Expr} {es : List Expr} {r : WA}
theorem run_g {X : Cx} {sp : Sp} {E : XK} {pins : List (Addr × Obj)} {σ : L2.St} {H : Hp} {s : Shared} {Q : VK} {us : List Value} {args : Args} {vs : List V} (F : FnG X.prog X.w X.K X.mg X.base CX k f fd ps sp) (hr : Room k X.A) (hgd : X.A.guards = some [])
    (hx : Passes CX X E) (I : Inv X pins σ H s) (hb : BindsTo s fd args (ps.zip us)) (rv : Vals vs us) (h : sp vs H Q E) : wpAny (model X.prog X.w) X.A (call (.ref f) args.pos args.kw) (EP X pins σ Q) X.xe s := by
  apply wpAny_call
  refine codeAny_mono (F.run X.A X.stack s H args us vs Q E hr hgd I.env0 hb rv h) ?_
  intro res s' hres
  cases res with
  | error err => exact hx pins σ H s err s' I hres
  | ok fl =>
    cases fl with
    | ret u => exact I.after hres
    | next => exact hres.elim
    | brk => exact hres.elim
    | cont => exact hres.elim
def wCall (wf : WF) (r : WA) : W := fun ρ q ex => r ρ (fun ss => ss.all S.lent = true ∧ wf ss q ex) ex
theorem sp_call {C : Cp} {n : Nat} {H Z : Hp} {Q : VK} {ss : List S} {vs : List V} {q : S → Prop} {ex : Xn → Prop} (hn : ∀ q e, wf ss q e → ss.length = n) (f : Fr C.F H Z H Z) (fd : FeedOk C.F H) (sv : SVs C.F C.H0 H Z vs ss) (ln : ss.all S.lent = true) (hw : wf ss q ex) (k : Kt C H Z q Q) (ke : Ke C H Z ex) :
    spF C.F C.XV n wf vs H Q C.EE :=
  ⟨by rw [sv.len]; exact hn q ex hw, Z, ss, q, ex, f, fd, ln, sv.lent ln, hw, fun s v H' Z' f' fd' l sv' hq => k s v H' Z' f' fd' (sv'.lent l) hq, fun x cls d H' Z' f' fd' xv hx => ke x cls d H' Z' f' fd' xv hx⟩
theorem e_call (Fn : FnP C.X.prog C.X.w C.X.K C.X.mg C.X.base CX fam C.XV k f fd ps wf) (hF : HasF fam C.F) (hn : ∀ ss q e, wf ss q e → ss.length = ps.length) (hr : Room k C.X.A) (hgd : C.X.A.guards = some []) (hg : Gl C.X x) (hm : C.X.mg x = some (.ref f)) (hk : PySem.W.keepIn C.X.K (.ref f) = true)
    (hb : Binds C.X.K fd ps []) (hx : Passes CX C.X C.EE) (ha : A C (e :: es) r) (hdb : (x == ("__debug__" : Str)) = false := by decide)
    (he : starEach (e :: es) C.X.env = (false, eval e C.X.env) :: starEach es C.X.env := by rfl) (hpl : (backTo pos (starEach es C.X.env)).any (·.1) = false := by rfl) : E C (.Call (.Name x p) (e :: es) [] pos) (wCall wf r) := by
  constructor
  intro pins s σ H Q I ⟨Z, ρ, q, ex, st, hw, kt, ke⟩
  apply wpAny_Call_Name_kw
  apply ld_glob I hg hm _ hdb
  apply PySem.W.callWith_K (h₀ := C.X.base) I.ok.mod.kin hk _ he hpl
  have step := ha.run pos pins s σ H (fun vs H1 => spF C.F C.XV ps.length wf vs H1 Q C.EE) I ⟨Z, ρ, _, ex, st, hw, fun ss vs H1 Z1 f1 fd1 sv ⟨ln, hwf⟩ => sp_call (hn ss) (Fr.refl f1.zh f1.notF) fd1 sv ln hwf (kt.next f1) (ke.next f1), ke⟩
  refine thn step fun us s1 ⟨vs, H1, I1, rv, hq⟩ => ⟨I1.kIn, ?_⟩
  have rv2 : Vals vs (us ++ []) := by rw [List.append_nil]; exact rv
  exact run_g (args := ⟨us, []⟩) (Fn C.F hF) hr hgd hx I1 (hb s1 us I1.kIn (by rw [List.append_nil, ← rv.length]; exact hq.1)) rv2 hq
/-- f(k = v, ..), the keywords in the parameters' order -/
theorem e_callK {kws : List Keyword} (Fn : FnP C.X.prog C.X.w C.X.K C.X.mg C.X.base CX fam C.XV k f fd ps wf) (hF : HasF fam C.F) (hn : ∀ ss q e, wf ss q e → ss.length = ps.length) (hr : Room k C.X.A) (hgd : C.X.A.guards = some []) (hg : Gl C.X x) (hm : C.X.mg x = some (.ref f)) (hk : PySem.W.keepIn C.X.K (.ref f) = true)
    (hb : ∀ (s : Shared) (us : List Value), C.X.K.In s.heap → us.length = ps.length → BindsTo s fd ⟨[], ps.zip us⟩ (ps.zip us)) (hx : Passes CX C.X C.EE)
    (ha : PK C.X kws (tPA C r)) (hall : (backToKw pos (keywordEach kws C.X.env)).all (·.1.isSome) = true := by rfl) (hks : (backToKw pos (keywordEach kws C.X.env)).filterMap (·.1) = ps := by rfl) (hdb : (x == ("__debug__" : Str)) = false := by decide)
    (hpl : ((backTo pos (starEach [] C.X.env)).any (·.1) || (backToKw pos (keywordEach kws C.X.env)).any (·.1.isNone)) = false := by rfl) : E C (.Call (.Name x p) [] kws pos) (wCall wf r) := by
  constructor
  intro pins s σ H Q I ⟨Z, ρ, q, ex, st, hw, kt, ke⟩
  apply wpAny_Call_Name_kw
  apply ld_glob I hg hm _ hdb
  apply PySem.W.callWith_KW0 (h₀ := C.X.base) I.ok.mod.kin hk hall _ hpl
  have step := ha.run pos pins s σ H (fun vs H1 => spF C.F C.XV ps.length wf vs H1 Q C.EE) I ⟨Z, ρ, _, ex, st, hw, fun ss vs H1 Z1 f1 fd1 sv ⟨ln, hwf⟩ => sp_call (hn ss) (Fr.refl f1.zh f1.notF) fd1 sv ln hwf (kt.next f1) (ke.next f1), ke⟩
  refine thn step fun us s1 ⟨vs, H1, I1, rv, hq⟩ => ⟨I1.kIn, ?_⟩
  rw [hks]
  exact run_g (args := ⟨[], ps.zip us⟩) (Fn C.F hF) hr hgd hx I1 (hb s1 us I1.kIn (by rw [← rv.length]; exact hq.1)) rv hq
theorem k_nil : PK C.X [] (tPA C wNil) := ⟨fun pos pins s σ H Q I ⟨Z, ρ, q, ex, st, hw, k, ke⟩ => pk_nil.run pos pins s σ H Q I (k [] [] H Z (Fr.refl st.fr.zh st.fr.notF) st.fd .nil hw)⟩
theorem k_cons {e : Expr} {kws : List Keyword} {a : W} {nm : Option Str} {kpos : Pos} (ha : E C e a) (hr : PK C.X kws (tPA C r)) : PK C.X (⟨nm, e, kpos⟩ :: kws) (tPA C (wCons a r)) :=
  ⟨fun pos pins s σ H Q I ⟨Z, ρ, q, ex, st, hw, k, ke⟩ => (pk_cons ha hr).run pos pins s σ H Q I ⟨Z, ρ, _, ex, st, hw, fun s1 x H1 Z1 f1 fd1 sv1 hq1 => ⟨Z1, ρ, _, ex, st.next f1 fd1, hq1, fun ss vs H2 Z2 f2 fd2 sv2 hq2 => k _ _ H2 Z2 (f1.trans f2) fd2 (.cons (sv1.next f2) sv2) hq2, ke.next f1⟩, ke⟩⟩
end
end PL

/-! what is walked; for, while, comprehensions; lists of a def's own -/
namespace PL
open PySem PySem.Spec PyProof.Rows L2

/-- J yields the items ds, wherever Z stands -/
structure YieldsF (K : PySem.W.Frag) (J : It) (Z : Hp) (ds : List D) : Prop where
  go : ∀ i H, Same Z H → i < ds.length → J.go i H
  stop : ∀ H, Same Z H → J.stop ds.length H
  yld : ∀ i x H H', i < ds.length → Same Z H → J.yld i H x H' → H' = H ∧ ∃ d, ds[i]? = some d ∧ Dq Z x d
theorem yieldsF_list {K : PySem.W.Frag} {Z : Hp} {a : Addr} {vs : List V} {ds : List D} (h : Z a = some (.lst vs)) (dv : Dqs Z vs ds) : YieldsF K (Itl K a) Z ds := by
  have l := dps_len dv
  refine ⟨fun i H zh hi => ⟨vs, vs[i]'(by omega), SqL.of (zh _ _ h), List.getElem?_eq_getElem _⟩, fun H zh => ⟨vs, SqL.of (zh _ _ h), by omega⟩, fun i x H H' _ zh ⟨e, y⟩ => ⟨e, ?_⟩⟩
  have q := y vs (SqL.of (zh _ _ h))
  exact dps_get' dv q
theorem yieldsF_tup {K : PySem.W.Frag} {Z : Hp} {a : Addr} {vs : List V} {ds : List D} (h : Z a = some (.tup vs)) (dv : Dqs Z vs ds) : YieldsF K (Itt K a) Z ds := by
  have l := dps_len dv
  refine ⟨fun i H zh hi => ⟨vs, vs[i]'(by omega), SqT.of (zh _ _ h), List.getElem?_eq_getElem _⟩, fun H zh => ⟨vs, SqT.of (zh _ _ h), by omega⟩, fun i x H H' _ zh ⟨e, y⟩ => ⟨e, ?_⟩⟩
  have q := y vs (SqT.of (zh _ _ h))
  exact dps_get' dv q
def signsD (z : Str) : List D := z.cps.toList.map fun c => .str ⟨#[c]⟩
theorem yieldsF_str {K : PySem.W.Frag} {Z : Hp} (z : Str) : YieldsF K (Its z) Z (signsD z) := by
  refine ⟨fun i H _ hi => (show i < z.cps.size by simpa [signsD] using hi), fun H _ => by simp [signsD, Its], fun i x H H' _ zh ⟨e, c, y, ex⟩ => ⟨e, .str ⟨#[c]⟩, ?_, by rw [ex]; exact Dq.str _⟩⟩
  unfold signsD
  rw [List.getElem?_map]
  have : z.cps.toList[i]? = some c := by simpa using y
  rw [this]; rfl
def rangeD (lo : Int) (n : Nat) : List D := (List.range n).map fun (i : Nat) => .int (lo + i)
theorem yieldsF_rng {K : PySem.W.Frag} {Z : Hp} (lo : Int) (n : Nat) : YieldsF K (Itr lo n) Z (rangeD lo n) := by
  refine ⟨fun i H _ hi => (show i < n by simpa [rangeD] using hi), fun H _ => by simp [rangeD, Itr], fun i x H H' hi zh ⟨e, ex⟩ => ⟨e, .int (lo + i), ?_, by rw [ex]; exact Dq.int _⟩⟩
  have hi' : i < n := by simpa [rangeD] using hi
  unfold rangeD
  rw [List.getElem?_map, List.getElem?_range hi']; rfl

/-- an iterator whose turns may make new objects: the part of data grows -/
structure Yields (K : PySem.W.Frag) (J : It) (Z : Hp) (ds : List D) : Prop where
  go : ∀ i H, Same Z H → i < ds.length → J.go i H
  stop : ∀ H, Same Z H → J.stop ds.length H
  yld : ∀ (F : Option Fd) (i : Nat) (x : V) (H H' Zc : Hp), i < ds.length → Same Z Zc → Fr F H Zc H Zc → FeedOk F H → J.yld i H x H' → ∃ Z' d, Fr F H Zc H' Z' ∧ FeedOk F H' ∧ ds[i]? = some d ∧ Dq Z' x d
theorem YieldsF.up {K : PySem.W.Frag} {J : It} {Z : Hp} {ds : List D} (y : YieldsF K J Z ds) : Yields K J Z ds :=
  ⟨y.go, y.stop, fun F i x H H' Zc hi zz f fd h => by
    obtain ⟨rfl, d, e, q⟩ := y.yld i x H H' hi (zz.trans f.zh) h
    exact ⟨Zc, d, f, fd, e, dp_mono zz _ _ q⟩⟩
theorem yields_list {K : PySem.W.Frag} {Z : Hp} {a : Addr} {vs : List V} {ds : List D} (h : Z a = some (.lst vs)) (dv : Dqs Z vs ds) : Yields K (Itl K a) Z ds := (yieldsF_list h dv).up
theorem yields_tup {K : PySem.W.Frag} {Z : Hp} {a : Addr} {vs : List V} {ds : List D} (h : Z a = some (.tup vs)) (dv : Dqs Z vs ds) : Yields K (Itt K a) Z ds := (yieldsF_tup h dv).up
theorem yields_str {K : PySem.W.Frag} {Z : Hp} (z : Str) : Yields K (Its z) Z (signsD z) := (yieldsF_str z).up
theorem yields_rng {K : PySem.W.Frag} {Z : Hp} (lo : Int) (n : Nat) : Yields K (Itr lo n) Z (rangeD lo n) := (yieldsF_rng lo n).up

abbrev WI := Env' → (List D → Prop) → (Xn → Prop) → Prop
def tPI (C : Cp) (w : WI) : TI := fun σ H R => ∃ Z ρ q e, Sta.at C H Z σ ρ ∧ w ρ q e ∧ (∀ J ds H' Z', Fr C.F H Z H' Z' → FeedOk C.F H' → Yields C.X.K J Z' ds → q ds → R J H') ∧ Ke C H Z e
def Iter (C : Cp) (tg e : Expr) (w : WI) : Prop := PI C.X tg e (tPI C w)

section
variable {C : Cp} {e c : Expr} {w : W} {t : WB} {pos : Pos} {body : List Stmt} {wb : WS} {tg : Expr}
def oIter : S → (List D → Prop) → Prop
  | .dat (.list xs), q => q xs
  | .dat (.tuple xs), q => q xs
  | .dat (.str z), q => q (signsD z)
  | _, _ => False
def wIt (w : W) : WI := fun ρ q e => w ρ (fun s => oIter s q) e
theorem Sta.refl {H Z : Hp} {σ : L2.St} {ρ : Env'} (s : Sta.at C H Z σ ρ) : Fr C.F H Z H Z := Fr.refl s.fr.zh s.fr.notF
/-- over a list, a tuple, a text -/
theorem i_any (he : E C e w) : Iter C tg e (wIt w) := by
  constructor
  intro pins s σ H R I ⟨Z, ρ, q, ex, st, hw, k, ke⟩
  have step := he.run pins s σ H (fun x H1 => ∃ Z1 y, Fr C.F H Z H1 Z1 ∧ FeedOk C.F H1 ∧ SV C.F C.H0 H1 Z1 x y ∧ oIter y q) I ⟨Z, ρ, _, ex, st, hw, fun y v H' Z' f fd sv hq => ⟨Z', y, f, fd, sv, hq⟩, ke⟩
  refine thn step fun v s1 ⟨x, H1, I1, r1, Z1, y, f, fd, sv, hq⟩ => ?_
  have fresh : ∀ b, b ∈ [s1.heap.objs.size] → FpOk C.X pins H1 b := fun b hb => by
    cases List.mem_singleton.mp hb
    exact I1.fpOk (Nat.le_refl _) (I1.hok.fresh (Nat.le_refl _))
  unfold oIter at hq
  split at hq
  · cases (show Dq Z1 x (.list _) from sv) with
    | lst h1 h2 =>
      cases r1
      obtain ⟨its, rv, p, hz⟩ := I1.list (SqL.of (f.zh _ _ h1))
      exact wpAny_pyIter_list p.isList ⟨_, [s1.heap.objs.size], _, _, H1, rfl, I1.kept (t' := s1.toks) (fun b o eb => Heap.get?_push_of_some _ eb), turn_list _ _, ⟨_, Heap.get?_push_size _ rfl, rfl, rfl⟩, fresh, k _ _ H1 Z1 f fd (yields_list h1 h2) hq⟩
  · cases (show Dq Z1 x (.tuple _) from sv) with
    | @tup pa _ _ h1 h2 =>
      cases r1
      obtain ⟨its, rv, p, hz⟩ := I1.tuple (SqT.of (f.zh _ _ h1))
      exact wpAny_pyIter_tuple (show s1.heap.IsTuple pa its.toArray from p) ⟨_, [s1.heap.objs.size], _, _, H1, rfl, I1.kept (t' := s1.toks) (fun b o eb => Heap.get?_push_of_some _ eb), turn_tuple _ _, ⟨_, Heap.get?_push_size _ rfl, rfl, rfl⟩, fresh, k _ _ H1 Z1 f fd (yields_tup h1 h2) hq⟩
  · rename_i z
    cases (show Dq Z1 x (.str z) from sv)
    obtain ⟨tk, rfl⟩ := r1
    have fin := k _ _ H1 Z1 f fd (yields_str z) hq
    cases ha : z.cps.all (· < 128) with
    | false => exact wpAny_pyIter_wide ha (pi_one (tk := s1.toks) I1 _ (turn_str _ z tk "str_iterator" (.inr rfl)) ⟨_, Heap.get?_push_size _ rfl, rfl, rfl⟩ fin)
    | true => exact wpAny_pyIter_ascii ha (pi_one (tk := s1.toks) I1 _ (turn_str _ z tk "str_ascii_iterator" (.inl rfl)) ⟨_, Heap.get?_push_size _ rfl, rfl, rfl⟩ fin)
  · exact hq.elim
theorem weakI {X : Cx} {tg e : Expr} {t t' : TI} (h : PI X tg e t) (k : ∀ σ H R, t' σ H R → t σ H R) : PI X tg e t' := ⟨fun pins s σ H R I q => h.run pins s σ H R I (k _ _ _ q)⟩
def wRng1 (r : WA) : WI := fun ρ q e => r ρ (fun ss => ∃ j : Int, ss = [.dat (.int j)] ∧ -(2 ^ 62) ≤ j ∧ j < 2 ^ 62 ∧ q (rangeD 0 j.toNat)) e
def wRng2 (r : WA) : WI := fun ρ q e => r ρ (fun ss => ∃ i j : Int, ss = [.dat (.int i), .dat (.int j)] ∧ (-(2 ^ 62) ≤ i ∧ i < 2 ^ 62 ∧ -(2 ^ 62) ≤ j ∧ j < 2 ^ 62) ∧ q (rangeD i (j - i).toNat)) e
theorem i_rng1 {a : Expr} {r : WA} {p : Pos} (hg : Gl C.X "range") (hm : C.X.mg "range" = none) (ha : A C [a] r) (hs : starEach [a] C.X.env = [(false, eval a C.X.env)] := by rfl) : Iter C tg (.Call (.Name "range" p) [a] [] pos) (wRng1 r) :=
  weakI (pi_range1 hg hm ha hs) fun σ H R ⟨Z, ρ, q, ex, st, hw, k, ke⟩ => ⟨Z, ρ, _, ex, st, hw, fun ss vs H' Z' f fd sv ⟨j, e1, b1, b2, hq⟩ => by
    subst e1
    obtain ⟨v, rfl, h⟩ := svs1 sv
    cases (show Dq Z' v (.int j) from h)
    exact ⟨j, rfl, b1, b2, k _ _ H' Z' f fd (yields_rng 0 j.toNat) hq⟩, ke⟩
theorem i_rng2 {a b : Expr} {r : WA} {p : Pos} (hg : Gl C.X "range") (hm : C.X.mg "range" = none) (ha : A C [a, b] r) (hs : starEach [a, b] C.X.env = [(false, eval a C.X.env), (false, eval b C.X.env)] := by rfl) (hs2 : starEach [b] C.X.env = [(false, eval b C.X.env)] := by rfl) : Iter C tg (.Call (.Name "range" p) [a, b] [] pos) (wRng2 r) :=
  weakI (pi_range2 hg hm ha hs hs2) fun σ H R ⟨Z, ρ, q, ex, st, hw, k, ke⟩ => ⟨Z, ρ, _, ex, st, hw, fun ss vs H' Z' f fd sv ⟨i, j, e1, b1, hq⟩ => by
    subst e1
    obtain ⟨v, u, rfl, h, h'⟩ := svs2 sv
    cases (show Dq Z' v (.int i) from h)
    cases (show Dq Z' u (.int j) from h')
    exact ⟨i, j, rfl, b1, k _ _ H' Z' f fd (yields_rng i (j - i).toNat) hq⟩, ke⟩

/-! ### for -/
/-- another base for what is kept -/
abbrev Cp.from (C : Cp) (Z1 : Hp) : Cp := { C with Z0 := Z1 }
theorem Fr.rebase {F : Option Fd} {H0 Z0 H1 Z1 H Z : Hp} (a : Fr F H0 Z0 H1 Z1) (b : Fr F H0 Z1 H Z) : Fr F H0 Z0 H Z :=
  ⟨b.keep, a.zz.trans b.zz, b.zh, fun p o e n => by
    cases q : Z1 p with
    | some u => exact a.new p u q n
    | none => exact b.new p o e q, b.notF⟩
theorem Fr.base {F : Option Fd} {H0 Z0 H1 Z1 : Hp} (a : Fr F H0 Z0 H1 Z1) : Fr F H0 Z1 H1 Z1 := ⟨a.keep, fun _ _ h => h, a.zh, fun p o e n => (by rw [e] at n; cases n), a.notF⟩
theorem Sta.rebase {H1 Z1 H Z : Hp} {σ σ1 : L2.St} {ρ ρ1 : Env'} (a : Sta.at C H1 Z1 σ1 ρ1) (s : Sta.at (C.from Z1) H Z σ ρ) : Sta.at C H Z σ ρ := ⟨a.fr.rebase s.fr, s.fd, s.len, s.env, s.sep⟩
theorem Sta.base {H1 Z1 : Hp} {σ1 : L2.St} {ρ1 : Env'} (a : Sta.at C H1 Z1 σ1 ρ1) : Sta.at (C.from Z1) H1 Z1 σ1 ρ1 := ⟨a.fr.base, a.fd, a.len, a.env, a.sep⟩
def wLoop (g : WG) (wb : WS) : List D → WS
  | [] => wNx
  | d :: r => fun P ρ => g d ρ fun ρ' => wb { P with nx := wLoop g wb r P, ct := wLoop g wb r P, bk := P.nx } ρ'
def wFor (wi : WI) (g : WG) (wb : WS) : WS := fun P ρ => wi ρ (fun ds => wLoop g wb ds P ρ) P.ex
theorem s_for {iter : Expr} {wi : WI} {g : WG} (hp : PassesOwn (model C.X.prog C.X.w) C.X.A C.X.env C.X.xe) (hc : C.X.calm = true) (hi : Iter C tg iter wi) (hg : ∀ Z1, G (C.from Z1) tg g) (hb : ∀ Z1, Sts (C.from Z1) body wb)
    (hs : ∀ x, foldedSetIterable iter C.X.env x = pure x := by intro _; rfl) : St1 C (.For tg iter body [] pos) (wFor wi g wb) := by
  have hg' : PG C.X tg (fun v σ H Q => ∃ Z1, tPG (C.from Z1) g v σ H Q) := ⟨fun pins s σ H v u Q I r ⟨Z1, h⟩ => (hg Z1).run pins s σ H v u Q I r h⟩
  have hb' : PSs C.X body (fun D σ H => ∃ Z1, tPS (C.from Z1) wb D σ H) := ⟨fun pins s σ H D I ⟨Z1, h⟩ => (hb Z1).run pins s σ H D I h⟩
  refine weakS (ps_for hp hc hi hg' hb' hs) fun D σ H ⟨Z, ρ, P, st, hw, d⟩ => ?_
  refine ⟨Z, ρ, _, P.ex, st, hw, fun J ds H1 Z1 f1 fd1 Y hq => ?_, d.ke st⟩
  have st1 := st.next f1 fd1
  refine ⟨fun i m σ' H' => m = ds.length - i ∧ i ≤ ds.length ∧ ∃ Z' ρ', Sta.at (C.from Z1) H' Z' σ' ρ' ∧ wLoop g wb (ds.drop i) P ρ', ⟨ds.length, by omega, Nat.zero_le _, Z1, ρ, st1.base, by simpa using hq⟩, ?_⟩
  rintro i m σ' H' ⟨rfl, hi', Z', ρ', st', hl⟩
  have zh : Same Z1 H' := st'.fr.zz.trans st'.fr.zh
  have ends : ∀ {P' : Po} {D' : Ends}, P'.ex = P.ex → P'.rt = P.rt → D'.rt = D.rt → (∀ σ ρ H Z, Sta.at (C.from Z1) H Z σ ρ → P'.nx ρ → D'.nx σ H) → (∀ σ ρ H Z, Sta.at (C.from Z1) H Z σ ρ → P'.bk ρ → D'.bk σ H) → (∀ σ ρ H Z, Sta.at (C.from Z1) H Z σ ρ → P'.ct ρ → D'.ct σ H) → Ends' (C.from Z1) P' D' := fun e1 e2 e3 h1 h2 h3 =>
    ⟨h1, h2, h3, fun s v H Z f fd l sv h => by rw [e3]; rw [e2] at h; exact d.rt s v H Z (st1.fr.rebase f) fd l sv h, fun x cls dd H Z f fd xv h => by rw [e1] at h; exact d.ex x cls dd H Z (st1.fr.rebase f) fd xv h⟩
  by_cases hlt : i < ds.length
  · refine .inr ⟨Y.go i H' zh hlt, fun σ2 H2 => ∃ Z2 ρ2, Sta.at (C.from Z1) H2 Z2 σ2 ρ2 ∧ wLoop g wb (ds.drop (i + 1)) P ρ2, fun σ2 H2 ⟨Z2, ρ2, s2, l2⟩ => ⟨ds.length - (i + 1), by omega, rfl, hlt, Z2, ρ2, s2, l2⟩, fun x H2 y => ?_⟩
    obtain ⟨Zy, dd, fy, fdy, hd, dq⟩ := Y.yld C.F i x H' H2 Z' hlt st'.fr.zz (Fr.refl st'.fr.zh st'.fr.notF) st'.fd y
    have e1 : ds.drop i = dd :: ds.drop (i + 1) := by
      rw [List.drop_eq_getElem_cons hlt]
      rw [List.getElem?_eq_getElem hlt] at hd
      cases hd; rfl
    rw [e1] at hl
    refine ⟨Z1, Zy, ρ', dd, _, st'.next fy fdy, dq, hl, fun σ3 ρ3 H3 Z3 s3 _ h3 => ⟨Z1, Z3, ρ3, _, s3, h3, ?_⟩⟩
    exact ends rfl rfl rfl (fun σ ρ H Z s h => ⟨Z, ρ, s, h⟩) (fun σ ρ H Z s h => d.nx σ ρ H Z (st1.rebase s) h) (fun σ ρ H Z s h => ⟨Z, ρ, s, h⟩)
  · have e : i = ds.length := by omega
    subst e
    rw [List.drop_length] at hl
    exact .inl ⟨Y.stop H' zh, d.nx σ' ρ' H' Z' (st1.rebase st') hl⟩
/-- while, by a word and a measure -/
def wWhile (t : WB) (wb : WS) : WS := fun P ρ => ∃ (V : Env' → Prop) (μ : Env' → Nat), V ρ ∧ ∀ ρ, V ρ → t ρ (fun b => if b = true then wb { P with nx := fun ρ' => V ρ' ∧ μ ρ' < μ ρ, ct := fun ρ' => V ρ' ∧ μ ρ' < μ ρ, bk := P.nx } ρ else P.nx ρ) P.ex
theorem s_while (hp : PassesOwn (model C.X.prog C.X.w) C.X.A C.X.env C.X.xe) (hc : T C c t) (hb : Sts C body wb) : St1 C (.While c body [] pos) (wWhile t wb) :=
  weakS (ps_while hp hc hb) fun D σ H ⟨Z, ρ, P, st, ⟨Vv, μ, v0, turn⟩, d⟩ => by
    refine ⟨fun m σ' H' => ∃ Z' ρ', Sta.at C H' Z' σ' ρ' ∧ Vv ρ' ∧ m = μ ρ', ⟨μ ρ, Z, ρ, st, v0, rfl⟩, ?_⟩
    rintro m σ' H' ⟨Z', ρ', st', v', rfl⟩
    refine ⟨Z', ρ', _, P.ex, st', turn ρ' v', fun b H2 Z2 f2 fd2 hq => ?_, d.ke st'⟩
    cases b with
    | true =>
      refine ⟨fun σ3 H3 => ∃ Z3 ρ3, Sta.at C H3 Z3 σ3 ρ3 ∧ Vv ρ3 ∧ μ ρ3 < μ ρ', fun σ3 H3 ⟨Z3, ρ3, s3, v3, l3⟩ => ⟨_, l3, Z3, ρ3, s3, v3, rfl⟩, Z2, ρ', _, st'.next f2 fd2, hq, ?_⟩
      exact ⟨fun σ ρ H Z s h => ⟨Z, ρ, s, h.1, h.2⟩, fun σ ρ H Z s h => d.nx σ ρ H Z s h, fun σ ρ H Z s h => ⟨Z, ρ, s, h.1, h.2⟩, d.rt, d.ex⟩
    | false => exact d.nx σ' ρ' H2 Z2 (st'.next f2 fd2) hq
end
end PL

/-! comprehensions; lists of a def's own; two names at once -/
namespace PL
open PySem PySem.Spec PyProof.Rows L2
section
variable {C : Cp}
/-- within a comprehension's block (nothing is raised there) -/
abbrev Cp.blk (C : Cp) (s : Shared) (H : Hp) (scope : Scope) (cenv : Env) (fp : List Addr) : Cp := { C with X := C.X.blk s H scope cenv fp, EE := fun _ _ _ => False }
abbrev noX : Xn → Prop := fun _ => False
def wipe' (ρ : Env') : List Nat → Env'
  | [] => ρ
  | v :: vs => (wipe' ρ vs).set v none
theorem wipe'_len (ρ : Env') : ∀ vs, (wipe' ρ vs).length = ρ.length
  | [] => rfl
  | v :: vs => by simp [wipe', wipe'_len ρ vs]
theorem wipe'_get {ρ : Env'} {i : Nat} {s : S} : ∀ {vs : List Nat}, (wipe' ρ vs)[i]? = some (some s) → ρ[i]? = some (some s) ∧ i ∉ vs
  | [], h => ⟨h, by simp⟩
  | v :: vs, h => by
    unfold wipe' at h
    by_cases e : v = i
    · subst e
      by_cases hi : v < (wipe' ρ vs).length
      · rw [List.getElem?_set_self hi] at h; cases h
      · rw [List.getElem?_eq_none (by rw [List.length_set]; omega)] at h; cases h
    · rw [List.getElem?_set_ne e] at h
      obtain ⟨h1, h2⟩ := wipe'_get (vs := vs) h
      exact ⟨h1, fun m => by
        rcases List.mem_cons.mp m with m | m
        · exact e m.symm
        · exact h2 m⟩
theorem Sta.wipe {H Z : Hp} {σ : L2.St} {ρ : Env'} (s : Sta.at C H Z σ ρ) (vs : List Nat) : Sta.at C H Z (L2.wipe σ vs) (wipe' ρ vs) := by
  refine ⟨s.fr, s.fd, by rw [wipe_length, wipe'_len]; exact s.len, fun i x e => ?_, fun i j a s1 s2 e1 e2 m1 m2 e3 e4 => ?_⟩
  · obtain ⟨h1, h2⟩ := wipe'_get e
    obtain ⟨v, h3, h4⟩ := s.env i x h1
    exact ⟨v, by rw [wipe_out h2]; exact h3, h4⟩
  · obtain ⟨h1, _⟩ := wipe'_get e1
    obtain ⟨h2, _⟩ := wipe'_get e2
    exact s.sep i j a s1 s2 h1 h2 m1 m2 (wipe_some e3).1 (wipe_some e4).1
/-- slots stored with data, from the left -/
def setAll (ρ : Env') : List Nat → List D → Env'
  | i :: is, d :: ds => setAll (ρ.set i (some (.dat d))) is ds
  | _, _ => ρ
def setAllV (σ : L2.St) : List Nat → List V → L2.St
  | i :: is, d :: ds => setAllV (σ.set i (some d)) is ds
  | _, _ => σ
theorem Sta.setAll {H Z : Hp} : ∀ {is : List Nat} {vs : List V} {ds : List D} {σ : L2.St} {ρ : Env'}, Sta.at C H Z σ ρ → Dqs Z vs ds → Sta.at C H Z (setAllV σ is vs) (setAll ρ is ds)
  | [], _, _, _, _, s, _ => s
  | i :: is, _, _, _, _, s, .nil => s
  | i :: is, _, _, _, _, s, .cons a b => by
    have s' : Sta.at C H Z _ _ := s.set i (s := .dat _) a rfl
    have h := Sta.setAll (is := is) s' b
    exact h
theorem set_wipe {σ : L2.St} {i : Nat} {v : Option V} : ∀ {vs : List Nat}, i ∈ vs → L2.wipe (σ.set i v) vs = L2.wipe σ vs
  | [], h => by cases h
  | w :: vs, h => by
    by_cases e : i ∈ vs
    · show (L2.wipe (σ.set i v) vs).set w none = (L2.wipe σ vs).set w none
      rw [set_wipe e]
    · have hw : i = w := by
        rcases List.mem_cons.mp h with h | h
        · exact h
        · exact absurd h e
      subst hw
      show (L2.wipe (σ.set i v) vs).set i none = (L2.wipe σ vs).set i none
      apply List.ext_getElem?
      intro j
      by_cases hj : i = j
      · subst hj
        rw [List.getElem?_set, List.getElem?_set, wipe_length, wipe_length, List.length_set]
        simp only [if_true]
      · rw [List.getElem?_set_ne hj, List.getElem?_set_ne hj]
        by_cases hv : j ∈ vs
        · have gone : ∀ (τ : L2.St) (us : List Nat), j ∈ us → (L2.wipe τ us)[j]? = if j < τ.length then some none else none := by
            intro τ us
            induction us with
            | nil => intro m; cases m
            | cons u us ih =>
              intro m
              show ((L2.wipe τ us).set u none)[j]? = _
              by_cases hu : u = j
              · subst hu
                by_cases hl : u < τ.length
                · rw [List.getElem?_set_self (by rw [wipe_length]; exact hl), if_pos hl]
                · rw [List.getElem?_eq_none (by rw [List.length_set, wipe_length]; omega), if_neg hl]
              · rw [List.getElem?_set_ne hu]
                rcases List.mem_cons.mp m with m | m
                · exact absurd m.symm hu
                · exact ih m
          rw [gone _ _ hv, gone _ _ hv, List.length_set]
        · rw [wipe_out hv, wipe_out hv, List.getElem?_set_ne hj]
theorem setAllV_wipe {vs : List Nat} : ∀ {is : List Nat} {ws : List V} {σ : L2.St}, (∀ i ∈ is, i ∈ vs) → L2.wipe (setAllV σ is ws) vs = L2.wipe σ vs
  | [], _, _, _ => rfl
  | i :: is, [], _, _ => rfl
  | i :: is, w :: ws, σ, h => by
    show L2.wipe (setAllV (σ.set i (some w)) is ws) vs = _
    rw [setAllV_wipe fun j hj => h j (List.mem_cons_of_mem _ hj), set_wipe (h i List.mem_cons_self)]
theorem wipe_twice {σ : L2.St} {vs : List Nat} : L2.wipe (L2.wipe σ vs) vs = L2.wipe σ vs := by
  have go : ∀ (us : List Nat) (τ : L2.St), (∀ u ∈ us, u ∈ vs) → L2.wipe (L2.wipe τ us) vs = L2.wipe τ vs := by
    intro us
    induction us with
    | nil => intro τ _; rfl
    | cons u us ih =>
      intro τ h
      show L2.wipe ((L2.wipe τ us).set u none) vs = _
      rw [set_wipe (h u List.mem_cons_self)]
      exact ih τ fun x hx => h x (List.mem_cons_of_mem _ hx)
  exact go vs σ fun u h => h

/-! ### a new list of one's own -/
/-- an expression that makes a new list -/
abbrev WL := Env' → (List D → Prop) → (Xn → Prop) → Prop
def tPN (C : Cp) (w : WL) : TE := fun σ H Q => ∃ Z ρ q e, Sta.at C H Z σ ρ ∧ w ρ q e ∧ (∀ ds vs p H' Z', Fr C.F H Z H' Z' → FeedOk C.F H' → H' p = some (.lst vs) → H p = none → Z' p = none → nf C.F p → Dqs Z' vs ds → q ds → Q (.ref p) H') ∧ Ke C H Z e
def N (C : Cp) (e : Expr) (w : WL) : Prop := PE C.X e (tPN C w)
theorem Fr.keepNew {F : Option Fd} {H Z H' Z' : Hp} {p : Addr} {vs : List V} (f : Fr F H Z H' Z') (h : H' p = some (.lst vs)) (hn : H p = none) (zn : Z' p = none) (nf : nf F p) : Fr F H Z H' (upd Z' p (.lst vs)) := by
  refine ⟨f.keep, f.zz.trans (Same.made zn), fun a o e => ?_, fun a o e n => ?_, fun a o e => ?_⟩
  · by_cases ha : a = p
    · subst ha; rw [upd_same] at e; cases e; exact h
    · rw [upd_ne ha] at e; exact f.zh a o e
  · by_cases ha : a = p
    · subst ha; exact hn
    · rw [upd_ne ha] at e; exact f.new a o e n
  · by_cases ha : a = p
    · subst ha; exact nf
    · rw [upd_ne ha] at e; exact f.notF a o e
/-- .. as a value -/
def wNew (w : WL) : W := fun ρ q e => w ρ (fun ds => q (.dat (.list ds))) e
theorem e_new {e : Expr} {w : WL} (h : N C e w) : E C e (wNew w) :=
  weakE h fun σ H Q ⟨Z, ρ, q, ex, st, hw, k, ke⟩ => ⟨Z, ρ, _, ex, st, hw, fun ds vs p H' Z' f fd hp hn zn nf dv hq =>
    k (.dat (.list ds)) _ H' _ (f.keepNew hp hn zn nf) fd (Dq.lst upd_same (dps_mono (Same.made zn) _ _ dv)) hq, ke⟩
/-- .. given to a name that owns it -/
def wOwn (i : Nat) (w : WL) : WS := fun P ρ => w ρ (fun ds => P.nx (ρ.set i (some (.own ds)))) P.ex
/-- slot i holds a new object of its own -/
theorem Sta.setMine {H Z H' Z' : Hp} {σ : L2.St} {ρ : Env'} (s : Sta.at C H Z σ ρ) (f : Fr C.F H Z H' Z') (fd : FeedOk C.F H') (i : Nat) {p : Addr} {o : HO} {t : S} (hn : H p = none) (nf : nf C.F p) (ht : C.H0 p = none → SV C.F C.H0 H' Z' (.ref p) t) : Sta.at C H' Z' (σ.set i (some (.ref p))) (ρ.set i (some t)) := by
  have s' := s.next f fd
  have h0 : C.H0 p = none := by
    cases q : C.H0 p with
    | none => rfl
    | some o => rw [s.fr.keep p o nf q] at hn; cases hn
  have others : ∀ (j : Nat) (u : S), ρ[j]? = some (some u) → u.mine = true → σ[j]? ≠ some (some (V.ref p)) := fun j u e m e' => by
    obtain ⟨v, e1, sv⟩ := s.env j _ e
    obtain ⟨a, o', e2, e3, _⟩ := sv.at m
    rw [e1] at e'
    cases e'
    cases e2
    rw [hn] at e3; cases e3
  refine ⟨s'.fr, s'.fd, by simp [s'.len], fun j x e => ?_, fun j k a s1 s2 e1 e2 m1 m2 e3 e4 => ?_⟩
  · by_cases hj : i = j
    · subst hj
      by_cases hi : i < ρ.length
      · rw [List.getElem?_set_self hi] at e
        cases e
        exact ⟨.ref p, List.getElem?_set_self (by rw [s.len]; exact hi), ht h0⟩
      · rw [List.getElem?_eq_none (by rw [List.length_set]; omega)] at e; cases e
    · rw [List.getElem?_set_ne hj] at e
      rw [List.getElem?_set_ne hj]
      exact s'.env j x e
  · have at' : ∀ (m : Nat) (u : S), (ρ.set i (some t))[m]? = some (some u) → (σ.set i (some (V.ref p)))[m]? = some (some (V.ref a)) → (i = m ∧ a = p) ∨ (i ≠ m ∧ ρ[m]? = some (some u) ∧ σ[m]? = some (some (V.ref a))) := fun m u h1 h2 => by
      by_cases hm : i = m
      · subst hm
        by_cases hi : i < σ.length
        · rw [List.getElem?_set_self hi] at h2
          cases h2
          exact .inl ⟨rfl, rfl⟩
        · rw [List.getElem?_eq_none (by rw [List.length_set]; omega)] at h2; cases h2
      · rw [List.getElem?_set_ne hm] at h1 h2
        exact .inr ⟨hm, h1, h2⟩
    rcases at' j s1 e1 e3 with ⟨rfl, rfl⟩ | ⟨n1, h1, h2⟩
    · rcases at' k s2 e2 e4 with ⟨e, _⟩ | ⟨n2, h3, h4⟩
      · exact e
      · exact absurd h4 (others k s2 h3 m2)
    · rcases at' k s2 e2 e4 with ⟨rfl, rfl⟩ | ⟨n2, h3, h4⟩
      · exact absurd h2 (others j s1 h1 m1)
      · exact s.sep j k a s1 s2 h1 h3 m1 m2 h2 h4
theorem Sta.setOwn {H Z H' Z' : Hp} {σ : L2.St} {ρ : Env'} (s : Sta.at C H Z σ ρ) (f : Fr C.F H Z H' Z') (fd : FeedOk C.F H') (i : Nat) {p : Addr} {vs : List V} {ds : List D} (hp : H' p = some (.lst vs)) (hn : H p = none) (zn : Z' p = none) (nf : nf C.F p) (dv : Dqs Z' vs ds) : Sta.at C H' Z' (σ.set i (some (.ref p))) (ρ.set i (some (.own ds))) :=
  s.setMine (o := .lst vs) f fd i hn nf fun h0 => ⟨p, vs, rfl, hp, zn, h0, nf, dv⟩
theorem s_own {i : Nat} {x : Str} {pos pos' : Pos} {e : Expr} {w : WL} (hN : C.X.N.Nodup) (hi : C.X.N[i]? = some x) (hx : Loc C.X.env.scope x) (he : N C e w) (hs : swapsWith e (some (.Name x pos')) pos.line C.X.env = pure false := by rfl)
    (hf : C.X.fn x = true ∨ C.X.env.scope.names.lookup x = some .local := by first | exact .inl rfl | exact .inr rfl | assumption) : St1 C (.Assign [.Name x pos'] e pos) (wOwn i w) :=
  weakS (ps_set hN hi hx he hs hf) fun D σ H ⟨Z, ρ, P, s, h, d⟩ => ⟨Z, ρ, _, _, s, h, fun ds vs p H' Z' f fd hp hn zn nf dv hq => d.nx _ _ _ _ (s.setOwn f fd i hp hn zn nf dv) hq, d.ke s⟩
def wLstN (r : WA) : WL := fun ρ q e => r ρ (fun ss => ∃ ds, ss = ds.map S.dat ∧ ds.length ≤ sizeLine ∧ q ds) e
theorem Fr.madeH {F : Option Fd} {H Z : Hp} {p : Addr} {o : HO} (h : Fr F H Z H Z) (np : H p = none) : Fr F H Z (upd H p o) Z ∧ Z p = none := by
  have zp : Z p = none := by
    cases q : Z p with
    | none => rfl
    | some u => rw [h.zh p u q] at np; cases np
  refine ⟨⟨fun a u n e => by rw [upd_ne (ne_of_none e np)]; exact e, fun _ _ e => e, fun a u e => by rw [upd_ne (ne_of_none e zp)]; exact h.zh a u e, fun a u e n => (by rw [e] at n; cases n), h.notF⟩, zp⟩
theorem n_lst {es : List Expr} {pos : Pos} {r : WA} (h : A C es r) : N C (.List es pos) (wLstN r) :=
  weakE (pe_lst h) fun σ H Q ⟨Z, ρ, q, e, st, hw, k, ke⟩ => ⟨Z, ρ, _, e, st, hw, fun ss vs H1 Z1 f1 fd1 sv ⟨ds, e1, z, hq⟩ => by
    subst e1
    refine ⟨by rw [sv.len]; simpa using z, fun p np => ?_⟩
    obtain ⟨f2, zp⟩ := Fr.madeH (o := .lst vs) (Fr.refl f1.zh f1.notF) np
    have hp0 : H p = none := by
      cases q' : H p with
      | none => rfl
      | some o => rw [f1.keep p o (fd1.ne np) q'] at np; cases np
    exact k ds vs p _ Z1 (f1.trans f2) (fd1.made np) upd_same hp0 zp (fd1.ne np) sv.dats hq, ke⟩
end
end PL

/-! comprehensions, append, two names at once, defs that raise nothing -/
namespace PL
open PySem PySem.Spec PyProof.Rows L2
section
variable {C : Cp}
/-! ### a comprehension's target -/
def TgOk (g : TG) (is : List Nat) (sel : D → Option (List D)) : Prop :=
  ∀ (x : V) (d : D) (ds : List D) (σ : L2.St) (H Z : Hp) (Q : L2.St → Hp → Prop), Same Z H → Dq Z x d → sel d = some ds → (∀ vs, Dqs Z vs ds → Q (setAllV σ is vs) H) → g x σ H Q
def sel1 : D → Option (List D) := fun d => some [d]
def selT (n : Nat) : D → Option (List D)
  | .tuple ds => if ds.length = n then some ds else none
  | _ => none
theorem tg_name (i : Nat) : TgOk (gName i) [i] sel1 := fun x d ds σ H Z Q zh dq e k => by
  cases e
  exact k [x] (.cons dq .nil)
def gNames : List Nat → TGs
  | [] => gNil
  | i :: is => gCons (gName i) (gNames is)
theorem gNames_ok {Q : L2.St → Hp → Prop} : ∀ {is : List Nat} {vs : List V} {σ : L2.St} {H : Hp}, vs.length = is.length → Q (setAllV σ is vs) H → gNames is vs σ H Q
  | [], [], _, _, _, h => ⟨rfl, h⟩
  | i :: is, v :: vs, σ, H, l, h => ⟨v, vs, rfl, gNames_ok (is := is) (by simpa using l) h⟩
theorem tg_tup {K : PySem.W.Frag} (is : List Nat) (n : Nat) (hn : is.length = n) : TgOk (gTup K n (gNames is)) is (selT n) := fun x d ds σ H Z Q zh dq e k => by
  cases d with
  | tuple es =>
    have e' : (if es.length = n then some es else none) = some ds := e
    by_cases hl : es.length = n
    · rw [if_pos hl] at e'
      cases e'
      cases dq with
      | tup h1 h2 =>
        have l := dps_len h2
        exact ⟨_, _, rfl, SqT.of (zh _ _ h1), by rw [l]; exact hl, gNames_ok (by rw [l, hl, hn]) (k _ h2)⟩
    · rw [if_neg hl] at e'; cases e'
  | _ => cases e
/-! ### tests of a clause -/
def Tts (C : Cp) (ifs : List Expr) (t : WB) : Prop := PTs C.X ifs (tPT C t)
def wYes : WB := fun _ q _ => q true
theorem ts_nil : Tts C [] wYes := ⟨fun pins s σ H Q I ⟨Z, ρ, q, e, st, hw, k, ke⟩ => pts_nil.run pins s σ H Q I (k true H Z (Fr.refl st.fr.zh st.fr.notF) st.fd hw)⟩
theorem ts_one {c : Expr} {t : WB} (h : T C c t) : Tts C [c] t := pts_one h

def wMap (f : D → (Option D → Prop) → Prop) : List D → (List D → Prop) → Prop
  | [], q => q []
  | d :: r, q => f d fun o => wMap f r fun out => q (match o with | some x => x :: out | none => out)
def wLc (vs is : List Nat) (sel : D → Option (List D)) (wi : WI) (t : WB) (w : W) : WL := fun ρ q e =>
  wi ρ (fun ds => ds.length ≤ sizeLine ∧ wMap (fun d q' => ∃ es, sel d = some es ∧ t (setAll (wipe' ρ vs) is es) (fun b => if b = true then w (setAll (wipe' ρ vs) is es) (fun s => ∃ d', s = .dat d' ∧ q' (some d')) noX else q' none) noX) ds q) e
theorem wMap_mono {f : D → (Option D → Prop) → Prop} (hf : ∀ d q q', (∀ o, q o → q' o) → f d q → f d q') : ∀ {ds : List D} {q q' : List D → Prop}, (∀ o, q o → q' o) → wMap f ds q → wMap f ds q'
  | [], _, _, k, h => k _ h
  | d :: r, q, q', k, h => hf d _ _ (fun o h' => wMap_mono hf (fun out h2 => k _ h2) h') h
/-- the heap within a comprehension: the new list at p apart -/
structure Mid (C : Cp) (H1 Z1 H Z : Hp) (p : Addr) (acc : List V) (accD : List D) : Prop where
  fr : Fr C.F H1 Z1 H Z
  fd : FeedOk C.F H
  at' : H p = some (.lst acc)
  zn : Z p = none
  dv : Dqs Z acc accD
theorem Mid.next {H1 Z1 H Z H' Z' : Hp} {p : Addr} {acc : List V} {accD : List D} (m : Mid C H1 Z1 H Z p acc accD) (nf : nf C.F p) (f : Fr C.F H Z H' Z') (fd : FeedOk C.F H') : Mid C H1 Z1 H' Z' p acc accD := by
  refine ⟨m.fr.trans f, fd, f.keep p _ nf m.at', ?_, dps_mono f.zz _ _ m.dv⟩
  cases q : Z' p with
  | none => rfl
  | some o =>
    have h1 := f.new p o q m.zn
    have h2 := m.at'
    rw [h1] at h2; cases h2
theorem Mid.app {H1 Z1 H Z : Hp} {p : Addr} {acc : List V} {accD : List D} {y : V} {d : D} (m : Mid C H1 Z1 H Z p acc accD) (hn : H1 p = none) (nf : nf C.F p) (dq : Dq Z y d) : Mid C H1 Z1 (upd H p (.lst (acc ++ [y]))) Z p (acc ++ [y]) (accD ++ [d]) := by
  refine ⟨⟨fun a o n e => ?_, m.fr.zz, fun a o e => ?_, m.fr.new, m.fr.notF⟩, ?_, upd_same, m.zn, dps_app m.dv (.cons dq .nil)⟩
  · rw [upd_ne (ne_of_none e hn)]; exact m.fr.keep a o n e
  · rw [upd_ne (ne_of_none e m.zn)]; exact m.fr.zh a o e
  · exact m.fd.other nf fun h e => by rw [m.at'] at e; cases e
/-- the reading of a comprehension from its plain meaning -/
theorem lc_red {wi : WI} {g : TG} {vs' is : List Nat} {sel : D → Option (List D)} {t : WB} {w : W} (ht0 : TgOk g is sel) (his : ∀ i ∈ is, i ∈ vs') {σ : L2.St} {H : Hp} {Q : VK} (h : tPN C (wLc vs' is sel wi t w) σ H Q) :
    tLc (tPI C wi) g (tPT { C with EE := fun _ _ _ => False } t) (tP { C with EE := fun _ _ _ => False } w) vs' σ H Q := by
  obtain ⟨Z, ρ, q, ex, st, hw, k, ke⟩ := h
  refine ⟨Z, ρ, _, ex, st, hw, fun J ds H1 Z1 f1 fd1 Y ⟨hl, hm⟩ => ?_, ke⟩
  intro p np
  have st1 := st.next f1 fd1
  obtain ⟨f2, zp⟩ := Fr.madeH (o := .lst []) (Fr.refl f1.zh f1.notF) np
  have nfp : nf C.F p := fd1.ne np
  have hp0 : H p = none := by
    cases q' : H p with
    | none => rfl
    | some o => rw [f1.keep p o nfp q'] at np; cases np
  have m0 : Mid C H1 Z1 (upd H1 p (.lst [])) Z1 p [] [] := ⟨f2, fd1.made np, upd_same, zp, .nil⟩
  refine ⟨fun i m H' => m = ds.length - i ∧ i ≤ ds.length ∧ ∃ Z' acc accD, Mid C H1 Z1 H' Z' p acc accD ∧ acc.length ≤ i ∧ wMap _ (ds.drop i) (fun out => q (accD ++ out)), ⟨ds.length, by omega, Nat.zero_le _, Z1, [], [], m0, Nat.zero_le _, by simpa using hm⟩, ?_⟩
  rintro i m H' ⟨rfl, hi', Z', acc, accD, mid, hal, hrun⟩
  have zh : Same Z1 H' := mid.fr.zz.trans mid.fr.zh
  by_cases hlt : i < ds.length
  · refine .inr ⟨Y.go i H' zh hlt, fun H2 => ∃ Z2 acc2 accD2, Mid C H1 Z1 H2 Z2 p acc2 accD2 ∧ acc2.length ≤ i + 1 ∧ wMap _ (ds.drop (i + 1)) (fun out => q (accD2 ++ out)), fun H2 ⟨Z2, a2, d2, m2, l2, r2⟩ => ⟨ds.length - (i + 1), by omega, rfl, hlt, Z2, a2, d2, m2, l2, r2⟩, fun x H2 y => ?_⟩
    obtain ⟨Zy, dd, fy, fdy, hd, dq⟩ := Y.yld C.F i x H' H2 Z' hlt mid.fr.zz (Fr.refl mid.fr.zh mid.fr.notF) mid.fd y
    have mid := mid.next nfp fy fdy
    have e1 : ds.drop i = dd :: ds.drop (i + 1) := by
      rw [List.drop_eq_getElem_cons hlt]
      rw [List.getElem?_eq_getElem hlt] at hd
      cases hd; rfl
    rw [e1] at hrun
    obtain ⟨es, hsel, htst⟩ := hrun
    refine ht0 x dd es _ H2 Zy _ mid.fr.zh dq hsel fun vs dvs => ?_
    refine ⟨by rw [setAllV_wipe his, wipe_twice], ?_⟩
    have stm : Sta.at C H2 Zy σ ρ := st1.next mid.fr mid.fd
    have st2 : Sta.at C H2 Zy (setAllV (L2.wipe σ vs') is vs) (setAll (wipe' ρ vs') is es) := Sta.setAll (stm.wipe _) dvs
    refine ⟨Zy, _, _, noX, st2, htst, fun b H3 Z3 f3 fd3 hb => ?_, fun x cls d H4 Z4 _ _ _ hx => hx.elim⟩
    have mid3 := mid.next nfp f3 fd3
    cases b with
    | false =>
      show ∃ Z2 acc2 accD2, _
      exact ⟨Z3, acc, accD, mid3, by omega, hb⟩
    | true =>
      refine ⟨Z3, _, _, noX, st2.next f3 fd3, hb, fun s v H4 Z4 f4 fd4 sv ⟨d', e4, hq⟩ => ?_, fun x cls d H4 Z4 _ _ _ hx => hx.elim⟩
      subst e4
      have mid4 := mid3.next nfp f4 fd4
      refine ⟨acc, mid4.at', by omega, Z4, acc ++ [v], accD ++ [d'], mid4.app np nfp sv, by simp; omega, ?_⟩
      have e5 : (fun out => q (accD ++ [d'] ++ out)) = fun out => q (accD ++ (match some d' with | some x => x :: out | none => out)) := by
        funext out; simp
      rw [e5]
      exact hq
  · have e : i = ds.length := by omega
    subst e
    rw [List.drop_length] at hrun
    have hq : q (accD ++ []) := hrun
    rw [List.append_nil] at hq
    exact .inl ⟨Y.stop H' zh, k accD acc p H' Z' (f1.trans mid.fr) mid.fd mid.at' hp0 mid.zn nfp mid.dv hq⟩
/-- [elt for tg in iter if ..] -/
theorem n_lc {elt tg iter : Expr} {ifs : List Expr} {scope : Scope} {own : List (Str × Nat)} {vs : List Nat} {pos : Pos} {wi : WI} {g : TG} {is : List Nat} {sel : D → Option (List D)} {t : WB} {w : W} (hc : C.X.calm = true) (hN : C.X.N.Nodup) (hi : Iter C tg iter wi) (ok : BlkOk C.X.N C.X.env.scope scope own)
    (ht0 : TgOk g is sel) (his : ∀ i ∈ is, i ∈ vs)
    (hg : ∀ (s : Shared) (H : Hp) (c : Addr) (cl : List (Str × Addr)) (fp : List Addr), PG (C.X.blk s H scope (compEnvC scope cl c C.X.env) fp) tg g)
    (ht : ∀ (s : Shared) (H : Hp) (c : Addr) (cl : List (Str × Addr)) (fp : List Addr), Tts (C.blk s H scope (compEnvC scope cl c C.X.env) fp) ifs t)
    (he : ∀ (s : Shared) (H : Hp) (c : Addr) (cl : List (Str × Addr)) (fp : List Addr), E (C.blk s H scope (compEnvC scope cl c C.X.env) fp) elt w)
    (hs : ∀ x, foldedSetIterable iter C.X.env x = pure x := by intro _; rfl) (hvs : own.map (·.2) = vs := by rfl) : N C (.ListComp elt [⟨tg, iter, ifs, 0⟩] scope pos) (wLc vs is sel wi t w) := by
  subst hvs
  exact weakE (pe_lc (tt := tPT { C with EE := fun _ _ _ => False } t) (te := tP { C with EE := fun _ _ _ => False } w) hc hN hi ok hg (fun s H c cl fp => ht s H c cl fp) (fun s H c cl fp => he s H c cl fp) hs) fun σ H Q h => lc_red ht0 his h
/-- y = [..], y a local -/
theorem s_lcSet {i : Nat} {y : Str} {py spos : Pos} {elt tg iter : Expr} {ifs : List Expr} {scope : Scope} {own : List (Str × Nat)} {vs : List Nat} {pos : Pos} {wi : WI} {g : TG} {is : List Nat} {sel : D → Option (List D)} {t : WB} {w : W} (hc : C.X.calm = true) (hN : C.X.N.Nodup) (hy : C.X.N[i]? = some y) (hyl : C.X.env.scope.names.lookup y = some .local)
    (hsw : swapsWith (.ListComp elt [⟨tg, iter, ifs, 0⟩] scope pos) (some (.Name y py)) spos.line C.X.env = pure true) (hi : Iter C tg iter wi) (ok : BlkOk C.X.N C.X.env.scope scope own)
    (ht0 : TgOk g is sel) (his : ∀ i ∈ is, i ∈ vs)
    (hg : ∀ (s : Shared) (H : Hp) (c : Addr) (cl : List (Str × Addr)) (fp : List Addr), PG (C.X.blk s H scope (compEnvC scope cl c C.X.env) fp) tg g)
    (ht : ∀ (s : Shared) (H : Hp) (c : Addr) (cl : List (Str × Addr)) (fp : List Addr), Tts (C.blk s H scope (compEnvC scope cl c C.X.env) fp) ifs t)
    (he : ∀ (s : Shared) (H : Hp) (c : Addr) (cl : List (Str × Addr)) (fp : List Addr), E (C.blk s H scope (compEnvC scope cl c C.X.env) fp) elt w)
    (hs : ∀ x, foldedSetIterable iter C.X.env x = pure x := by intro _; rfl) (hvs : own.map (·.2) = vs := by rfl) : St1 C (.Assign [.Name y py] (.ListComp elt [⟨tg, iter, ifs, 0⟩] scope pos) spos) (wSet i (wNew (wLc vs is sel wi t w))) := by
  subst hvs
  exact weakS (ps_setLc (tt := tPT { C with EE := fun _ _ _ => False } t) (te := tP { C with EE := fun _ _ _ => False } w) hc hN hy hyl hsw hi ok hg (fun s H c cl fp => ht s H c cl fp) (fun s H c cl fp => he s H c cl fp) hs) fun D σ H ⟨Z, ρ, P, st, h, d⟩ =>
    lc_red ht0 his ⟨Z, ρ, _, P.ex, st, h, fun ds vs p H' Z' f fd hp hn zn nf dv ⟨_, hq⟩ => d.nx _ _ _ _ ((st.next (f.keepNew hp hn zn nf) fd).set i (s := .dat (.list ds)) (Dq.lst upd_same (dps_mono (Same.made zn) _ _ dv)) rfl) hq, d.ke st⟩
/-! ### append -/
def wApp (i : Nat) (w : W) : WS := fun P ρ => ∃ ds, ρ[i]? = some (some (S.own ds)) ∧ w ρ (fun s => ∃ d, s = .dat d ∧ ds.length < sizeLine ∧ P.nx (ρ.set i (some (.own (ds ++ [d]))))) P.ex
/-- an own object changes -/
theorem Sta.chg {H Z : Hp} {σ : L2.St} {ρ : Env'} (s : Sta.at C H Z σ ρ) {i : Nat} {p : Addr} {o : HO} {t u : S} (e : ρ[i]? = some (some t)) (m : t.mine = true) (ev : σ[i]? = some (some (V.ref p))) (hu : Z p = none → C.H0 p = none → nf C.F p → SV C.F C.H0 (upd H p o) Z (.ref p) u) :
    Sta.at C (upd H p o) Z σ (ρ.set i (some u)) := by
  obtain ⟨w, e1, sv⟩ := s.env i _ e
  obtain ⟨a, o', e2, e3, zn, h0, nfa⟩ := sv.at m
  rw [ev] at e1
  cases e1
  cases e2
  have fd : FeedOk C.F (upd H p o) := s.fd.other nfa (sv.plain m)
  have fr : Fr C.F C.H0 C.Z0 (upd H p o) Z := by
    refine ⟨fun b o n e' => ?_, s.fr.zz, fun b o e' => ?_, s.fr.new, s.fr.notF⟩
    · rw [upd_ne (ne_of_none e' h0)]; exact s.fr.keep b o n e'
    · rw [upd_ne (ne_of_none e' zn)]; exact s.fr.zh b o e'
  have hi : i < ρ.length := (List.getElem?_eq_some_iff.mp e).1
  refine ⟨fr, fd, by rw [List.length_set]; exact s.len, fun j x e' => ?_, fun j k b s1 s2 h1 h2 m1 m2 h3 h4 => ?_⟩
  · by_cases hj : i = j
    · subst hj
      rw [List.getElem?_set_self hi] at e'
      cases e'
      exact ⟨_, ev, hu zn h0 nfa⟩
    · rw [List.getElem?_set_ne hj] at e'
      obtain ⟨w, f1, f2⟩ := s.env j x e'
      refine ⟨w, f1, f2.to (fun _ _ z => z) fun mx b u' e4 h5 => ?_⟩
      subst e4
      obtain ⟨b', o2, e5, _, zb, _⟩ := f2.at mx
      cases e5
      refine ⟨?_, zb⟩
      have nb : b ≠ p := fun z => by
        subst z
        exact hj (s.sep i j b t x e e' m mx ev f1)
      rw [upd_ne nb]
      exact h5
  · have back : ∀ (l : Nat) (y : S), (ρ.set i (some u))[l]? = some (some y) → y.mine = true → ∃ y', ρ[l]? = some (some y') ∧ y'.mine = true := fun l y h my => by
      by_cases hm : i = l
      · subst hm; exact ⟨t, e, m⟩
      · rw [List.getElem?_set_ne hm] at h; exact ⟨y, h, my⟩
    obtain ⟨y1, h1', m1'⟩ := back j s1 h1 m1
    obtain ⟨y2, h2', m2'⟩ := back k s2 h2 m2
    exact s.sep j k b y1 y2 h1' h2' m1' m2' h3 h4
theorem Sta.appOwn {H Z : Hp} {σ : L2.St} {ρ : Env'} (s : Sta.at C H Z σ ρ) {i : Nat} {p : Addr} {vs : List V} {ds : List D} {v : V} {d : D} (e : ρ[i]? = some (some (S.own ds))) (ev : σ[i]? = some (some (V.ref p))) (hp : H p = some (.lst vs)) (dq : Dq Z v d) :
    Sta.at C (upd H p (.lst (vs ++ [v]))) Z σ (ρ.set i (some (.own (ds ++ [d])))) := by
  obtain ⟨w, e1, a, ws, e2, e3, zn, h0, nfa, dv⟩ := s.env i _ e
  rw [ev] at e1
  cases e1
  cases e2
  rw [hp] at e3
  cases e3
  exact s.chg e rfl ev fun _ _ _ => ⟨p, _, rfl, upd_same, zn, h0, nfa, dps_app dv (.cons dq .nil)⟩
theorem s_app {i : Nat} {x : Str} {e : Expr} {w : W} {p1 apos cpos pos : Pos} (hv : PE C.X (.Name x p1) (tVar i)) (he : E C e w)
    (hs : starEach [e] C.X.env = (false, eval e C.X.env) :: starEach [] C.X.env := by rfl)
    (hbase : attributeBase (.Name x p1) "append" C.X.env (eval (.Name x p1) C.X.env) = eval (.Name x p1) C.X.env := by rfl)
    (hfew : ((backTo cpos (starEach (e :: []) C.X.env)).all (fun x => !x.1) && (backToKw cpos (keywordEach [] C.X.env)).all (fun x => x.1.isSome)
      && decide ((e :: []).length + ([] : List Keyword).length + (if ([] : List Keyword).isEmpty then 0 else 1) < 30)) = true := by rfl)
    (hline : (apos.endLine == cpos.line) = true := by rfl) (hplain : (backTo cpos (starEach [] C.X.env)).any (·.1) = false := by rfl)
    (hsw : swapsWith (.Call (.Attribute (.Name x p1) "append" apos) [e] [] cpos) none pos.line C.X.env = pure false := by rfl) :
    St1 C (.Expr (.Call (.Attribute (.Name x p1) "append" apos) [e] [] cpos) pos) (wApp i w) := by
  refine weakS (ps_expr (pe_bm PySem.F.plainAttrs_list PySem.F.slot_list_append PySem.F.type_list_append mt_append hv (pa_cons he pa_nil hs) hbase hfew hline hs hplain) hsw) fun D σ H ⟨Z, ρ, P, st, ⟨ds, e0, hw⟩, d⟩ => ?_
  obtain ⟨v, e1, a, vs, e2, e3, zn, h0, nfa, dv⟩ := st.env i _ e0
  subst e2
  refine ⟨.ref a, e1, .inl ⟨rfl, _, .inl (.inl e3)⟩, Z, ρ, _, P.ex, st, hw, fun s y H' Z' f fd sv ⟨dd, e4, hl, hq⟩ => ?_, d.ke st⟩
  subst e4
  have st' := st.next f fd
  have hp := f.keep a _ nfa e3
  refine ⟨a, _, _, rfl, rfl, hp, by rw [dps_len dv]; exact hl, ?_⟩
  exact d.nx _ _ _ _ (st'.appOwn e0 e1 hp sv) hq
/-! ### a, b = x, y -/
def wPar (i j : Nat) (r : WA) : WS := fun P ρ => r ρ (fun ss => ∃ s t, ss = [s, t] ∧ s.lent = true ∧ t.lent = true ∧ P.nx ((ρ.set i (some s)).set j (some t))) P.ex
theorem s_par {i j : Nat} {x y : Str} {a b : Expr} {r : WA} {px py pt pos : Pos} {kt k2 pt2} (hc : C.X.calm = true) (hN : C.X.N.Nodup) (hi : C.X.N[i]? = some x) (hj : C.X.N[j]? = some y) (hij : i ≠ j)
    (hx : C.X.env.scope.names.lookup x = some .local) (hy : C.X.env.scope.names.lookup y = some .local) (ha : A C [a, b] r)
    (hw : swappedStores [.Tuple [.Name x px, .Name y py] kt pt] (.Tuple [a, b] k2 pt2) C.X.env = pure (some [x, y]))
    (hs : swapsWithSole [.Tuple [.Name x px, .Name y py] kt pt] (.Tuple [a, b] k2 pt2) pos.line C.X.env = pure false := by rfl) :
    St1 C (.Assign [.Tuple [.Name x px, .Name y py] kt pt] (.Tuple [a, b] k2 pt2) pos) (wPar i j r) :=
  weakS (ps_par hc hN hi hj hij hx hy ha hw hs) fun D σ H ⟨Z, ρ, P, st, h, d⟩ => ⟨Z, ρ, _, P.ex, st, h, fun ss vs H' Z' f fd sv ⟨s, t, e, l1, l2, hq⟩ => by
    subst e
    obtain ⟨v, w, rfl, h1, h2⟩ := svs2 sv
    exact ⟨v, w, rfl, d.nx _ _ _ _ (((st.next f fd).set i h1 l1).set j h2 l2) hq⟩, d.ke st⟩
end
/-- a def that raises nothing -/
theorem fp_of0 {P : Program} {w : World} {K : PySem.W.Frag} {mg : Str → Option Value} {base : Heap} {fam : Fd → Prop} {XV : XVt} {x qual : Str} {st : Stmt} {f : Addr} {fd : FuncData} {N ps : List Str} {k : Nat} {wf : WF}
    (F : Fun K x qual st f fd) (S : FnScope N ps (defScope st)) {ws : WS}
    (hb : ∀ (cdv : Value) (A : Around) (outer : List Env) (s : Shared) (H Z : Hp) (E : XK) (Fo : Option Fd), Room k (A.deeper (envOfC qual (defScope st) s.heap.objs.size f cdv)) → A.guards = some [] → (HasF fam Fo) →
      Sts (cpOf (cxOf CX0 P w K mg base N qual (defScope st) f cdv A outer s H E).nox Fo H Z (fun _ _ _ => False) XV) (defBody st) ws)
    (hi : ∀ ss q e, ss.length = ps.length → wf ss q e → wBody N.length ws ss q noX) : FnP P w K mg base CX0 fam XV (k + 1) f fd ps wf := fun Fo hF => by
  refine fg_of F S (fun vs H Q E h => h.1) fun cdv A outer s H vs Q E hr hg ⟨l, Z, ss, q, e, fr, fd, ln, sv, hw, k1, k2⟩ => ?_
  refine ⟨_, (hb cdv A outer s H Z E Fo hr hg hF).nox, Z, start' N.length ss, _, sta_start fr fd ln sv, hi ss q e (by rw [← sv.len]; exact l) hw, ?_⟩
  refine ⟨fun σ ρ H' Z' st' h => ?_, fun σ ρ H' Z' st' h => h.elim, fun σ ρ H' Z' st' h => h.elim, fun s v H' Z' f' fd' ln' sv' h => ?_, fun x cls d H' Z' f' fd' xv h => h⟩
  · exact k1 (.dat .none) .non H' Z' st'.fr st'.fd rfl Dq.non h
  · exact k1 s v H' Z' f' fd' ln' sv' h
end PL

/-! repr; minus; join -/
namespace PL
open PySem PySem.Spec PyProof.Rows L2
section
variable {C : Cp}
/-! ### repr -/
theorem noDict : ∀ (d : D), SeqAt.shaped d = true → d.hasDict = false := fun d h => PyData.hasDict_of_canLay d (SeqAt.canLay_of_shaped h)
/-- repr of a datum whose text fits -/
def oRepr : OA := fun ss q => match ss with
  | [s] => ∃ d, s.data = some d ∧ d.showable = true ∧ SeqAt.shaped d = true ∧ d.shown.length ≤ sizeLine ∧ q (.dat (.str d.shown))
  | _ => False
theorem b_repr (hg : C.X.A.guards = some []) (hu : C.X.A.units + 66 < cLine) : Bi C (.builtin "repr") oRepr := by
  intro pins s σ H vs us Q I r ⟨Z, ss, q, a, sv, ho⟩
  unfold oRepr at ho
  split at ho
  · obtain ⟨d, e, h1, h2, h3, hq⟩ := ho
    obtain ⟨v, rfl, h⟩ := svs1 sv
    have fin := a.ret (s := .dat (.str d.shown)) (v := .str d.shown) (Dq.str _) hq
    have hdp : d.depth ≤ 64 := SeqAt.depth_of_shaped h2
    obtain ⟨u, rfl, ru⟩ : ∃ u, us = [u] ∧ RelV v u := by
      cases r with
      | cons r1 r2 => cases r2; exact ⟨_, rfl, r1⟩
    have hD : Dp C.X.K H v d := h.dp a.fr.zh a.fd e h2
    have hz : ∀ (g : Heap) (n : Nat), (∀ b o, s.heap.get? b = some o → g.get? b = some o) → EP C.X pins σ Q (.str d.shown n) { s with heap := g, toks := n } → True := fun _ _ _ _ => trivial
    obtain ⟨as, rd⟩ := Dp.reads I d v u hD ru
    cases hD with
    | non => cases (show u = Value.none from ru); exact PySem.P.repr_of_none ⟨V.str _, H, I.tok _, ⟨_, rfl⟩, fin⟩
    | bl b =>
      cases (show u = Value.bool b from ru)
      refine PySem.P.repr_of_bool ⟨V.str _, H, I.tok _, ⟨_, rfl⟩, ?_⟩
      cases b <;> exact fin
    | int i =>
      obtain ⟨t, rfl⟩ := ru
      exact PySem.P.repr_of_int (of_decide_eq_true h1) ⟨V.str _, H, I.tok _, ⟨_, rfl⟩, fin⟩
    | str x =>
      obtain ⟨t, rfl⟩ := ru
      exact PySem.P.repr_of_str ⟨V.str _, H, I.tok _, ⟨_, rfl⟩, fin⟩ h3
    | lst h4 h5 =>
      cases ru
      exact repr_of_reads' rd h1 (PyData.noDict_hsm (noDict _ h2)) hg (by omega) (fun _ _ x => x) (fun h' u tk hk => ⟨V.str _, H, I.kept (t' := tk) hk, ⟨_, rfl⟩, fin⟩) h3
    | tup h4 h5 =>
      cases ru
      exact repr_of_reads' rd h1 (PyData.noDict_hsm (noDict _ h2)) hg (by omega) (fun _ _ x => x) (fun h' u tk hk => ⟨V.str _, H, I.kept (t' := tk) hk, ⟨_, rfl⟩, fin⟩) h3
  · exact ho.elim
/-! ### -x -/
def oNeg : S → (S → Prop) → Prop
  | .dat (.int i), q => q (.dat (.int (-i)))
  | _, _ => False
theorem e_neg {a : Expr} {w : W} {pos : Pos} (h : E C a w) : E C (.UnaryOp .USub a pos) (wM0 oNeg w) :=
  weakE (pe_un un_neg h) fun σ H Q ⟨Z, ρ, q, ex, st, hw, k, ke⟩ => ⟨Z, ρ, _, ex, st, hw, fun s x H1 Z1 f1 fd1 sv1 q1 => by
    unfold oNeg at q1
    dsimp only at q1
    split at q1
    · cases (show Dq Z1 x (.int _) from sv1)
      exact ⟨_, rfl, k (.dat (.int _)) _ H1 Z1 f1 fd1 (Dq.int _) q1⟩
    · exact q1.elim, ke⟩
/-! ### sep.join(texts) -/
theorem dps_strs' {Z : Hp} : ∀ {vs : List V} (zs : List Str), Dqs Z vs (zs.map PyData.str) → vs = zs.map V.str
  | _, [], h => by cases h; rfl
  | _, z :: zs, h => by
    cases h with
    | cons h1 h2 =>
      have := dps_strs' zs h2
      cases (show Dq Z _ (.str z) from h1)
      rw [this]; rfl
def S.seq : S → Option (List D)
  | .dat (.list xs) => some xs
  | .dat (.tuple xs) => some xs
  | .own xs => some xs
  | _ => none
def wJoin (a b : W) : W := fun ρ q e => a ρ (fun s => ∃ z : Str, s = .dat (.str z) ∧ b ρ (fun t => ∃ zs : List Str, t.seq = some (zs.map PyData.str) ∧ (zs.map (·.length)).sum + zs.length * z.length ≤ 16777216 ∧ q (.dat (.str (Txt.join z zs)))) e) e
theorem SV.seq {F : Option Fd} {H0 H Z : Hp} {x : V} {s : S} {xs : List D} (h : SV F H0 H Z x s) (zh : Same Z H) (e : s.seq = some xs) (K : PySem.W.Frag) : ∃ a vs, x = .ref a ∧ (SqL K H a vs ∨ SqT K H a vs) ∧ Dqs Z vs xs := by
  unfold S.seq at e
  split at e
  · cases e
    cases (show Dq Z x (.list _) from h) with
    | lst h1 h2 => exact ⟨_, _, rfl, .inl (SqL.of (zh _ _ h1)), h2⟩
  · cases e
    cases (show Dq Z x (.tuple _) from h) with
    | tup h1 h2 => exact ⟨_, _, rfl, .inr (SqT.of (zh _ _ h1)), h2⟩
  · cases e
    obtain ⟨a, vs, e1, e2, _, _, _, h5⟩ := h
    exact ⟨a, vs, e1, .inl (SqL.of e2), h5⟩
  · cases e
theorem e_join {a b : Expr} {wa wb : W} {apos cpos : Pos} (ha : E C a wa) (hb : E C b wb)
    (hs : starEach [b] C.X.env = (false, eval b C.X.env) :: starEach [] C.X.env := by rfl)
    (hbase : attributeBase a "join" C.X.env (eval a C.X.env) = eval a C.X.env := by rfl)
    (hfew : ((backTo cpos (starEach (b :: []) C.X.env)).all (fun x => !x.1) && (backToKw cpos (keywordEach [] C.X.env)).all (fun x => x.1.isSome)
      && decide ((b :: []).length + ([] : List Keyword).length + (if ([] : List Keyword).isEmpty then 0 else 1) < 30)) = true := by rfl)
    (hline : (apos.endLine == cpos.line) = true := by rfl) (hplain : (backTo cpos (starEach [] C.X.env)).any (·.1) = false := by rfl) :
    E C (.Call (.Attribute a "join" apos) [b] [] cpos) (wJoin wa wb) :=
  weakE (pe_bm PySem.F.plainAttrs_str PySem.F.slot_str_join PySem.F.type_str_join mt_join ha (pa_cons hb pa_nil hs) hbase hfew hline hs hplain) fun σ H Q ⟨Z, ρ, q, ex, st, hw, k, ke⟩ =>
    ⟨Z, ρ, _, ex, st, hw, fun s x H1 Z1 f1 fd1 sv1 ⟨z, e1, q1⟩ => by
      subst e1
      cases (show Dq Z1 x (.str z) from sv1)
      refine ⟨rfl, Z1, ρ, _, ex, st.next f1 fd1, q1, fun t y H2 Z2 f2 fd2 sv2 ⟨zs, e2, hz, hq⟩ => ?_, ke.next f1⟩
      obtain ⟨p, vs, rfl, hp, dv⟩ := sv2.seq f2.zh e2 C.X.K
      have ev := dps_strs' zs dv
      subst ev
      exact ⟨z, p, zs, rfl, rfl, hp, hz, k (.dat (.str _)) _ H2 Z2 (f1.trans f2) fd2 (Dq.str _) hq⟩, ke⟩
end
end PL

/-! a feed that is a dict: its cells, and ints by name -/
namespace PL
open PySem PySem.Spec PyProof.Rows L2
theorem putK_len {kvs : List (Key × V)} {k : Key} {v y : V} (h : valV kvs k = some y) : (putK kvs k v).length = kvs.length := by
  unfold putK
  rw [valV_any, h]
  simp
structure OkD (f c : Addr) (cells : List Int) (ks : List Str) (H : Hp) : Prop where
  ne : c ≠ f
  dict : ∃ kvs, H f = some (.dK kvs) ∧ kvs.length ≤ 100 ∧ valV kvs (.inr "cells" : Key) = some (.ref c) ∧ ∀ k ∈ ks, ∃ z, valV kvs (.inr k : Key) = some (.int z)
  list : H c = some (.lst (cells.map V.int))
def fdD (f c : Addr) (cells : List Int) (ks : List Str) : Fd where
  ref := .ref f
  cs := cells.map PyData.int
  own := fun a => a = f ∨ a = c
  ok := OkD f c cells ks
  away := fun H p ⟨_, ⟨kvs, h, _⟩, h2⟩ np => by
    rintro (rfl | rfl)
    · rw [np] at h; cases h
    · rw [np] at h2; cases h2
  here := fun H H' ⟨n, ⟨kvs, h, r⟩, h2⟩ e _ => ⟨n, ⟨kvs, by rw [e _ (.inl rfl)]; exact h, r⟩, by rw [e _ (.inr rfl)]; exact h2⟩
  ro := fun v ds => v = .ref c ∧ ds = cells.map PyData.int
  reads := fun H v ds ok ⟨e, e2⟩ => ⟨c, _, e, ok.list, fun Z => by rw [e2]; exact dps_ints cells⟩
/-- tables of code objects beside -/
def fdT (y : Fd) (nt : ∀ H p ps, y.ok H → H p = some (.tbl ps) → ¬ y.own p) (tabs : List (Addr × Str)) : Fd where
  ref := y.ref
  cs := y.cs
  own := fun a => y.own a ∨ ∃ p ∈ tabs, p.1 = a
  ok := fun H => y.ok H ∧ (∀ p ∈ tabs, LamX.TabS H p.1 p.2) ∧ ∀ p ∈ tabs, ∀ q ∈ tabs, p.1 = q.1 → p.2 = q.2
  away := fun H p ⟨h1, h2, _⟩ np => by
    rintro (z | ⟨q, hq, rfl⟩)
    · exact y.away H p h1 np z
    · obtain ⟨ps, e, _⟩ := h2 q hq
      rw [np] at e; cases e
  here := fun H H' ⟨h1, h2, h3⟩ e x => ⟨y.here H H' h1 (fun a ha => e a (.inl ha)) x, fun p hp => by
    obtain ⟨ps, a1, a2, a3⟩ := h2 p hp
    refine ⟨ps, (e _ (.inr ⟨p, hp, rfl⟩)).trans a1, a2, fun pos cv hc => ?_⟩
    obtain ⟨d, e1, e2⟩ := a3 pos cv hc
    exact ⟨d, e1, (x d _ e2).trans e2⟩, h3⟩
  ro := y.ro
  reads := fun H v ds h r => y.reads H v ds h.1 r
/-- nothing -/
def fd0 : Fd where
  ref := .non
  cs := []
  own := fun _ => False
  ok := fun _ => True
  away := fun _ _ _ _ z => z
  here := fun _ _ _ _ _ => trivial
  ro := fun _ _ => False
  reads := fun _ _ _ _ z => z.elim
theorem nt0 : ∀ (H : Hp) p ps, fd0.ok H → H p = some (.tbl ps) → ¬ fd0.own p := fun _ _ _ _ _ z => z
theorem ntD {f c : Addr} {cells : List Int} {ks : List Str} : ∀ (H : Hp) p ps, (fdD f c cells ks).ok H → H p = some (.tbl ps) → ¬ (fdD f c cells ks).own p := fun H p ps ⟨_, ⟨kvs, h, _⟩, h2⟩ e => by
  rintro (rfl | rfl)
  · rw [e] at h; cases h
  · rw [e] at h2; cases h2
/-- tables alone -/
def FamT (tabs : List (Addr × Str)) (x : Fd) : Prop := x = fdT fd0 nt0 tabs
/-- a dict as a feed, and tables -/
def FamDT (ks : List Str) (tabs : List (Addr × Str)) (x : Fd) : Prop := ∃ f c cells, x = fdT (fdD f c cells ks) ntD tabs
def FamD (ks : List Str) (x : Fd) : Prop := (∃ f c cells, x = fdD f c cells ks) ∨ ∃ tabs, FamDT ks tabs x
theorem HasF.imp {fam fam' : Fd → Prop} {F : Option Fd} (h : HasF fam F) (k : ∀ x, fam x → fam' x) : HasF fam' F := let ⟨y, e, q⟩ := h; ⟨y, e, k y q⟩
theorem famDT {ks : List Str} {tabs : List (Addr × Str)} {F : Option Fd} (h : HasF (FamDT ks tabs) F) : HasF (FamD ks) F := h.imp fun x q => .inr ⟨tabs, q⟩
section
variable {C : Cp} {i : Nat} {x k : Str} {p p2 pos : Pos} {j : Option Str}
def wFint (i : Nat) : W := fun ρ q _ => ∃ cs, ρ[i]? = some (some (S.feed cs)) ∧ ∀ z, q (.dat (.int z))
theorem e_fint {ks : List Str} {j} (hF : HasF (FamD ks) C.F) (hu : C.X.A.units + 1 < cLine) (hv : PE C.X (.Name x p) (tVar i)) (hk : k ∈ ks) : E C (.Subscript (.Name x p) (.Constant (.str k) j p2) pos) (wFint i) :=
  weakE (pe_dget hu hv pe_str (fun _ _ => rfl)) fun σ H Q ⟨Z, ρ, q, ex, st, ⟨cs, e, hq⟩, kt, ke⟩ => by
    obtain ⟨v, e1, y, ey, e2, e3⟩ := st.env i _ e
    have both : ∃ f c cells, y.ref = .ref f ∧ y.cs = cells.map PyData.int ∧ OkD f c cells ks H ∧ ∀ v ds, v = .ref c → ds = cells.map PyData.int → y.ro v ds := by
      rcases hF.all y ey with ⟨f, c, cells, rfl⟩ | ⟨tabs, f, c, cells, rfl⟩
      · exact ⟨f, c, cells, rfl, rfl, st.fd _ ey, fun v ds e e' => ⟨e, e'⟩⟩
      · exact ⟨f, c, cells, rfl, rfl, (st.fd _ ey).1, fun v ds e e' => ⟨e, e'⟩⟩
    obtain ⟨f, c, cells, er, ec, ok, rd⟩ := both
    rw [er] at e2
    rw [ec] at e3
    obtain ⟨kvs, h1, h2, h3, h4⟩ := ok.dict
    obtain ⟨z, hz⟩ := h4 k hk
    refine ⟨v, e1, f, .int z, e2, ?_, kt.here st (s := .dat (.int z)) (Dq.int z) (hq z)⟩
    have g := DGet.k (k := (.inr k : Key)) h1
    rw [hz] at g
    exact g
def wFcells (i : Nat) : W := fun ρ q _ => ∃ cs, ρ[i]? = some (some (S.feed cs)) ∧ q (.ro cs)
theorem e_fcells {ks : List Str} {j} (hF : HasF (FamD ks) C.F) (hu : C.X.A.units + 1 < cLine) (hv : PE C.X (.Name x p) (tVar i)) : E C (.Subscript (.Name x p) (.Constant (.str "cells") j p2) pos) (wFcells i) :=
  weakE (pe_dget hu hv pe_str (fun _ _ => rfl)) fun σ H Q ⟨Z, ρ, q, ex, st, ⟨cs, e, hq⟩, kt, ke⟩ => by
    obtain ⟨v, e1, y, ey, e2, e3⟩ := st.env i _ e
    have both : ∃ f c cells, y.ref = .ref f ∧ y.cs = cells.map PyData.int ∧ OkD f c cells ks H ∧ ∀ v ds, v = .ref c → ds = cells.map PyData.int → y.ro v ds := by
      rcases hF.all y ey with ⟨f, c, cells, rfl⟩ | ⟨tabs, f, c, cells, rfl⟩
      · exact ⟨f, c, cells, rfl, rfl, st.fd _ ey, fun v ds e e' => ⟨e, e'⟩⟩
      · exact ⟨f, c, cells, rfl, rfl, (st.fd _ ey).1, fun v ds e e' => ⟨e, e'⟩⟩
    obtain ⟨f, c, cells, er, ec, ok, rd⟩ := both
    rw [er] at e2
    rw [ec] at e3
    obtain ⟨kvs, h1, h2, h3, h4⟩ := ok.dict
    refine ⟨v, e1, f, .ref c, e2, ?_, kt.here st (s := .ro cs) ⟨_, ey, rd _ _ rfl e3.symm⟩ hq⟩
    have g := DGet.k (k := (.inr "cells" : Key)) h1
    rw [h3] at g
    exact g
def wFset (i : Nat) (w : W) : WS := fun P ρ => w ρ (fun s => ∃ z cs, s = .dat (.int z) ∧ ρ[i]? = some (some (S.feed cs)) ∧ P.nx ρ) P.ex
theorem s_fset {ks : List Str} {j} {e : Expr} {w : W} {pos' : Pos} (hF : HasF (FamD ks) C.F) (hu : C.X.A.units + 1 < cLine) (hv : PE C.X (.Name x p) (tVar i)) (hk : k ∈ ks) (hc : ("cells" : Str) ∉ ks) (he : E C e w)
    (hs : swapsWith e (some (.Subscript (.Name x p) (.Constant (.str k) j p2) pos')) pos.line C.X.env = pure false := by rfl) : St1 C (.Assign [.Subscript (.Name x p) (.Constant (.str k) j p2) pos'] e pos) (wFset i w) :=
  weakS (ps_dput hu hv pe_str he hs) fun D σ H ⟨Z, ρ, P, st, h, d⟩ => ⟨Z, ρ, _, P.ex, st, h, fun s v H' Z' f' fd' sv ⟨z, cs, e1, e2, hq⟩ => by
    subst e1
    cases (show Dq Z' v (.int z) from sv)
    have st' := st.next f' fd'
    obtain ⟨u, e3, y, ey, e4, e5⟩ := st'.env i _ e2
    have both : ∃ f c cells, y.ref = .ref f ∧ OkD f c cells ks H' ∧ y.own f ∧ ∀ H2, OkD f c cells ks H2 → (∀ a, a ≠ f → H2 a = H' a) → y.ok H2 := by
      rcases hF.all y ey with ⟨f, c, cells, rfl⟩ | ⟨tabs, f, c, cells, rfl⟩
      · exact ⟨f, c, cells, rfl, fd' _ ey, .inl rfl, fun H2 h _ => h⟩
      · have okT := fd' _ ey
        refine ⟨f, c, cells, rfl, okT.1, .inl (.inl rfl), fun H2 h k => ⟨h, fun p hp => ?_, okT.2.2⟩⟩
        obtain ⟨ps, a1, a2, a3⟩ := okT.2.1 p hp
        obtain ⟨kvs, hf, _⟩ := okT.1.dict
        refine ⟨ps, (k _ fun z => ?_).trans a1, a2, fun pos cv hc => ?_⟩
        · rw [z, hf] at a1; cases a1
        · obtain ⟨d, b1, b2⟩ := a3 pos cv hc
          refine ⟨d, b1, (k _ fun z => ?_).trans b2⟩
          rw [z, hf] at b2
          unfold LamX.CodeO at b2
          cases b2
    obtain ⟨f, c, cells, er, ok, ow, back⟩ := both
    rw [er] at e4
    obtain ⟨kvs, h1, h2, h3, h4⟩ := ok.dict
    obtain ⟨z0, hz⟩ := h4 k hk
    refine ⟨u, e3, f, _, e4, DPut.k (k := (.inr k : Key)) h1 (small1000 (by omega)), ?_⟩
    have hkc : ¬ ((.inr "cells" : Key) = .inr k) := fun e => hc (by injection e with e; rw [e]; exact hk)
    have ok2 : OkD f c cells ks (upd H' f (.dK (putK kvs (.inr k) (.int z)))) := by
      refine ⟨ok.ne, ⟨_, upd_same, by rw [putK_len hz]; exact h2, by rw [valV_put, if_neg hkc]; exact h3, fun k' hk' => ?_⟩, by rw [upd_ne ok.ne]; exact ok.list⟩
      rw [valV_put]
      by_cases e : (.inr k' : Key) = .inr k
      · rw [if_pos e]; exact ⟨z, rfl⟩
      · rw [if_neg e]; exact h4 k' hk'
    have fd2 : FeedOk C.F (upd H' f (.dK (putK kvs (.inr k) (.int z)))) := fun y' e' => by
      rw [ey] at e'
      cases e'
      exact back _ ok2 fun a na => upd_ne na
    have nfa : ∀ a, nf C.F a → a ≠ f := fun a n e => n _ ey (e ▸ ow)
    have fr : Fr C.F H' Z' (upd H' f (.dK (putK kvs (.inr k) (.int z)))) Z' := by
      refine ⟨fun a o n e => ?_, fun _ _ e => e, fun a o e => ?_, fun a o e n => (by rw [e] at n; cases n), st'.fr.notF⟩
      · rw [upd_ne (nfa a n)]; exact e
      · rw [upd_ne (nfa a (st'.fr.notF a o e))]; exact st'.fr.zh a o e
    exact d.nx _ _ _ _ (st'.next fr fd2) hq, d.ke st⟩
end
end PL

/-! defs of a text in short; list + list as a new list; t[::-1] -/
namespace PL
open PySem PySem.Spec PyProof.Rows L2
theorem u66 {k : Nat} {A : Around} (r : Room k A) : A.units + 66 < cLine := by have := r.un; omega
structure Def (P : Program) (w : World) (K : PySem.W.Frag) (mg : Str → Option Value) (base : Heap) (fam : Fd → Prop) (XV : XVt) (x : Str) (k : Nat) (ps : List Str) (wf : WF) : Prop where
  ex : ∃ (f : Addr) (fd : FuncData), FnP P w K mg base CX0 fam XV k f fd ps wf ∧ mg x = some (.ref f) ∧ PySem.W.keepIn K (.ref f) = true ∧ Binds K fd ps [] ∧
    (∀ (s : Shared) (us : List Value), K.In s.heap → us.length = ps.length → BindsTo s fd ⟨[], ps.zip us⟩ (ps.zip us))
  len : ∀ ss q e, wf ss q e → ss.length = ps.length
section
variable {C : Cp} {fam : Fd → Prop} {k : Nat} {ps : List Str} {wf : WF} {x : Str} {p pos : Pos} {e : Expr} {es : List Expr} {r : WA}
theorem e_callD (d : Def C.X.prog C.X.w C.X.K C.X.mg C.X.base fam C.XV x k ps wf) (hF : HasF fam C.F) (hr : Room k C.X.A) (hgd : C.X.A.guards = some []) (hg : Gl C.X x) (hx : Passes CX0 C.X C.EE) (ha : A C (e :: es) r) (hdb : (x == ("__debug__" : Str)) = false := by decide)
    (he : starEach (e :: es) C.X.env = (false, eval e C.X.env) :: starEach es C.X.env := by rfl) (hpl : (backTo pos (starEach es C.X.env)).any (·.1) = false := by rfl) : E C (.Call (.Name x p) (e :: es) [] pos) (wCall wf r) := by
  obtain ⟨f, fd, Fn, hm, hk, hb, _⟩ := d.ex
  exact e_call Fn hF d.len hr hgd hg hm hk hb hx ha hdb he hpl
theorem e_callDK {kws : List Keyword} (d : Def C.X.prog C.X.w C.X.K C.X.mg C.X.base fam C.XV x k ps wf) (hF : HasF fam C.F) (hr : Room k C.X.A) (hgd : C.X.A.guards = some []) (hg : Gl C.X x) (hx : Passes CX0 C.X C.EE) (ha : PK C.X kws (tPA C r)) (hall : (backToKw pos (keywordEach kws C.X.env)).all (·.1.isSome) = true := by rfl) (hks : (backToKw pos (keywordEach kws C.X.env)).filterMap (·.1) = ps := by rfl) (hdb : (x == ("__debug__" : Str)) = false := by decide)
    (hpl : ((backTo pos (starEach [] C.X.env)).any (·.1) || (backToKw pos (keywordEach kws C.X.env)).any (·.1.isNone)) = false := by rfl) : E C (.Call (.Name x p) [] kws pos) (wCall wf r) := by
  obtain ⟨f, fd, Fn, hm, hk, _, hb⟩ := d.ex
  exact e_callK Fn hF d.len hr hgd hg hm hk hb hx ha hall hks hdb hpl
/-- no argument at all -/
theorem e_callD0 (d : Def C.X.prog C.X.w C.X.K C.X.mg C.X.base fam C.XV x k ps wf) (hps : ps = []) (hF : HasF fam C.F) (hr : Room k C.X.A) (hgd : C.X.A.guards = some []) (hg : Gl C.X x) (hx : Passes CX0 C.X C.EE) (hdb : (x == ("__debug__" : Str)) = false := by decide) :
    E C (.Call (.Name x p) [] [] pos) (wCall wf wNil) := by
  obtain ⟨f, fd, Fn, hm, hk, hb, _⟩ := d.ex
  subst hps
  constructor
  intro pins s σ H Q I ⟨Z, ρ, q, ex, st, ⟨ln, hwf⟩, kt, ke⟩
  apply wpAny_Call_Name_kw
  apply ld_glob I hg hm _ hdb
  apply PySem.W.callWith_K0 I.kIn hk
  exact run_g (args := ⟨[] ++ [], []⟩) (us := []) (Fn C.F hF) hr hgd hx I (hb s [] I.kIn rfl) .nil (sp_call (d.len []) (Fr.refl st.fr.zh st.fr.notF) st.fd .nil ln hwf kt ke)
/-! ### list + list -/
def wAddN (a b : W) : WL := fun ρ q e => a ρ (fun s => b ρ (fun t => ∃ xs ys, s.lst = some xs ∧ t.lst = some ys ∧ xs.length + ys.length ≤ sizeLine ∧ q (xs ++ ys)) e) e
theorem n_add {a b : Expr} {wa wb : W} (ha : E C a wa) (hb : E C b wb) : N C (.BinOp a .Add b pos) (wAddN wa wb) :=
  weakE (pe_op op_cat ha hb) fun σ H Q ⟨Z, ρ, q, ex, st, hw, k, ke⟩ => by
    refine ⟨Z, ρ, _, ex, st, hw, fun s x H1 Z1 f1 fd1 sv1 q1 => ?_, ke⟩
    refine ⟨Z1, ρ, _, ex, st.next f1 fd1, q1, fun t y H2 Z2 f2 fd2 sv2 ⟨xs, ys, e1, e2, hl, hq⟩ => ?_, ke.next f1⟩
    obtain ⟨b', vs, rfl, h1, h2⟩ := (sv1.next f2).lst f2.zh fd2 e1
    obtain ⟨c', ws, rfl, h3, h4⟩ := sv2.lst f2.zh fd2 e2
    refine ⟨b', c', vs, ws, rfl, rfl, h1, h3, by rw [dps_len h2, dps_len h4]; exact hl, fun p np => ?_⟩
    obtain ⟨f3, zp⟩ := Fr.madeH (o := .lst (vs ++ ws)) (Fr.refl f2.zh f2.notF) np
    have nfp := fd2.ne np
    have hp0 : H p = none := by
      cases q' : H p with
      | none => rfl
      | some o => rw [(f1.trans f2).keep p o nfp q'] at np; cases np
    exact k (xs ++ ys) _ p _ Z2 ((f1.trans f2).trans f3) (fd2.made np) upd_same hp0 zp nfp (dps_app h2 h4) hq
/-! ### texts' methods -/
theorem e_isascii {a : Expr} {wa : W} {apos cpos : Pos} (ho : E C a wa) (hbase : attributeBase a "isascii" C.X.env (eval a C.X.env) = eval a C.X.env := by rfl) (hline : (apos.endLine == cpos.line) = true := by rfl) : E C (.Call (.Attribute a "isascii" apos) [] [] cpos) (wM0 (oM0 fun z => .bool (Txt.isascii z)) wa) :=
  e_m0 PySem.F.slot_str_isascii PySem.F.type_str_isascii mt_isascii ho hbase hline
theorem e_isalpha {a : Expr} {wa : W} {apos cpos : Pos} (ho : E C a wa) (hbase : attributeBase a "isalpha" C.X.env (eval a C.X.env) = eval a C.X.env := by rfl) (hline : (apos.endLine == cpos.line) = true := by rfl) : E C (.Call (.Attribute a "isalpha" apos) [] [] cpos) (wM0 (oM0 fun z => .bool (Txt.isalpha z)) wa) :=
  e_m0 PySem.F.slot_str_isalpha PySem.F.type_str_isalpha mt_isalpha ho hbase hline
theorem e_islower {a : Expr} {wa : W} {apos cpos : Pos} (ho : E C a wa) (hbase : attributeBase a "islower" C.X.env (eval a C.X.env) = eval a C.X.env := by rfl) (hline : (apos.endLine == cpos.line) = true := by rfl) : E C (.Call (.Attribute a "islower" apos) [] [] cpos) (wM0 (oM0 fun z => .bool (Txt.islower z)) wa) :=
  e_m0 PySem.F.slot_str_islower PySem.F.type_str_islower mt_islower ho hbase hline
theorem e_isdigit {a : Expr} {wa : W} {apos cpos : Pos} (ho : E C a wa) (hbase : attributeBase a "isdigit" C.X.env (eval a C.X.env) = eval a C.X.env := by rfl) (hline : (apos.endLine == cpos.line) = true := by rfl) : E C (.Call (.Attribute a "isdigit" apos) [] [] cpos) (wM0 (oM0 fun z => .bool (Txt.isdigit z)) wa) :=
  e_m0 PySem.F.slot_str_isdigit PySem.F.type_str_isdigit mt_isdigit ho hbase hline
end
end PL

/-! t[i::-1] -/
namespace PL
open PySem PySem.Spec PyProof.Rows L2
/-- the items of xs[lo::-1] -/
def backD {α : Type} (xs : List α) (lo : Option Int) : List α :=
  (List.range (Builtin.Slice.slicePlaces (Builtin.Slice.sliceAdjust lo none (-1) (xs.length : Int)).1 (-1) (-1))).filterMap fun (k : Nat) => xs[((Builtin.Slice.sliceAdjust lo none (-1) (xs.length : Int)).1 + (k : Int) * (-1)).toNat]?
section
variable {prog : Program} {w : World} {A : Around} {E : Value → Shared → Prop} {s : Shared}
theorem getItem_tuple_back {t sl : Addr} {items : List Value} {vl vu vs : Value} {lo : Option Int} {Q : Value → Shared → Prop} (ht : IsTup s.heap t items.toArray) (hs : s.heap.IsSliceOf sl vl vu vs)
    (pl : IsPart vl lo) (pu : IsPart vu none) (ps : IsPart vs (some (-1)))
    (h : Q (.ref s.heap.objs.size) { s with heap := s.heap.push { cls := .type "tuple", data := .seq (backD items lo).toArray } })
    (hz : (backD items lo).length ≤ sizeLine) : wpAny (model prog w) A (getItem (.ref t) (.ref sl)) Q E s := by
  obtain ⟨os, hos, hcs, hds⟩ := id hs
  have hTs : s.TypeIs (.ref sl) "slice" := ⟨os, hos, hcs⟩
  unfold getItem
  try with_reducible refine wpAny_holding ?_
  first
    | refine wpAny_bind (wpAny_pure ?_)
    | skip
  refine wpAny_bind (wpAny_sequenceKey ht.typeIs (by decide) ?_)
  apply wpAny_bind
  apply wpAny_callSpecial?_slot (name := Str.ofString "__getitem__") ht.typeIs PyProof.Rows.slot_tuple_getitem
  apply wpAny_call_entry PyProof.Rows.slot_tuple_getitem ht.typeIs entry_tuple_getitem _ (args_tuple_getitem _ _)
  show wpAny _ _ (Builtin.Tuple.tupleItemsOf (Value.ref t) >>= _) _ _ s
  apply wpAny_bind
  apply tupleItemsOf_ ht
  apply wpAny_bind
  apply wpAny_typeOf hTs
  rw [if_pos (show ((Value.type "slice" == Value.type "slice") = true) by decide)]
  apply wpAny_bind
  have sz : items.toArray.size = items.length := List.size_toArray
  have applied : ∀ (B : Around) (Q' : Int × Int × Nat → Shared → Prop), Q' ((Builtin.Slice.sliceAdjust lo none (-1) (items.length : Int)).1, -1, Builtin.Slice.slicePlaces (Builtin.Slice.sliceAdjust lo none (-1) (items.length : Int)).1 (-1) (-1)) s →
      wpAny (model prog w) B (Builtin.Slice.sliceApplied (.ref sl) (pure ((items.length : Nat) : Int))) Q' E s := by
    intro B Q' hq
    unfold Builtin.Slice.sliceApplied Builtin.Slice.sliceFields
    apply wpAny_bind
    apply wpAny_bind
    refine wpAny_field hos hds (x := vl) rfl (wpAny_bind ?_)
    refine wpAny_field hos hds (x := vu) rfl (wpAny_bind ?_)
    refine wpAny_field hos hds (x := vs) rfl (wpAny_pure ?_)
    apply wpAny_bind
    apply HT.slicePart_ ps
    show wpAny _ _ (if ((-1 : Int) == 0) = true then _ else _) _ _ s
    rw [if_neg (by decide)]
    apply wpAny_bind
    apply HT.slicePart_ pl
    apply wpAny_bind
    apply HT.slicePart_ pu
    apply wpAny_bind
    apply wpAny_pure
    have e2 : (Builtin.Slice.sliceAdjust lo none (-1) (items.length : Int)).2 = -1 := by
      unfold Builtin.Slice.sliceAdjust
      simp
    show wpAny _ _ (pure ((Builtin.Slice.sliceAdjust lo none (-1) (items.length : Int)).1, (-1 : Int), Builtin.Slice.slicePlaces (Builtin.Slice.sliceAdjust lo none (-1) (items.length : Int)).1 (Builtin.Slice.sliceAdjust lo none (-1) (items.length : Int)).2 (-1))) _ _ s
    rw [e2]
    exact wpAny_pure hq
  rw [sz]
  apply applied
  have hno : ¬ (((Builtin.Slice.sliceAdjust lo none (-1) (items.length : Int)).1 == 0 && (-1 : Int) == 1 && Builtin.Slice.slicePlaces (Builtin.Slice.sliceAdjust lo none (-1) (items.length : Int)).1 (-1) (-1) == items.length) = true) := fun hh => by
    have e : ((-1 : Int) == 1) = false := by decide
    rw [e, Bool.and_false, Bool.false_and] at hh
    cases hh
  show wpAny _ _ (if ((Builtin.Slice.sliceAdjust lo none (-1) (items.length : Int)).1 == 0 && (-1 : Int) == 1 && Builtin.Slice.slicePlaces (Builtin.Slice.sliceAdjust lo none (-1) (items.length : Int)).1 (-1) (-1) == items.length) = true then _ else _) _ _ s
  rw [if_neg hno]
  have pick : (List.filterMap (fun (k : Nat) => items.toArray[((Builtin.Slice.sliceAdjust lo none (-1) (items.length : Int)).1 + (k : Int) * (-1)).toNat]?) (List.range (Builtin.Slice.slicePlaces (Builtin.Slice.sliceAdjust lo none (-1) (items.length : Int)).1 (-1) (-1)))) = backD items lo := by
    unfold backD
    congr 1
    funext k
    rw [List.getElem?_toArray]
  show wpAny _ _ (Builtin.Tuple.tupleExact (List.filterMap (fun (k : Nat) => items.toArray[((Builtin.Slice.sliceAdjust lo none (-1) (items.length : Int)).1 + (k : Int) * (-1)).toNat]?) (List.range (Builtin.Slice.slicePlaces (Builtin.Slice.sliceAdjust lo none (-1) (items.length : Int)).1 (-1) (-1)))).toArray >>= _) _ _ s
  rw [pick]
  have room : sizeOk (.seq (backD items lo).toArray) := by
    show (backD items lo).toArray.size ≤ sizeLine
    rw [List.size_toArray]; exact hz
  refine wpAny_bind (m := Builtin.Tuple.tupleExact _) (wpAny_newObj_type ?_ room)
  exact wpAny_pure ⟨_, rfl, wpAny_pure h⟩
end
/-! ### over plain data -/
theorem back_rev {α : Type} (xs : List α) : backD xs none = xs.reverse := by
  have e1 : (Builtin.Slice.sliceAdjust none none (-1) (xs.length : Int)).1 = (xs.length : Int) - 1 := by unfold Builtin.Slice.sliceAdjust; simp
  have e2 : Builtin.Slice.slicePlaces ((xs.length : Int) - 1) (-1) (-1) = xs.length := by
    unfold Builtin.Slice.slicePlaces
    rw [if_neg (by omega)]
    split
    · simp
    · omega
  unfold backD
  rw [e1, e2]
  apply List.ext_getElem?
  intro i
  have all : ∀ n, n ≤ xs.length → (List.range n).filterMap (fun (k : Nat) => xs[((xs.length : Int) - 1 + (k : Int) * (-1)).toNat]?) = (xs.reverse).take n := by
    intro n
    induction n with
    | zero => intro _; simp
    | succ n ih =>
      intro h
      rw [List.range_succ, List.filterMap_append, ih (by omega), List.take_add_one]
      congr 1
      have e : ((xs.length : Int) - 1 + (n : Int) * (-1)).toNat = xs.length - 1 - n := by omega
      have e3 : xs.reverse[n]? = xs[xs.length - 1 - n]? := by rw [List.getElem?_reverse (by omega)]
      simp only [List.filterMap_cons, List.filterMap_nil, e, e3]
      rw [List.getElem?_eq_getElem (show xs.length - 1 - n < xs.length by omega)]
      rfl
  rw [all xs.length (Nat.le_refl _), ← List.length_reverse, List.take_length]
theorem dps_filterMap {Z : Hp} {vs : List V} {ds : List D} (h : Dqs Z vs ds) (f : Nat → Nat) : ∀ ks : List Nat, Dqs Z (ks.filterMap fun k => vs[f k]?) (ks.filterMap fun k => ds[f k]?)
  | [] => .nil
  | k :: ks => by
    have ih := dps_filterMap h f ks
    cases e : ds[f k]? with
    | none =>
      have e' : vs[f k]? = none := by
        cases q : vs[f k]? with
        | none => rfl
        | some v =>
          obtain ⟨d, h1, _⟩ := dps_get' h q
          rw [h1] at e; cases e
      simp only [List.filterMap_cons, e, e']
      exact ih
    | some d =>
      obtain ⟨v, h1, h2⟩ := dps_get h e
      simp only [List.filterMap_cons, e, h1]
      exact .cons h2 ih
theorem dps_back {Z : Hp} {vs : List V} {ds : List D} (h : Dqs Z vs ds) (lo : Option Int) : Dqs Z (backD vs lo) (backD ds lo) := by
  unfold backD
  rw [dps_len h]
  exact dps_filterMap h (fun k => ((Builtin.Slice.sliceAdjust lo none (-1) (ds.length : Int)).1 + (k : Int) * (-1)).toNat) _
section
variable {C : Cp}
def wRev (w : W) : W := fun ρ q e => w ρ (fun s => ∃ xs, s = .dat (.tuple xs) ∧ xs.length ≤ sizeLine ∧ q (.dat (.tuple xs.reverse))) e
theorem Vals.back {xs : List V} {us : List Value} (r : Vals xs us) (lo : Option Int) : Vals (backD xs lo) (backD us lo) := by
  unfold backD
  rw [r.length]
  have go : ∀ (ks : List Nat) (f : Nat → Nat), Vals (ks.filterMap fun k => xs[f k]?) (ks.filterMap fun k => us[f k]?) := by
    intro ks f
    induction ks with
    | nil => exact .nil
    | cons k ks ih =>
      cases e : xs[f k]? with
      | none =>
        have e' := r.none_of e
        simp only [List.filterMap_cons, e, e']
        exact ih
      | some v =>
        obtain ⟨u, h1, h2⟩ := r.get e
        simp only [List.filterMap_cons, e, h1]
        exact .cons h2 ih
  exact go _ fun k => ((Builtin.Slice.sliceAdjust lo none (-1) (us.length : Int)).1 + (k : Int) * (-1)).toNat
theorem e_rev {e : Expr} {w : W} {k : Nat} {p1 p2 p3 pos : Pos} (he : E C e w) : E C (.Subscript e (.Slice none none (some (.UnaryOp .USub (.Constant (.int 1) k p1) p2)) p3) pos) (wRev w) := by
  constructor
  intro pins s σ H Q I ⟨Z, ρ, q, ex, st, hw, kt, ke⟩
  have step := he.run pins s σ H (fun x H1 => ∃ Z1 xs, Fr C.F H Z H1 Z1 ∧ FeedOk C.F H1 ∧ Dq Z1 x (.tuple xs) ∧ xs.length ≤ sizeLine ∧ q (.dat (.tuple xs.reverse))) I
    ⟨Z, ρ, _, ex, st, hw, fun y v H' Z' f fd sv ⟨xs, e1, hl, hq⟩ => by subst e1; exact ⟨Z', xs, f, fd, sv, hl, hq⟩, ke⟩
  refine Subscript_ (thn step fun v s1 ⟨x, H1, I1, r1, Z1, ds, f, fd, dq, hl, hq⟩ => ?_)
  cases dq with
  | @tup a vs _ h1 h2 =>
  cases r1
  have one : PO C.X (some (.UnaryOp .USub (.Constant (.int 1) k p1) p2)) (tPart (tUn (rU fun i => .int (-i)) (tC (.int 1)))) := po_some (pe_un un_neg pe_int)
  apply wpAny_Slice
  refine thn (po_none.run pins s1 σ H1 (fun o H2 => o = none ∧ H2 = H1) I1 ⟨rfl, rfl⟩) ?_
  rintro vl s2 ⟨l, H2, I2, pl, rfl, rfl⟩
  refine thn (po_none.run pins s2 σ H2 (fun o H3 => o = none ∧ H3 = H2) I2 ⟨rfl, rfl⟩) ?_
  rintro vu s3 ⟨u, H3, I3, pu, rfl, rfl⟩
  refine thn (one.run pins s3 σ H3 (fun o H4 => o = some (-1) ∧ H4 = H3) I3 ⟨1, rfl, -1, rfl, rfl, rfl⟩) ?_
  rintro vst s4 ⟨o, H4, I4, ps, rfl, rfl⟩
  have I5 : Inv C.X pins σ H4 { s4 with heap := s4.heap.push { cls := .type "slice", data := .fields #[vl, vu, vst] } } := I4.kept (t' := s4.toks) fun b ob q => Heap.get?_push_of_some _ q
  obtain ⟨its, r, ht, hz⟩ := I5.tuple (SqT.of (f.zh _ _ h1))
  have hlen := r.length
  have hdl := dps_len h2
  have e1 : backD its none = its.reverse := back_rev its
  refine tail_any (ops := [.ref a, .ref s4.heap.objs.size]) ht.typeIs PyProof.Rows.slot_tuple_getitem.lookup ?_ (by with_unfolding_all rfl)
  refine getItem_tuple_back ht (Heap.IsSliceOf.new _ vl vu vst) pl pu ps ?_ (by rw [e1, List.length_reverse]; omega)
  have np := I5.hok.fresh (Nat.le_refl _)
  refine ⟨.ref _, _, I5.laid (t' := s4.toks) (o := .tup vs.reverse) (fun b ob q => Heap.get?_push_of_some _ q) (Nat.le_refl _) ?_, rfl, (kt.next f).tup (Fr.refl f.zh f.notF) fd np (dps_rev h2) hq⟩
  refine ⟨by rw [List.length_reverse]; omega, its.reverse, ?_, by rw [e1]; exact IsTup.new _ _⟩
  have vb := Vals.back r none
  rw [back_rev, back_rev] at vb
  exact vb
end
end PL

/-! sets of texts: made of a list, sorted -/
namespace PL
open PySem PySem.Spec PyProof.Rows L2
section
variable {P : Program} {w : World} {A : Around} {E : Value → Shared → Prop} {s : Shared}
/-- at a stands a set that holds just the texts l -/
structure SOk (P : Program) (w : World) (h : Heap) (a : Addr) (l : List Str) : Prop where
  nd : l.Nodup
  few : l.length + 1 < scanBound
  ex : ∃ D : Froz.SD, h.get? a = some (Froz.sObj "set" D) ∧ Froz.TxOk P w D l ∧ Ris D.2.2.place.toList ∧ (w.params.followText "set-order" = true ∨ D.2.2.led = true)
theorem SOk.same {h h' : Heap} {a : Addr} {l : List Str} (x : SOk P w h a l) (k : ∀ o, h.get? a = some o → h'.get? a = some o) : SOk P w h' a l :=
  ⟨x.nd, x.few, let ⟨D, h1, r⟩ := x.ex; ⟨D, k _ h1, r⟩⟩
theorem tail_more {ep : Nat} {es1 : Array (Int × Value)} {t2 : SetTable} {wd : Bool} (hr : Ris t2.place.toList) (hl : w.params.followText "set-order" = true ∨ t2.led = true) :
    Ris (Froz.tailTx ep es1 t2 wd).2.2.place.toList ∧ (w.params.followText "set-order" = true ∨ (Froz.tailTx ep es1 t2 wd).2.2.led = true) := by
  unfold Froz.tailTx
  split
  · exact ⟨relayAll_ris t2 es1 _, hl.imp id fun z => by show (relayAll t2 es1 _).2.1.led = true; rw [relayAll_led]; exact z⟩
  · exact ⟨hr, hl⟩
theorem add_more {D : Froz.SD} {h : Int} {v : Value} (hr : Ris D.2.2.place.toList) (hl : w.params.followText "set-order" = true ∨ D.2.2.led = true) :
    Ris (Froz.addTx h v D).2.2.place.toList ∧ (w.params.followText "set-order" = true ∨ (Froz.addTx h v D).2.2.led = true) := by
  have r1 := layNew_ris D.2.2 D.1 h v hr
  have l1 := layNew_led D.2.2 D.1 h v
  unfold Froz.addTx
  refine tail_more ?_ ?_
  · split
    · exact r1
    · exact r1
  · refine hl.imp id fun z => ?_
    split
    · show (layNew D.2.2 D.1 h v).2.1.led = true
      rw [l1]; exact z
    · rw [l1]; exact z
/-- one text more -/
theorem set_add_str {a : Addr} {l : List Str} {k : Str} {u : Tok} {Q : Bool → Shared → Prop} (x : SOk P w s.heap a l) (room : l.length + 2 < scanBound)
    (h : ∀ b h' l', Heap.SameBut a s.heap h' → SOk P w h' a l' → (∀ y, y ∈ l' ↔ y ∈ l ∨ y = k) → l'.length ≤ l.length + 1 → Q b { s with heap := h' }) :
    wpAny (model P w) A (setAddHashed a (.str k u) (hashStr w k)) Q E s := by
  obtain ⟨D, ho, F, hr, hl⟩ := x.ex
  by_cases hk : k ∈ l
  · obtain ⟨es, ep, t⟩ := D
    have hd : (Froz.sObj "set" (es, ep, t)).data = .set es ep t := rfl
    have hkey : (strKind P w).is k (.str k u) = true := Froz.is_str k u
    have hb0 : es.size < scanBound := by have e1 : es.size = l.length := F.sz; omega
    have q := h false s.heap l (Heap.SameBut.refl a s.heap) x (fun y => ⟨.inl, fun z => z.elim id fun e => e ▸ hk⟩) (by omega)
    obtain ⟨e0, he0, hp0⟩ := (F.mem k).mp hk
    unfold setAddHashed setAddHashedIn
    apply wpAny_holding
    apply wpAny_bind
    apply wpAny_setState_of ho hd F.fit
    dsimp only
    rw [byScan_of (x := Value.str k u) rfl hb0 F.el]
    simp only [↓reduceIte]
    unfold setAddByScan
    apply wpAny_bind
    apply wpAny_bind
    apply wpAny_rule
    apply wpAny_bind
    apply wpAny_setScan_of (knd := strKind P w) (k := k) hkey ho hd F.fit F.el
    cases hfi : List.findIdx? (fun e => (strKind P w).is k e.2) es.toList with
    | none => exact absurd hp0 (by rw [List.findIdx?_eq_none_iff.mp hfi e0 he0]; exact Bool.false_ne_true)
    | some j => exact wpAny_pure (wpAny_pure q)
  · refine Froz.add_x ho F hk (by omega) ?_
    have more := add_more (h := hashStr w k) (v := .str k u) hr hl
    refine h true _ (k :: l) (Heap.SameBut.update s.heap a _) ⟨List.nodup_cons.mpr ⟨hk, x.nd⟩, by simpa using room, _, Froz.get_upd _ ho rfl, Froz.add_ok u F, more.1, more.2⟩ (fun y => ?_) (by simp)
    rw [List.mem_cons]
    exact Or.comm
end
end PL

/-! set(a list of texts) -/
namespace PL
open PySem PySem.Spec PyProof.Rows L2
section
variable {P : Program} {w : World} {A : Around} {E : Value → Shared → Prop} {s : Shared}
/-- what a list of texts is walked into -/
theorem set_upd_strs {I S : Addr} {fp wr : List Addr} {G : Array GenState → Array GenState → Prop} {n : Nat} {Pv : Nat → Value → Prop} {St : Nat → Shared → Prop} {R : Result → Shared → Prop} (walk : WalksS P w A.in1 I fp wr G n Pv St) (off : S ∉ fp)
    (zs : List Str) (hn : n = zs.length) (few : zs.length + 3 < scanBound) (val : ∀ i v, Pv i v → ∃ z u, zs[i]? = some z ∧ v = .str z u) :
    ∀ (k i : Nat) (s : Shared) (l : List Str), n - i = k → i ≤ n → St i s → SOk P w s.heap S l → l.length ≤ i → (∀ y, y ∈ l ↔ y ∈ zs.take i) →
      (∀ s' l', Moved (S :: wr) G s s' → SOk P w s'.heap S l' → (∀ y, y ∈ l' ↔ y ∈ zs) → R (.ok (.ret .none)) s') → codeAny (model P w) A (.builtin "set.update.loop" ⟨[.ref S, .ref I], []⟩) R s := by
  have offw : S ∉ wr := fun z => off (walk.sub _ z)
  intro k
  induction k with
  | zero =>
    intro i s l e1 e2 st ok len mem fin
    obtain rfl : i = n := by omega
    apply codeAny_builtin PyProof.Rows.F.entry_set_update_loop
    rw [Around.under_plainId PyProof.Rows.F.plain_set_update_loop _]
    show wpAny (model P w) A.in1 (pyNext (Value.ref I) >>= _) _ _ s
    apply wpAny_bind
    apply walk.done s _ _ st
    intro s' mv
    apply wpAny_pure
    refine fin s' l ⟨fun b o hb e => mv.heap b o (fun z => hb (List.mem_cons_of_mem _ z)) e, mv.gens, mv.drawn, mv.os, mv.toks⟩ (ok.same fun o e => mv.heap S o offw e) fun y => ?_
    rw [mem y, hn, List.take_length]
  | succ k ih =>
    intro i s l e1 e2 st ok len mem fin
    have lt : i < n := by omega
    apply codeAny_builtin PyProof.Rows.F.entry_set_update_loop
    rw [Around.under_plainId PyProof.Rows.F.plain_set_update_loop _]
    show wpAny (model P w) A.in1 (pyNext (Value.ref I) >>= _) _ _ s
    apply wpAny_bind
    apply walk.item i s _ _ lt st
    intro v s1 pv st1 mv
    obtain ⟨z, u, hz, rfl⟩ := val i v pv
    have ok1 : SOk P w s1.heap S l := ok.same fun o e => mv.heap S o offw e
    show wpAny (model P w) A.in1 (holding [Value.str z u] (setAdd S (Value.str z u)) >>= _) _ _ s1
    apply wpAny_bind
    apply wpAny_holding
    unfold setAdd
    apply wpAny_holding
    apply wpAny_bind
    apply (strKind P w).pyHash (k := z) (Froz.is_str _ _)
    apply set_add_str (s := { s1 with toks := s1.toks + 1 }) ok1 (by omega)
    intro b h' l' sb ok2 mem2 len2
    apply wpAny_pure
    refine ⟨plainId_quiet PyProof.Rows.F.plain_set_update_loop _, ?_⟩
    refine ih (i + 1) _ l' (by omega) lt (walk.frame _ s1 _ _ st1 (Nat.le_add_right _ _) fun b hb o e => ?_) ok2 (by omega) (fun y => ?_) fun s2 l2 mv2 ok3 mem3 => ?_
    · rw [sb.2 b (fun z => off (z ▸ hb))]; exact e
    · rw [mem2 y, mem y, List.take_add_one, hz]
      simp
    · refine fin s2 l2 ⟨fun b o hb e => ?_, walk.gtrans _ _ _ mv.gens mv2.gens, mv2.drawn.trans mv.drawn, mv2.os.trans mv.os, Nat.le_trans mv.toks (Nat.le_trans (Nat.le_succ _) mv2.toks)⟩ ok3 mem3
      have h1 := mv.heap b o (fun z => hb (List.mem_cons_of_mem _ z)) e
      refine mv2.heap b o hb ?_
      exact (sb.2 b fun z => hb (by rw [z]; exact List.mem_cons_self)).trans h1
abbrev set0 (w : World) : Obj := { cls := .type "set", dict := none, data := .set #[] 0 (.fresh 0 0 (!w.params.followText "set-order")) }
theorem sok_new {h : Heap} {a : Addr} (e : h.get? a = some (set0 w)) : SOk P w h a [] := by
  refine ⟨List.nodup_nil, by decide, (#[], 0, .fresh 0 0 (!w.params.followText "set-order")), e, Froz.TxOk.nil (by rfl), List.Pairwise.nil, ?_⟩
  show _ ∨ (!w.params.followText "set-order") = true
  cases w.params.followText "set-order"
  · exact Or.inr rfl
  · exact Or.inl rfl
set_option maxHeartbeats 3200000 in
/-- set(xs) -/
theorem call_set_strs {l : Addr} {items : Array Value} (zs : List Str) {Q : Value → Shared → Prop} (calm : A.handled = none) (hl : s.heap.IsList l items) (hit : ∀ (i : Nat) (v : Value), items[i]? = some v → ∃ z u, zs[i]? = some z ∧ v = Value.str z u) (hsz : items.size = zs.length) (few : zs.length + 3 < scanBound)
    (h : ∀ (h' : Heap) (tk : Nat) (l' : List Str), SOk P w h' s.heap.objs.size l' → (∀ y, y ∈ l' ↔ y ∈ zs) → (∀ b o, s.heap.get? b = some o → h'.get? b = some o) → Q (.ref s.heap.objs.size) { s with heap := h', toks := tk }) :
    wpAny (model P w) A (call (.type "set") [.ref l]) Q E s := by
  obtain ⟨c, tl, m1⟩ := F.called_set.mro
  have m2 := F.called_set.made; have m3 := F.called_set.sub; have m4 := F.called_set.notType; have m5 := F.called_set.canCreate
  have m6 := F.typeCall_set_1 (.ref l)
  apply wpAny_call
  apply codeAny_of_tree
  show wpAny _ _ (callAny (Value.type "set") _) _ _ _
  refine wpAny_pure ⟨Code.quiet_builtin _ (by decide +kernel), ?_⟩
  apply codeAny_builtin F.entry_type_call
  rw [Around.under_plain (weight_type_call_type "set" [.ref l] []) rfl]
  repeat (any_goals (first | assumption | wp_step))
  have born := code_set_led1 (P := P) (w := w) (A := A.in1) (s := s) (.ref l) (E := E) (Q₁ := fun obj s₁ => obj = .ref s.heap.objs.size ∧ s₁ = { s with heap := s.heap.push (set0 w) }) ⟨rfl, rfl⟩
  refine codeAny_mono born ?_
  rintro (e | fl) s₁ hr
  · exact hr
  cases fl with
  | ret obj =>
    obtain ⟨rfl, rfl⟩ := hr
    have at0 : (s.heap.push (set0 w)).get? s.heap.objs.size = some (set0 w) := Heap.get?_push_size _ rfl
    have ty0 : Shared.TypeIs { s with heap := s.heap.push (set0 w) } (.ref s.heap.objs.size) "set" := ⟨_, at0, rfl⟩
    have n1 := F.called_set.init.lookup; have n2 := F.called_set.init.bind (.ref s.heap.objs.size)
    repeat (any_goals (first | assumption | wp_step))
    refine codeAny_mono (codeAny_call_builtin (R := wants (fun r s₂ => r = .none ∧ ∃ h' tk l', s₂ = { s with heap := h', toks := tk } ∧ SOk P w h' s.heap.objs.size l' ∧ (∀ y, y ∈ l' ↔ y ∈ zs) ∧ (∀ b o, s.heap.get? b = some o → h'.get? b = some o)) E)
      F.called_set.init.plain F.entry_set_init (check_set_init_1 ty0 ?_)) ?_
    · obtain ⟨ol, ho, hc, nl, hdt⟩ := id hl
      obtain ⟨ocls, odict, odata, oslots⟩ := ol
      simp only at hc hdt
      subst hc; subst hdt
      have ho' : (s.heap.push (set0 w)).get? l = some { cls := .type "list", dict := odict, data := .seq items nl, slots := oslots } := Heap.get?_push_of_some _ ho
      have q1 := F.sub_list_set; have q2 := F.sub_list_frozenset
      have q3 : (Value.type "list" == Value.type "dict") = false := by decide
      have hl1 : (s.heap.push (set0 w)).IsList l items := ⟨_, ho', rfl, nl, rfl⟩
      have below : l < s.heap.objs.size := Heap.lt_size ho
      have size1 : (s.heap.push (set0 w)).objs.size = s.heap.objs.size + 1 := Heap.size_push ..
      unfold Builtin.«set.__init__» noKeywords Builtin.Frozenset.updateFrom
      generalize hPI : pyIter = PI
      wp_walk
      subst hPI
      apply wpAny_pyIter_list hl1
      apply wpAny_bind
      apply wpAny_runValue
      have calm3 : A.in1.in1.in1.handled = none := by simp [calm]
      have apart : l ≠ (s.heap.push (set0 w)).objs.size := by rw [size1]; exact Nat.ne_of_lt (Nat.lt_succ_of_lt below)
      have away : s.heap.objs.size ∉ [(s.heap.push (set0 w)).objs.size, l] := by
        rw [size1]
        simp only [List.mem_cons, List.not_mem_nil, or_false, not_or]
        exact ⟨Nat.ne_of_lt (Nat.lt_succ_self _), Nat.ne_of_gt below⟩
      refine set_upd_strs (Walks.list calm3 _ l apart items).toS away zs hsz few hit (items.size - 0) 0 _ [] rfl (Nat.zero_le _) ⟨⟨_, Heap.get?_push_size _ rfl, rfl, rfl⟩, hl1.push _⟩ ?ok (Nat.le_refl _) (by simp) ?fin
      case ok => exact sok_new (Heap.get?_push_of_some _ at0)
      case fin =>
        intro s' l' mv ok mem
        obtain ⟨h', g', d', tk', os'⟩ := s'
        obtain rfl : g' = s.gens := mv.gens
        obtain rfl : d' = s.drawn := mv.drawn
        obtain rfl : os' = s.os := mv.os
        refine wpAny_pure (wpAny_pure ⟨rfl, h', tk', l', rfl, ok, mem, fun b o e => ?_⟩)
        have lt := Heap.lt_size e
        refine mv.heap b o ?_ (Heap.get?_push_of_some _ (Heap.get?_push_of_some _ e))
        intro m
        simp only [List.mem_cons, List.mem_singleton, List.not_mem_nil, or_false] at m
        rw [size1] at m
        rcases m with m | m
        · exact absurd (m ▸ lt) (Nat.lt_irrefl _)
        · exact absurd (m ▸ lt) (Nat.not_lt_of_le (Nat.le_succ _))
    · rintro (e | fl) s₂ hr
      · exact hr
      cases fl with
      | ret r =>
        obtain ⟨rfl, h', tk, l', rfl, ok, mem, kp⟩ := hr
        repeat (any_goals (first | assumption | wp_step))
        exact h _ _ _ ok mem kp
      | next => exact hr.elim
      | brk => exact hr.elim
      | cont => exact hr.elim
  | next => exact hr.elim
  | brk => exact hr.elim
  | cont => exact hr.elim
end
end PL

/-! sorted(set(texts)) -/
namespace PL
open PySem PySem.Spec PyProof.Rows L2
section
variable {P : Program} {w : World} {A : Around} {E : Value → Shared → Prop} {s : Shared}
theorem strs_of : ∀ (vs : List Value), (∀ v ∈ vs, ∃ k u, v = Value.str k u) → ∃ ss, StrsAre vs ss ∧ ∀ k, k ∈ ss ↔ ∃ u, Value.str k u ∈ vs
  | [], _ => ⟨[], .nil, fun k => by simp⟩
  | v :: vs, h => by
    obtain ⟨k, u, rfl⟩ := h v List.mem_cons_self
    obtain ⟨ss, h1, h2⟩ := strs_of vs fun x hx => h x (List.mem_cons_of_mem _ hx)
    refine ⟨k :: ss, .cons k u h1, fun k' => ?_⟩
    rw [List.mem_cons, h2 k']
    constructor
    · rintro (e | ⟨u', hu⟩)
      · exact ⟨u, by rw [e]; exact List.mem_cons_self⟩
      · exact ⟨u', List.mem_cons_of_mem _ hu⟩
    · rintro ⟨u', hu⟩
      rcases List.mem_cons.mp hu with e | e
      · injection e with e1 _
        exact .inl e1
      · exact .inr ⟨u', e⟩
theorem strs_len {vs : List Value} {ss : List Str} (h : StrsAre vs ss) : vs.length = ss.length := by
  induction h with
  | nil => rfl
  | cons y t _ ih => simp [ih]
theorem perm_of_len : ∀ (l ys : List Str), l.Nodup → (∀ x ∈ l, x ∈ ys) → ys.length = l.length → ys.Perm l
  | [], ys, _, _, e => by
    have : ys = [] := List.eq_nil_of_length_eq_zero e
    rw [this]
  | a :: l, ys, nd, sub, e => by
    obtain ⟨na, nd'⟩ := List.nodup_cons.mp nd
    have ha := sub a List.mem_cons_self
    have p1 : ys.Perm (a :: ys.erase a) := List.perm_cons_erase ha
    have ih := perm_of_len l (ys.erase a) nd' (fun x hx => (List.mem_erase_of_ne (fun z : x = a => na (by rw [← z]; exact hx))).mpr (sub x (List.mem_cons_of_mem _ hx))) (by rw [List.length_erase_of_mem ha, e]; simp)
    exact p1.trans (ih.cons a)
/-- sorted(a set of texts) -/
theorem sorted_setS {a : Addr} {l : List Str} {Q : Value → Shared → Prop} (x : SOk P w s.heap a l) (calm : A.handled = none)
    (h : ∀ s' p (out : Array Value) (c : Nat) (ys : List Str), (∀ b o, s.heap.get? b = some o → s'.heap.get? b = some o) → s'.gens = s.gens → s'.os = s.os → s.heap.objs.size ≤ p →
      s'.heap.get? p = some (seqObj "list" out c) → StrsAre out.toList ys → (∀ y, y ∈ ys ↔ y ∈ l) → ys.length = l.length → sortedS ys = true → Q (.ref p) s') :
    wpAny (model P w) A (call (.builtin "sorted") [.ref a]) Q E s := by
  obtain ⟨⟨es, ep, t⟩, ho, F, hr, hl⟩ := x.ex
  have few := x.few
  have sz : es.size = l.length := F.sz
  apply Calls.call_function_entry kind_sorted plain_sorted entry_sorted (args_sorted1 _)
  unfold Builtin.«sorted»
  apply wpAny_bind (m := checkCount "sorted" 1 1 _)
  apply wpAny_pure
  apply wpAny_bind
  apply collect_set (A := A.in1) calm ⟨_, ho, rfl, rfl⟩ F.fit (show es.size < scanBound by omega) hr hl
  intro s1 vs k1 hz g1 o1 pm
  have allS : ∀ v ∈ vs, ∃ k u, v = Value.str k u := fun v hv => by
    obtain ⟨e, he, rfl⟩ := List.mem_map.mp (pm.mem_iff.mp hv)
    obtain ⟨⟨k, hk, _⟩, _⟩ := F.el e he
    obtain ⟨u, eu⟩ := Value.isStrOf_shape (x := k) (v := e.2) hk
    exact ⟨k, u, eu⟩
  obtain ⟨ss, hS, mem⟩ := strs_of vs allS
  have vl : vs.length = l.length := by rw [pm.length_eq, List.length_map, Array.length_toList, sz]
  have memL : ∀ y, y ∈ ss ↔ y ∈ l := fun y => by
    rw [mem y, F.mem y]
    constructor
    · rintro ⟨u, hu⟩
      obtain ⟨e, he, ee⟩ := List.mem_map.mp (pm.mem_iff.mp hu)
      exact ⟨e, he, by rw [ee]; exact Froz.is_str y u⟩
    · rintro ⟨e, he, q⟩
      obtain ⟨u, eu⟩ := Value.isStrOf_shape (x := y) (v := e.2) q
      exact ⟨u, pm.mem_iff.mpr (List.mem_map.mpr ⟨e, he, eu⟩)⟩
  have lim : vs.length ≤ sizeLine := by
    have e1 : scanBound = 4096 := rfl
    rw [sizeLine_eq]; omega
  apply wpAny_bind
  apply wpAny_newList _ lim
  have hoL : (s1.heap.push (seqObj "list" vs.toArray 0)).get? s1.heap.objs.size = some (seqObj "list" vs.toArray 0) := Heap.get?_push_size _ rfl
  apply wpAny_bind
  apply wpAny_holding
  refine wpAny_call_entry slot_list_sort ⟨_, hoL, rfl⟩ entry_list_sort (list_sort_treeKAny strKind_oneLt hoL hS.keysOf (fun v₁ v₂ rest e => keyKind_strs (by rw [← e]; exact hS)) lim ?_) (args_list_sort _)
  intro st' hp hs
  obtain ⟨ys, y1, y2, y3⟩ := sorted_out_str hS hp hs
  refine ⟨_, rfl, wpAny_pure ⟨_, rfl, ?_⟩⟩
  obtain ⟨c, hc⟩ := sortedHeap_at (vs := vs) (out := (arrOf st').map (·.2)) hoL
  refine h _ s1.heap.objs.size _ c ys (fun b u e => ?_) g1 o1 hz hc y1 (fun y => (y2.mem_iff).trans (memL y)) (by rw [y2.length_eq, ← strs_len hS, vl]) y3
  have q := k1 b u e
  have lt := Heap.lt_size q
  show (sortedHeap (s1.heap.push (seqObj "list" vs.toArray 0)) s1.heap.objs.size vs _).get? b = some u
  rw [sortedHeap_old (Nat.ne_of_lt lt) (by rw [size_push']; exact Nat.lt_succ_of_lt lt)]
  exact Heap.get?_push_of_some _ q
end
section
variable {X : Cx}
/-- a set of texts, tracked -/
def SetS (P : Program) (w : World) (a : Addr) (l : List Str) : HO := .ext fun h => SOk P w h a l
theorem setS_new {P : Program} {w : World} {H : Hp} {h : Heap} {a : Addr} {l : List Str} (x : SOk P w h a l) : ObjOk P w H h a (SetS P w a l) :=
  ⟨x, let ⟨D, e, _⟩ := x.ex; ⟨_, e⟩, fun h1 h2 y k => SOk.same y k⟩
theorem cr_setS (hc : X.calm = true) : CallR X (.type "set") (fun xs H Q => ∃ (l : Addr) (zs : List Str), xs = [.ref l] ∧ SqL X.K H l (zs.map V.str) ∧ zs.length + 3 < scanBound ∧
    ∀ p l', H p = none → (∀ y, y ∈ l' ↔ y ∈ zs) → l'.Nodup → Q (.ref p) (upd H p (SetS X.prog X.w p l'))) := by
  intro pins s σ H xs us Q I r ⟨l, zs, e, hl, few, q⟩
  subst e
  obtain ⟨its, rv, pl, _⟩ := I.list hl
  rw [Vals.ref1 r]
  have len := rv.length
  rw [List.length_map] at len
  have get : ∀ (i : Nat) (v : Value), its.toArray[i]? = some v → ∃ z u, zs[i]? = some z ∧ v = Value.str z u := fun i v hv => by
    have hv' : its[i]? = some v := by simpa using hv
    cases e : zs[i]? with
    | none =>
      have : its[i]? = none := rv.none_of (by rw [List.getElem?_map, e]; rfl)
      rw [this] at hv'; cases hv'
    | some z =>
      obtain ⟨u, e1, e2⟩ := rv.get (i := i) (x := V.str z) (by rw [List.getElem?_map, e]; rfl)
      rw [e1] at hv'
      cases hv'
      obtain ⟨t, e3⟩ := e2
      exact ⟨z, t, rfl, e3⟩
  refine call_set_strs zs (I.ok.hd hc) pl.isList get (by rw [List.size_toArray]; exact len.symm) few fun h' tk l' ok mem kp => ?_
  have np : H s.heap.objs.size = none := I.hok.fresh (Nat.le_refl _)
  exact ⟨.ref _, _, I.laid (t' := tk) (o := SetS X.prog X.w s.heap.objs.size l') kp (Nat.le_refl _) (setS_new ok), rfl, q _ l' np mem ok.nd⟩
theorem vals_strs : ∀ {vs : List Value} {ss : List Str}, StrsAre vs ss → Vals (ss.map V.str) vs
  | _, _, .nil => .nil
  | _, _, .cons y t h => .cons ⟨t, rfl⟩ (vals_strs h)
theorem cr_sortedSetS (hc : X.calm = true) : CallR X (.builtin "sorted") (fun xs H Q => ∃ (a : Addr) (l : List Str), xs = [.ref a] ∧ H a = some (SetS X.prog X.w a l) ∧
    ∀ p ys, H p = none → (∀ y, y ∈ ys ↔ y ∈ l) → ys.length = l.length → sortedS ys = true → Q (.ref p) (upd H p (.lst (ys.map V.str)))) := by
  intro pins s σ H xs us Q I r ⟨a, l, e, ha, q⟩
  subst e
  rw [Vals.ref1 r]
  have x : SOk X.prog X.w s.heap a l := (I.hok a _ ha).1
  refine sorted_setS x (I.ok.hd hc) fun s' p out c ys kp g o hp at' hs mem len srt => ?_
  have np : H p = none := I.hok.fresh hp
  have lim : (ys.map V.str).length ≤ sizeLine := by
    have e1 : scanBound = 4096 := rfl
    have := x.few
    rw [List.length_map, sizeLine_eq]; omega
  have J : Inv X pins σ (upd H p (.lst (ys.map V.str))) s' := by
    refine I.call' (ch := []) o (Un.laid kp hp np) (I.hok.laid kp hp ⟨lim, out.toList, c, vals_strs hs, at'⟩) (by rw [g]; exact I.bare) (fun _ z => nomatch z)
  exact ⟨.ref p, _, J, rfl, q p ys np mem len srt⟩
end
section
variable {C : Cp}
/-- sorted(set(texts)) -/
def wSrtSet (w : W) : W := fun ρ q e => w ρ (fun s => ∃ zs : List Str, s.lst = some (zs.map PyData.str) ∧ zs.length + 3 < scanBound ∧
  ∀ ys : List Str, (∀ y, y ∈ ys ↔ y ∈ zs) → ys.Nodup → sortedS ys = true → q (.dat (.list (ys.map PyData.str)))) e
theorem e_srtSet {a : Expr} {w : W} {p1 p2 c1 c2 : Pos} (hc : C.X.calm = true) (hu : C.X.A.units + 64 < cLine) (hg1 : Gl C.X "sorted") (hm1 : C.X.mg "sorted" = none) (hg2 : Gl C.X "set") (hm2 : C.X.mg "set" = none) (ha : E C a w)
    (hs1 : starEach [a] C.X.env = (false, eval a C.X.env) :: starEach [] C.X.env := by rfl) (hp1 : (backTo c2 (starEach [] C.X.env)).any (·.1) = false := by rfl)
    (hs2 : starEach [.Call (.Name "set" p2) [a] [] c2] C.X.env = (false, eval (.Call (.Name "set" p2) [a] [] c2) C.X.env) :: starEach [] C.X.env := by rfl) (hp2 : (backTo c1 (starEach [] C.X.env)).any (·.1) = false := by rfl) :
    E C (.Call (.Name "sorted" p1) [.Call (.Name "set" p2) [a] [] c2] [] c1) (wSrtSet w) := by
  refine weakE (pe_callB (cr_sortedSetS hc) hg1 hm1 (by decide +kernel) (pa_cons (pe_callTy (cr_setS hc) hg2 hm2 (by decide +kernel) (pa_cons ha pa_nil hs1) (by decide) (by decide) hs1 hp1) pa_nil hs2) (by decide) (by decide) hs2 hp2) ?_
  rintro σ H Q ⟨Z, ρ, q, ex, st, hw, k, ke⟩
  refine ⟨Z, ρ, _, ex, st, hw, ?_, ke⟩
  rintro s v H1 Z1 f1 fd1 sv ⟨zs, e1, few, hq⟩
  obtain ⟨b, ws, rfl, h1, h2⟩ := sv.lst f1.zh fd1 e1
  have ew := dps_strs' zs h2
  subst ew
  refine ⟨b, zs, rfl, SqL.of h1, few, fun p l' np mem nd => ?_⟩
  refine ⟨p, l', rfl, upd_same, fun r ys nr mem2 len2 srt => ?_⟩
  have perm := perm_of_len l' ys nd (fun x hx => (mem2 x).mpr hx) len2
  obtain ⟨f2, zp⟩ := Fr.madeH (o := SetS C.X.prog C.X.w p l') (Fr.refl f1.zh f1.notF) np
  have fd2 := fd1.made (o := SetS C.X.prog C.X.w p l') np
  exact (k.next (f1.trans f2)).lst (Fr.refl f2.zh f2.notF) fd2 nr (dps_strs ys) (hq ys (fun y => (mem2 y).trans (mem y)) (perm.nodup_iff.mpr nd) srt)
end
end PL

set_option maxHeartbeats 4000000
/-! () * n -/
namespace PL
open PySem PySem.Spec PyProof.Rows L2
theorem mul_empty (l : Addr) (n : Nat) (dd : Option Addr) (sl : Array (Option Value)) (x : Int) (u : Tok) (c0 : (decide (x < -(2 ^ 63)) || decide (x ≥ 2 ^ 63)) = false) :
    Meets (Builtin.«tuple.__mul__» ⟨[.ref l, .int x u], []⟩) (fun _ R s =>
      s.heap.get? l = some { cls := .type "tuple", dict := dd, data := .seq #[] n, slots := sl } ∧ R (.ok (.ret (Value.ref l))) s) :=
  .of_wp fun prog w A R s h => by
    obtain ⟨hp, g, d, tk, os⟩ := s
    obtain ⟨hl, h⟩ := h
    have f1 := AutoSeq1.idx_int
    wp_walk using wpAny_loadPart' hl
    repeat (first
      | (refine wpAny_ite_false (decide_eq_false (by rw [c0]; exact Bool.false_ne_true)) ?_; wp_walk using wpAny_loadPart' hl)
      | (refine wpAny_ite_true (by rfl) ?_; wp_walk using wpAny_loadPart' hl))
    exact ⟨_, rfl, h⟩
section
variable {X : Cx}
theorem op_repT0 : OpR X (binaryOp .Mult) (fun x y H Q => ∃ l k, x = .ref l ∧ y = .int k ∧ SqT X.K H l [] ∧ 2 ≤ k ∧ k ≤ 1000 ∧ Q (.ref l) H) := by
  intro pins s σ H x y v u Q I rx ry h
  obtain ⟨l, k, rfl, rfl, hT, h1, h2, q⟩ := h
  cases rx
  obtain ⟨t, rfl⟩ := ry
  obtain ⟨its, r, ⟨⟨cls, dd, data, sl⟩, ho, hc, n, hd⟩, hs⟩ := I.tuple hT
  simp only at hc hd
  subst hc hd
  have hle : its = [] := List.eq_nil_of_length_eq_zero r.length.symm
  subst hle
  have c0 : (decide (k < -(2 ^ 63)) || decide (k ≥ 2 ^ 63)) = false := by
    rw [decide_eq_false (by omega), decide_eq_false (by omega)] <;> rfl
  refine wpAny_binaryOp_repeat_ref (T := "tuple") (U := "int") (by decide) ⟨_, ho, rfl⟩ (fun s' => typeIs_int s' k t) noFill_tuple_mul F.fills_int_mul F.slot_int_rmul repeat_tuple F.slot_int_index.lookup
    (call_meets F.slot_int_rmul (typeIs_int s k t) F.entry_int_rmul (F.args_int_rmul_2 _ _) (int_rmul_tuple k t l #[] n dd sl)
      ⟨ho, rfl, ⟨_, ho, rfl⟩, call_meets F.slot_tuple_mul ⟨_, ho, rfl⟩ F.entry_tuple_mul (F.args_tuple_mul_2 _ _) (mul_empty l n dd sl k t c0) ⟨ho, ?_⟩⟩)
  exact ⟨.ref l, H, I, rfl, q⟩
end
section
variable {C : Cp}
def oMulT : O2 := fun x y q => match x, y with
  | .dat (.int i), .dat (.int j) => CMul i j ∧ q (.dat (.int (i * j)))
  | .dat (.tuple xs), .dat (.int k) => 2 ≤ k ∧ k ≤ 1000 ∧ xs.length ≤ 1000 ∧ q (.dat (.tuple (List.replicate k.toNat xs).flatten))
  | _, _ => False
theorem o_mulT : Op C (binaryOp .Mult) oMulT := by
  intro pins s σ H x y v u Q I rx ry ⟨Z, s1, s2, q, a, sv1, sv2, ho⟩
  unfold oMulT at ho
  split at ho
  · exact o_mul pins s σ H x y v u Q I rx ry ⟨Z, _, _, q, a, sv1, sv2, ho⟩
  · rename_i xs k
    by_cases hx : xs = []
    · subst hx
      have sv1' := sv1
      cases (show Dq Z x (.tuple []) from sv1) with
      | @tup b vs _ e1 e2 =>
      cases e2
      cases (show Dq Z y (.int k) from sv2)
      refine op_repT0 pins s σ H _ _ v u Q I rx ry ⟨b, k, rfl, rfl, SqT.of (a.fr.zh _ _ e1), ho.1, ho.2.1, a.ret (s := .dat (.tuple [])) (Dq.tup e1 .nil) ?_⟩
      have := ho.2.2.2
      rwa [show (List.replicate k.toNat ([] : List D)).flatten = [] by simp] at this
    · exact o_mul pins s σ H x y v u Q I rx ry ⟨Z, _, _, q, a, sv1, sv2, hx, ho⟩
  · exact ho.elim
end
end PL

/-! sorted(set(a tuple of texts)) -/
namespace PL
open PySem PySem.Spec PyProof.Rows L2
section
variable {P : Program} {w : World} {A : Around} {E : Value → Shared → Prop} {s : Shared}
set_option maxHeartbeats 3200000 in
/-- set(a tuple of texts) -/
theorem call_set_strsT {l : Addr} {items : Array Value} (zs : List Str) {Q : Value → Shared → Prop} (calm : A.handled = none) (hl : s.heap.IsTuple l items) (hit : ∀ (i : Nat) (v : Value), items[i]? = some v → ∃ z u, zs[i]? = some z ∧ v = Value.str z u) (hsz : items.size = zs.length) (few : zs.length + 3 < scanBound)
    (h : ∀ (h' : Heap) (tk : Nat) (l' : List Str), SOk P w h' s.heap.objs.size l' → (∀ y, y ∈ l' ↔ y ∈ zs) → (∀ b o, s.heap.get? b = some o → h'.get? b = some o) → Q (.ref s.heap.objs.size) { s with heap := h', toks := tk }) :
    wpAny (model P w) A (call (.type "set") [.ref l]) Q E s := by
  obtain ⟨c, tl, m1⟩ := F.called_set.mro
  have m2 := F.called_set.made; have m3 := F.called_set.sub; have m4 := F.called_set.notType; have m5 := F.called_set.canCreate
  have m6 := F.typeCall_set_1 (.ref l)
  apply wpAny_call
  apply codeAny_of_tree
  show wpAny _ _ (callAny (Value.type "set") _) _ _ _
  refine wpAny_pure ⟨Code.quiet_builtin _ (by decide +kernel), ?_⟩
  apply codeAny_builtin F.entry_type_call
  rw [Around.under_plain (weight_type_call_type "set" [.ref l] []) rfl]
  repeat (any_goals (first | assumption | wp_step))
  have born := code_set_led1 (P := P) (w := w) (A := A.in1) (s := s) (.ref l) (E := E) (Q₁ := fun obj s₁ => obj = .ref s.heap.objs.size ∧ s₁ = { s with heap := s.heap.push (set0 w) }) ⟨rfl, rfl⟩
  refine codeAny_mono born ?_
  rintro (e | fl) s₁ hr
  · exact hr
  cases fl with
  | ret obj =>
    obtain ⟨rfl, rfl⟩ := hr
    have at0 : (s.heap.push (set0 w)).get? s.heap.objs.size = some (set0 w) := Heap.get?_push_size _ rfl
    have ty0 : Shared.TypeIs { s with heap := s.heap.push (set0 w) } (.ref s.heap.objs.size) "set" := ⟨_, at0, rfl⟩
    have n1 := F.called_set.init.lookup; have n2 := F.called_set.init.bind (.ref s.heap.objs.size)
    repeat (any_goals (first | assumption | wp_step))
    refine codeAny_mono (codeAny_call_builtin (R := wants (fun r s₂ => r = .none ∧ ∃ h' tk l', s₂ = { s with heap := h', toks := tk } ∧ SOk P w h' s.heap.objs.size l' ∧ (∀ y, y ∈ l' ↔ y ∈ zs) ∧ (∀ b o, s.heap.get? b = some o → h'.get? b = some o)) E)
      F.called_set.init.plain F.entry_set_init (check_set_init_1 ty0 ?_)) ?_
    · obtain ⟨ol, ho, hc, nl, hdt⟩ := id hl
      obtain ⟨ocls, odict, odata, oslots⟩ := ol
      simp only at hc hdt
      subst hc; subst hdt
      have ho' : (s.heap.push (set0 w)).get? l = some { cls := .type "tuple", dict := odict, data := .seq items nl, slots := oslots } := Heap.get?_push_of_some _ ho
      have q1 := F.sub_tuple_set; have q2 := F.sub_tuple_frozenset
      have q3 : (Value.type "tuple" == Value.type "dict") = false := by decide
      have hl1 : (s.heap.push (set0 w)).IsTuple l items := ⟨_, ho', rfl, nl, rfl⟩
      have below : l < s.heap.objs.size := Heap.lt_size ho
      have size1 : (s.heap.push (set0 w)).objs.size = s.heap.objs.size + 1 := Heap.size_push ..
      unfold Builtin.«set.__init__» noKeywords Builtin.Frozenset.updateFrom
      generalize hPI : pyIter = PI
      wp_walk
      subst hPI
      apply wpAny_pyIter_tuple hl1
      apply wpAny_bind
      apply wpAny_runValue
      have calm3 : A.in1.in1.in1.handled = none := by simp [calm]
      have apart : l ≠ (s.heap.push (set0 w)).objs.size := by rw [size1]; exact Nat.ne_of_lt (Nat.lt_succ_of_lt below)
      have away : s.heap.objs.size ∉ [(s.heap.push (set0 w)).objs.size, l] := by
        rw [size1]
        simp only [List.mem_cons, List.not_mem_nil, or_false, not_or]
        exact ⟨Nat.ne_of_lt (Nat.lt_succ_self _), Nat.ne_of_gt below⟩
      refine set_upd_strs (Walks.tuple calm3 _ l apart items).toS away zs hsz few hit (items.size - 0) 0 _ [] rfl (Nat.zero_le _) ⟨⟨_, Heap.get?_push_size _ rfl, rfl, rfl⟩, hl1.push _⟩ ?ok (Nat.le_refl _) (by simp) ?fin
      case ok => exact sok_new (Heap.get?_push_of_some _ at0)
      case fin =>
        intro s' l' mv ok mem
        obtain ⟨h', g', d', tk', os'⟩ := s'
        obtain rfl : g' = s.gens := mv.gens
        obtain rfl : d' = s.drawn := mv.drawn
        obtain rfl : os' = s.os := mv.os
        refine wpAny_pure (wpAny_pure ⟨rfl, h', tk', l', rfl, ok, mem, fun b o e => ?_⟩)
        have lt := Heap.lt_size e
        refine mv.heap b o ?_ (Heap.get?_push_of_some _ (Heap.get?_push_of_some _ e))
        intro m
        simp only [List.mem_cons, List.mem_singleton, List.not_mem_nil, or_false] at m
        rw [size1] at m
        rcases m with m | m
        · exact absurd (m ▸ lt) (Nat.lt_irrefl _)
        · exact absurd (m ▸ lt) (Nat.not_lt_of_le (Nat.le_succ _))
    · rintro (e | fl) s₂ hr
      · exact hr
      cases fl with
      | ret r =>
        obtain ⟨rfl, h', tk, l', rfl, ok, mem, kp⟩ := hr
        repeat (any_goals (first | assumption | wp_step))
        exact h _ _ _ ok mem kp
      | next => exact hr.elim
      | brk => exact hr.elim
      | cont => exact hr.elim
  | next => exact hr.elim
  | brk => exact hr.elim
  | cont => exact hr.elim
end
section
variable {X : Cx}
theorem cr_setST (hc : X.calm = true) : CallR X (.type "set") (fun xs H Q => ∃ (l : Addr) (zs : List Str), xs = [.ref l] ∧ SqT X.K H l (zs.map V.str) ∧ zs.length + 3 < scanBound ∧
    ∀ p l', H p = none → (∀ y, y ∈ l' ↔ y ∈ zs) → l'.Nodup → Q (.ref p) (upd H p (SetS X.prog X.w p l'))) := by
  intro pins s σ H xs us Q I r ⟨l, zs, e, hl, few, q⟩
  subst e
  obtain ⟨its, rv, pl, _⟩ := I.tuple hl
  rw [Vals.ref1 r]
  have len := rv.length
  rw [List.length_map] at len
  have get : ∀ (i : Nat) (v : Value), its.toArray[i]? = some v → ∃ z u, zs[i]? = some z ∧ v = Value.str z u := fun i v hv => by
    have hv' : its[i]? = some v := by simpa using hv
    cases e : zs[i]? with
    | none =>
      have : its[i]? = none := rv.none_of (by rw [List.getElem?_map, e]; rfl)
      rw [this] at hv'; cases hv'
    | some z =>
      obtain ⟨u, e1, e2⟩ := rv.get (i := i) (x := V.str z) (by rw [List.getElem?_map, e]; rfl)
      rw [e1] at hv'
      cases hv'
      obtain ⟨t, e3⟩ := e2
      exact ⟨z, t, rfl, e3⟩
  refine call_set_strsT zs (I.ok.hd hc) pl get (by rw [List.size_toArray]; exact len.symm) few fun h' tk l' ok mem kp => ?_
  have np : H s.heap.objs.size = none := I.hok.fresh (Nat.le_refl _)
  exact ⟨.ref _, _, I.laid (t' := tk) (o := SetS X.prog X.w s.heap.objs.size l') kp (Nat.le_refl _) (setS_new ok), rfl, q _ l' np mem ok.nd⟩
end
section
variable {X : Cx}
theorem cr_setA (hc : X.calm = true) : CallR X (.type "set") (fun xs H Q => ∃ (l : Addr) (zs : List Str), xs = [.ref l] ∧ (SqL X.K H l (zs.map V.str) ∨ SqT X.K H l (zs.map V.str)) ∧ zs.length + 3 < scanBound ∧
    ∀ p l', H p = none → (∀ y, y ∈ l' ↔ y ∈ zs) → l'.Nodup → Q (.ref p) (upd H p (SetS X.prog X.w p l'))) := by
  intro pins s σ H xs us Q I r ⟨l, zs, e, hl, few, q⟩
  rcases hl with hl | hl
  · exact cr_setS hc pins s σ H xs us Q I r ⟨l, zs, e, hl, few, q⟩
  · exact cr_setST hc pins s σ H xs us Q I r ⟨l, zs, e, hl, few, q⟩
end
section
variable {C : Cp}
def wSrtSetT (w : W) : W := fun ρ q e => w ρ (fun s => ∃ zs : List Str, s.seq = some (zs.map PyData.str) ∧ zs.length + 3 < scanBound ∧
  ∀ ys : List Str, (∀ y, y ∈ ys ↔ y ∈ zs) → ys.Nodup → sortedS ys = true → q (.dat (.list (ys.map PyData.str)))) e
theorem e_srtSetT {a : Expr} {w : W} {p1 p2 c1 c2 : Pos} (hc : C.X.calm = true) (hu : C.X.A.units + 64 < cLine) (hg1 : Gl C.X "sorted") (hm1 : C.X.mg "sorted" = none) (hg2 : Gl C.X "set") (hm2 : C.X.mg "set" = none) (ha : E C a w)
    (hs1 : starEach [a] C.X.env = (false, eval a C.X.env) :: starEach [] C.X.env := by rfl) (hp1 : (backTo c2 (starEach [] C.X.env)).any (·.1) = false := by rfl)
    (hs2 : starEach [.Call (.Name "set" p2) [a] [] c2] C.X.env = (false, eval (.Call (.Name "set" p2) [a] [] c2) C.X.env) :: starEach [] C.X.env := by rfl) (hp2 : (backTo c1 (starEach [] C.X.env)).any (·.1) = false := by rfl) :
    E C (.Call (.Name "sorted" p1) [.Call (.Name "set" p2) [a] [] c2] [] c1) (wSrtSetT w) := by
  refine weakE (pe_callB (cr_sortedSetS hc) hg1 hm1 (by decide +kernel) (pa_cons (pe_callTy (cr_setA hc) hg2 hm2 (by decide +kernel) (pa_cons ha pa_nil hs1) (by decide) (by decide) hs1 hp1) pa_nil hs2) (by decide) (by decide) hs2 hp2) ?_
  rintro σ H Q ⟨Z, ρ, q, ex, st, hw, k, ke⟩
  refine ⟨Z, ρ, _, ex, st, hw, ?_, ke⟩
  rintro s v H1 Z1 f1 fd1 sv ⟨zs, e1, few, hq⟩
  obtain ⟨b, ws, rfl, h1, h2⟩ := sv.seq f1.zh e1 C.X.K
  have ew := dps_strs' zs h2
  subst ew
  refine ⟨b, zs, rfl, h1, few, fun p l' np mem nd => ?_⟩
  refine ⟨p, l', rfl, upd_same, fun r ys nr mem2 len2 srt => ?_⟩
  have perm := perm_of_len l' ys nd (fun x hx => (mem2 x).mpr hx) len2
  obtain ⟨f2, zp⟩ := Fr.madeH (o := SetS C.X.prog C.X.w p l') (Fr.refl f1.zh f1.notF) np
  have fd2 := fd1.made (o := SetS C.X.prog C.X.w p l') np
  exact (k.next (f1.trans f2)).lst (Fr.refl f2.zh f2.notF) fd2 nr (dps_strs ys) (hq ys (fun y => (mem2 y).trans (mem y)) (perm.nodup_iff.mpr nd) srt)
end
end PL

/-! the script, as what a def reads; the feed that is made of it; plain promises of L2 without guards -/
namespace PL
open PySem PySem.Spec PyProof.Rows L2
/-- the script, seen from the heap H0 -/
def fdS (K : PySem.W.Frag) (H0 : Hp) (a : Addr) (ns : List Int) : Fd where
  ref := .ref a
  cs := ns.map PyData.int
  own := fun b => H0 a ≠ none ∧ b = a
  ok := fun H => SqL K H0 a (ns.map V.int) ∧ (H0 a ≠ none → H a = H0 a)
  away := fun H p h np k => by
    obtain ⟨k1, rfl⟩ := k
    rw [h.2 k1] at np
    exact k1 np
  here := fun H H' h k _ => ⟨h.1, fun q => (k a ⟨q, rfl⟩).trans (h.2 q)⟩
  ro := fun _ _ => False
  reads := fun _ _ _ _ h => h.elim
def FamS (K : PySem.W.Frag) (x : Fd) : Prop := ∃ H0 a ns, x = fdS K H0 a ns
theorem fdS_seq {K : PySem.W.Frag} {H0 H : Hp} {a : Addr} {ns : List Int} (h : (fdS K H0 a ns).ok H) : SqL K H a (ns.map V.int) := by
  obtain ⟨h1, h2⟩ := h
  rcases h1 with h1 | h1
  · have ne : H0 a ≠ none := by
      rcases h1 with e | ⟨o, e⟩ <;> rw [e] <;> simp
    refine .inl ?_
    rcases h1 with e | ⟨o, e⟩
    · exact .inl ((h2 ne).trans e)
    · exact .inr ⟨o, (h2 ne).trans e⟩
  · exact .inr h1
section
variable {C : Cp}
/-- script[:n] -/
def wScr (i : Nat) (n : Int) : W := fun ρ q _ => ∃ ns : List Int, ρ[i]? = some (some (S.feed (ns.map PyData.int))) ∧ ∀ ns' : List Int, ns'.length ≤ ns.length → q (.dat (.list (ns'.map PyData.int)))
theorem int_map {ns : List Int} {lo hi : Option Int} : ∃ ns' : List Int, cutV (ns.map V.int) lo hi = ns'.map V.int ∧ ns'.length ≤ ns.length := by
  unfold cutV
  refine ⟨_, by rw [← List.map_drop, ← List.map_take], ?_⟩
  rw [List.length_take, List.length_drop]
  omega
theorem dps_zs {Z : Hp} : ∀ ns : List Int, Dqs Z (ns.map V.int) (ns.map PyData.int)
  | [] => .nil
  | n :: r => .cons (Dq.int n) (dps_zs r)
theorem e_scr {i : Nat} {x : Str} {p p2 pos : Pos} {n : Int} {k j} {kp : Pos} (hF : HasF (FamS C.X.K) C.F) (hv : PE C.X (.Name x p) (tVar i)) : E C (.Subscript (.Name x p) (.Slice none (some (.Constant (.int n) j kp)) none p2) pos) (wScr i k) :=
  weakE (pe_slice sl_list hv po_none (po_some pe_int)) fun σ H Q ⟨Z, ρ, q, ex, st, ⟨ns, e, hq⟩, kt, ke⟩ => by
    obtain ⟨v, e1, y, ey, e2, e3⟩ := st.env i _ e
    obtain ⟨H0, a, ms, rfl⟩ := hF.all y ey
    have ok : (fdS C.X.K H0 a ms).ok H := st.fd _ ey
    have em : ms = ns := by
      have : ms.map PyData.int = ns.map PyData.int := e3
      exact (List.map_inj_right (fun x y h => by cases h; rfl)).mp this
    subst em
    subst e2
    refine ⟨_, e1, n, rfl, a, _, rfl, fdS_seq ok, fun c nc => ?_⟩
    obtain ⟨ns', e4, hl⟩ := int_map (ns := ms) (lo := none) (hi := some n)
    rw [e4]
    exact kt.lst (Fr.refl st.fr.zh st.fr.notF) st.fd nc (dps_zs ns') (hq ns' hl)
end
/-- a call of a def that has a promise without guards -/
theorem pe_callG {X : Cx} {sp : Sp} {E : XK} {k : Nat} {f : Addr} {fd : FuncData} {ps : List Str} {x : Str} {p pos : Pos} {a : Expr} {es : List Expr} {t : TA} {CX : CXT} (F : FnG X.prog X.w X.K X.mg X.base CX k f fd ps sp) (hr : Room k X.A) (hgd : X.A.guards = some []) (hg : Gl X x)
    (hm : X.mg x = some (.ref f)) (hk : PySem.W.keepIn X.K (.ref f) = true) (hb : Binds X.K fd ps []) (hx : Passes CX X E) (ha : PA X (a :: es) t)
    (hdb : (x == ("__debug__" : Str)) = false := by decide) (he : starEach (a :: es) X.env = (false, eval a X.env) :: starEach es X.env := by rfl)
    (hpl : (backTo pos (starEach es X.env)).any (·.1) = false := by rfl) : PE X (.Call (.Name x p) (a :: es) [] pos) (fun σ H Q => t σ H fun vs H1 => sp vs H1 Q E) := by
  constructor
  intro pins s σ H Q I h
  apply wpAny_Call_Name_kw
  apply ld_glob I hg hm _ hdb
  apply PySem.W.callWith_K (h₀ := X.base) I.ok.mod.kin hk _ he hpl
  refine thn (ha.run pos pins s σ H _ I h) fun us s1 ⟨vs, H1, I1, rv, hq⟩ => ⟨I1.kIn, ?_⟩
  have rv2 : Vals vs (us ++ []) := by rw [List.append_nil]; exact rv
  exact run_g (args := ⟨us, []⟩) F hr hgd hx I1 (hb s1 us I1.kIn (by rw [List.append_nil, ← rv.length]; exact F.len vs H1 Q E hq)) rv2 hq
end PL

/-! the end, for a law whose promise speaks of a frame without guards -/
namespace PL
open PySem PySem.Spec PyProof.Rows L2
/-- what is tracked at the law's entry: the script, where it is no object of the text's own -/
def H0 (K : PySem.W.Frag) (a : Addr) (vs : List Value) (ns : List Int) : Hp := fun b =>
  if b = a ∧ K.lookup a = none then some (.frz { cls := .type "list", data := .seq vs.toArray } (.lst (ns.map V.int)))
  else none
theorem H0_at {K : PySem.W.Frag} {a b : Addr} {vs : List Value} {ns : List Int} {u : HO} (h : H0 K a vs ns b = some u) :
    b = a ∧ K.lookup a = none ∧ u = .frz { cls := .type "list", data := .seq vs.toArray } (.lst (ns.map V.int)) := by
  unfold H0 at h
  split at h
  · rename_i c
    exact ⟨c.1, c.2, (Option.some.inj h).symm⟩
  · cases h
theorem H0_off {K : PySem.W.Frag} {a b : Addr} {vs : List Value} {ns : List Int} (h : ¬ (b = a ∧ K.lookup a = none)) : H0 K a vs ns b = none := if_neg h
section
variable {P : Program} {w : World} {K : PySem.W.Frag} {mg mb : Str → Option Value} {k : Nat} {fa a : Addr} {fd : FuncData} {x : Str} {sp : Sp} {st : Shared}
  {vs : List Value} {ns : List Int}
theorem enter_law (guarded : callerA.guards = some []) (room : Room k callerA)
    (known : K.In st.heap)
    (globals : st.heap.Ns mainGlobals mg)
    (builtins : st.heap.Ns builtinsNs mb) (boot : ∀ y : Str, y ≠ "__name__" → mb y = bootBuiltins y)
    (free : st.heap.NoLimit) (still : st.gens = #[])
    (script : st.heap.get? a = some { cls := .type "list", data := .seq vs.toArray }) (whole : IntsAre vs ns) (few : ns.length ≤ sizeLine)
    (promise : ∀ base : Heap, FnG P w K mg base CX0 k fa fd [x] sp)
    (binds : ∀ (t : Shared) (u : Value), BindsTo t fd ⟨[u], []⟩ [(x, u)])
    (meets : ∀ H : Hp, SqL K H a (ns.map V.int) → sp [.ref a] H (fun v _ => v = .bl true) E0) :
    codeAny (model P w) callerA (.call (.ref fa) ⟨[.ref a], []⟩)
      (fun r t => r = .ok (.ret (.bool true)) ∧ OldK st.heap t.heap ∧ t.os = st.os ∧ AllBare t.gens) st := by
  have rv : Vals (ns.map V.int) vs := vals_ints whole
  have len : vs.length = ns.length := by rw [whole.length]
  -- what a namespace is, the script is not
  have apart : ∀ {b : Addr} {o : Obj} {es : Array DictEntry} {ep : Nat}, st.heap.get? b = some o → o.data = .dict es ep →
      H0 K a vs ns b = none := fun {b o es ep} e d => H0_off fun c => by
    rw [c.1, script] at e
    have e' := congrArg Obj.data (Option.some.inj e)
    rw [d] at e'
    cases e'
  have nsOf : ∀ {b : Addr} {m : Str → Option Value}, st.heap.Ns b m → (hidT st.heap (H0 K a vs ns)).Ns b m := by
    rintro b m ⟨o, es, ep, e, d, r⟩
    exact ⟨o, es, ep, hidT_get e (apart e d), d, r⟩
  have known' : K.In (hidT st.heap (H0 K a vs ns)) := fun b o e => hidT_get (known b o e) (H0_off fun c => by
    rw [c.1, c.2] at e
    cases e)
  have ok : HOk P w (H0 K a vs ns) st.heap := fun b u e => by
    obtain ⟨rfl, _, rfl⟩ := H0_at e
    refine ⟨script, ?_⟩
    exact ⟨by rw [List.length_map]; exact few, vs, _, rv, script⟩
  have seq : SqL K (H0 K a vs ns) a (ns.map V.int) := by
    cases own : K.lookup a with
    | none => exact .inl (.inr ⟨_, if_pos ⟨rfl, own⟩⟩)
    | some o =>
      have e := known a o own
      rw [script] at e
      cases e
      exact .inr ⟨_, vs.toArray, _, own, rfl, rfl, rfl, by rw [List.size_toArray, len]; exact few, by simpa using rv⟩
  have entry : Env0 P w K mg (hidT st.heap (H0 K a vs ns)) callerA [] st (H0 K a vs ns) := by
    constructor
    · rfl
    · exact ⟨known', nsOf globals, ⟨mb, nsOf builtins, boot⟩, by
        obtain ⟨mc, h1, h2⟩ := free
        exact ⟨mc, nsOf h1, h2⟩⟩
    · exact fun b o e => of_hidT e
    · exact Nat.le_of_eq (hidT_size _ _)
    · trivial
    · intro b hb
      cases hb
    · exact ok
    · exact .of_eq still
  have run := (promise (hidT st.heap (H0 K a vs ns))).run callerA [] st (H0 K a vs ns) ⟨[.ref a], []⟩ [.ref a] [.ref a] _ E0
    room guarded entry (binds st (.ref a)) (.cons rfl .nil) (meets _ seq)
  refine codeAny_mono run ?_
  intro r t h
  match r, h with
  | .error e, h => exact h.elim
  | .ok .next, h => exact h.elim
  | .ok .brk, h => exact h.elim
  | .ok .cont, h => exact h.elim
  | .ok (.ret u), h =>
    obtain ⟨v, H', os, bare, un, hok', rel, q⟩ := h
    have q' : v = .bl true := q
    subst q'
    obtain rfl : u = Value.bool true := rel
    refine ⟨rfl, OldK.of_keep ?_, os, bare⟩
    intro b o e
    cases tracked : H0 K a vs ns b with
    | none =>
      refine un.keep b o e tracked ?_ ?_
      · intro z
        cases z
      · simp
    | some u =>
      obtain ⟨_, _, rfl⟩ := H0_at tracked
      have later := (hok' b _ (un.frzs b _ _ tracked)).1
      have before := (ok b _ tracked).1
      rw [e] at before
      cases before
      exact later
end
end PL

/-! is None, x in a list or a tuple of data -/
namespace PL
open PySem PySem.Spec PyProof.Rows L2
section
variable {C : Cp}
def isNon : D → Bool
  | .none => true
  | _ => false
/-- x is None (neg: x is not None) -/
def oIsN (neg : Bool) : O2 := fun x y q => y = .dat .none ∧ ∃ d, x.data = some d ∧ q (.dat (.bool (if neg then !isNon d else isNon d)))
theorem SV.isNon {F : Option Fd} {H0 H Z : Hp} {x : V} {s : S} {d : D} (h : SV F H0 H Z x s) (fd : FeedOk F H) (e : s.data = some d) : decide (x = .non) = PL.isNon d := by
  cases s with
  | dat d' =>
    cases e
    cases (show Dq Z x d from h) <;> rfl
  | own ds =>
    cases e
    obtain ⟨a, vs, e1, _⟩ := h
    rw [e1]; rfl
  | feed cs => cases e
  | odK es => cases e
  | odT es => cases e
  | raw u => cases e
  | ro ds =>
    cases e
    obtain ⟨y, e1, e2⟩ := h
    obtain ⟨a, vs, e3, _⟩ := y.reads H x _ (fd y e1) e2
    rw [e3]; rfl
theorem o_isN : Op C (compareOp .Is) (oIsN false) := by
  intro pins s σ H x y v u Q I rx ry ⟨Z, s1, s2, q, a, sv1, sv2, e, d, e1, hq⟩
  subst e
  cases (show Dq Z y .none from sv2)
  refine op_isN pins s σ H x _ v u Q I rx ry ⟨rfl, ?_⟩
  rw [sv1.isNon a.fd e1]
  exact a.ret (s := .dat (.bool _)) (Dq.bl _) hq
theorem o_notN : Op C (compareOp .IsNot) (oIsN true) := by
  intro pins s σ H x y v u Q I rx ry ⟨Z, s1, s2, q, a, sv1, sv2, e, d, e1, hq⟩
  subst e
  cases (show Dq Z y .none from sv2)
  refine op_notN pins s σ H x _ v u Q I rx ry ⟨rfl, ?_⟩
  rw [sv1.isNon a.fd e1]
  exact a.ret (s := .dat (.bool _)) (Dq.bl _) hq
/-- x in a list or a tuple -/
def oIn (neg : Bool) : O2 := fun x y q => ∃ d ds, x.data = some d ∧ (y = .dat (.list ds) ∨ y = .dat (.tuple ds) ∨ y = .own ds) ∧ SeqAt.shaped d = true ∧ SeqAt.shaped (.list ds) = true ∧ q (.dat (.bool (if neg then !ds.any fun z => PyData.eqv z d else ds.any fun z => PyData.eqv z d)))
theorem o_in (hu : C.X.A.units + 65 < cLine) : Op C (compareOp .In) (oIn false) := by
  intro pins s σ H x y v u Q I rx ry ⟨Z, s1, s2, q, a, sv1, sv2, d, ds, e1, e2, h1, h2, hq⟩
  have fin : Q (.bl _) H := a.ret (s := .dat (.bool _)) (Dq.bl _) hq
  have dx := sv1.dp (K := C.X.K) a.fr.zh a.fd e1 h1
  rcases e2 with rfl | rfl | rfl
  · exact op_inD hu pins s σ H x y v u Q I rx ry ⟨d, ds, dx, sv2.dp a.fr.zh a.fd rfl h2, h1, h2, fin⟩
  · obtain ⟨as, r1⟩ := Dp.reads I d x v dx rx
    obtain ⟨bs, r2⟩ := Dp.reads I (.tuple ds) y u (sv2.dp a.fr.zh a.fd rfl h2) ry
    exact SeqAt.in_tuple_reads r2 r1 (SeqAt.canLay_of_shaped h2) (SeqAt.canLay_of_shaped h1) (room_in_shaped h1 hu) ⟨.bl _, H, I, rfl, fin⟩
  · exact op_inD hu pins s σ H x y v u Q I rx ry ⟨d, ds, dx, sv2.dp a.fr.zh a.fd rfl h2, h1, h2, fin⟩
theorem o_notIn (hu : C.X.A.units + 65 < cLine) : Op C (compareOp .NotIn) (oIn true) := by
  intro pins s σ H x y v u Q I rx ry ⟨Z, s1, s2, q, a, sv1, sv2, d, ds, e1, e2, h1, h2, hq⟩
  have fin : Q (.bl _) H := a.ret (s := .dat (.bool _)) (Dq.bl _) hq
  have dx := sv1.dp (K := C.X.K) a.fr.zh a.fd e1 h1
  rcases e2 with rfl | rfl | rfl
  · exact op_notInD hu pins s σ H x y v u Q I rx ry ⟨d, ds, dx, sv2.dp a.fr.zh a.fd rfl h2, h1, h2, fin⟩
  · obtain ⟨as, r1⟩ := Dp.reads I d x v dx rx
    obtain ⟨bs, r2⟩ := Dp.reads I (.tuple ds) y u (sv2.dp a.fr.zh a.fd rfl h2) ry
    exact SeqAt.notIn_tuple_reads r2 r1 (SeqAt.canLay_of_shaped h2) (SeqAt.canLay_of_shaped h1) (room_in_shaped h1 hu) ⟨.bl _, H, I, rfl, fin⟩
  · exact op_notInD hu pins s σ H x y v u Q I rx ry ⟨d, ds, dx, sv2.dp a.fr.zh a.fd rfl h2, h1, h2, fin⟩
end
end PL

/-! pairs of texts: a <= b -/
namespace PL
open PySem PySem.Spec PyProof.Rows L2
/-- the pair (a, b) is at most (c, d) -/
def pairLe (a b c d : Str) : Bool := if a = c then (if b = d then true else !strLt d b) else !strLt c a
section
variable {C : Cp}
def oLe2 : O2
  | .dat (.tuple [.str a, .str b]), .dat (.tuple [.str c, .str d]), q => q (.dat (.bool (pairLe a b c d)))
  | _, _, _ => False
theorem oLe2_to {s1 s2 : S} {q : S → Prop} (h : oLe2 s1 s2 q) : ∃ a b c d, s1 = .dat (.tuple [.str a, .str b]) ∧ s2 = .dat (.tuple [.str c, .str d]) ∧ q (.dat (.bool (pairLe a b c d))) := by
  unfold oLe2 at h
  split at h
  · exact ⟨_, _, _, _, rfl, rfl, h⟩
  · exact h.elim
theorem RcLeStr {A : Around} {s : Shared} (a b : Str) (t u : Tok) : Ob.RcOp .LtE A s (.str a t) (.str b u) (!strLt b a) := fun prog w E Q h => by
  have := PySem.P.le_str (prog := prog) (w := w) (A := A) (E := E) (s := s) (x := a) (y := b) (t := t) (u := u) (Q := Q) h
  exact this
theorem pair_of {Z : Hp} {vs : List V} {a b : Str} (h : Dqs Z vs [.str a, .str b]) : vs = [.str a, .str b] := by
  have := dps_strs' [a, b] h
  exact this
theorem o_le2 (hu : C.X.A.units < cLine) : Op C (compareOp .LtE) oLe2 := by
  intro pins s σ H x y v u Q I rx ry ⟨Z, s1, s2, q, a, sv1, sv2, ho⟩
  obtain ⟨m, n, k, l, rfl, rfl, hq⟩ := oLe2_to ho
  cases (show Dq Z x (.tuple [.str m, .str n]) from sv1) with
  | @tup pa va _ h1 h2 =>
  cases (show Dq Z y (.tuple [.str k, .str l]) from sv2) with
  | @tup pb vb _ h3 h4 =>
  rw [pair_of h2] at h1
  rw [pair_of h4] at h3
  cases rx
  cases ry
  obtain ⟨its, r1, p1, _⟩ := I.tuple (SqT.of (a.fr.zh _ _ h1))
  obtain ⟨its2, r2, p2, _⟩ := I.tuple (SqT.of (a.fr.zh _ _ h3))
  obtain ⟨x1, x2, e1⟩ : ∃ x1 x2, its = [.str m x1, .str n x2] := by
    cases r1 with
    | cons y1 r1 =>
      cases r1 with
      | cons y2 r1 =>
        cases r1
        obtain ⟨t1, rfl⟩ := y1
        obtain ⟨t2, rfl⟩ := y2
        exact ⟨_, _, rfl⟩
  obtain ⟨x3, x4, e2⟩ : ∃ x1 x2, its2 = [.str k x1, .str l x2] := by
    cases r2 with
    | cons y1 r1 =>
      cases r1 with
      | cons y2 r1 =>
        cases r1
        obtain ⟨t1, rfl⟩ := y1
        obtain ⟨t2, rfl⟩ := y2
        exact ⟨_, _, rfl⟩
  subst e1
  subst e2
  have R := Ob.RcOp.tuples_le (A := C.X.A) (s := s) (e := fun j => if j = 0 then m == k else n == l) (r := fun j => if j = 0 then !strLt k m else !strLt l n) p1 p2 hu (fun j g1 g2 => by
    match j, g1, g2 with
    | 0, _, _ => exact SeqAt.EqAt.str_str _ _ _ _
    | 1, _, _ => exact SeqAt.EqAt.str_str _ _ _ _) (fun j g1 g2 _ => by
    match j, g1, g2 with
    | 0, _, _ => exact RcLeStr _ _ _ _
    | 1, _, _ => exact RcLeStr _ _ _ _)
  have e : pairLe m n k l = Ob.lexAt (fun j => if j = 0 then m == k else n == l) (fun j => if j = 0 then !strLt k m else !strLt l n) (decide ((#[Value.str m x1, Value.str n x2] : Array Value).size ≤ (#[Value.str k x3, Value.str l x4] : Array Value).size)) 0 (min 2 2) := by
    show _ = Ob.lexAt _ _ _ 0 2
    rw [Ob.lexAt_succ, Ob.lexAt_succ, Ob.lexAt_zero]
    unfold pairLe
    by_cases h1 : m = k <;> by_cases h2 : n = l <;> simp [h1, h2]
  rw [e] at hq
  exact R C.X.prog C.X.w C.X.xe _ (a.ret (s := .dat (.bool _)) (Dq.bl _) hq |> fun fin => ⟨.bl _, H, I, rfl, fin⟩)
end
end PL

/-! enumerate(a tuple) -/
namespace PL
open PySem PySem.Spec PyProof.Rows L2
theorem new_enum {v : Value} {o : Obj} {H : Heap → Prop} (B : Begins v o H) :
    Meets (Builtin.«enumerate.__new__» ⟨[.type "enumerate", v], []⟩) (fun _ R s => H s.heap ∧
      R (.ok (.ret (.ref (s.heap.objs.size + 1)))) { s with heap := (s.heap.push o).push { cls := .type "enumerate", data := .fields #[.none, .bool false, .ref s.heap.objs.size, rawInt 0, .none, .none] } }) :=
  .of_wp fun prog w A R s h => by
    obtain ⟨hh, g, d, tk, os⟩ := s
    obtain ⟨h1, h2⟩ := h
    have hz : (hh.push o).objs.size = hh.objs.size + 1 := Heap.size_push ..
    have it : ∀ (A : Around) (E : Value → Shared → Prop) (Q : Value → Shared → Prop), Q (.ref hh.objs.size) ⟨hh.push o, g, d, tk, os⟩ → wpAny (model prog w) A (pyIter v) Q E ⟨hh, g, d, tk, os⟩ := fun A E Q q => B.iter prog w A E _ Q h1 q
    have hsub := sub_enumerate
    wp_walk
    refine wpAny_stack_any fun st => wpAny_pure ?_
    split
    · rename_i c _ _ _ _ _
      cases (c == Value.type "enumerate")
      · wp_walk using it
        rw [hz]
        exact ⟨_, rfl, h2⟩
      · wp_walk using it
        rw [hz]
        exact ⟨_, rfl, h2⟩
    · wp_walk using it
      rw [hz]
      exact ⟨_, rfl, h2⟩
section
variable {prog : Program} {w : World} {A : Around} {E : Value → Shared → Prop} {s : Shared}
theorem call_enum1 {v : Value} {o : Obj} {H : Heap → Prop} {Q : Value → Shared → Prop} (B : Begins v o H) (h1 : H s.heap)
    (h : ∀ h', IsEnum h' (s.heap.objs.size + 1) s.heap.objs.size 0 .none → h'.get? s.heap.objs.size = some o → (∀ b u, s.heap.get? b = some u → h'.get? b = some u) → Q (.ref (s.heap.objs.size + 1)) { s with heap := h' }) :
    wpAny (model prog w) A (call (.type "enumerate") [v]) Q E s := by
  have hz : (s.heap.push o).objs.size = s.heap.objs.size + 1 := Heap.size_push ..
  have at1 := Heap.get?_push_size (s.heap.push o) (o := { cls := .type "enumerate", data := .fields #[.none, .bool false, .ref s.heap.objs.size, rawInt 0, .none, .none] }) rfl
  rw [hz] at at1
  refine callType_new F.called_enumerate (by decide) (F.typeCall_enumerate_1 _) (F.newCall_enumerate_1 _) (fun obj => F.args_object_init_2 obj _) F.entry_enumerate_new (new_enum B) ⟨h1, ?_⟩
  exact ⟨⟨_, at1, rfl⟩, h _ at1 (Heap.get?_push_of_some _ (Heap.get?_push_size _ B.free)) fun b u x => Heap.get?_push_of_some _ (Heap.get?_push_of_some _ x)⟩
end
/-- (index, item) of the tuple at a -/
def IteT (K : PySem.W.Frag) (a : Addr) : It where
  go := fun i H => ∃ (xs : List V) (x : V), SqT K H a xs ∧ xs[i]? = some x
  yld := fun i H v H' => ∃ T x, v = .ref T ∧ H T = none ∧ H' = upd H T (.tup [.int (i : Nat), x]) ∧ ∀ xs, SqT K H a xs → xs[i]? = some x
  stop := fun i H => ∃ xs : List V, SqT K H a xs ∧ xs.length = i
theorem turn_enumT {P : Program} {w : World} {K : PySem.W.Frag} {elts : List Expr} {kk : Nat} {tpos : Pos} (a e it : Addr) :
    Turn P w K (.Tuple elts kk tpos) (IteT K a) [e, it] e (fun i h => (∃ old, IsEnum h e it ((i : Nat) : Int) old) ∧ h.IsTupleIter it a i ∧ e ≠ it ∧ a ≠ it ∧ e ≠ a) where
  mem := by simp
  obj := fun i h st b hb => by
    obtain ⟨⟨old, he⟩, ⟨o, ho, hc, hd⟩, _⟩ := st
    have e' : b = e ∨ b = it := by simpa using hb
    rcases e' with rfl | rfl
    · exact ⟨_, he, fun v q => nomatch q⟩
    · exact ⟨o, ho, fun v q => by rw [hd] at q; cases q⟩
  keep := fun i h h' st k => by
    obtain ⟨⟨old, he⟩, hi, r⟩ := st
    exact ⟨⟨old, k e (by simp) _ he⟩, hi.at fun o q => k it (by simp) o q, r⟩
  item := by
    intro X hP hw hK hc i pins s σ H E I hf st hg
    subst hP hw hK
    obtain ⟨⟨old, he⟩, hit, hne, hai, hea⟩ := st
    obtain ⟨xs, x, hq, hx⟩ := hg
    obtain ⟨its, rv, p, hz⟩ := I.tuple hq
    obtain ⟨u, hu, ru⟩ := rv.get hx
    have hel : e < s.heap.objs.size := Heap.lt_size he
    have hil : it < s.heap.objs.size := by
      obtain ⟨_, q, _⟩ := hit
      exact Heap.lt_size q
    have D := Draws.tuple (prog := X.prog) (w := X.w) (A := X.A.in1) (show X.A.in1.handled = none from I.ok.hd hc) it a hai its.toArray
    have hlt : i < its.toArray.size := by
      have := (List.getElem?_eq_some_iff.mp hu).1
      simpa using this
    refine wpAny_pyNext_enum_itemD D he ⟨hit, p⟩ hlt hne (by simp [hne, hea]) fun x' h' tk px ho st' hT hsz hk => ?_
    have ex : x' = u := by
      have : its[i]? = some x' := by simpa using px
      rw [hu] at this
      cases this; rfl
    subst ex
    refine ⟨_, rfl, wpAny_letOwnedTupleGo_enum (s := { s with heap := h', toks := tk + 1 }) ho fun h'' he' sb => ?_⟩
    have hT2 : h''.get? s.heap.objs.size = some { cls := .type "tuple", data := .seq #[.int i tk, x'] } := (sb.2 _ (Nat.ne_of_gt hel)).trans hT
    have new : ObjOk X.prog X.w (upd H s.heap.objs.size (.tup [.int (i : Nat), x])) h'' s.heap.objs.size (.tup [.int (i : Nat), x]) :=
      ⟨by show 2 ≤ sizeLine; decide, [.int i tk, x'], .cons ⟨_, rfl⟩ (.cons ru .nil), ⟨_, hT2, rfl, _, rfl⟩⟩
    have I1 : Inv X pins σ (upd H s.heap.objs.size (.tup [.int (i : Nat), x])) { s with heap := h'', toks := tk + 1 } :=
      I.turnedNew (ch := [e, it]) (fun b ob hb q => (sb.2 b (fun z => hb (by simp [z]))).trans (hk b ob (fun z => hb (by simp [z])) (fun z => hb (by simp [z])) q)) hf (Nat.le_refl _) new
    refine ⟨.ref s.heap.objs.size, _, I1, rfl, ⟨_, x, rfl, I.hok.fresh (Nat.le_refl _), rfl, fun ys hy => ?_⟩, ⟨⟨x', ?_⟩, st'.1.at fun o q => (sb.2 it (Ne.symm hne)).trans q, hne, hai, hea⟩, fun b hb => ?_⟩
    · rw [I.tuple_inj hy hq]; exact hx
    · have e1 : ((i + 1 : Nat) : Int) = (i : Int) + 1 := by omega
      rw [e1]; exact he'
    · have hb' : b < s.heap.objs.size := by
        have e' : b = e ∨ b = it := by simpa using hb
        rcases e' with rfl | rfl
        · exact hel
        · exact hil
      rw [upd_ne (Nat.ne_of_lt hb')]
      exact (hf b hb).1
  done := by
    intro X hP hw hK hc i pins s σ H E I hf st hg
    subst hP hw hK
    obtain ⟨⟨old, he⟩, hit, hne, hai, hea⟩ := st
    obtain ⟨xs, hq, hx⟩ := hg
    obtain ⟨its, rv, p, hz⟩ := I.tuple hq
    obtain ⟨f0, f1, f2, f3, f4, f5⟩ := hf it (by simp)
    have hl := rv.length
    have D := Draws.tuple (prog := X.prog) (w := X.w) (A := X.A.in1) (show X.A.in1.handled = none from I.ok.hd hc) it a hai its.toArray
    have en : i = its.toArray.size := by rw [List.size_toArray]; omega
    subst en
    exact wpAny_pyNext_enum_endD D he ⟨hit, p⟩ fun h' eb => ⟨rfl, I.turned (t' := s.toks) (fun b o hb q => eb b o hb q) f0 f1 f3 f4 f5⟩
  self := fun A i s Q E st h => by
    obtain ⟨⟨_, he⟩, _⟩ := st
    exact wpAny_pyIter_enum he h
def pairsD (ds : List D) : List D := (List.range ds.length).map fun (k : Nat) => PyData.tuple [.int (k : Int), ds.getD k .none]
theorem yields_enumT {K : PySem.W.Frag} {Z : Hp} {a : Addr} {vs : List V} {ds : List D} (h : Z a = some (.tup vs)) (dv : Dqs Z vs ds) : Yields K (IteT K a) Z (pairsD ds) := by
  have l := dps_len dv
  have ln : (pairsD ds).length = ds.length := by simp [pairsD]
  refine ⟨fun i H zh hi => ⟨vs, vs[i]'(by omega), SqT.of (zh _ _ h), List.getElem?_eq_getElem _⟩, fun H zh => ⟨vs, SqT.of (zh _ _ h), by omega⟩, fun F i x H H' Zc hi zz f fd ⟨T, y, e1, nT, e2, hy⟩ => ?_⟩
  subst e1
  subst e2
  have hz : (Zc a) = some (.tup vs) := zz _ _ h
  have gy := hy vs (SqT.of (f.zh _ _ hz))
  have hi' : i < ds.length := by omega
  obtain ⟨d, hd, dq⟩ : ∃ d, ds[i]? = some d ∧ Dq Zc y d := by
    obtain ⟨v, e, q⟩ := dps_get (dps_mono zz _ _ dv) (List.getElem?_eq_getElem hi')
    rw [gy] at e
    cases e
    exact ⟨_, List.getElem?_eq_getElem hi', q⟩
  refine ⟨upd Zc T (.tup [.int (i : Nat), y]), .tuple [.int (i : Int), d], Fr.made f fd nT, fd.made nT, ?_, Dq.tup upd_same (.cons (Dq.int _) (.cons (dp_mono (Same.made ?_) _ _ dq) .nil))⟩
  · unfold pairsD
    rw [List.getElem?_map, List.getElem?_range hi', Option.map_some]
    rw [List.getD_eq_getElem?_getD, hd]
    rfl
  · cases q : Zc T with
    | none => rfl
    | some o => rw [f.zh _ _ q] at nT; cases nT
section
variable {C : Cp}
/-- over enumerate(a tuple) -/
def wEnum (w : W) : WI := fun ρ q e => w ρ (fun s => ∃ ds, s = .dat (.tuple ds) ∧ q (pairsD ds)) e
theorem i_enumT {elts : List Expr} {kk : Nat} {tpos p pos : Pos} {a : Expr} {w : W} (hg : Gl C.X "enumerate") (hm : C.X.mg "enumerate" = none) (ha : E C a w) (hs : starEach [a] C.X.env = (false, eval a C.X.env) :: starEach [] C.X.env := by rfl)
    (hs1 : starEach [a] C.X.env = [(false, eval a C.X.env)] := by rfl) : Iter C (.Tuple elts kk tpos) (.Call (.Name "enumerate" p) [a] [] pos) (wEnum w) := by
  constructor
  intro pins s σ H R I ⟨Z, ρ, q, ex, st, hw, k, ke⟩
  refine Call_ (ld_blt I hg hm boot_enumerate (PyProof.Rows.callWith_type1 (thn ((pa_cons ha pa_nil hs).run pos pins s σ H (fun vs H1 => ∃ x Z1 ds, vs = [x] ∧ Fr C.F H Z H1 Z1 ∧ FeedOk C.F H1 ∧ Dq Z1 x (.tuple ds) ∧ q (pairsD ds)) I ?_) fun us s1 ⟨vs, H1, I1, r1, q1⟩ => ?_) hs1 rfl))
  · exact ⟨Z, ρ, _, ex, st, hw, fun s x H1 Z1 f fd sv ⟨ds, e, hq⟩ => by subst e; exact ⟨x, Z1, ds, rfl, f, fd, sv, hq⟩, ke⟩
  · obtain ⟨x, Z1, ds, ev, f, fd, dq, hq⟩ := q1
    subst ev
    cases dq with
    | @tup b vs _ h1 h2 =>
    cases r1 with
    | cons r rr =>
      cases rr
      cases r
      obtain ⟨its, rv, p', hz⟩ := I1.tuple (SqT.of (f.zh _ _ h1))
      refine call_enum1 (begins_tuple b its.toArray) p' fun h' he hit hk => wpAny_pyIter_enum he ?_
      have I2 : Inv C.X pins σ H1 { s1 with heap := h' } := I1.kept (t' := s1.toks) hk
      have bl : b < s1.heap.objs.size := by
        obtain ⟨o, ho, _⟩ := p'
        exact Heap.lt_size ho
      refine ⟨s1.heap.objs.size + 1, [s1.heap.objs.size + 1, s1.heap.objs.size], _, _, H1, rfl, I2, turn_enumT b (s1.heap.objs.size + 1) s1.heap.objs.size, ⟨⟨.none, he⟩, ⟨_, hit, rfl, rfl⟩, Nat.succ_ne_self _, Nat.ne_of_lt bl, Nat.ne_of_gt (Nat.lt_succ_of_lt bl)⟩, fun c hc => ?_, k _ _ H1 Z1 f fd (yields_enumT h1 h2) hq⟩
      have e' : c = s1.heap.objs.size + 1 ∨ c = s1.heap.objs.size := by simpa using hc
      have hle : s1.heap.objs.size ≤ c := by
        rcases e' with z | z <;> rw [z]
        · exact Nat.le_succ _
        · exact Nat.le_refl _
      exact I1.fpOk hle (I1.hok.fresh hle)
end
end PL

/-! plain meanings as functions: what an expression, a statement, a def gives -/
namespace PL
open PySem PySem.Spec PyProof.Rows L2

/-- a result: a value, an exception, or nothing known -/
abbrev R (α : Type) := Option (Except Xn α)
def ok {α : Type} (a : α) : R α := some (.ok a)
def rbind {α β : Type} (m : R α) (f : α → R β) : R β := match m with
  | some (.ok a) => f a
  | some (.error e) => some (.error e)
  | none => none
def ofR {α : Type} (r : R α) (q : α → Prop) (e : Xn → Prop) : Prop := match r with
  | some (.ok a) => q a
  | some (.error x) => e x
  | none => False
def opt {α : Type} (o : Option α) : R α := match o with
  | some a => some (.ok a)
  | none => none
def guard' {α : Type} (c : Bool) (r : R α) : R α := match c with
  | true => r
  | false => none
section
variable {α β : Type} {m : R α} {f : α → R β} {q : β → Prop} {e : Xn → Prop}
@[simp] theorem rbind_ok (a : α) : rbind (ok a) f = f a := rfl
@[simp] theorem rbind_ok' (a : α) : rbind (some (.ok a)) f = f a := rfl
@[simp] theorem rbind_err (x : Xn) : rbind (some (.error x)) f = some (.error x) := rfl
@[simp] theorem rbind_none : rbind none f = none := rfl
@[simp] theorem guard_true (r : R α) : guard' true r = r := rfl
@[simp] theorem guard_false (r : R α) : guard' false r = none := rfl
@[simp] theorem opt_some (a : α) : opt (some a) = ok a := rfl
@[simp] theorem opt_none : opt (none : Option α) = none := rfl
theorem ofR_bind : ofR (rbind m f) q e → ofR m (fun a => ofR (f a) q e) e := by
  cases m with
  | none => exact fun h => h
  | some r => cases r <;> exact fun h => h
theorem ofR_mono {m : R β} {q' : β → Prop} {e' : Xn → Prop} (h : ofR m q e) (hq : ∀ a, q a → q' a) (he : ∀ x, e x → e' x) : ofR m q' e' := by
  cases m with
  | none => exact h
  | some r =>
    cases r with
    | ok a => exact hq a h
    | error x => exact he x h
theorem ofR_q {m : R β} {q' : β → Prop} (h : ofR m q e) (hq : ∀ a, q a → q' a) : ofR m q' e := ofR_mono h hq fun _ h => h
theorem ofR_opt {o : Option β} (h : ofR (opt o) q e) : ∃ a, o = some a ∧ q a := by
  cases o with
  | none => exact h.elim
  | some a => exact ⟨a, rfl, h⟩
theorem ofR_guard {c : Bool} {r : R β} (h : ofR (guard' c r) q e) : c = true ∧ ofR r q e := by
  cases c with
  | false => exact h.elim
  | true => exact ⟨rfl, h⟩
end
/-- meanings -/
abbrev X := Env' → R S
abbrev XB := Env' → R Bool
abbrev XA := Env' → R (List S)
abbrev XI := Env' → R (List D)
abbrev XN := Env' → R (List D)
inductive Fl where
  | nx (ρ : Env')
  | rt (s : S)
  | bk (ρ : Env')
  | ct (ρ : Env')
abbrev XS := Env' → R Fl
def ofX (x : X) : W := fun ρ q e => ofR (x ρ) q e
def ofB (x : XB) : WB := fun ρ q e => ofR (x ρ) q e
def ofA (x : XA) : WA := fun ρ q e => ofR (x ρ) q e
def ofI (x : XI) : WI := fun ρ q e => ofR (x ρ) q e
def ofN (x : XN) : WL := fun ρ q e => ofR (x ρ) q e
def goFl (P : Po) : Fl → Prop
  | .nx ρ => P.nx ρ
  | .rt s => P.rt s
  | .bk ρ => P.bk ρ
  | .ct ρ => P.ct ρ
def ofS (x : XS) : WS := fun P ρ => ofR (x ρ) (goFl P) P.ex

section
variable {C : Cp} {a b c : Expr} {xa xb xc : X} {pos : Pos}
/-! ### weaker meanings -/
theorem e_weak {w w' : W} (h : E C a w) (k : ∀ ρ q e, w' ρ q e → w ρ q e) : E C a w' := weakE h fun σ H Q ⟨Z, ρ, q, ex, st, hw, kt, ke⟩ => ⟨Z, ρ, q, ex, st, k _ _ _ hw, kt, ke⟩
theorem t_weak {w w' : WB} (h : T C a w) (k : ∀ ρ q e, w' ρ q e → w ρ q e) : T C a w' := weakT h fun σ H Q ⟨Z, ρ, q, ex, st, hw, kt, ke⟩ => ⟨Z, ρ, q, ex, st, k _ _ _ hw, kt, ke⟩
theorem tw_weak {w w' : WB} (h : TW C a w) (k : ∀ ρ q e, w' ρ q e → w ρ q e) : TW C a w' := weakW h fun σ H Q ⟨Z, ρ, q, ex, st, hw, kt, ke⟩ => ⟨Z, ρ, q, ex, st, k _ _ _ hw, kt, ke⟩
theorem a_weak {es : List Expr} {w w' : WA} (h : A C es w) (k : ∀ ρ q e, w' ρ q e → w ρ q e) : A C es w' := weakA h fun σ H Q ⟨Z, ρ, q, ex, st, hw, kt, ke⟩ => ⟨Z, ρ, q, ex, st, k _ _ _ hw, kt, ke⟩
theorem n_weak {w w' : WL} (h : N C a w) (k : ∀ ρ q e, w' ρ q e → w ρ q e) : N C a w' := weakE h fun σ H Q ⟨Z, ρ, q, ex, st, hw, kt, ke⟩ => ⟨Z, ρ, q, ex, st, k _ _ _ hw, kt, ke⟩
theorem i_weak {tg : Expr} {w w' : WI} (h : Iter C tg a w) (k : ∀ ρ q e, w' ρ q e → w ρ q e) : Iter C tg a w' := weakI h fun σ H Q ⟨Z, ρ, q, ex, st, hw, kt, ke⟩ => ⟨Z, ρ, q, ex, st, k _ _ _ hw, kt, ke⟩
theorem s_weak {s : Stmt} {w w' : WS} (h : St1 C s w) (k : ∀ P ρ, w' P ρ → w P ρ) : St1 C s w' := weakS h fun D σ H ⟨Z, ρ, P, st, hw, d⟩ => ⟨Z, ρ, P, st, k _ _ hw, d⟩
theorem ss_weak {s : List Stmt} {w w' : WS} (h : Sts C s w) (k : ∀ P ρ, w' P ρ → w P ρ) : Sts C s w' := weakSs h fun D σ H ⟨Z, ρ, P, st, hw, d⟩ => ⟨Z, ρ, P, st, k _ _ hw, d⟩

/-! ### names, constants, arguments -/
def xVar (i : Nat) : X := fun ρ => match ρ[i]? with
  | some (some s) => ok s
  | _ => none
def xD (d : D) : X := fun _ => ok (.dat d)
theorem x_var (i : Nat) {x : Str} (h : PE C.X (.Name x pos) (tVar i)) : E C (.Name x pos) (ofX (xVar i)) := e_weak (e_var i h) fun ρ q e h => by
  unfold ofX xVar at h
  split at h
  · rename_i s hs; exact ⟨s, hs, h⟩
  · exact h.elim
theorem x_int {i j} : E C (.Constant (.int i) j pos) (ofX (xD (.int i))) := e_weak e_int fun ρ q e h => h
theorem x_bl {i j} : E C (.Constant (.bool i) j pos) (ofX (xD (.bool i))) := e_weak e_bl fun ρ q e h => h
theorem x_str {i j} : E C (.Constant (.str i) j pos) (ofX (xD (.str i))) := e_weak e_str fun ρ q e h => h
theorem x_non {j} : E C (.Constant .none j pos) (ofX (xD .none)) := e_weak e_non fun ρ q e h => h
def xNil : XA := fun _ => ok []
def xCons (a : X) (r : XA) : XA := fun ρ => rbind (a ρ) fun s => rbind (r ρ) fun ss => ok (s :: ss)
theorem xa_nil : A C [] (ofA xNil) := a_weak a_nil fun ρ q e h => h
theorem xa_cons {e : Expr} {es : List Expr} {a : X} {r : XA} (ha : E C e (ofX a)) (hr : A C es (ofA r)) (hs : starEach (e :: es) C.X.env = (false, eval e C.X.env) :: starEach es C.X.env := by rfl) : A C (e :: es) (ofA (xCons a r)) :=
  a_weak (a_cons ha hr hs) fun ρ q e h => ofR_q (ofR_bind h) fun s h => ofR_q (ofR_bind h) fun ss h => h
/-! ### operations -/
def xBin (p : S → S → Option S) (a b : X) : X := fun ρ => rbind (a ρ) fun x => rbind (b ρ) fun y => opt (p x y)
def Fits (o : O2) (p : S → S → Option S) : Prop := ∀ x y q s, p x y = some s → q s → o x y q
theorem w2_of {o : O2} {p : S → S → Option S} (hp : Fits o p) (ρ : Env') (q : S → Prop) (e : Xn → Prop) (h : ofX (xBin p xa xb) ρ q e) : w2 o (ofX xa) (ofX xb) ρ q e :=
  ofR_q (ofR_bind h) fun x h => ofR_q (ofR_bind h) fun y h => let ⟨s, e1, h1⟩ := ofR_opt h; hp x y q s e1 h1
theorem x_bin {op : Operator} {o : O2} {p : S → S → Option S} (ho : Op C (binaryOp op) o) (hp : Fits o p) (ha : E C a (ofX xa)) (hb : E C b (ofX xb)) : E C (.BinOp a op b pos) (ofX (xBin p xa xb)) :=
  e_weak (e_op ho ha hb) (w2_of hp)
theorem x_cmp {op : CmpOp} {o : O2} {p : S → S → Option S} (ho : Op C (compareOp op) o) (hp : Fits o p) (ha : E C a (ofX xa)) (hb : E C b (ofX xb)) (hm : behindInMarks op b = false) : E C (.Compare a [op] [b] pos) (ofX (xBin p xa xb)) :=
  e_weak (e_cmp ho ha hb hm) (w2_of hp)
/-- a value that has to be a bool -/
def asB (r : R S) : R Bool := rbind r fun s => match s with
  | .dat (.bool b) => ok b
  | _ => none
def xT (x : X) : XB := fun ρ => asB (x ρ)
theorem asB_of {r : R S} {q : Bool → Prop} {e : Xn → Prop} (h : ofR (asB r) q e) : ofR r (fun s => ∃ b, s = .dat (.bool b) ∧ q b) e := ofR_q (ofR_bind h) fun s h => by
  split at h
  · exact ⟨_, rfl, h⟩
  · exact h.elim
theorem xt_cmp {op : CmpOp} {o : O2} {p : S → S → Option S} (ho : Op C (compareOp op) o) (hp : Fits o p) (ha : E C a (ofX xa)) (hb : E C b (ofX xb)) (hm : behindInMarks op b = false) : T C (.Compare a [op] [b] pos) (ofB (xT (xBin p xa xb))) :=
  t_weak (t_cmp ho ha hb hm) fun ρ q e h => w2_of hp ρ _ e (asB_of h)
def pTru : S → Option Bool
  | .dat .none => some false
  | .dat (.bool b) => some b
  | .dat (.int i) => some (i != 0)
  | .dat (.str z) => if z.length ≤ sizeLine then some ((z.length : Int) != 0) else none
  | .dat (.list xs) => some (!xs.isEmpty)
  | .dat (.tuple xs) => some (!xs.isEmpty)
  | .own xs => some (!xs.isEmpty)
  | _ => none
def xTru (x : X) : XB := fun ρ => rbind (x ρ) fun s => opt (pTru s)
theorem xt_tru {e : Expr} {x : X} (h : E C e (ofX x)) (he : ∀ whole, isTrue e C.X.env whole = (do let v ← whole; standAt e.pos; holding [v] (truthy v)) := by intro _; rfl) : T C e (ofB (xTru x)) :=
  t_weak (t_tru h he) fun ρ q e h => ofR_q (ofR_bind h) fun s h => by
    obtain ⟨b, e1, hq⟩ := ofR_opt h
    unfold pTru at e1
    unfold tru
    split at e1 <;> first | (cases e1; done) | (cases e1; exact hq) | skip
    · split at e1
      · rename_i hz; cases e1; exact ⟨hz, hq⟩
      · cases e1
def xNotB (t : XB) : XB := fun ρ => rbind (t ρ) fun b => ok (!b)
def xAndB (t u : XB) : XB := fun ρ => rbind (t ρ) fun b => match b with
  | true => u ρ
  | false => ok false
def xOrB (t u : XB) : XB := fun ρ => rbind (t ρ) fun b => match b with
  | true => ok true
  | false => u ρ
variable {ta tb : XB} {rest : List Expr}
theorem xt_not (h : T C a (ofB ta)) : T C (.UnaryOp .Not a pos) (ofB (xNotB ta)) := t_weak (t_not h) fun ρ q e h => ofR_bind h
theorem xw_and1 (h : T C a (ofB ta)) : TW C (.BoolOp .And [a] pos) (ofB ta) := tw_and1 h
theorem xw_or1 (h : T C a (ofB ta)) : TW C (.BoolOp .Or [a] pos) (ofB ta) := tw_or1 h
theorem xw_and (ha : T C a (ofB ta)) (hb : TW C (.BoolOp .And (b :: rest) pos) (ofB tb)) : TW C (.BoolOp .And (a :: b :: rest) pos) (ofB (xAndB ta tb)) :=
  tw_weak (tw_and ha hb) fun ρ q e h => ofR_q (ofR_bind h) fun b h => by cases b <;> exact h
theorem xw_or (ha : T C a (ofB ta)) (hb : TW C (.BoolOp .Or (b :: rest) pos) (ofB tb)) : TW C (.BoolOp .Or (a :: b :: rest) pos) (ofB (xOrB ta tb)) :=
  tw_weak (tw_or ha hb) fun ρ q e h => ofR_q (ofR_bind h) fun b h => by cases b <;> exact h
/-- and, or of bools as values -/
def xAnd (x y : X) : X := fun ρ => rbind (asB (x ρ)) fun b => match b with
  | true => y ρ
  | false => ok (.dat (.bool false))
def xOr (x y : X) : X := fun ρ => rbind (asB (x ρ)) fun b => match b with
  | true => ok (.dat (.bool true))
  | false => y ρ
def xNot (x : X) : X := fun ρ => rbind (asB (x ρ)) fun b => ok (.dat (.bool (!b)))
theorem x_one {op} (h : E C a (ofX xa)) : E C (.BoolOp op [a] pos) (ofX xa) := e_one h
theorem x_and (ha : E C a (ofX xa)) (hb : E C (.BoolOp .And (b :: rest) pos) (ofX xb)) : E C (.BoolOp .And (a :: b :: rest) pos) (ofX (xAnd xa xb)) :=
  e_weak (e_and ha hb) fun ρ q e h => ofR_q (asB_of (ofR_bind h)) fun s ⟨b, e1, h⟩ => ⟨b, e1, by cases b <;> exact h⟩
theorem x_or (ha : E C a (ofX xa)) (hb : E C (.BoolOp .Or (b :: rest) pos) (ofX xb)) : E C (.BoolOp .Or (a :: b :: rest) pos) (ofX (xOr xa xb)) :=
  e_weak (e_or ha hb) fun ρ q e h => ofR_q (asB_of (ofR_bind h)) fun s ⟨b, e1, h⟩ => ⟨b, e1, by cases b <;> exact h⟩
theorem x_not (ha : E C a (ofX xa)) : E C (.UnaryOp .Not a pos) (ofX (xNot xa)) :=
  e_weak (e_not ha) fun ρ q e h => ofR_q (asB_of (ofR_bind h)) fun s ⟨b, e1, h⟩ => ⟨b, e1, h⟩
def xIfE (t : XB) (x y : X) : X := fun ρ => rbind (t ρ) fun b => match b with
  | true => x ρ
  | false => y ρ
theorem x_if {t : XB} (hc : T C c (ofB t)) (ha : E C a (ofX xa)) (hb : E C b (ofX xb)) : E C (.IfExp c a b pos) (ofX (xIfE t xa xb)) :=
  e_weak (e_if hc ha hb) fun ρ q e h => ofR_q (ofR_bind h) fun b h => by cases b <;> exact h
def xChain (p r : S → S → Option S) (x y z : X) : XB := fun ρ => rbind (x ρ) fun s => rbind (y ρ) fun t => rbind (asB (opt (p s t))) fun b => match b with
  | true => rbind (z ρ) fun u => asB (opt (r t u))
  | false => ok false
theorem opt_b {o : Option S} {q : Bool → Prop} {e : Xn → Prop} (h : ofR (asB (opt o)) q e) : ∃ b, o = some (.dat (.bool b)) ∧ q b := by
  obtain ⟨s, e1, b, e2, hq⟩ := ofR_opt (asB_of h)
  exact ⟨b, by rw [e1, e2], hq⟩
theorem xt_chain {op op' : CmpOp} {o1 o2 : O2} {p r : S → S → Option S} (h1 : Op C (compareOp op) o1) (k1 : Fits o1 p) (h2 : Op C (compareOp op') o2) (k2 : Fits o2 r) (ha : E C a (ofX xa)) (hb : E C b (ofX xb)) (hc : E C c (ofX xc))
    (hm : lastMarks [op, op'] [b, c] = false := by with_unfolding_all rfl) : T C (.Compare a [op, op'] [b, c] pos) (ofB (xChain p r xa xb xc)) :=
  t_weak (t_chain h1 h2 ha hb hc hm) fun ρ q e h => ofR_q (ofR_bind h) fun s h => ofR_q (ofR_bind h) fun t h => by
    obtain ⟨b, e1, h⟩ := opt_b (ofR_bind h)
    refine k1 s t _ _ e1 ⟨b, rfl, ?_⟩
    cases b with
    | false => exact h
    | true => exact ofR_q (ofR_bind h) fun u h => let ⟨b, e2, hq⟩ := opt_b h; k2 t u _ _ e2 ⟨b, rfl, hq⟩
/-! ### displays, built-ins -/
def allDat : List S → Option (List D)
  | [] => some []
  | .dat d :: r => match allDat r with
    | some ds => some (d :: ds)
    | none => none
  | _ => none
theorem allDat_of : ∀ {ss : List S} {ds : List D}, allDat ss = some ds → ss = ds.map S.dat
  | [], ds, h => by cases h; rfl
  | .dat d :: r, ds, h => by
    unfold allDat at h
    split at h
    · rename_i es e; cases h; rw [allDat_of e]; rfl
    · cases h
  | .feed _ :: _, _, h => by cases h
  | .own _ :: _, _, h => by cases h
  | .ro _ :: _, _, h => by cases h
  | .odK _ :: _, _, h => by cases h
  | .odT _ :: _, _, h => by cases h
  | .raw _ :: _, _, h => by cases h
@[simp] theorem allDat_map : ∀ ds : List D, allDat (ds.map S.dat) = some ds
  | [] => rfl
  | d :: r => by simp [allDat, allDat_map r]
def szOk (n : Nat) : Bool := decide (n ≤ sizeLine)
theorem szOk_of {n : Nat} (h : szOk n = true) : n ≤ sizeLine := of_decide_eq_true h
theorem szOk_small {n : Nat} (h : n ≤ 10000000) : szOk n = true := decide_eq_true (by rw [sizeLine_eq]; omega)
def xTup (r : XA) : X := fun ρ => rbind (r ρ) fun ss => rbind (opt (allDat ss)) fun ds => guard' (szOk ds.length) (ok (.dat (.tuple ds)))
def xLst (r : XA) : XN := fun ρ => rbind (r ρ) fun ss => rbind (opt (allDat ss)) fun ds => guard' (szOk ds.length) (ok ds)
theorem x_tup {es : List Expr} {x1} {r : XA} (h : A C es (ofA r)) : E C (.Tuple es x1 pos) (ofX (xTup r)) :=
  e_weak (e_tup h) fun ρ q e h => ofR_q (ofR_bind h) fun ss h => by
    obtain ⟨ds, e1, h⟩ := ofR_opt (ofR_bind h)
    obtain ⟨e2, h⟩ := ofR_guard h
    exact ⟨ds, allDat_of e1, szOk_of e2, h⟩
theorem xn_lst {es : List Expr} {r : XA} (h : A C es (ofA r)) : N C (.List es pos) (ofN (xLst r)) :=
  n_weak (n_lst h) fun ρ q e h => ofR_q (ofR_bind h) fun ss h => by
    obtain ⟨ds, e1, h⟩ := ofR_opt (ofR_bind h)
    obtain ⟨e2, h⟩ := ofR_guard h
    exact ⟨ds, allDat_of e1, szOk_of e2, h⟩
def xNew (n : XN) : X := fun ρ => rbind (n ρ) fun ds => ok (.dat (.list ds))
theorem x_new {n : XN} (h : N C a (ofN n)) : E C a (ofX (xNew n)) := e_weak (e_new h) fun ρ q e h => ofR_bind h
def xAddN (x y : X) : XN := fun ρ => rbind (x ρ) fun s => rbind (y ρ) fun t => match s.lst, t.lst with
  | some xs, some ys => guard' (szOk (xs.length + ys.length)) (ok (xs ++ ys))
  | _, _ => none
theorem xn_add (ha : E C a (ofX xa)) (hb : E C b (ofX xb)) : N C (.BinOp a .Add b pos) (ofN (xAddN xa xb)) :=
  n_weak (n_add ha hb) fun ρ q e h => ofR_q (ofR_bind h) fun s h => ofR_q (ofR_bind h) fun t h => by
    split at h
    · rename_i xs ys e1 e2
      obtain ⟨e3, h⟩ := ofR_guard h
      exact ⟨xs, ys, e1, e2, szOk_of e3, h⟩
    · exact h.elim
def xBi (p : List S → Option S) (r : XA) : X := fun ρ => rbind (r ρ) fun ss => opt (p ss)
def FitsA (o : OA) (p : List S → Option S) : Prop := ∀ ss q s, p ss = some s → q s → o ss q
theorem wBi_of {o : OA} {p : List S → Option S} {r : XA} (hp : FitsA o p) (ρ : Env') (q : S → Prop) (e : Xn → Prop) (h : ofX (xBi p r) ρ q e) : wBi o (ofA r) ρ q e :=
  ofR_q (ofR_bind h) fun ss h => let ⟨s, e1, h1⟩ := ofR_opt h; hp ss q s e1 h1
theorem x_bi {x : Str} {p1 : Pos} {e : Expr} {es : List Expr} {r : XA} {id : String} {o : OA} {p : List S → Option S} (hc : Bi C (.builtin id) o) (hp : FitsA o p) (hg : Gl C.X x) (hm : C.X.mg x = none) (hv : bootBuiltins x = some (.builtin id)) (ha : A C (e :: es) (ofA r))
    (hn : x ≠ "__name__" := by decide) (hdb : (x == ("__debug__" : Str)) = false := by decide)
    (he : starEach (e :: es) C.X.env = (false, eval e C.X.env) :: starEach es C.X.env := by rfl) (hpl : (backTo pos (starEach es C.X.env)).any (·.1) = false := by rfl) : E C (.Call (.Name x p1) (e :: es) [] pos) (ofX (xBi p r)) :=
  e_weak (e_bi hc hg hm hv ha hn hdb he hpl) (wBi_of hp)
theorem x_ty {x : Str} {p1 : Pos} {e : Expr} {es : List Expr} {r : XA} {id : String} {o : OA} {p : List S → Option S} (hc : Bi C (.type id) o) (hp : FitsA o p) (hg : Gl C.X x) (hm : C.X.mg x = none) (hv : bootBuiltins x = some (.type id)) (ha : A C (e :: es) (ofA r))
    (hn : x ≠ "__name__" := by decide) (hdb : (x == ("__debug__" : Str)) = false := by decide)
    (he : starEach (e :: es) C.X.env = (false, eval e C.X.env) :: starEach es C.X.env := by rfl) (hpl : (backTo pos (starEach es C.X.env)).any (·.1) = false := by rfl) : E C (.Call (.Name x p1) (e :: es) [] pos) (ofX (xBi p r)) :=
  e_weak (e_ty hc hg hm hv ha hn hdb he hpl) (wBi_of hp)
theorem x_bf {x : Str} {p1 : Pos} {e : Expr} {es : List Expr} {r : XA} {id : String} {o : OA} {p : List S → Option S} (hc : Bi C (.builtin id) o) (hp : FitsA o p) (hg : Gl C.X x) (hm : C.X.mg x = some (.builtin id)) (ha : A C (e :: es) (ofA r)) (hdb : (x == ("__debug__" : Str)) = false := by decide)
    (he : starEach (e :: es) C.X.env = (false, eval e C.X.env) :: starEach es C.X.env := by rfl) (hpl : (backTo pos (starEach es C.X.env)).any (·.1) = false := by rfl) : E C (.Call (.Name x p1) (e :: es) [] pos) (ofX (xBi p r)) :=
  e_weak (e_bf hc hg hm ha hdb he hpl) (wBi_of hp)
/-! ### isinstance, subscripts, slices, methods of texts -/
def xIs (T : String) (x : X) : X := fun ρ => rbind (x ρ) fun s => match s with
  | .dat d => guard' (!isDict d) (ok (.dat (.bool (isTy T d))))
  | _ => none
theorem x_is {T : String} {y : Str} {e : Expr} {x : X} {p p2 : Pos} (he : E C e (ofX x)) (hT : tyOkB T = true) (hg : Gl C.X "isinstance") (hm : C.X.mg "isinstance" = none) (hg2 : Gl C.X y) (hm2 : C.X.mg y = none) (hv2 : bootBuiltins y = some (.type T))
    (hv : bootBuiltins "isinstance" = some (.builtin "isinstance") := by decide +kernel) (hn : y ≠ "__name__" := by decide) (hd : (y == ("__debug__" : Str)) = false := by decide)
    (h1 : starEach [e, .Name y p2] C.X.env = (false, eval e C.X.env) :: starEach [.Name y p2] C.X.env := by rfl) :
    E C (.Call (.Name "isinstance" p) [e, .Name y p2] [] pos) (ofX (xIs T x)) :=
  e_weak (e_is he hT hg hm hg2 hm2 hv2 hv hn hd h1) fun ρ q e h => ofR_q (ofR_bind h) fun s h => by
    split at h
    · obtain ⟨e1, h⟩ := ofR_guard h
      exact ⟨_, rfl, by simpa using e1, h⟩
    · exact h.elim
def pIx : S → S → Option S
  | .dat (.tuple xs), .dat (.int i) => (atI xs i).map S.dat
  | .dat (.list xs), .dat (.int i) => (atI xs i).map S.dat
  | .own xs, .dat (.int i) => (atI xs i).map S.dat
  | .ro xs, .dat (.int i) => (atI xs i).map S.dat
  | .dat (.str z), .dat (.int i) => if z.length ≤ sizeLine then (atI z.cps.toList i).map fun c => .dat (.str ⟨#[c]⟩) else none
  | _, _ => none
theorem map_some {α β : Type} {o : Option α} {f : α → β} {b : β} (h : o.map f = some b) : ∃ a, o = some a ∧ f a = b := by
  cases o with
  | none => cases h
  | some a => exact ⟨a, rfl, Option.some.inj h⟩
theorem fits_ix : Fits oIx pIx := by
  intro x y q s e hq
  unfold pIx at e
  unfold oIx
  split at e
  · obtain ⟨d, h1, h2⟩ := map_some e; exact ⟨d, h1, by rw [h2]; exact hq⟩
  · obtain ⟨d, h1, h2⟩ := map_some e; exact ⟨d, h1, by rw [h2]; exact hq⟩
  · obtain ⟨d, h1, h2⟩ := map_some e; exact ⟨d, h1, by rw [h2]; exact hq⟩
  · obtain ⟨d, h1, h2⟩ := map_some e; exact ⟨d, h1, by rw [h2]; exact hq⟩
  · split at e
    · rename_i hz
      obtain ⟨d, h1, h2⟩ := map_some e
      exact ⟨hz, d, h1, by rw [h2]; exact hq⟩
    · cases e
  · cases e
theorem x_ix (ha : E C a (ofX xa)) (hb : E C b (ofX xb)) (hs : PlainIx b) : E C (.Subscript a b pos) (ofX (xBin pIx xa xb)) := e_weak (e_ix ha hb hs) (w2_of fits_ix)
abbrev XO := Env' → R (Option Int)
def ofO (x : XO) : WO := fun ρ q e => ofR (x ρ) q e
def xNoPart : XO := fun _ => ok none
def xPart (x : X) : XO := fun ρ => rbind (x ρ) fun s => match s with
  | .dat (.int i) => ok (some i)
  | _ => none
theorem xo_none : O C none (ofO xNoPart) := o_none
theorem xo_some (h : E C a (ofX xa)) : O C (some a) (ofO (xPart xa)) := weakO (o_some h) fun σ H Q ⟨Z, ρ, q, ex, st, hw, k, ke⟩ => ⟨Z, ρ, q, ex, st, ofR_q (ofR_bind hw) fun s h => by
  split at h
  · exact ⟨_, rfl, h⟩
  · exact h.elim, k, ke⟩
def pSl (lo hi : Option Int) : S → Option S
  | .dat (.tuple xs) => some (.dat (.tuple (cutD xs lo hi)))
  | .dat (.list xs) => some (.dat (.list (cutD xs lo hi)))
  | .own xs => some (.dat (.list (cutD xs lo hi)))
  | .dat (.str z) => if z.length ≤ sizeLine then some (.dat (.str (cutS z lo hi))) else none
  | _ => none
def xSl (x : X) (lo hi : XO) : X := fun ρ => rbind (x ρ) fun s => rbind (lo ρ) fun l => rbind (hi ρ) fun h => opt (pSl l h s)
theorem x_sl {lo hi : Option Expr} {xl xh : XO} {p2 : Pos} (ha : E C a (ofX xa)) (hl : O C lo (ofO xl)) (hh : O C hi (ofO xh)) : E C (.Subscript a (.Slice lo hi none p2) pos) (ofX (xSl xa xl xh)) :=
  e_weak (e_sl ha hl hh) fun ρ q e h => ofR_q (ofR_bind h) fun s h => ofR_q (ofR_bind h) fun l h => ofR_q (ofR_bind h) fun u h => by
    obtain ⟨t, e1, hq⟩ := ofR_opt h
    unfold pSl at e1
    unfold oSl
    split at e1 <;> first | (cases e1; done) | (cases e1; exact hq) | skip
    split at e1
    · rename_i hz; cases e1; exact ⟨hz, hq⟩
    · cases e1
def xM0 (g : Str → D) (x : X) : X := fun ρ => rbind (x ρ) fun s => match s with
  | .dat (.str z) => ok (.dat (g z))
  | _ => none
theorem wM0_of {g : Str → D} (ρ : Env') (q : S → Prop) (e : Xn → Prop) (h : ofX (xM0 g xa) ρ q e) : wM0 (oM0 g) (ofX xa) ρ q e := ofR_q (ofR_bind h) fun s h => by
  unfold oM0
  split at h
  · exact h
  · exact h.elim
theorem x_m0 {e : Expr} {g : Str → D} (h : E C e (wM0 (oM0 g) (ofX xa))) : E C e (ofX (xM0 g xa)) := e_weak h wM0_of
def pNeg : S → Option S
  | .dat (.int i) => some (.dat (.int (-i)))
  | _ => none
def xUn (p : S → Option S) (x : X) : X := fun ρ => rbind (x ρ) fun s => opt (p s)
theorem x_neg (h : E C a (ofX xa)) : E C (.UnaryOp .USub a pos) (ofX (xUn pNeg xa)) := e_weak (e_neg h) fun ρ q e h => ofR_q (ofR_bind h) fun s h => by
  obtain ⟨t, e1, hq⟩ := ofR_opt h
  unfold pNeg at e1
  unfold oNeg
  split at e1
  · cases e1; exact hq
  · cases e1
end
end PL

/-! the operations as functions; loops, comprehensions, statements, defs -/
namespace PL
open PySem PySem.Spec PyProof.Rows L2
section
variable {C : Cp}
/-! ### ints -/
def pInt (c : Int → Int → Bool) (g : Int → Int → D) : S → S → Option S
  | .dat (.int i), .dat (.int j) => match c i j with
    | true => some (.dat (g i j))
    | false => none
  | _, _ => none
theorem fits_int {c : Int → Int → Prop} {c' : Int → Int → Bool} {g : Int → Int → D} (hc : ∀ i j, c' i j = true → c i j) : Fits (oInt c g) (pInt c' g) := by
  intro x y q s e hq
  unfold pInt at e
  split at e
  · split at e
    · rename_i h; cases e; exact ⟨hc _ _ h, hq⟩
    · cases e
  · cases e
def pSub := pInt (fun _ _ => true) fun i j => .int (i - j)
theorem fits_sub : Fits oSub pSub := fits_int fun _ _ _ => trivial
def pMod := pInt (fun _ j => decide (0 < j)) fun i j => .int (i % j)
theorem fits_mod : Fits oMod pMod := fits_int fun _ _ h => of_decide_eq_true h
def oDivW : O2 := oInt CDivW fun i j => .int (i / j)
theorem o_divW : Op C (binaryOp .FloorDiv) oDivW := op_int op_fdivW fun _ _ _ => Dq.int _
def pDiv := pInt (fun _ j => decide (0 < j) && decide (j.natAbs.log2 < 9000)) fun i j => .int (i / j)
theorem fits_div : Fits oDivW pDiv := fits_int fun _ _ h => by rw [Bool.and_eq_true, decide_eq_true_eq, decide_eq_true_eq] at h; exact h
def pPow := pInt (fun i j => decide (0 ≤ j) && decide (j ≤ 1000000) && decide (i.natAbs < 18446744073709551616)) fun i j => .int (i ^ j.toNat)
theorem fits_pow : Fits oPow pPow := fits_int fun i j h => by
  rw [Bool.and_eq_true, Bool.and_eq_true, decide_eq_true_eq, decide_eq_true_eq, decide_eq_true_eq] at h
  exact ⟨h.1.1, h.1.2, h.2⟩
def pOrd (p : Int → Int → Bool) (r : Str → Str → Bool) : S → S → Option S
  | .dat (.int i), .dat (.int j) => some (.dat (.bool (p i j)))
  | .dat (.str i), .dat (.str j) => some (.dat (.bool (r i j)))
  | _, _ => none
theorem fits_ord {p : Int → Int → Bool} {r : Str → Str → Bool} : Fits (oOrd p r) (pOrd p r) := by
  intro x y q s e hq
  unfold pOrd at e
  split at e
  · cases e; exact hq
  · cases e; exact hq
  · cases e
def pLt := pOrd (fun i j => decide (i < j)) strLt
def pLe := pOrd (fun i j => decide (i ≤ j)) fun a b => !strLt b a
def pGt := pOrd (fun i j => decide (j < i)) fun a b => strLt b a
def pGe := pOrd (fun i j => decide (j ≤ i)) fun a b => !strLt a b
theorem fits_lt : Fits oLt pLt := fits_ord
theorem fits_le : Fits oLe pLe := fits_ord
theorem fits_gt : Fits oGt pGt := fits_ord
theorem fits_ge : Fits oGe pGe := fits_ord
/-! ### + and * -/
def pAdd (x y : S) : Option S := match x, y with
  | .dat (.int i), .dat (.int j) => some (.dat (.int (i + j)))
  | .dat (.str i), .dat (.str j) => match szOk (i.length + j.length) with
    | true => some (.dat (.str (i ++ j)))
    | false => none
  | .dat (.tuple xs), .dat (.tuple ys) => match szOk (xs.length + ys.length) with
    | true => some (.dat (.tuple (xs ++ ys)))
    | false => none
  | .dat (.list xs), y => match y.lst with
    | some ys => match szOk (xs.length + ys.length) with
      | true => some (.dat (.list (xs ++ ys)))
      | false => none
    | none => none
  | .own xs, y => match y.lst with
    | some ys => match szOk (xs.length + ys.length) with
      | true => some (.dat (.list (xs ++ ys)))
      | false => none
    | none => none
  | _, _ => none
theorem fits_add : Fits oAdd pAdd := by
  intro x y q s e hq
  unfold pAdd at e
  split at e
  · cases e; exact hq
  · split at e
    · rename_i h; cases e; exact ⟨szOk_of h, hq⟩
    · cases e
  · split at e
    · rename_i h; cases e; exact ⟨szOk_of h, hq⟩
    · cases e
  · split at e
    · rename_i ys h1
      split at e
      · rename_i h; cases e
        exact ⟨_, ys, rfl, h1, szOk_of h, hq⟩
      · cases e
    · cases e
  · split at e
    · rename_i ys h1
      split at e
      · rename_i h; cases e
        exact ⟨_, ys, rfl, h1, szOk_of h, hq⟩
      · cases e
    · cases e
  · cases e
def oMulW : O2 := fun x y q => match x, y with
  | .dat (.int i), .dat (.int j) => CMulW i j ∧ q (.dat (.int (i * j)))
  | .dat (.tuple xs), .dat (.int k) => 2 ≤ k ∧ k ≤ 1000 ∧ xs.length ≤ 1000 ∧ q (.dat (.tuple (List.replicate k.toNat xs).flatten))
  | _, _ => False
theorem o_mulW : Op C (binaryOp .Mult) oMulW := by
  intro pins s σ H x y v u Q I rx ry ⟨Z, s1, s2, q, a, sv1, sv2, ho⟩
  unfold oMulW at ho
  split at ho
  · rename_i i j
    cases (show Dq Z x (.int i) from sv1)
    cases (show Dq Z y (.int j) from sv2)
    exact op_mulW pins s σ H _ _ v u Q I rx ry ⟨i, j, rfl, rfl, ho.1, a.ret (s := .dat (.int _)) (Dq.int _) ho.2⟩
  · exact o_mulT pins s σ H x y v u Q I rx ry ⟨Z, _, _, q, a, sv1, sv2, ho⟩
  · exact ho.elim
def pMul (x y : S) : Option S := match x, y with
  | .dat (.int i), .dat (.int j) => match decide (i.natAbs.log2 + j.natAbs.log2 < 1000000) with
    | true => some (.dat (.int (i * j)))
    | false => none
  | .dat (.tuple xs), .dat (.int k) => match decide (2 ≤ k) && decide (k ≤ 1000) && decide (xs.length ≤ 1000) with
    | true => some (.dat (.tuple (List.replicate k.toNat xs).flatten))
    | false => none
  | _, _ => none
theorem fits_mul : Fits oMulW pMul := by
  intro x y q s e hq
  unfold pMul at e
  unfold oMulW
  split at e
  · split at e
    · rename_i h; cases e; exact ⟨by rw [decide_eq_true_eq] at h; exact h, hq⟩
    · cases e
  · split at e
    · rename_i h; cases e
      rw [Bool.and_eq_true, Bool.and_eq_true, decide_eq_true_eq, decide_eq_true_eq, decide_eq_true_eq] at h
      exact ⟨h.1.1, h.1.2, h.2, hq⟩
    · cases e
  · cases e
/-! ### ==, in, is None -/
def pEq (neg : Bool) (x y : S) : Option S := match x.data, y.data with
  | some d, some e => match SeqAt.shaped d && SeqAt.shaped e with
    | true => some (.dat (.bool (if neg then !PyData.eqv d e else PyData.eqv d e)))
    | false => none
  | _, _ => none
theorem fits_eq {neg : Bool} : Fits (oEq neg) (pEq neg) := by
  intro x y q s e hq
  unfold pEq at e
  split at e
  · rename_i d d' e1 e2
    split at e
    · rename_i h; cases e
      rw [Bool.and_eq_true] at h
      exact ⟨d, d', e1, e2, h.1, h.2, hq⟩
    · cases e
  · cases e
def seqIn : S → Option (List D)
  | .dat (.list ds) => some ds
  | .dat (.tuple ds) => some ds
  | .own ds => some ds
  | _ => none
theorem seqIn_of {y : S} {ds : List D} (h : seqIn y = some ds) : y = .dat (.list ds) ∨ y = .dat (.tuple ds) ∨ y = .own ds := by
  unfold seqIn at h
  split at h <;> cases h
  · exact .inl rfl
  · exact .inr (.inl rfl)
  · exact .inr (.inr rfl)
def pIn (neg : Bool) (x y : S) : Option S := match x.data, seqIn y with
  | some d, some ds => match SeqAt.shaped d && SeqAt.shaped (.list ds) with
    | true => some (.dat (.bool (if neg then !ds.any fun z => PyData.eqv z d else ds.any fun z => PyData.eqv z d)))
    | false => none
  | _, _ => none
theorem fits_in {neg : Bool} : Fits (oIn neg) (pIn neg) := by
  intro x y q s e hq
  unfold pIn at e
  split at e
  · rename_i d ds e1 e2
    split at e
    · rename_i h; cases e
      rw [Bool.and_eq_true] at h
      exact ⟨d, ds, e1, seqIn_of e2, h.1, h.2, hq⟩
    · cases e
  · cases e
def pInSign (neg : Bool) : S → S → Option S
  | .dat (.str ⟨⟨[c]⟩⟩), .dat (.str b) => some (.dat (.bool (if neg then !decide (c ∈ b.cps.toList) else decide (c ∈ b.cps.toList))))
  | _, _ => none
theorem fits_inSign {neg : Bool} : Fits (oInSign neg) (pInSign neg) := by
  intro x y q s e hq
  unfold pInSign at e
  split at e
  · rename_i c b; cases e
    exact ⟨c, rfl, hq⟩
  · cases e
def pIsN (neg : Bool) (x y : S) : Option S := match x.data, y with
  | some d, .dat .none => some (.dat (.bool (if neg then !isNon d else isNon d)))
  | _, _ => none
theorem fits_isN {neg : Bool} : Fits (oIsN neg) (pIsN neg) := by
  intro x y q s e hq
  unfold pIsN at e
  split at e
  · rename_i d e1; cases e
    exact ⟨rfl, d, e1, hq⟩
  · cases e
/-! ### built-ins -/
def pLen : List S → Option S
  | [.dat (.str z)] => match szOk z.length with
    | true => some (.dat (.int z.length))
    | false => none
  | [.dat (.tuple xs)] => some (.dat (.int xs.length))
  | [.dat (.list xs)] => some (.dat (.int xs.length))
  | [.own xs] => some (.dat (.int xs.length))
  | [.ro xs] => some (.dat (.int xs.length))
  | _ => none
theorem fits_len : FitsA oLen pLen := by
  intro ss q s e hq
  unfold pLen at e
  split at e
  · split at e
    · rename_i h; cases e; exact ⟨szOk_of h, hq⟩
    · cases e
  all_goals first | (cases e; exact hq) | (cases e; done)
def pInt1 : List S → Option S
  | [.dat (.int i)] => some (.dat (.int i))
  | [.dat (.bool b)] => some (.dat (.int (if b then 1 else 0)))
  | _ => none
theorem fits_int1 : FitsA oInt1 pInt1 := by
  intro ss q s e hq
  unfold pInt1 at e
  split at e
  all_goals first | (cases e; exact hq) | (cases e; done)
def pAbs : List S → Option S
  | [.dat (.int i)] => some (.dat (.int (if i < 0 then -i else i)))
  | _ => none
theorem fits_abs : FitsA oAbs pAbs := by
  intro ss q s e hq
  unfold pAbs at e
  split at e
  all_goals first | (cases e; exact hq) | (cases e; done)
def pGcd : List S → Option S
  | [.dat (.int i), .dat (.int j)] => some (.dat (.int ((Nat.gcd i.natAbs j.natAbs : Nat) : Int)))
  | _ => none
theorem fits_gcd : FitsA oGcd pGcd := by
  intro ss q s e hq
  unfold pGcd at e
  split at e
  all_goals first | (cases e; exact hq) | (cases e; done)
def pList : List S → Option S
  | [.dat (.tuple xs)] => some (.dat (.list xs))
  | [.dat (.list xs)] => some (.dat (.list xs))
  | [.own xs] => some (.dat (.list xs))
  | _ => none
theorem fits_list : FitsA oList pList := by
  intro ss q s e hq
  unfold pList at e
  split at e
  all_goals first | (cases e; exact hq) | (cases e; done)
def pTuple : List S → Option S
  | [.dat (.tuple xs)] => some (.dat (.tuple xs))
  | [.dat (.list xs)] => some (.dat (.tuple xs))
  | [.own xs] => some (.dat (.tuple xs))
  | _ => none
theorem fits_tuple : FitsA oTuple pTuple := by
  intro ss q s e hq
  unfold pTuple at e
  split at e
  all_goals first | (cases e; exact hq) | (cases e; done)
def asBools : List D → Option (List Bool)
  | [] => some []
  | .bool b :: r => match asBools r with
    | some bs => some (b :: bs)
    | none => none
  | _ => none
theorem asBools_of : ∀ {ds : List D} {bs : List Bool}, asBools ds = some bs → ds = bs.map PyData.bool
  | [], bs, h => by cases h; rfl
  | .bool b :: r, bs, h => by
    unfold asBools at h
    split at h
    · rename_i bs' e; cases h; rw [asBools_of e]; rfl
    · cases h
  | .none :: _, _, h => by cases h
  | .int _ :: _, _, h => by cases h
  | .str _ :: _, _, h => by cases h
  | .list _ :: _, _, h => by cases h
  | .tuple _ :: _, _, h => by cases h
  | .dict _ :: _, _, h => by cases h
@[simp] theorem asBools_map : ∀ bs : List Bool, asBools (bs.map PyData.bool) = some bs
  | [] => rfl
  | b :: r => by simp [asBools, asBools_map r]
def pAll (f : List Bool → Bool) : List S → Option S
  | [s] => match s.lst with
    | some ds => match asBools ds with
      | some bs => some (.dat (.bool (f bs)))
      | none => none
    | none => none
  | _ => none
theorem fits_all {f : List Bool → Bool} : FitsA (oAll f) (pAll f) := by
  intro ss q s e hq
  unfold pAll at e
  split at e
  · split at e
    · rename_i ds e1
      split at e
      · rename_i bs e2; cases e
        exact ⟨bs, by rw [e1, asBools_of e2], hq⟩
      · cases e
    · cases e
  · cases e
def pRepr : List S → Option S
  | [s] => match s.data with
    | some d => match d.showable && SeqAt.shaped d && szOk d.shown.length with
      | true => some (.dat (.str d.shown))
      | false => none
    | none => none
  | _ => none
theorem fits_repr : FitsA oRepr pRepr := by
  intro ss q s e hq
  unfold pRepr at e
  split at e
  · split at e
    · rename_i d e1
      split at e
      · rename_i h; cases e
        rw [Bool.and_eq_true, Bool.and_eq_true] at h
        exact ⟨d, e1, h.1.1, h.1.2, szOk_of h.2, hq⟩
      · cases e
    · cases e
  · cases e
/-! ### what is walked -/
def pIter : S → Option (List D)
  | .dat (.list xs) => some xs
  | .dat (.tuple xs) => some xs
  | .dat (.str z) => some (signsD z)
  | _ => none
def xIt (x : X) : XI := fun ρ => rbind (x ρ) fun s => opt (pIter s)
variable {a : Expr} {xa : X} {tg : Expr} {pos : Pos}
theorem xi_any (he : E C a (ofX xa)) : Iter C tg a (ofI (xIt xa)) := i_weak (i_any he) fun ρ q e h => ofR_q (ofR_bind h) fun s h => by
  obtain ⟨ds, e1, hq⟩ := ofR_opt h
  unfold pIter at e1
  unfold oIter
  split at e1
  all_goals first | (cases e1; done) | (cases e1; exact hq)
@[irreducible] def rgOk (i : Int) : Bool := decide (-4611686018427387904 ≤ i) && decide (i < 4611686018427387904)
theorem rgOk_of {i : Int} (h : rgOk i = true) : -(2 ^ 62) ≤ i ∧ i < 2 ^ 62 := by
  unfold rgOk at h
  rw [Bool.and_eq_true, decide_eq_true_eq, decide_eq_true_eq] at h
  omega
def xRng1 (r : XA) : XI := fun ρ => rbind (r ρ) fun ss => match ss with
  | [.dat (.int j)] => guard' (rgOk j) (ok (rangeD 0 j.toNat))
  | _ => none
def xRng2 (r : XA) : XI := fun ρ => rbind (r ρ) fun ss => match ss with
  | [.dat (.int i), .dat (.int j)] => guard' (rgOk i && rgOk j) (ok (rangeD i (j - i).toNat))
  | _ => none
theorem xi_rng1 {r : XA} {p : Pos} (hg : Gl C.X "range") (hm : C.X.mg "range" = none) (ha : A C [a] (ofA r)) (hs : starEach [a] C.X.env = [(false, eval a C.X.env)] := by rfl) : Iter C tg (.Call (.Name "range" p) [a] [] pos) (ofI (xRng1 r)) :=
  i_weak (i_rng1 hg hm ha hs) fun ρ q e h => ofR_q (ofR_bind h) fun ss h => by
    split at h
    · rename_i j
      obtain ⟨e1, h⟩ := ofR_guard h
      exact ⟨j, rfl, (rgOk_of e1).1, (rgOk_of e1).2, h⟩
    · exact h.elim
theorem xi_rng2 {b : Expr} {r : XA} {p : Pos} (hg : Gl C.X "range") (hm : C.X.mg "range" = none) (ha : A C [a, b] (ofA r)) (hs : starEach [a, b] C.X.env = [(false, eval a C.X.env), (false, eval b C.X.env)] := by rfl) (hs2 : starEach [b] C.X.env = [(false, eval b C.X.env)] := by rfl) : Iter C tg (.Call (.Name "range" p) [a, b] [] pos) (ofI (xRng2 r)) :=
  i_weak (i_rng2 hg hm ha hs hs2) fun ρ q e h => ofR_q (ofR_bind h) fun ss h => by
    split at h
    · rename_i i j
      obtain ⟨e1, h⟩ := ofR_guard h
      rw [Bool.and_eq_true] at e1
      exact ⟨i, j, rfl, ⟨(rgOk_of e1.1).1, (rgOk_of e1.1).2, (rgOk_of e1.2).1, (rgOk_of e1.2).2⟩, h⟩
    · exact h.elim
def xEnum (x : X) : XI := fun ρ => rbind (x ρ) fun s => match s with
  | .dat (.tuple ds) => ok (pairsD ds)
  | _ => none
theorem xi_enumT {elts : List Expr} {kk : Nat} {tpos p : Pos} (hg : Gl C.X "enumerate") (hm : C.X.mg "enumerate" = none) (ha : E C a (ofX xa)) (hs : starEach [a] C.X.env = (false, eval a C.X.env) :: starEach [] C.X.env := by rfl)
    (hs1 : starEach [a] C.X.env = [(false, eval a C.X.env)] := by rfl) : Iter C (.Tuple elts kk tpos) (.Call (.Name "enumerate" p) [a] [] pos) (ofI (xEnum xa)) :=
  i_weak (i_enumT hg hm ha hs hs1) fun ρ q e h => ofR_q (ofR_bind h) fun s h => by
    split at h
    · exact ⟨_, rfl, h⟩
    · exact h.elim
/-! ### comprehensions -/
def quiet {α : Type} : R α → Option α
  | some (.ok a) => some a
  | _ => none
theorem quiet_of {α : Type} {r : R α} {a : α} (h : quiet r = some a) : r = ok a := by
  unfold quiet at h
  split at h
  · cases h; rfl
  · cases h
@[simp] theorem quiet_ok {α : Type} (a : α) : quiet (ok a) = some a := rfl
/-- one turn: none: not known; some none: left out -/
def lcStep (sel : D → Option (List D)) (is : List Nat) (t : XB) (x : X) (ρ : Env') (d : D) : Option (Option D) := match sel d with
  | none => none
  | some es => match quiet (t (setAll ρ is es)) with
    | none => none
    | some false => some none
    | some true => match quiet (x (setAll ρ is es)) with
      | some (.dat d') => some (some d')
      | _ => none
def lcRun (f : D → Option (Option D)) : List D → Option (List D)
  | [] => some []
  | d :: r => match f d, lcRun f r with
    | some (some d'), some out => some (d' :: out)
    | some none, some out => some out
    | _, _ => none
def xLc (vs is : List Nat) (sel : D → Option (List D)) (i : XI) (t : XB) (x : X) : XN := fun ρ => rbind (i ρ) fun ds => guard' (szOk ds.length) (opt (lcRun (lcStep sel is t x (wipe' ρ vs)) ds))
theorem lcRun_of {sel : D → Option (List D)} {is : List Nat} {t : XB} {x : X} {ρ : Env'} : ∀ {ds out : List D} {q : List D → Prop}, lcRun (lcStep sel is t x ρ) ds = some out → q out →
    wMap (fun d q' => ∃ es, sel d = some es ∧ ofB t (setAll ρ is es) (fun b => if b = true then ofX x (setAll ρ is es) (fun s => ∃ d', s = .dat d' ∧ q' (some d')) noX else q' none) noX) ds q
  | [], out, q, e, h => by cases e; exact h
  | d :: r, out, q, e, h => by
    unfold lcRun at e
    have step : ∀ o, lcStep sel is t x ρ d = some o → ∀ q' : Option D → Prop, q' o → ∃ es, sel d = some es ∧ ofB t (setAll ρ is es) (fun b => if b = true then ofX x (setAll ρ is es) (fun s => ∃ d', s = .dat d' ∧ q' (some d')) noX else q' none) noX := by
      intro o eo q' hq'
      unfold lcStep at eo
      split at eo
      · cases eo
      · rename_i es hes
        refine ⟨es, hes, ?_⟩
        unfold ofB
        split at eo
        · cases eo
        · rename_i e2; cases eo
          rw [quiet_of e2]; exact hq'
        · rename_i e2
          rw [quiet_of e2]
          split at eo
          · rename_i d' e3; cases eo
            show ofX x _ _ _
            unfold ofX
            rw [quiet_of e3]
            exact ⟨d', rfl, hq'⟩
          · cases eo
    split at e
    · rename_i d' out' e1 e2; cases e
      exact step _ e1 (fun o => wMap _ r fun out => q (match o with | some x => x :: out | none => out)) (lcRun_of (q := fun out => q (d' :: out)) e2 h)
    · rename_i out' e1 e2; cases e
      exact step _ e1 (fun o => wMap _ r fun out => q (match o with | some x => x :: out | none => out)) (lcRun_of (q := q) e2 h)
    · cases e
theorem xLc_of {vs is : List Nat} {sel : D → Option (List D)} {i : XI} {t : XB} {x : X} (ρ : Env') (q : List D → Prop) (e : Xn → Prop) (h : ofN (xLc vs is sel i t x) ρ q e) : wLc vs is sel (ofI i) (ofB t) (ofX x) ρ q e :=
  ofR_q (ofR_bind h) fun ds h => by
    obtain ⟨e1, h⟩ := ofR_guard h
    obtain ⟨out, e2, hq⟩ := ofR_opt h
    exact ⟨szOk_of e1, lcRun_of e2 hq⟩
/-! ### statements -/
variable {e : Expr} {st : Stmt} {rest sa sb body : List Stmt} {u v : XS} {t : XB} {c : Expr}
def xNx : XS := fun ρ => ok (.nx ρ)
def xSeq (u v : XS) : XS := fun ρ => rbind (u ρ) fun f => match f with
  | .nx ρ' => v ρ'
  | g => ok g
theorem xs_nil : Sts C [] (ofS xNx) := ss_weak ss_nil fun P ρ h => h
theorem xs_one (h : St1 C st (ofS u)) : Sts C [st] (ofS u) := ss_one h
theorem xs_cons (h1 : St1 C st (ofS u)) (h2 : Sts C rest (ofS v)) : Sts C (st :: rest) (ofS (xSeq u v)) := ss_weak (ss_cons h1 h2) fun P ρ h => ofR_q (ofR_bind h) fun f h => by
  cases f with
  | nx ρ' => exact h
  | rt s => exact h
  | bk ρ' => exact h
  | ct ρ' => exact h
theorem xs_pass : St1 C (.Pass pos) (ofS xNx) := s_weak s_pass fun P ρ h => h
def xBk : XS := fun ρ => ok (.bk ρ)
def xCt : XS := fun ρ => ok (.ct ρ)
theorem xs_brk : St1 C (.Break pos) (ofS xBk) := s_weak s_brk fun P ρ h => h
theorem xs_cnt : St1 C (.Continue pos) (ofS xCt) := s_weak s_cnt fun P ρ h => h
def xDrop (x : X) : XS := fun ρ => rbind (x ρ) fun _ => ok (.nx ρ)
theorem xs_expr {x : X} (he : E C e (ofX x)) (hs : swapsWith e none pos.line C.X.env = pure false := by rfl) : St1 C (.Expr e pos) (ofS (xDrop x)) := s_weak (s_expr he hs) fun P ρ h => ofR_bind h
def xRet (x : X) : XS := fun ρ => rbind (x ρ) fun s => guard' s.frz.lent (ok (.rt s.frz))
theorem xs_ret {x : X} (he : E C e (ofX x)) : St1 C (.Return (some e) pos) (ofS (xRet x)) := s_weak (s_ret he) fun P ρ h => ofR_q (ofR_bind h) fun s h => ofR_guard h
def xRetN : XS := fun _ => ok (.rt (.dat .none))
theorem xs_retN : St1 C (.Return none pos) (ofS xRetN) := s_weak s_retN fun P ρ h => h
def xIf (t : XB) (u v : XS) : XS := fun ρ => rbind (t ρ) fun b => match b with
  | true => u ρ
  | false => v ρ
theorem xs_if (hc : T C c (ofB t)) (ha : Sts C sa (ofS u)) (hb : Sts C sb (ofS v)) : St1 C (.If c sa sb pos) (ofS (xIf t u v)) := s_weak (s_if hc ha hb) fun P ρ h => ofR_q (ofR_bind h) fun b h => by cases b <;> exact h
def xSet (i : Nat) (x : X) : XS := fun ρ => rbind (x ρ) fun s => guard' s.lent (ok (.nx (ρ.set i (some s))))
theorem xs_set {i : Nat} {x : Str} {pos' : Pos} {w : X} (hN : C.X.N.Nodup) (hi : C.X.N[i]? = some x) (hx : Loc C.X.env.scope x) (he : E C e (ofX w)) (hs : swapsWith e (some (.Name x pos')) pos.line C.X.env = pure false := by rfl)
    (hf : C.X.fn x = true ∨ C.X.env.scope.names.lookup x = some .local := by first | exact .inl rfl | exact .inr rfl | assumption) : St1 C (.Assign [.Name x pos'] e pos) (ofS (xSet i w)) :=
  s_weak (s_set hN hi hx he hs hf) fun P ρ h => ofR_q (ofR_bind h) fun s h => ofR_guard h
def xOwn (i : Nat) (n : XN) : XS := fun ρ => rbind (n ρ) fun ds => ok (.nx (ρ.set i (some (.own ds))))
theorem xs_own {i : Nat} {x : Str} {pos' : Pos} {n : XN} (hN : C.X.N.Nodup) (hi : C.X.N[i]? = some x) (hx : Loc C.X.env.scope x) (he : N C e (ofN n)) (hs : swapsWith e (some (.Name x pos')) pos.line C.X.env = pure false := by rfl)
    (hf : C.X.fn x = true ∨ C.X.env.scope.names.lookup x = some .local := by first | exact .inl rfl | exact .inr rfl | assumption) : St1 C (.Assign [.Name x pos'] e pos) (ofS (xOwn i n)) :=
  s_weak (s_own hN hi hx he hs hf) fun P ρ h => ofR_bind h
def xFrz (i : Nat) (v : XS) : XS := fun ρ => match ρ[i]? with
  | some (some s) => v (ρ.set i (some s.frz))
  | _ => none
theorem xs_frz (i : Nat) (h : Sts C rest (ofS v)) : Sts C rest (ofS (xFrz i v)) := ss_weak (ss_frz i h) fun P ρ h => by
  unfold ofS xFrz at h
  split at h
  · rename_i s hs; exact ⟨s, hs, h⟩
  · exact h.elim
def xApp (i : Nat) (x : X) : XS := fun ρ => match ρ[i]? with
  | some (some (.own ds)) => rbind (x ρ) fun s => match s with
    | .dat d => guard' (decide (ds.length < sizeLine)) (ok (.nx (ρ.set i (some (.own (ds ++ [d]))))))
    | _ => none
  | _ => none
theorem xApp_of {i : Nat} {x : X} (P : Po) (ρ : Env') (h : ofS (xApp i x) P ρ) : wApp i (ofX x) P ρ := by
  unfold ofS xApp at h
  split at h
  · rename_i ds hs
    refine ⟨ds, hs, ofR_q (ofR_bind h) fun s h => ?_⟩
    split at h
    · rename_i d
      obtain ⟨e1, h⟩ := ofR_guard h
      exact ⟨d, rfl, of_decide_eq_true e1, h⟩
    · exact h.elim
  · exact h.elim
def xPar (i j : Nat) (r : XA) : XS := fun ρ => rbind (r ρ) fun ss => match ss with
  | [s, t] => guard' (s.lent && t.lent) (ok (.nx ((ρ.set i (some s)).set j (some t))))
  | _ => none
theorem xPar_of {i j : Nat} {r : XA} (P : Po) (ρ : Env') (h : ofS (xPar i j r) P ρ) : wPar i j (ofA r) P ρ := ofR_q (ofR_bind h) fun ss h => by
  split at h
  · rename_i s t
    obtain ⟨e1, h⟩ := ofR_guard h
    rw [Bool.and_eq_true] at e1
    exact ⟨s, t, rfl, e1.1, e1.2, h⟩
  · exact h.elim
/-! ### targets -/
abbrev XG := D → Env' → Option Env'
abbrev XGs := List D → Env' → Option Env'
def ofG (g : XG) : WG := fun d ρ q => ∃ ρ', g d ρ = some ρ' ∧ q ρ'
def ofGs (g : XGs) : WGs := fun ds ρ q => ∃ ρ', g ds ρ = some ρ' ∧ q ρ'
theorem g_weak {w w' : WG} {tg : Expr} (h : G C tg w) (k : ∀ d ρ q, w' d ρ q → w d ρ q) : G C tg w' := weakG h fun v σ H Q ⟨Z, ρ, d, q, s, dq, hg, kk⟩ => ⟨Z, ρ, d, q, s, dq, k _ _ _ hg, kk⟩
theorem gs_weak {w w' : WGs} {tg : List Expr} (h : Gs C tg w) (k : ∀ d ρ q, w' d ρ q → w d ρ q) : Gs C tg w' := weakGs h fun v σ H Q ⟨Z, ρ, d, q, s, dq, hg, kk⟩ => ⟨Z, ρ, d, q, s, dq, k _ _ _ hg, kk⟩
def xgNm (i : Nat) : XG := fun d ρ => some (ρ.set i (some (.dat d)))
theorem xg_nm {i : Nat} {x : Str} (hN : C.X.N.Nodup) (hi : C.X.N[i]? = some x) (hx : Loc C.X.env.scope x) (hf : C.X.fn x = true ∨ C.X.env.scope.names.lookup x = some .local := by first | exact .inl rfl | exact .inr rfl | assumption) : G C (.Name x pos) (ofG (xgNm i)) :=
  g_weak (g_nm hN hi hx hf) fun d ρ q ⟨ρ', e, h⟩ => by cases e; exact h
def xgNil : XGs := fun ds ρ => match ds with
  | [] => some ρ
  | _ => none
def xgCons (g : XG) (r : XGs) : XGs := fun ds ρ => match ds with
  | d :: es => match g d ρ with
    | some ρ' => r es ρ'
    | none => none
  | [] => none
theorem xgs_nil : Gs C [] (ofGs xgNil) := gs_weak gs_nil fun ds ρ q ⟨ρ', e, h⟩ => by
  unfold xgNil at e
  split at e
  · cases e; exact ⟨rfl, h⟩
  · cases e
theorem xgs_cons {es : List Expr} {g : XG} {r : XGs} (h1 : G C e (ofG g)) (h2 : Gs C es (ofGs r)) (hs : (assignEach (e :: es) C.X.env).map (·.2) = assign e C.X.env :: (assignEach es C.X.env).map (·.2) := by rfl) : Gs C (e :: es) (ofGs (xgCons g r)) :=
  gs_weak (gs_cons h1 h2 hs) fun ds ρ q ⟨ρ', e, h⟩ => by
    unfold xgCons at e
    split at e
    · split at e
      · rename_i e1; exact ⟨_, _, rfl, _, e1, ρ', e, h⟩
      · cases e
    · cases e
def xgTp (n : Nat) (r : XGs) : XG := fun d ρ => match d with
  | .tuple ds => match ds.length == n with
    | true => r ds ρ
    | false => none
  | _ => none
theorem xg_tup {es : List Expr} {k : Nat} {r : XGs} {n : Nat} (hc : C.X.calm = true) (h : Gs C es (ofGs r)) (hn : (assignEach es C.X.env).length = n := by rfl) (hst : (assignEach es C.X.env).findIdx? (·.1) = none := by rfl) : G C (.Tuple es k pos) (ofG (xgTp n r)) :=
  g_weak (g_tup hc h hn hst) fun d ρ q ⟨ρ', e, h⟩ => by
    unfold xgTp at e
    split at e
    · split at e
      · rename_i h1; exact ⟨_, rfl, by simpa using h1, ρ', e, h⟩
      · cases e
    · cases e
def xAsg (x : X) (g : XG) : XS := fun ρ => rbind (x ρ) fun s => match s with
  | .dat d => rbind (opt (g d ρ)) fun ρ' => ok (.nx ρ')
  | _ => none
theorem xs_asg {tg : Expr} {g : XG} {x : X} (he : E C e (ofX x)) (hg : G C tg (ofG g)) (hs : swapsWithSole [tg] e pos.line C.X.env = pure false := by rfl) (hw : swappedStores [tg] e C.X.env = pure none := by rfl)
    (h1 : (assignEach [tg] C.X.env).map (·.2) = [assign tg C.X.env] := by rfl) : St1 C (.Assign [tg] e pos) (ofS (xAsg x g)) :=
  s_weak (s_asg he hg hs hw h1) fun P ρ h => ofR_q (ofR_bind h) fun s h => by
    split at h
    · rename_i d
      obtain ⟨ρ', e1, hq⟩ := ofR_opt (ofR_bind h)
      exact ⟨d, rfl, ρ', e1, hq⟩
    · exact h.elim
/-! ### loops -/
def xLoop (g : XG) (b : XS) : List D → XS
  | [] => fun ρ => ok (.nx ρ)
  | d :: r => fun ρ => match g d ρ with
    | none => none
    | some ρ1 => rbind (b ρ1) fun f => match f with
      | .nx ρ2 => xLoop g b r ρ2
      | .ct ρ2 => xLoop g b r ρ2
      | .bk ρ2 => ok (.nx ρ2)
      | .rt s => ok (.rt s)
theorem xLoop_of {g : XG} {b : XS} {P : Po} : ∀ {ds : List D} {ρ : Env'}, ofS (xLoop g b ds) P ρ → wLoop (ofG g) (ofS b) ds P ρ
  | [], ρ, h => h
  | d :: r, ρ, h => by
    unfold ofS xLoop at h
    split at h
    · exact h.elim
    · rename_i ρ1 e1
      refine ⟨ρ1, e1, ofR_q (ofR_bind h) fun f h => ?_⟩
      cases f with
      | nx ρ2 => exact xLoop_of h
      | ct ρ2 => exact xLoop_of h
      | bk ρ2 => exact h
      | rt s => exact h
def xFor (i : XI) (g : XG) (b : XS) : XS := fun ρ => rbind (i ρ) fun ds => xLoop g b ds ρ
theorem xs_for {iter : Expr} {i : XI} {g : XG} {b : XS} (hp : PassesOwn (model C.X.prog C.X.w) C.X.A C.X.env C.X.xe) (hc : C.X.calm = true) (hi : Iter C tg iter (ofI i)) (hg : ∀ Z1, G (C.from Z1) tg (ofG g)) (hb : ∀ Z1, Sts (C.from Z1) body (ofS b))
    (hs : ∀ x, foldedSetIterable iter C.X.env x = pure x := by intro _; rfl) : St1 C (.For tg iter body [] pos) (ofS (xFor i g b)) :=
  s_weak (s_for hp hc hi hg hb hs) fun P ρ h => ofR_q (ofR_bind h) fun ds h => xLoop_of h
/-- while, at most n turns -/
def xWhile (t : XB) (b : XS) : Nat → XS
  | 0 => fun _ => none
  | n + 1 => fun ρ => rbind (t ρ) fun c => match c with
    | false => ok (.nx ρ)
    | true => rbind (b ρ) fun f => match f with
      | .nx ρ2 => xWhile t b n ρ2
      | .ct ρ2 => xWhile t b n ρ2
      | .bk ρ2 => ok (.nx ρ2)
      | .rt s => ok (.rt s)
theorem least_nat {p : Nat → Prop} : ∀ n, p n → ∃ m, p m ∧ ∀ k, p k → m ≤ k := by
  intro n
  induction n using Nat.strongRecOn with
  | _ n ih =>
    intro h
    by_cases c : ∃ k, k < n ∧ p k
    · obtain ⟨k, hk, hp⟩ := c; exact ih k hk hp
    · exact ⟨n, h, fun k hk => Nat.le_of_not_lt fun z => c ⟨k, z, hk⟩⟩
theorem xWhile_of {t : XB} {b : XS} {P : Po} {n : Nat} {ρ : Env'} (h : ofS (xWhile t b n) P ρ) : wWhile (ofB t) (ofS b) P ρ := by
  let p : Env' → Nat → Prop := fun ρ n => ofS (xWhile t b n) P ρ
  have μ : ∀ ρ, ∃ m : Nat, (∃ n, p ρ n) → p ρ m ∧ ∀ k, p ρ k → m ≤ k := fun ρ => by
    by_cases c : ∃ n, p ρ n
    · obtain ⟨n, hn⟩ := c
      obtain ⟨m, h1, h2⟩ := least_nat n hn
      exact ⟨m, fun _ => ⟨h1, h2⟩⟩
    · exact ⟨0, fun z => absurd z c⟩
  refine ⟨fun ρ => ∃ n, p ρ n, fun ρ => Classical.choose (μ ρ), ⟨n, h⟩, fun ρ hv => ?_⟩
  obtain ⟨h1, _⟩ := Classical.choose_spec (μ ρ) hv
  revert h1
  generalize hm : Classical.choose (μ ρ) = m
  intro h1
  cases m with
  | zero => exact h1.elim
  | succ m =>
    refine ofR_q (ofR_bind h1) fun c h2 => ?_
    have fall : ∀ ρ2, p ρ2 m → (∃ n, p ρ2 n) ∧ Classical.choose (μ ρ2) < Classical.choose (μ ρ) := fun ρ2 h3 => by
      refine ⟨⟨m, h3⟩, ?_⟩
      have := (Classical.choose_spec (μ ρ2) ⟨m, h3⟩).2 m h3
      rw [hm]
      omega
    cases c with
    | false => exact h2
    | true =>
      refine ofR_q (ofR_bind h2) fun f h3 => ?_
      cases f with
      | nx ρ2 => exact fall ρ2 h3
      | ct ρ2 => exact fall ρ2 h3
      | bk ρ2 => exact h3
      | rt s => exact h3
theorem xs_while (n : Nat) {b : XS} (hp : PassesOwn (model C.X.prog C.X.w) C.X.A C.X.env C.X.xe) (hc : T C c (ofB t)) (hb : Sts C body (ofS b)) : St1 C (.While c body [] pos) (ofS (xWhile t b n)) :=
  s_weak (s_while hp hc hb) fun P ρ h => xWhile_of h
end
end PL

/-! dicts; calls of defs; defs by their functions -/
namespace PL
open PySem PySem.Spec PyProof.Rows L2
/-! ### what a dict holds -/
def lookK {κ : Type} [DecidableEq κ] (es : List (κ × D)) (k : κ) : Option D := (es.find? fun p => decide (p.1 = k)).map (·.2)
/-- in its place, or at the end -/
def storeK {κ : Type} [DecidableEq κ] (es : List (κ × D)) (k : κ) (d : D) : List (κ × D) :=
  if (es.any fun p => decide (p.1 = k)) = true then es.map (fun p => if p.1 = k then (p.1, d) else p) else es ++ [(k, d)]
def asKey : D → Option Key
  | .int i => some (.inl i)
  | .str s => some (.inr s)
  | _ => none
def asKeys : List D → Option (List Key)
  | [] => some []
  | d :: r => match asKey d, asKeys r with
    | some k, some ks => some (k :: ks)
    | _, _ => none
def asKeyT : D → Option (List Key)
  | .tuple ds => asKeys ds
  | _ => none
theorem asKey_of {d : D} {k : Key} (h : asKey d = some k) : d = keyD k := by
  unfold asKey at h
  split at h <;> cases h <;> rfl
theorem asKeys_of : ∀ {ds : List D} {ks : List Key}, asKeys ds = some ks → ds = ks.map keyD
  | [], ks, h => by cases h; rfl
  | d :: r, ks, h => by
    unfold asKeys at h
    split at h
    · rename_i k ks' e1 e2; cases h
      rw [asKey_of e1, asKeys_of e2]; rfl
    · cases h
theorem asKeyT_of {d : D} {ks : List Key} (h : asKeyT d = some ks) : d = keyT ks := by
  unfold asKeyT at h
  split at h
  · rw [asKeys_of h]; rfl
  · cases h
@[simp] theorem asKey_keyD : ∀ k : Key, asKey (keyD k) = some k
  | .inl _ => rfl
  | .inr _ => rfl
@[simp] theorem asKeys_map : ∀ ks : List Key, asKeys (ks.map keyD) = some ks
  | [] => rfl
  | k :: r => by simp [asKeys, asKeys_map r]
@[simp] theorem asKeyT_keyT (ks : List Key) : asKeyT (keyT ks) = some ks := by simp [asKeyT, keyT]
def decK : List (D × D) → Option (List (Key × D))
  | [] => some []
  | (a, d) :: r => match asKey a, decK r with
    | some k, some es => some ((k, d) :: es)
    | _, _ => none
def decT : List (D × D) → Option (List (List Key × D))
  | [] => some []
  | (a, d) :: r => match asKeyT a, decT r with
    | some k, some es => some ((k, d) :: es)
    | _, _ => none
@[simp] theorem decK_map : ∀ es : List (Key × D), decK (es.map fun p => (keyD p.1, p.2)) = some es
  | [] => rfl
  | p :: r => by simp [decK, decK_map r]
@[simp] theorem decT_map : ∀ es : List (List Key × D), decT (es.map fun p => (keyT p.1, p.2)) = some es
  | [] => rfl
  | p :: r => by simp [decT, decT_map r]
/-- a dict whose keys are ints and texts; one whose keys are tuples of them -/
def S.dk : S → Option (List (Key × D))
  | .odK es => some es
  | .dat (.dict ((.bool false, _) :: m)) => decK m
  | _ => none
def S.dt : S → Option (List (List Key × D))
  | .odT es => some es
  | .dat (.dict ((.bool true, _) :: m)) => decT m
  | _ => none
@[simp] theorem dk_dat (es : List (Key × D)) : (S.dat (.dict (kvK es))).dk = some es := decK_map es
@[simp] theorem dt_dat (es : List (List Key × D)) : (S.dat (.dict (kvT es))).dt = some es := decT_map es
@[simp] theorem dk_datT (es : List (List Key × D)) : (S.dat (.dict (kvT es))).dk = none := rfl
@[simp] theorem dt_datK (es : List (Key × D)) : (S.dat (.dict (kvK es))).dt = none := rfl
theorem kvK_inj {a b : List (Key × D)} (h : kvK a = kvK b) : a = b := by
  have := congrArg (fun m => (S.dat (.dict m)).dk) h
  rw [dk_dat, dk_dat] at this
  exact Option.some.inj this
theorem kvT_inj {a b : List (List Key × D)} (h : kvT a = kvT b) : a = b := by
  have := congrArg (fun m => (S.dat (.dict m)).dt) h
  rw [dt_dat, dt_dat] at this
  exact Option.some.inj this
theorem look_rel {κ : Type} [DecidableEq κ] {Z : Hp} (k : κ) : ∀ {kvs : List (κ × V)} {es : List (κ × D)}, kvs.map (·.1) = es.map (·.1) → Dqs Z (kvs.map (·.2)) (es.map (·.2)) →
    (valV kvs k = none ∧ lookK es k = none) ∨ ∃ v d, valV kvs k = some v ∧ lookK es k = some d ∧ Dq Z v d
  | [], [], _, _ => .inl ⟨rfl, rfl⟩
  | [], _ :: _, h, _ => by cases h
  | _ :: _, [], h, _ => by cases h
  | p :: r, q :: s, h, d => by
    have h1 : p.1 = q.1 := (List.cons.inj h).1
    have h2 := (List.cons.inj h).2
    cases d with
    | cons d1 d2 =>
      by_cases e : p.1 = k
      · refine .inr ⟨p.2, q.2, valV_pos e, ?_, d1⟩
        simp [lookK, List.find?_cons, ← h1, e]
      · rcases look_rel k h2 d2 with ⟨a, b⟩ | ⟨v, d', a, b, c⟩
        · refine .inl ⟨by rw [valV_neg e]; exact a, ?_⟩
          have e2 : ¬ q.1 = k := h1 ▸ e
          simpa [lookK, List.find?_cons, e2] using b
        · refine .inr ⟨v, d', by rw [valV_neg e]; exact a, ?_, c⟩
          have e2 : ¬ q.1 = k := h1 ▸ e
          simpa [lookK, List.find?_cons, e2] using b
theorem store_fst {κ : Type} [DecidableEq κ] {kvs : List (κ × V)} {es : List (κ × D)} {k : κ} {v : V} {d : D} (h : kvs.map (·.1) = es.map (·.1)) : (putK kvs k v).map (·.1) = (storeK es k d).map (·.1) := by
  have anyE : (kvs.any fun p => decide (p.1 = k)) = (es.any fun p => decide (p.1 = k)) := by
    have e1 : (kvs.any fun p => decide (p.1 = k)) = (kvs.map (·.1)).any fun x => decide (x = k) := by rw [List.any_map]; rfl
    have e2 : (es.any fun p => decide (p.1 = k)) = (es.map (·.1)).any fun x => decide (x = k) := by rw [List.any_map]; rfl
    rw [e1, e2, h]
  unfold putK storeK
  rw [anyE]
  split
  · rw [List.map_map, List.map_map]
    have f1 : ((·.1) ∘ fun (p : κ × V) => if p.1 = k then (p.1, v) else p) = (·.1) := by funext p; simp only [Function.comp]; split <;> rfl
    have f2 : ((·.1) ∘ fun (p : κ × D) => if p.1 = k then (p.1, d) else p) = (·.1) := by funext p; simp only [Function.comp]; split <;> rfl
    rw [f1, f2]; exact h
  · simp [h]
theorem store_snd {κ : Type} [DecidableEq κ] {Z : Hp} {k : κ} {v : V} {d : D} (dv : Dq Z v d) : ∀ {kvs : List (κ × V)} {es : List (κ × D)}, kvs.map (·.1) = es.map (·.1) → Dqs Z (kvs.map (·.2)) (es.map (·.2)) → Dqs Z ((putK kvs k v).map (·.2)) ((storeK es k d).map (·.2)) := by
  intro kvs es h q
  have anyE : (kvs.any fun p => decide (p.1 = k)) = (es.any fun p => decide (p.1 = k)) := by
    have e1 : (kvs.any fun p => decide (p.1 = k)) = (kvs.map (·.1)).any fun x => decide (x = k) := by rw [List.any_map]; rfl
    have e2 : (es.any fun p => decide (p.1 = k)) = (es.map (·.1)).any fun x => decide (x = k) := by rw [List.any_map]; rfl
    rw [e1, e2, h]
  unfold putK storeK
  rw [anyE]
  split
  · clear anyE
    rename_i hh
    clear hh
    induction kvs generalizing es with
    | nil => cases es with
      | nil => exact .nil
      | cons _ _ => cases h
    | cons p r ih => cases es with
      | nil => cases h
      | cons p' r' =>
        have h1 : p.1 = p'.1 := (List.cons.inj h).1
        cases q with
        | cons q1 q2 =>
          simp only [List.map_cons]
          refine .cons ?_ (ih (List.cons.inj h).2 q2)
          by_cases e : p.1 = k
          · rw [if_pos e, if_pos (h1 ▸ e)]; exact dv
          · rw [if_neg e, if_neg (h1 ▸ e)]; exact q1
  · rw [List.map_append, List.map_append]
    exact dps_app q (.cons dv .nil)
theorem storeK_len {κ : Type} [DecidableEq κ] (es : List (κ × D)) (k : κ) (d : D) : (storeK es k d).length ≤ es.length + 1 := by
  unfold storeK
  split <;> simp
theorem lookK_store {κ : Type} [DecidableEq κ] (es : List (κ × D)) (k j : κ) (d : D) : lookK (storeK es k d) j = if j = k then some d else lookK es j := by
  unfold storeK
  split
  · rename_i h0
    have hh : ∀ es : List (κ × D), (es.any fun p => decide (p.1 = k)) = true → lookK (es.map fun p => if p.1 = k then (p.1, d) else p) j = if j = k then some d else lookK es j := by
      intro es
      induction es with
      | nil => intro h; cases h
      | cons p r ih =>
        intro h
        by_cases e : p.1 = k
        · by_cases ej : j = k
          · subst ej; simp [lookK, List.find?_cons, e]
          · have e2 : ¬ k = j := fun z => ej z.symm
            have e3 : ¬ p.1 = j := fun z => e2 (e ▸ z)
            simp only [List.map_cons, if_pos e, if_neg ej]
            have tail : lookK (r.map fun p => if p.1 = k then (p.1, d) else p) j = lookK r j := by
              clear ih h
              induction r with
              | nil => rfl
              | cons q s ih2 =>
                by_cases eq : q.1 = k
                · have e4 : ¬ q.1 = j := fun z => e2 (eq ▸ z)
                  simpa [lookK, List.find?_cons, eq, e2, e4] using ih2
                · by_cases eqj : q.1 = j
                  · simp [lookK, List.find?_cons, eqj, ej]
                  · simpa [lookK, List.find?_cons, eq, eqj] using ih2
            simpa [lookK, List.find?_cons, e, e2, e3] using tail
        · have h' : (r.any fun p => decide (p.1 = k)) = true := by simpa [List.any_cons, e] using h
          have := ih h'
          by_cases ep : p.1 = j
          · have ej : ¬ j = k := fun z => e (ep.trans z)
            simp [lookK, List.find?_cons, ep, ej]
          · simpa [lookK, List.find?_cons, e, ep] using this
    exact hh es h0
  · rename_i h
    have hn : ∀ p ∈ es, ¬ p.1 = k := fun p hp e => h (List.any_eq_true.mpr ⟨p, hp, decide_eq_true e⟩)
    clear h
    induction es with
    | nil =>
      by_cases ej : j = k
      · subst ej; simp [lookK]
      · have : ¬ k = j := fun z => ej z.symm
        simp [lookK, ej, this]
    | cons p r ih =>
      have h1 := hn p (by simp)
      have h2 := ih fun q hq => hn q (by simp [hq])
      by_cases ep : p.1 = j
      · have ej : ¬ j = k := fun z => h1 (ep.trans z)
        simp [lookK, List.find?_cons, ep, ej]
      · simpa [lookK, List.find?_cons, ep] using h2
/-! ### reading -/
def pGet (s k : S) : Option (Option D) := match k with
  | .dat key => match s.dk, s.dt with
    | some es, _ => match asKey key with
      | some x => some (lookK es x)
      | none => none
    | none, some es => match asKeyT key with
      | some x => some (lookK es x)
      | none => none
    | none, none => none
  | _ => none
section
variable {F : Option Fd} {H0 H Z : Hp} {x y : V} {s t : S}
theorem SV.dk_of {es : List (Key × D)} (h : SV F H0 H Z x s) (zh : Same Z H) (e : s.dk = some es) : ∃ a kvs, x = .ref a ∧ H a = some (.dK kvs) ∧ kvs.map (·.1) = es.map (·.1) ∧ Dqs Z (kvs.map (·.2)) (es.map (·.2)) := by
  unfold S.dk at e
  split at e
  · cases e
    obtain ⟨a, kvs, e1, h1, _, _, _, h5, h6⟩ := h
    exact ⟨a, kvs, e1, h1, h5, h6⟩
  · rename_i n m
    have h : Dq Z x (.dict ((.bool false, n) :: m)) := h
    generalize hg : PyData.dict ((.bool false, n) :: m) = g at h
    cases h with
    | dK h1 h5 h6 hm =>
      cases hg
      have := congrArg (fun m => (S.dat (.dict m)).dk) hm
      rw [dk_dat] at this
      have e' : decK m = some _ := this
      rw [e'] at e
      cases e
      exact ⟨_, _, rfl, zh _ _ h1, h5, h6⟩
    | dT h1 h5 h6 hm =>
      cases hg
      cases hm
    | _ => cases hg
  · cases e
theorem SV.dt_of {es : List (List Key × D)} (h : SV F H0 H Z x s) (zh : Same Z H) (e : s.dt = some es) : ∃ a kvs, x = .ref a ∧ H a = some (.dT kvs) ∧ kvs.map (·.1) = es.map (·.1) ∧ Dqs Z (kvs.map (·.2)) (es.map (·.2)) := by
  unfold S.dt at e
  split at e
  · cases e
    obtain ⟨a, kvs, e1, h1, _, _, _, h5, h6⟩ := h
    exact ⟨a, kvs, e1, h1, h5, h6⟩
  · rename_i n m
    have h : Dq Z x (.dict ((.bool true, n) :: m)) := h
    generalize hg : PyData.dict ((.bool true, n) :: m) = g at h
    cases h with
    | dT h1 h5 h6 hm =>
      cases hg
      have := congrArg (fun m => (S.dat (.dict m)).dt) hm
      rw [dt_dat] at this
      have e' : decT m = some _ := this
      rw [e'] at e
      cases e
      exact ⟨_, _, rfl, zh _ _ h1, h5, h6⟩
    | dK h1 h5 h6 hm =>
      cases hg
      cases hm
    | _ => cases hg
  · cases e
theorem key_val {k : Key} (h : Dq Z y (keyD k)) : y = kV k := by
  cases k with
  | inl i => cases (show Dq Z y (.int i) from h); rfl
  | inr i => cases (show Dq Z y (.str i) from h); rfl
theorem keys_val : ∀ {ks : List Key} {vs : List V}, Dqs Z vs (ks.map keyD) → vs = ks.map kV
  | [], _, h => by cases h; rfl
  | k :: r, _, h => by
    cases h with
    | cons a b => rw [key_val a, keys_val b]; rfl
theorem keyT_val {ks : List Key} (h : Dq Z y (keyT ks)) (zh : Same Z H) : ∃ b, y = .ref b ∧ H b = some (.tup (ks.map kV)) := by
  unfold keyT at h
  cases h with
  | tup h1 h2 => exact ⟨_, rfl, by rw [zh _ _ h1, keys_val h2]⟩
theorem dget_of {o : Option D} (sv : SV F H0 H Z x s) (sk : SV F H0 H Z y t) (zh : Same Z H) (h : pGet s t = some o) :
    ∃ a r, x = .ref a ∧ IsD H a ∧ DGet H a y r ∧ ((r = none ∧ o = none) ∨ ∃ v d, r = some v ∧ o = some d ∧ Dq Z v d) := by
  unfold pGet at h
  split at h
  · rename_i key
    have sk : Dq Z y key := sk
    split at h
    · rename_i es e1
      split at h
      · rename_i k e2; cases h
        rw [asKey_of e2] at sk
        obtain ⟨a, kvs, ex, h1, h2, h3⟩ := sv.dk_of zh e1
        rw [key_val sk]
        refine ⟨a, valV kvs k, ex, .inl ⟨kvs, .inl h1⟩, DGet.k h1, ?_⟩
        exact look_rel k h2 h3
      · cases h
    · rename_i es e0 e1
      split at h
      · rename_i k e2; cases h
        rw [asKeyT_of e2] at sk
        obtain ⟨a, kvs, ex, h1, h2, h3⟩ := sv.dt_of zh e1
        obtain ⟨b, ey, hb⟩ := keyT_val sk zh
        rw [ey]
        refine ⟨a, valV kvs k, ex, .inr ⟨kvs, .inl h1⟩, DGet.t h1 hb, ?_⟩
        exact look_rel k h2 h3
      · cases h
    · cases h
  · cases h
end
section
variable {C : Cp} {a b c e : Expr} {xa xb xc x : X} {pos : Pos}
def xGet (xa xb : X) : X := fun ρ => rbind (xa ρ) fun s => rbind (xb ρ) fun k => match pGet s k with
  | some (some d) => ok (.dat d)
  | _ => none
theorem x_get (hu : C.X.A.units + 1 < cLine) (ha : E C a (ofX xa)) (hb : E C b (ofX xb)) (hs : NoSl b) : E C (.Subscript a b pos) (ofX (xGet xa xb)) :=
  weakE (pe_dget hu ha hb hs) fun σ H Q ⟨Z, ρ, q, ex, st, hw, k, ke⟩ =>
    ⟨Z, ρ, _, ex, st, ofR_bind hw, fun s v H1 Z1 f1 fd1 sv1 q1 => ⟨Z1, ρ, _, ex, st.next f1 fd1, ofR_bind q1, fun t y H2 Z2 f2 fd2 sv2 q2 => by
      dsimp only at q2
      split at q2
      · rename_i d e1
        obtain ⟨p, r, e2, _, g, h⟩ := dget_of (sv1.next f2) sv2 f2.zh e1
        rcases h with ⟨_, h⟩ | ⟨v', d', h1, h2, h3⟩
        · cases h
        · cases h2
          subst h1
          exact ⟨p, v', e2, g, k (.dat d) _ H2 Z2 (f1.trans f2) fd2 h3 q2⟩
      · exact q2.elim, ke.next f1⟩, ke⟩
def S.isD (s : S) : Bool := s.dk.isSome || s.dt.isSome
theorem SV.isD {F : Option Fd} {H0 H Z : Hp} {x : V} {s : S} (h : SV F H0 H Z x s) (zh : Same Z H) (e : s.isD = true) : ∃ a, x = .ref a ∧ IsD H a := by
  unfold S.isD at e
  cases e1 : s.dk with
  | some es =>
    obtain ⟨a, kvs, ex, h1, _⟩ := h.dk_of zh e1
    exact ⟨a, ex, .inl ⟨kvs, .inl h1⟩⟩
  | none =>
    cases e2 : s.dt with
    | some es =>
      obtain ⟨a, kvs, ex, h1, _⟩ := h.dt_of zh e2
      exact ⟨a, ex, .inr ⟨kvs, .inl h1⟩⟩
    | none => rw [e1, e2] at e; cases e
/-- d.get(k) -/
def xGet1 (xa xb : X) : X := fun ρ => rbind (xa ρ) fun s => guard' s.isD (rbind (xb ρ) fun k => match pGet s k with
  | some (some d) => ok (.dat d)
  | some none => ok (.dat .none)
  | none => none)
theorem x_get1 {apos : Pos} (hu : C.X.A.units + 1 < cLine) (ha : E C a (ofX xa)) (hb : E C b (ofX xb)) (m : M1 C.X a "get" apos b pos := by exact ⟨rfl, rfl, rfl, rfl⟩) : E C (.Call (.Attribute a "get" apos) [b] [] pos) (ofX (xGet1 xa xb)) :=
  weakE (pe_dget1 hu ha hb m) fun σ H Q ⟨Z, ρ, q, ex, st, hw, k, ke⟩ =>
    ⟨Z, ρ, _, ex, st, ofR_bind hw, fun s v H1 Z1 f1 fd1 sv1 q1 => by
      obtain ⟨hd, q1⟩ := ofR_guard q1
      obtain ⟨p, e0, hp⟩ := sv1.isD f1.zh hd
      refine ⟨p, e0, hp, Z1, ρ, _, ex, st.next f1 fd1, ofR_bind q1, fun t y H2 Z2 f2 fd2 sv2 q2 => ?_, ke.next f1⟩
      have key : ∀ o, pGet s t = some o → q (.dat (o.getD .none)) → ∃ r, DGet H2 p y r ∧ Q (r.getD .non) H2 := fun o e1 hq => by
        obtain ⟨p', r, e2, _, g, h⟩ := dget_of (sv1.next f2) sv2 f2.zh e1
        rw [e0] at e2
        cases e2
        refine ⟨r, g, ?_⟩
        rcases h with ⟨h1, h2⟩ | ⟨v', d', h1, h2, h3⟩
        · subst h1 h2
          exact k (.dat .none) _ H2 Z2 (f1.trans f2) fd2 Dq.non hq
        · subst h1 h2
          exact k (.dat d') _ H2 Z2 (f1.trans f2) fd2 h3 hq
      dsimp only at q2
      split at q2
      · rename_i d e1; exact key _ e1 q2
      · rename_i e1; exact key _ e1 q2
      · exact q2.elim, ke⟩
/-- d.get(k, z) -/
def xGet2 (xa xb xc : X) : X := fun ρ => rbind (xa ρ) fun s => guard' s.isD (rbind (xb ρ) fun k => rbind (xc ρ) fun z => match pGet s k with
  | some (some d) => ok (.dat d)
  | some none => ok z
  | none => none)
theorem x_get2 {apos : Pos} (hu : C.X.A.units + 1 < cLine) (ha : E C a (ofX xa)) (hb : E C b (ofX xb)) (hc : E C c (ofX xc)) (m : M2 C.X a "get" apos b c pos := by exact ⟨rfl, rfl, rfl, rfl⟩) : E C (.Call (.Attribute a "get" apos) [b, c] [] pos) (ofX (xGet2 xa xb xc)) :=
  weakE (pe_dget2 hu ha hb hc m) fun σ H Q ⟨Z, ρ, q, ex, st, hw, k, ke⟩ =>
    ⟨Z, ρ, _, ex, st, ofR_bind hw, fun s v H1 Z1 f1 fd1 sv1 q1 => by
      obtain ⟨hd, q1⟩ := ofR_guard q1
      obtain ⟨p, e0, hp⟩ := sv1.isD f1.zh hd
      refine ⟨p, e0, hp, Z1, ρ, _, ex, st.next f1 fd1, ofR_bind q1, fun t y H2 Z2 f2 fd2 sv2 q2 => ?_, ke.next f1⟩
      refine ⟨Z2, ρ, _, ex, (st.next f1 fd1).next f2 fd2, ofR_bind q2, fun z w H3 Z3 f3 fd3 sv3 q3 => ?_, (ke.next f1).next f2⟩
      have f13 := (f1.trans f2).trans f3
      dsimp only at q3
      split at q3
      · rename_i d e1
        obtain ⟨p', r, e2, _, g, h⟩ := dget_of ((sv1.next f2).next f3) (sv2.next f3) f3.zh e1
        rw [e0] at e2
        cases e2
        rcases h with ⟨_, h2⟩ | ⟨v', d', h1, h2, h3⟩
        · cases h2
        · cases h2; subst h1
          exact ⟨_, g, k (.dat d) _ H3 Z3 f13 fd3 h3 q3⟩
      · rename_i e1
        obtain ⟨p', r, e2, _, g, h⟩ := dget_of ((sv1.next f2).next f3) (sv2.next f3) f3.zh e1
        rw [e0] at e2
        cases e2
        rcases h with ⟨h1, _⟩ | ⟨v', d', h1, h2, h3⟩
        · subst h1
          exact ⟨_, g, k z _ H3 Z3 f13 fd3 sv3 q3⟩
        · cases h2
      · exact q3.elim, ke⟩
/-- k in d -/
def pInD (neg : Bool) (k s : S) : Option S := match pGet s k with
  | some o => some (.dat (.bool (if neg then !o.isSome else o.isSome)))
  | none => none
theorem pc_in_of {op : CmpOp} {neg : Bool} (h : PC C.X op a b (fun σ H Q => tP C (ofX xa) σ H fun y H1 => tP C (ofX xb) σ H1 fun x H2 => ∃ p o, x = .ref p ∧ DGet H2 p y o ∧ Q (.bl (if neg then !o.isSome else o.isSome)) H2)) :
    PC C.X op a b (tP C (ofX (xBin (pInD neg) xa xb))) := by
  refine ⟨fun pins s σ H Q I ⟨Z, ρ, q, ex, st, hw, k, ke⟩ => h.run pins s σ H Q I ⟨Z, ρ, _, ex, st, ofR_bind hw, fun t y H1 Z1 f1 fd1 sv1 q1 => ?_, ke⟩⟩
  refine ⟨Z1, ρ, _, ex, st.next f1 fd1, ofR_bind q1, fun s x H2 Z2 f2 fd2 sv2 q2 => ?_, ke.next f1⟩
  obtain ⟨r, e0, hq⟩ := ofR_opt q2
  unfold pInD at e0
  split at e0
  · rename_i o e1
    cases e0
    obtain ⟨p, r, e2, _, g, h⟩ := dget_of sv2 (sv1.next f2) f2.zh e1
    have es : r.isSome = o.isSome := by rcases h with ⟨h1, h2⟩ | ⟨_, _, h1, h2, _⟩ <;> rw [h1, h2] <;> rfl
    refine ⟨p, r, e2, g, ?_⟩
    rw [es]
    exact k (.dat (.bool _)) _ H2 Z2 (f1.trans f2) fd2 (Dq.bl _) hq
  · cases e0
theorem pc_inD (hu : C.X.A.units + 1 < cLine) (ha : E C a (ofX xa)) (hb : E C b (ofX xb)) : PC C.X .In a b (tP C (ofX (xBin (pInD false) xa xb))) := pc_in_of (neg := false) (pc_din hu ha hb)
theorem pc_ninD (hu : C.X.A.units + 1 < cLine) (ha : E C a (ofX xa)) (hb : E C b (ofX xb)) : PC C.X .NotIn a b (tP C (ofX (xBin (pInD true) xa xb))) := pc_in_of (neg := true) (pc_dnotin hu ha hb)
theorem x_inD (hu : C.X.A.units + 1 < cLine) (ha : E C a (ofX xa)) (hb : E C b (ofX xb)) (hm : behindInMarks .In b = false := by rfl) : E C (.Compare a [.In] [b] pos) (ofX (xBin (pInD false) xa xb)) := pe_cmp (pc_inD hu ha hb) hm
theorem x_ninD (hu : C.X.A.units + 1 < cLine) (ha : E C a (ofX xa)) (hb : E C b (ofX xb)) (hm : behindInMarks .NotIn b = false := by rfl) : E C (.Compare a [.NotIn] [b] pos) (ofX (xBin (pInD true) xa xb)) := pe_cmp (pc_ninD hu ha hb) hm
theorem xt_of {p : PC C.X op a b (tP C (ofX x))} : True := trivial
theorem xt_pc {op : CmpOp} (h : PC C.X op a b (tP C (ofX x))) (hm : behindInMarks op b = false) : T C (.Compare a [op] [b] pos) (ofB (xT x)) :=
  weakT (pt_cmp h hm) fun σ H Q ⟨Z, ρ, q, ex, st, hw, k, ke⟩ => ⟨Z, ρ, _, ex, st, asB_of hw, fun s v H' Z' f fd sv ⟨b, e1, hq⟩ => by
    subst e1
    cases (show Dq Z' v (.bool b) from sv)
    exact ⟨b, rfl, k b H' Z' f fd hq⟩, ke⟩
theorem xt_inD (hu : C.X.A.units + 1 < cLine) (ha : E C a (ofX xa)) (hb : E C b (ofX xb)) (hm : behindInMarks .In b = false := by rfl) : T C (.Compare a [.In] [b] pos) (ofB (xT (xBin (pInD false) xa xb))) := xt_pc (pc_inD hu ha hb) hm
theorem xt_ninD (hu : C.X.A.units + 1 < cLine) (ha : E C a (ofX xa)) (hb : E C b (ofX xb)) (hm : behindInMarks .NotIn b = false := by rfl) : T C (.Compare a [.NotIn] [b] pos) (ofB (xT (xBin (pInD true) xa xb))) := xt_pc (pc_ninD hu ha hb) hm
/-! ### own dicts: made, stored into -/
def xNewK (i : Nat) : XS := fun ρ => ok (.nx (ρ.set i (some (.odK []))))
def xNewT (i : Nat) : XS := fun ρ => ok (.nx (ρ.set i (some (.odT []))))
theorem Fr.mineNew {F : Option Fd} {H Z : Hp} {p : Addr} {o : HO} (h : Fr F H Z H Z) (np : H p = none) : Fr F H Z (upd H p o) Z ∧ Z p = none := h.madeH np
variable {i : Nat} {y : Str} {pos' p1 p2 : Pos}
theorem xs_newK (hN : C.X.N.Nodup) (hi : C.X.N[i]? = some y) (hx : Loc C.X.env.scope y) (hs : swapsWith (.Dict [] [] p1) (some (.Name y pos')) pos.line C.X.env = pure false := by rfl)
    (hf : C.X.fn y = true ∨ C.X.env.scope.names.lookup y = some .local := by first | exact .inl rfl | exact .inr rfl | assumption) : St1 C (.Assign [.Name y pos'] (.Dict [] [] p1) pos) (ofS (xNewK i)) :=
  weakS (ps_set hN hi hx pe_dnewK hs hf) fun D σ H ⟨Z, ρ, P, s, h, d⟩ => fun p np => by
    obtain ⟨f, zp⟩ := Fr.madeH (o := .dK []) s.refl np
    exact d.nx _ _ _ _ (s.setMine (o := .dK []) (t := .odK []) f (s.fd.made np) i np (s.fd.ne np) fun h0 => ⟨p, [], rfl, upd_same, zp, h0, s.fd.ne np, rfl, .nil⟩) h
theorem xs_newT (hN : C.X.N.Nodup) (hi : C.X.N[i]? = some y) (hx : Loc C.X.env.scope y) (hs : swapsWith (.Dict [] [] p1) (some (.Name y pos')) pos.line C.X.env = pure false := by rfl)
    (hf : C.X.fn y = true ∨ C.X.env.scope.names.lookup y = some .local := by first | exact .inl rfl | exact .inr rfl | assumption) : St1 C (.Assign [.Name y pos'] (.Dict [] [] p1) pos) (ofS (xNewT i)) :=
  weakS (ps_set hN hi hx pe_dnewT hs hf) fun D σ H ⟨Z, ρ, P, s, h, d⟩ => fun p np => by
    obtain ⟨f, zp⟩ := Fr.madeH (o := .dT []) s.refl np
    exact d.nx _ _ _ _ (s.setMine (o := .dT []) (t := .odT []) f (s.fd.made np) i np (s.fd.ne np) fun h0 => ⟨p, [], rfl, upd_same, zp, h0, s.fd.ne np, rfl, .nil⟩) h
/-- d[k] = v, d an own dict in slot i -/
def xPut (i : Nat) (xk xv : X) : XS := fun ρ => match ρ[i]? with
  | some (some (.odK es)) => rbind (xv ρ) fun v => rbind (xk ρ) fun k => match v, k with
    | .dat d, .dat key => match asKey key with
      | some x => guard' (decide (es.length < sizeLine)) (ok (.nx (ρ.set i (some (.odK (storeK es x d))))))
      | none => none
    | _, _ => none
  | some (some (.odT es)) => rbind (xv ρ) fun v => rbind (xk ρ) fun k => match v, k with
    | .dat d, .dat key => match asKeyT key with
      | some x => guard' (decide (es.length < sizeLine)) (ok (.nx (ρ.set i (some (.odT (storeK es x d))))))
      | none => none
    | _, _ => none
  | _ => none
theorem xs_put {v k : Expr} {xv xk : X} (hu : C.X.A.units + 1 < cLine) (hd : PE C.X (.Name y p1) (tVar i)) (hk : E C k (ofX xk)) (hv : E C v (ofX xv)) (hs : swapsWith v (some (.Subscript (.Name y p1) k pos')) pos.line C.X.env = pure false := by rfl) :
    St1 C (.Assign [.Subscript (.Name y p1) k pos'] v pos) (ofS (xPut i xk xv)) :=
  weakS (ps_dput hu hd hk hv hs) fun D σ H ⟨Z, ρ, P, st, hw, d⟩ => by
    unfold ofS xPut at hw
    split at hw
    · rename_i es hr
      obtain ⟨w, ew, sw⟩ := st.env i _ hr
      refine ⟨Z, ρ, _, P.ex, st, ofR_bind hw, fun s v H1 Z1 f1 fd1 sv1 q1 => ?_, d.ke st⟩
      refine ⟨w, ew, Z1, ρ, _, P.ex, st.next f1 fd1, ofR_bind q1, fun t u H2 Z2 f2 fd2 sv2 q2 => ?_, (d.ke st).next f1⟩
      dsimp only at q2
      split at q2
      · rename_i dv key
        split at q2
        · rename_i x ek
          obtain ⟨hl, hq⟩ := ofR_guard q2
          obtain ⟨p, kvs, e0, h1, zp, h0, nfp, h5, h6⟩ := (sw.next f1).next f2
          have sv2 : Dq Z2 u key := sv2
          rw [asKey_of ek] at sv2
          rw [key_val sv2]
          have lk : kvs.length < sizeLine := by
            have := congrArg List.length h5
            rw [List.length_map, List.length_map] at this
            rw [this]; exact of_decide_eq_true hl
          refine ⟨p, _, e0, DPut.k h1 lk, ?_⟩
          subst e0
          have st2 := (st.next f1 fd1).next f2 fd2
          exact d.nx _ _ _ _ (st2.chg hr rfl ew (u := .odK (storeK es x dv)) fun zn h0 nfa => ⟨p, _, rfl, upd_same, zn, h0, nfa, store_fst h5, store_snd (sv1.next f2) h5 h6⟩) hq
        · exact q2.elim
      · exact q2.elim
    · rename_i es hr
      obtain ⟨w, ew, sw⟩ := st.env i _ hr
      refine ⟨Z, ρ, _, P.ex, st, ofR_bind hw, fun s v H1 Z1 f1 fd1 sv1 q1 => ?_, d.ke st⟩
      refine ⟨w, ew, Z1, ρ, _, P.ex, st.next f1 fd1, ofR_bind q1, fun t u H2 Z2 f2 fd2 sv2 q2 => ?_, (d.ke st).next f1⟩
      dsimp only at q2
      split at q2
      · rename_i dv key
        split at q2
        · rename_i x ek
          obtain ⟨hl, hq⟩ := ofR_guard q2
          obtain ⟨p, kvs, e0, h1, zp, h0, nfp, h5, h6⟩ := (sw.next f1).next f2
          have sv2 : Dq Z2 u key := sv2
          rw [asKeyT_of ek] at sv2
          obtain ⟨b, eb, hb⟩ := keyT_val sv2 f2.zh
          rw [eb]
          have lk : kvs.length < sizeLine := by
            have := congrArg List.length h5
            rw [List.length_map, List.length_map] at this
            rw [this]; exact of_decide_eq_true hl
          refine ⟨p, _, e0, DPut.t h1 hb lk, ?_⟩
          subst e0
          have st2 := (st.next f1 fd1).next f2 fd2
          exact d.nx _ _ _ _ (st2.chg hr rfl ew (u := .odT (storeK es x dv)) fun zn h0 nfa => ⟨p, _, rfl, upd_same, zn, h0, nfa, store_fst h5, store_snd (sv1.next f2) h5 h6⟩) hq
        · exact q2.elim
      · exact q2.elim
    · exact hw.elim
end
/-! ### calls -/
/-- a def by the function of its results -/
def ofF (n : Nat) (F : List S → R S) : WF := fun ss q e => ss.length = n ∧ ofR (F ss) q e
structure DefX (P : Program) (w : World) (K : PySem.W.Frag) (mg : Str → Option Value) (base : Heap) (fam : Fd → Prop) (XV : XVt) (x : Str) (st : Stmt) (k : Nat) (ps : List Str) (wf : WF) : Prop where
  ex : ∃ (f : Addr) (fd : FuncData), FnP P w K mg base (L2.CX P w) fam XV k f fd ps wf ∧ mg x = some (.ref f) ∧ PySem.W.keepIn K (.ref f) = true ∧ Binds K fd ps [] ∧
    ∃ kV doc pm an cdv ct, fd = PySem.W.fnOf x x (defArgs st) (defBody st) (defScope st) .none kV doc pm an cdv ct
  len : ∀ ss q e, wf ss q e → ss.length = ps.length
def xCall (F : List S → R S) (r : XA) : X := fun ρ => rbind (r ρ) fun ss => guard' (ss.all S.lent) (F ss)
section
variable {C : Cp} {fam : Fd → Prop} {k : Nat} {ps : List Str} {F : List S → R S} {wf : WF} {x : Str} {p pos : Pos} {e : Expr} {es : List Expr} {r : XA} {st : Stmt}
/-- what is raised in a callee goes on -/
abbrev Lets (C : Cp) : Prop := Passes (L2.CX C.X.prog C.X.w) C.X C.EE
theorem e_callX {r : WA} (d : DefX C.X.prog C.X.w C.X.K C.X.mg C.X.base fam C.XV x st k ps wf) (hF : HasF fam C.F) (hr : Room k C.X.A) (hgd : C.X.A.guards = some []) (hg : Gl C.X x) (hx : Lets C) (ha : A C (e :: es) r) (hdb : (x == ("__debug__" : Str)) = false := by decide)
    (he : starEach (e :: es) C.X.env = (false, eval e C.X.env) :: starEach es C.X.env := by rfl) (hpl : (backTo pos (starEach es C.X.env)).any (·.1) = false := by rfl) : E C (.Call (.Name x p) (e :: es) [] pos) (wCall wf r) := by
  obtain ⟨f, fd, Fn, hm, hk, hb, _⟩ := d.ex
  exact e_call Fn hF d.len hr hgd hg hm hk hb hx ha hdb he hpl
theorem x_call (d : DefX C.X.prog C.X.w C.X.K C.X.mg C.X.base fam C.XV x st k ps (ofF ps.length F)) (hF : HasF fam C.F) (hr : Room k C.X.A) (hgd : C.X.A.guards = some []) (hg : Gl C.X x) (hx : Lets C) (ha : A C (e :: es) (ofA r)) (hn : ∀ ρ ss, r ρ = ok ss → ss.length = ps.length) (hdb : (x == ("__debug__" : Str)) = false := by decide)
    (he : starEach (e :: es) C.X.env = (false, eval e C.X.env) :: starEach es C.X.env := by rfl) (hpl : (backTo pos (starEach es C.X.env)).any (·.1) = false := by rfl) : E C (.Call (.Name x p) (e :: es) [] pos) (ofX (xCall F r)) :=
  e_weak (e_callX d hF hr hgd hg hx ha hdb he hpl) fun ρ q ex h => by
    have h := ofR_bind h
    show ofR (r ρ) _ _
    revert h
    have hn := hn ρ
    generalize r ρ = g at hn
    intro h
    cases g with
    | none => exact h
    | some g =>
      cases g with
      | error x => exact h
      | ok ss =>
        obtain ⟨h1, h2⟩ := ofR_guard h
        exact ⟨h1, hn ss rfl, h2⟩
end
/-! ### calls by keywords, in whatever order -/
def permL {α : Type} (idx : List Nat) (l : List α) : List α := idx.filterMap fun i => l[i]?
theorem svs_perm {F : Option Fd} {H0 H Z : Hp} {vs : List V} {ss : List S} (h : SVs F H0 H Z vs ss) : ∀ idx : List Nat, SVs F H0 H Z (permL idx vs) (permL idx ss)
  | [] => .nil
  | i :: r => by
    unfold permL
    rw [List.filterMap_cons, List.filterMap_cons]
    cases e : ss[i]? with
    | none =>
      have e2 : vs[i]? = none := List.getElem?_eq_none (by rw [h.len]; exact List.getElem?_eq_none_iff.mp e)
      rw [e2]; exact svs_perm h r
    | some s =>
      obtain ⟨v, e2, sv⟩ := h.get e
      rw [e2]; exact .cons sv (svs_perm h r)
theorem vals_perm {vs : List V} {us : List Value} (h : Vals vs us) : ∀ idx : List Nat, Vals (permL idx vs) (permL idx us)
  | [] => .nil
  | i :: r => by
    unfold permL
    rw [List.filterMap_cons, List.filterMap_cons]
    cases e : vs[i]? with
    | none =>
      have e2 : us[i]? = none := List.getElem?_eq_none (by rw [← h.length]; exact List.getElem?_eq_none_iff.mp e)
      rw [e2]; exact vals_perm h r
    | some s =>
      obtain ⟨v, e2, sv⟩ := h.get e
      rw [e2]; exact .cons sv (vals_perm h r)
theorem perm_lent {ss : List S} (h : ss.all S.lent = true) (idx : List Nat) : (permL idx ss).all S.lent = true := by
  rw [List.all_eq_true] at h ⊢
  intro s hs
  obtain ⟨i, _, e⟩ := List.mem_filterMap.mp hs
  exact h s (List.mem_of_getElem? e)
def wCallK (n : Nat) (idx : List Nat) (wf : WF) (r : WA) : W := fun ρ q ex => r ρ (fun ss => ss.length = n ∧ ss.all S.lent = true ∧ wf (permL idx ss) q ex) ex
def xCallK (idx : List Nat) (F : List S → R S) (r : XA) : X := fun ρ => rbind (r ρ) fun ss => guard' (ss.all S.lent) (F (permL idx ss))
section
variable {C : Cp} {fam : Fd → Prop} {k : Nat} {ps : List Str} {F : List S → R S} {wf : WF} {x : Str} {p pos : Pos} {st : Stmt} {r : WA}
theorem e_callKX {kws : List Keyword} (ks : List Str) (idx : List Nat) (d : DefX C.X.prog C.X.w C.X.K C.X.mg C.X.base fam C.XV x st k ps wf) (hF : HasF fam C.F) (hr : Room k C.X.A) (hgd : C.X.A.guards = some []) (hg : Gl C.X x) (hx : Lets C) (ha : PK C.X kws (tPA C r))
    (hb : ∀ (kV doc pm : Value) (an : Option Addr) (cdv ct : Value) (us : List Value), us.length = ks.length → bindArgs (PySem.W.fnOf x x (defArgs st) (defBody st) (defScope st) .none kV doc pm an cdv ct) ⟨[], ks.zip us⟩ = pure (ps.zip (permL idx us)))
    (hall : (backToKw pos (keywordEach kws C.X.env)).all (·.1.isSome) = true := by rfl) (hks : (backToKw pos (keywordEach kws C.X.env)).filterMap (·.1) = ks := by rfl) (hdb : (x == ("__debug__" : Str)) = false := by decide)
    (hpl : ((backTo pos (starEach [] C.X.env)).any (·.1) || (backToKw pos (keywordEach kws C.X.env)).any (·.1.isNone)) = false := by rfl) : E C (.Call (.Name x p) [] kws pos) (wCallK ks.length idx wf r) := by
  obtain ⟨f, fd, Fn, hm, hk, _, kV, doc, pm, an, cdv, ct, rfl⟩ := d.ex
  constructor
  intro pins s σ H Q I ⟨Z, ρ, q, ex, st, hw, kt, ke⟩
  apply wpAny_Call_Name_kw
  apply ld_glob I hg hm _ hdb
  apply PySem.W.callWith_KW0 (h₀ := C.X.base) I.ok.mod.kin hk hall _ hpl
  have step := ha.run pos pins s σ H (fun vs H1 => vs.length = ks.length ∧ spF C.F C.XV ps.length wf (permL idx vs) H1 Q C.EE) I ⟨Z, ρ, _, ex, st, hw, fun ss vs H1 Z1 f1 fd1 sv ⟨lk, ln, hwf⟩ => ?_, ke⟩
  · refine thn step fun us s1 ⟨vs, H1, I1, rv, hlen, hq⟩ => ⟨I1.kIn, ?_⟩
    rw [hks]
    exact run_g (args := ⟨[], ks.zip us⟩) (Fn C.F hF) hr hgd hx I1 (.of_eq (hb _ _ _ _ _ _ us (by rw [← rv.length]; exact hlen))) (vals_perm rv idx) hq
  · exact ⟨by rw [sv.len]; exact lk, sp_call (d.len _) (Fr.refl f1.zh f1.notF) fd1 (svs_perm sv idx) (perm_lent ln idx) hwf (kt.next f1) (ke.next f1)⟩
theorem x_callK {kws : List Keyword} {r : XA} (ks : List Str) (idx : List Nat) (d : DefX C.X.prog C.X.w C.X.K C.X.mg C.X.base fam C.XV x st k ps (ofF ps.length F)) (hF : HasF fam C.F) (hr : Room k C.X.A) (hgd : C.X.A.guards = some []) (hg : Gl C.X x) (hx : Lets C) (ha : PK C.X kws (tPA C (ofA r)))
    (hb : ∀ (kV doc pm : Value) (an : Option Addr) (cdv ct : Value) (us : List Value), us.length = ks.length → bindArgs (PySem.W.fnOf x x (defArgs st) (defBody st) (defScope st) .none kV doc pm an cdv ct) ⟨[], ks.zip us⟩ = pure (ps.zip (permL idx us)))
    (hn : ∀ ρ ss, r ρ = ok ss → ss.length = ks.length) (hp : ∀ ss : List S, ss.length = ks.length → (permL idx ss).length = ps.length)
    (hall : (backToKw pos (keywordEach kws C.X.env)).all (·.1.isSome) = true := by rfl) (hks : (backToKw pos (keywordEach kws C.X.env)).filterMap (·.1) = ks := by rfl) (hdb : (x == ("__debug__" : Str)) = false := by decide)
    (hpl : ((backTo pos (starEach [] C.X.env)).any (·.1) || (backToKw pos (keywordEach kws C.X.env)).any (·.1.isNone)) = false := by rfl) : E C (.Call (.Name x p) [] kws pos) (ofX (xCallK idx F r)) :=
  e_weak (e_callKX ks idx d hF hr hgd hg hx ha hb hall hks hdb hpl) fun ρ q ex h => by
    have h := ofR_bind h
    show ofR (r ρ) _ _
    revert h
    have hn := hn ρ
    generalize r ρ = g at hn
    intro h
    cases g with
    | none => exact h
    | some g =>
      cases g with
      | error x => exact h
      | ok ss =>
        obtain ⟨h1, h2⟩ := ofR_guard h
        exact ⟨hn ss rfl, h1, hp ss (hn ss rfl), h2⟩
theorem xk_nil : PK C.X [] (tPA C (ofA xNil)) := k_nil
theorem weakK {kws : List Keyword} {w w' : WA} (h : PK C.X kws (tPA C w)) (k : ∀ ρ q e, w' ρ q e → w ρ q e) : PK C.X kws (tPA C w') :=
  ⟨fun pos pins s σ H Q I ⟨Z, ρ, q, ex, st, hw, kt, ke⟩ => h.run pos pins s σ H Q I ⟨Z, ρ, q, ex, st, k _ _ _ hw, kt, ke⟩⟩
theorem xk_cons {e : Expr} {kws : List Keyword} {a : X} {r : XA} {nm : Option Str} {kpos : Pos} (ha : E C e (ofX a)) (hr : PK C.X kws (tPA C (ofA r))) : PK C.X (⟨nm, e, kpos⟩ :: kws) (tPA C (ofA (xCons a r))) :=
  weakK (k_cons ha hr) fun ρ q e h => ofR_q (ofR_bind h) fun s h => ofR_q (ofR_bind h) fun ss h => h
end
/-- the arguments' number -/
def cntA : XA → Nat → Prop := fun r n => ∀ ρ ss, r ρ = ok ss → ss.length = n
theorem cnt_nil : cntA xNil 0 := fun ρ ss h => by cases h; rfl
theorem cnt_cons {a : X} {r : XA} {n : Nat} (h : cntA r n) : cntA (xCons a r) (n + 1) := fun ρ ss e => by
  unfold xCons at e
  cases ha : a ρ with
  | none => rw [ha] at e; cases e
  | some g =>
    cases g with
    | error x => rw [ha] at e; cases e
    | ok s =>
      rw [ha] at e
      cases hr : r ρ with
      | none => rw [hr] at e; cases e
      | some g =>
        cases g with
        | error x => rw [hr] at e; cases e
        | ok us =>
          rw [hr] at e
          cases e
          rw [List.length_cons, h ρ us hr]
/-! ### defs -/
def runF (n : Nat) (b : XS) : List S → R S := fun ss => rbind (b (start' n ss)) fun f => match f with
  | .nx _ => ok (.dat .none)
  | .rt s => ok s
  | _ => none
theorem runF_of {n : Nat} {b : XS} {ss : List S} {q : S → Prop} {e : Xn → Prop} (h : ofR (runF n b ss) q e) : wBody n (ofS b) ss q e := ofR_q (ofR_bind h) fun f h => by
  cases f with
  | nx ρ => exact h
  | rt s => exact h
  | bk ρ => exact h.elim
  | ct ρ => exact h.elim
/-- where the top has put a def -/
def Has (K : PySem.W.Frag) (x : Str) (st : Stmt) : Prop := ∃ (f : Addr) (oc : Value) (od an : Option Addr) (osl : Array (Option Value)) (kV doc pm cdv ct : Value),
  PySem.W.nsIn K mainGlobals x = some (some (.ref f)) ∧ K.lookup f = some ⟨oc, od, .func (PySem.W.fnOf x x (defArgs st) (defBody st) (defScope st) .none kV doc pm an cdv ct), osl⟩ ∧
  PySem.W.codeIn K cdv x = true ∧ PySem.W.keepIn K (.ref f) = true
theorem has_mk {K : PySem.W.Frag} {x : Str} {st : Stmt} {f : Addr} {oc : Value} {od an : Option Addr} {osl : Array (Option Value)} {kV doc pm cdv ct : Value} (a : PySem.W.nsIn K mainGlobals x = some (some (.ref f)))
    (l : K.lookup f = some ⟨oc, od, .func (PySem.W.fnOf x x (defArgs st) (defBody st) (defScope st) .none kV doc pm an cdv ct), osl⟩) (c : PySem.W.codeIn K cdv x = true) (k : PySem.W.keepIn K (.ref f) = true) : Has K x st :=
  ⟨f, oc, od, an, osl, kV, doc, pm, cdv, ct, a, l, c, k⟩
section
variable {P : Program} {w : World} {K : PySem.W.Frag} {mg : Str → Option Value} {base h : Heap} {fam : Fd → Prop} {XV : XVt}
/-- the context of a def's body -/
abbrev bodyC (P : Program) (w : World) (K : PySem.W.Frag) (mg : Str → Option Value) (base : Heap) (XV : XVt) (N : List Str) (x : Str) (st : Stmt) (f : Addr) (cdv : Value) (A : Around) (outer : List Env) (s : Shared) (H Z : Hp) (E : XK) (Fo : Option Fd) : Cp :=
  cpOf (cxOf (L2.CX P w) P w K mg base N x (defScope st) f cdv A outer s H E) Fo H Z E XV
theorem defW_of {x : Str} {st : Stmt} {N ps : List Str} {k : Nat} {wf : WF} {ws : WS} (X : K.In h) (G : h.Ns mainGlobals mg) (has : Has K x st) (S : FnScope N ps (defScope st))
    (hb : ∀ {f : Addr} {cdv : Value} {A : Around} {outer : List Env} {s : Shared} {H Z : Hp} {E : XK} {Fo : Option Fd}, Room k (A.deeper (envOfC x (defScope st) s.heap.objs.size f cdv)) → A.guards = some [] → (HasF fam Fo) →
      Sts (bodyC P w K mg base XV N x st f cdv A outer s H Z E Fo) (defBody st) ws)
    (hi : ∀ ss q e, ss.length = ps.length → wf ss q e → wBody N.length ws ss q e) (len : ∀ ss q e, wf ss q e → ss.length = ps.length)
    (bd : ∀ (kV doc pm : Value) (an : Option Addr) (cdv ct : Value) (us : List Value), us.length = ps.length → bindArgs (PySem.W.fnOf x x (defArgs st) (defBody st) (defScope st) .none kV doc pm an cdv ct) ⟨us, []⟩ = pure (ps.zip us)) :
    DefX P w K mg base fam XV x st (k + 1) ps wf := by
  obtain ⟨f, oc, od, an, osl, kV, doc, pm, cdv, ct, a, l, c, kp⟩ := has
  have F := fun_mk l c kp
  exact ⟨⟨f, _, fp_of F S (fun cdv A outer s H Z E Fo hr hg hF => hb hr hg hF) hi, PySem.W.mg_of X G a, kp, F.binds bd, _, _, _, _, _, _, rfl⟩, len⟩
theorem defX_of {x : Str} {st : Stmt} {N ps : List Str} {k : Nat} {b : XS} (X : K.In h) (G : h.Ns mainGlobals mg) (has : Has K x st) (S : FnScope N ps (defScope st))
    (hb : ∀ {f : Addr} {cdv : Value} {A : Around} {outer : List Env} {s : Shared} {H Z : Hp} {E : XK} {Fo : Option Fd}, Room k (A.deeper (envOfC x (defScope st) s.heap.objs.size f cdv)) → A.guards = some [] → (HasF fam Fo) →
      Sts (bodyC P w K mg base XV N x st f cdv A outer s H Z E Fo) (defBody st) (ofS b))
    (bd : ∀ (kV doc pm : Value) (an : Option Addr) (cdv ct : Value) (us : List Value), us.length = ps.length → bindArgs (PySem.W.fnOf x x (defArgs st) (defBody st) (defScope st) .none kV doc pm an cdv ct) ⟨us, []⟩ = pure (ps.zip us)) :
    DefX P w K mg base fam XV x st (k + 1) ps (ofF ps.length (runF N.length b)) :=
  defW_of X G has S hb (fun ss q e _ h => runF_of h.2) (fun ss q e h => h.1) bd
/-- another function that gives the same where something is given -/
theorem DefX.imp {x : Str} {st : Stmt} {ps : List Str} {k : Nat} {wf wf' : WF} (d : DefX P w K mg base fam XV x st k ps wf) (hi : ∀ ss q e, ss.length = ps.length → wf' ss q e → wf ss q e) (len : ∀ ss q e, wf' ss q e → ss.length = ps.length) : DefX P w K mg base fam XV x st k ps wf' := by
  obtain ⟨f, fd, Fn, r⟩ := d.ex
  exact ⟨⟨f, fd, Fn.imp hi, r⟩, len⟩
/-- what is raised in a body leaves the def -/
theorem lets_body {N : List Str} {x : Str} {st : Stmt} {f : Addr} {cdv : Value} {A : Around} {outer : List Env} {s : Shared} {H Z : Hp} {E : XK} {Fo : Option Fd} : Lets (bodyC P w K mg base XV N x st f cdv A outer s H Z E Fo) :=
  passes_call (takes_of rfl rfl rfl rfl) fun _ _ _ _ h => h
theorem lets_blk {C : Cp} {s : Shared} {H : Hp} {scope : Scope} {cenv : Env} {fp : List Addr} : Lets (C.blk s H scope cenv fp) := passL
end
end PL

/-! displays by clauses that make a set or a dict, one clause or two, without tests -/
namespace PL
open PySem PySem.Spec PyProof.Rows L2
/-- what is made -/
inductive Knd where
  | st (elt : Expr)
  | dc (kx vx : Expr)
abbrev Knd.ex : Knd → List Comprehension → Scope → Pos → Expr
  | .st a, cs, sc, p => .SetComp a cs sc p
  | .dc a b, cs, sc, p => .DictComp a b cs sc p
/-- one element is put in -/
def Knd.put : Knd → Value → Env → Sem Unit
  | .st a, acc, g => do
    let y ← eval a g
    standAt a.pos
    let _ ← call (.builtin "set.add") [acc, y]
  | .dc a b, acc, g => do
    let y ← eval a g
    let z ← holding [y] (eval b g)
    match acc with
    | .ref q => do
      standAt { a.pos with endLine := b.pos.endLine, endCol := b.pos.endCol }
      holding [y, z] (dictSet q y z)
    | _ => unsupported "internal:dictcomp"
/-- a turn of a clause, what is within it apart -/
def turnBy (i t : Expr) (inner : Sem Unit) (c : Code) (it : Value) (g : Env) : Sem Fin := do
  standAt i.pos
  match ← pyNext it with
  | none => pure (.done .next)
  | some y =>
    letOwnedTupleGo t it y
    assign t g y
    inner
    again c
/-- a turn of the first clause of two -/
def turnTo (e i t i1 : Expr) (acc : Value) (c : Code) (it : Value) (g : Env) : Sem Fin := do
  standAt i.pos
  match ← pyNext it with
  | none => pure (.done .next)
  | some y =>
    letOwnedTupleGo t it y
    assign t g y
    let z ← eval i1 g
    standAt i1.pos
    let z ← foldedSetIterable i1 g z
    let _ ← runOwn (.compStart e 1 (← holding [z] (pyIter z)) acc g) g
    again c
section
variable {kd : Knd} {t0 i0 t1 i1 : Expr} {sc : Scope} {pos : Pos} {it acc : Value} {g : Env}
theorem turn1 : compTurn (kd.ex [⟨t0, i0, [], 0⟩] sc pos) 0 it acc g = turnBy i0 t0 (kd.put acc g) (.compLoop (kd.ex [⟨t0, i0, [], 0⟩] sc pos) 0 it acc g) it g := by cases kd <;> rfl
theorem turn2a : compTurn (kd.ex [⟨t0, i0, [], 0⟩, ⟨t1, i1, [], 0⟩] sc pos) 0 it acc g = turnTo (kd.ex [⟨t0, i0, [], 0⟩, ⟨t1, i1, [], 0⟩] sc pos) i0 t0 i1 acc (.compLoop (kd.ex [⟨t0, i0, [], 0⟩, ⟨t1, i1, [], 0⟩] sc pos) 0 it acc g) it g := by cases kd <;> rfl
theorem turn2b : compTurn (kd.ex [⟨t0, i0, [], 0⟩, ⟨t1, i1, [], 0⟩] sc pos) 1 it acc g = turnBy i1 t1 (kd.put acc g) (.compLoop (kd.ex [⟨t0, i0, [], 0⟩, ⟨t1, i1, [], 0⟩] sc pos) 1 it acc g) it g := by cases kd <;> rfl
end
section
variable {prog : Program} {w : World} {A : Around} {R : Result → Shared → Prop} {s : Shared} {kd : Knd} {cs : List Comprehension} {d : Nat} {i t : Expr} {sc : Scope} {pos : Pos} {it acc : Value} {g : Env} {inner : Sem Unit}
/-- a loop by its turns; nothing is raised -/
theorem loopBy (he : compTurn (kd.ex cs sc pos) d it acc g = turnBy i t inner (.compLoop (kd.ex cs sc pos) d it acc g) it g) (I : Nat → Shared → Prop)
    (turn : ∀ n s, I n s → wpAny (model prog w) A (pyNext it) (fun r s1 => match r with
      | none => R (.ok .next) s1
      | some y => wpAny (model prog w) A (letOwnedTupleGo t it y) (fun _ s2 => wpAny (model prog w) A (assign t g y) (fun _ s3 => wpAny (model prog w) A inner (fun _ s4 => ∃ m, m < n ∧ I m s4) (fun _ _ => False) s3) (fun _ _ => False) s2) (fun _ _ => False) s1) (fun _ _ => False) s)
    (n : Nat) (h : I n s) : codeAny (model prog w) A (.compLoop (kd.ex cs sc pos) d it acc g) R s := by
  refine codeAny_loop (by cases kd <;> rfl) I (fun n s hI => ?_) n h
  have key : wpAny (model prog w) (A.under (.compLoop (kd.ex cs sc pos) d it acc g)) ((compTurn (kd.ex cs sc pos) d it acc g).onRaise (fun x => do noteFrame x g; theTreesLotGoes x)) (fun fin s' => match fin with
      | .done f => R (.ok f) s'
      | .again c' => c' = .compLoop (kd.ex cs sc pos) d it acc g ∧ ∃ m, m < n ∧ I m s') (fun e s' => R (.error e) s') s := by
    have eA : A.under (.compLoop (kd.ex cs sc pos) d it acc g) = A := by cases kd <;> rfl
    rw [eA]
    refine wpAny_noted ?_
    rw [he]
    unfold turnBy
    refine wpAny_bind (wpAny_standAt (wpAny_bind (wpAny_mono (turn n s hI) (fun r s1 h1 => ?_) fun _ _ z => z.elim)))
    cases r with
    | none => exact wpAny_pure h1
    | some y => exact wpAny_bind (wpAny_mono h1 (fun _ s2 h2 => wpAny_bind (wpAny_mono h2 (fun _ s3 h3 => wpAny_bind (wpAny_mono h3 (fun _ s4 h4 => wpAny_pure ⟨rfl, h4⟩) fun _ _ z => z.elim)) fun _ _ z => z.elim)) fun _ _ z => z.elim)
  cases kd <;> exact key
theorem loopTo {t0 i0 t1 i1 : Expr} (hs : ∀ x, foldedSetIterable i1 g x = pure x) (I : Nat → Shared → Prop)
    (turn : ∀ n s, I n s → wpAny (model prog w) A (pyNext it) (fun r s1 => match r with
      | none => R (.ok .next) s1
      | some y => wpAny (model prog w) A (letOwnedTupleGo t0 it y) (fun _ s2 => wpAny (model prog w) A (assign t0 g y) (fun _ s3 =>
          wpAny (model prog w) A (eval i1 g) (fun z s4 => wpAny (model prog w) A (pyIter z) (fun j s5 => codeAny (model prog w) A (.compStart (kd.ex [⟨t0, i0, [], 0⟩, ⟨t1, i1, [], 0⟩] sc pos) 1 j acc g) (fun r s' => (∃ f, r = .ok f) ∧ ∃ m, m < n ∧ I m s') s5) (fun _ _ => False) s4) (fun _ _ => False) s3) (fun _ _ => False) s2) (fun _ _ => False) s1) (fun _ _ => False) s)
    (n : Nat) (h : I n s) : codeAny (model prog w) A (.compLoop (kd.ex [⟨t0, i0, [], 0⟩, ⟨t1, i1, [], 0⟩] sc pos) 0 it acc g) R s := by
  refine codeAny_loop (by cases kd <;> rfl) I (fun n s hI => ?_) n h
  have key : wpAny (model prog w) (A.under (.compLoop (kd.ex [⟨t0, i0, [], 0⟩, ⟨t1, i1, [], 0⟩] sc pos) 0 it acc g)) ((compTurn (kd.ex [⟨t0, i0, [], 0⟩, ⟨t1, i1, [], 0⟩] sc pos) 0 it acc g).onRaise (fun x => do noteFrame x g; theTreesLotGoes x)) (fun fin s' => match fin with
      | .done f => R (.ok f) s'
      | .again c' => c' = .compLoop (kd.ex [⟨t0, i0, [], 0⟩, ⟨t1, i1, [], 0⟩] sc pos) 0 it acc g ∧ ∃ m, m < n ∧ I m s') (fun e s' => R (.error e) s') s := by
    have eA : A.under (.compLoop (kd.ex [⟨t0, i0, [], 0⟩, ⟨t1, i1, [], 0⟩] sc pos) 0 it acc g) = A := by cases kd <;> rfl
    rw [eA]
    refine wpAny_noted ?_
    rw [turn2a]
    unfold turnTo
    refine wpAny_bind (wpAny_standAt (wpAny_bind (wpAny_mono (turn n s hI) (fun r s1 h1 => ?_) fun _ _ z => z.elim)))
    cases r with
    | none => exact wpAny_pure h1
    | some y =>
      refine wpAny_bind (wpAny_mono h1 (fun _ s2 h2 => wpAny_bind (wpAny_mono h2 (fun _ s3 h3 => ?_) fun _ _ z => z.elim)) fun _ _ z => z.elim)
      refine wpAny_bind (wpAny_mono h3 (fun z s4 h4 => ?_) fun _ _ z => z.elim)
      refine wpAny_bind (wpAny_standAt (wpAny_bind (wpAny_of_eq (hs z) (wpAny_bind (wpAny_holding (wpAny_mono h4 (fun j s5 h5 => ?_) fun _ _ z => z.elim))))))
      refine wpAny_bind (wpAny_runOwn ?_)
      rw [Around.mark_none]
      refine codeAny_mono h5 fun r s' ⟨⟨f, hr⟩, hm⟩ => ?_
      subst hr
      first
        | exact wpAny_pure ⟨rfl, hm⟩
        | exact wpAny_bind (wpAny_pure (wpAny_pure ⟨rfl, hm⟩))
  cases kd <;> exact key
/-- the second clause begins -/
theorem startBy {t0 i0 t1 i1 : Expr} (h0 : codeAny (model prog w) A (.compLoop (kd.ex [⟨t0, i0, [], 0⟩, ⟨t1, i1, [], 0⟩] sc pos) 1 it acc g) R s)
    (h : wpAny (model prog w) A (pyIter it) (fun j s' => codeAny (model prog w) A (.compLoop (kd.ex [⟨t0, i0, [], 0⟩, ⟨t1, i1, [], 0⟩] sc pos) 1 j acc g) R s') (fun _ _ => False) s) :
    codeAny (model prog w) A (.compStart (kd.ex [⟨t0, i0, [], 0⟩, ⟨t1, i1, [], 0⟩] sc pos) 1 it acc g) R s := by
  refine codeAny_of_tree ?_
  have key : wpAny (model prog w) A ((compStart (kd.ex [⟨t0, i0, [], 0⟩, ⟨t1, i1, [], 0⟩] sc pos) 1 it acc g).onRaise (fun x => do noteFrame x g; standAt theWindowsPlace)) (fun fin s' => match fin with
      | .done f => R (.ok f) s'
      | .again c' => c'.quiet = true ∧ codeAny (model prog w) A c' R s') (fun e s' => R (.error e) s') s := by
    refine wpAny_notedAt ?_
    unfold compStart
    cases kd <;>
    · show wpAny _ _ (ask >>= _) _ _ s
      refine wpAny_bind (wpAny_askSetting (wpAny_ite ?_))
      split
      · first
          | exact wpAny_bind (wpAny_pure (wpAny_pure ⟨rfl, h0⟩))
          | exact wpAny_pure ⟨rfl, h0⟩
      · refine wpAny_bind (wpAny_rule ?_)
        show wpAny _ _ (standAt i1.pos >>= _) _ _ s
        exact wpAny_bind (wpAny_standAt (wpAny_bind (wpAny_mono h (fun j s' h' => wpAny_pure ⟨rfl, h'⟩) fun _ _ z => z.elim)))
  cases kd <;> exact key
end
end PL

/-! .. their loops over the layer -/
namespace PL
open PySem PySem.Spec PyProof.Rows L2
/-- what is done with the heap in a turn, then what is wanted of it -/
abbrev TB := L2.St → Hp → (Hp → Prop) → Prop
/-- a clause over J: vs: its names and those behind it -/
def tCl (g : TG) (vs : List Nat) (B : TB) (J : It) : TB := fun σ H Nx => ∃ W : Nat → Nat → Hp → Prop, (∃ m, W 0 m H) ∧ ∀ i m H1, W i m H1 →
  (J.stop i H1 ∧ Nx H1) ∨ (J.go i H1 ∧ ∃ N1 : Hp → Prop, (∀ H2, N1 H2 → ∃ k, k < m ∧ W (i + 1) k H2) ∧ ∀ x H2, J.yld i H1 x H2 → g x (L2.wipe σ vs) H2 fun σ3 H3 => L2.wipe σ3 vs = L2.wipe σ vs ∧ B σ3 H3 N1)
section
variable {X : Cx} {pins : List (Addr × Obj)} {σ : L2.St} {t : Expr} {J : It} {fp : List Addr} {it : Addr} {tn : Nat → Heap → Prop} {g : TG} {vs : List Nat} {B : TB} {Nx : Hp → Prop} {W : Nat → Nat → Hp → Prop}
/-- between two turns -/
def Btw (X : Cx) (pins : List (Addr × Obj)) (σ : L2.St) (fp : List Addr) (tn : Nat → Heap → Prop) (W : Nat → Nat → Hp → Prop) (n : Nat) (s : Shared) : Prop :=
  ∃ i H, Inv X pins σ H s ∧ tn i s.heap ∧ (∀ b ∈ fp, H b = none) ∧ W i n H
theorem turnRun (hc : X.calm = true) (T : Turn X.prog X.w X.K t J fp it tn) (pg : PG X t g) {H0 : Hp} (hf : ∀ b ∈ fp, FpOk X pins H0 b)
    (hW : ∀ i m H1, W i m H1 → (J.stop i H1 ∧ Nx H1) ∨ (J.go i H1 ∧ ∃ N1 : Hp → Prop, (∀ H2, N1 H2 → ∃ k, k < m ∧ W (i + 1) k H2) ∧ ∀ x H2, J.yld i H1 x H2 → g x (L2.wipe σ vs) H2 fun σ3 H3 => L2.wipe σ3 vs = L2.wipe σ vs ∧ B σ3 H3 N1))
    {n : Nat} {s : Shared} (b : Btw X pins (L2.wipe σ vs) fp tn W n s) :
    wpAny (model X.prog X.w) X.A (pyNext (.ref it)) (fun r s1 => match r with
      | none => ∃ H1, Inv X pins (L2.wipe σ vs) H1 s1 ∧ Nx H1
      | some y => wpAny (model X.prog X.w) X.A (letOwnedTupleGo t (.ref it) y) (fun _ s2 => wpAny (model X.prog X.w) X.A (assign t X.env y) (fun _ s3 =>
          ∃ pl σ3 H3 N1, Inv X (pins ++ pl) σ3 H3 s3 ∧ B σ3 H3 N1 ∧ ∀ s4 H4 us, (∀ j ∈ us, j ∈ vs) → Inv X (pins ++ pl) (L2.wipe σ3 us) H4 s4 → N1 H4 → ∃ m, m < n ∧ Btw X pins (L2.wipe σ vs) fp tn W m s4) X.xe s2) X.xe s1) X.xe s := by
  obtain ⟨i, H, I, st, nn, w⟩ := b
  have stat : ∀ {H' : Hp}, (∀ b ∈ fp, H' b = none) → ∀ b ∈ fp, FpOk X pins H' b := fun h b hb => ⟨h b hb, (hf b hb).2⟩
  rcases hW i n H w with ⟨hstop, nx⟩ | ⟨hgo, N1, hN, step⟩
  · have td := T.done X rfl rfl rfl hc i pins s _ H (fun _ _ => False) I (stat nn) st hstop
    refine thnF td fun r s1 ⟨hr, I1⟩ => ?_
    subst hr
    exact ⟨H, I1, nx⟩
  · have ti := T.item X rfl rfl rfl hc i pins s _ H (fun _ _ => False) I (stat nn) st hgo
    refine thnF ti fun r s1 ⟨u, hr, h1⟩ => ?_
    subst hr
    refine thnF h1 fun _ s2 ⟨x, H2, I2, r2, y2, st2, n2⟩ => ?_
    have I2' := I2.pinned (stat n2) (T.obj _ _ st2)
    refine thn (pg.run _ s2 _ H2 x u _ I2' r2 (step x H2 y2)) fun _ s3 ⟨σ3, H3, I3, hw, hB⟩ => ?_
    refine ⟨pinsAt fp s2.heap, σ3, H3, N1, I3, hB, fun s4 H4 us hus I4 h4 => ?_⟩
    obtain ⟨m, hm, w'⟩ := hN H4 h4
    have pin' : ∀ b ∈ fp, ∀ o, s2.heap.get? b = some o → s4.heap.get? b = some o ∧ H4 b = none := fun b hb o e =>
      let z := I4.pin (b, o) (List.mem_append_right _ (List.mem_append_right _ (mem_pinsAt hb e)))
      ⟨z.1, z.2.1⟩
    have hl : (L2.wipe σ vs).length = (L2.wipe σ3 us).length := by
      have := congrArg List.length hw
      rw [wipe_length] at this
      rw [wipe_length, wipe_length] at *
      omega
    refine ⟨m, hm, i + 1, H4, I4.unpinned.weak hl fun j v e => ?_, T.keep _ _ _ st2 fun b hb o e => (pin' b hb o e).1, fun b hb => ?_, w'⟩
    · rw [← hw] at e
      obtain ⟨e1, e2⟩ := wipe_some e
      rw [wipe_out fun z => e2 (hus j z)]
      exact e1
    · obtain ⟨o, e, _⟩ := T.obj _ _ st2 b hb
      exact (pin' b hb o e).2
variable {kd : Knd} {cs : List Comprehension} {d : Nat} {i : Expr} {sc : Scope} {pos : Pos} {acc : Value} {inner : Sem Unit}
/-- the loop of the last clause -/
theorem runBy (hc : X.calm = true) (T : Turn X.prog X.w X.K t J fp it tn) (pg : PG X t g) {H : Hp} (hf : ∀ b ∈ fp, FpOk X pins H b) (hx : X.xe = fun _ _ => False)
    (he : compTurn (kd.ex cs sc pos) d (.ref it) acc X.env = turnBy i t inner (.compLoop (kd.ex cs sc pos) d (.ref it) acc X.env) (.ref it) X.env)
    (hB : ∀ pl s3 σ3 H3 N1, Inv X pl σ3 H3 s3 → B σ3 H3 N1 → wpAny (model X.prog X.w) X.A inner (fun _ s4 => ∃ H4, Inv X pl σ3 H4 s4 ∧ N1 H4) (fun _ _ => False) s3)
    {s : Shared} (I : Inv X pins (L2.wipe σ vs) H s) (st : tn 0 s.heap) (h : tCl g vs B J σ H Nx) :
    codeAny (model X.prog X.w) X.A (.compLoop (kd.ex cs sc pos) d (.ref it) acc X.env) (fun r s' => (∃ f, r = .ok f) ∧ ∃ H1, Inv X pins (L2.wipe σ vs) H1 s' ∧ Nx H1) s := by
  obtain ⟨W, ⟨m0, w0⟩, hW⟩ := h
  refine loopBy he (Btw X pins (L2.wipe σ vs) fp tn W) (fun n s' b => ?_) m0 ⟨0, H, I, st, fun b hb => (hf b hb).1, w0⟩
  have tr := turnRun (n := n) hc T pg hf hW b
  rw [hx] at tr
  refine thnF tr fun r s1 h1 => ?_
  cases r with
  | none => exact ⟨⟨_, rfl⟩, h1⟩
  | some y =>
    refine thnF h1 fun _ s2 h2 => thnF h2 fun _ s3 h3 => ?_
    obtain ⟨pl, σ3, H3, N1, I3, b3, k⟩ := h3
    refine thnF (hB _ s3 σ3 H3 N1 I3 b3) fun _ s4 ⟨H4, I4, h4⟩ => ?_
    exact k s4 H4 [] (fun j z => nomatch z) I4 h4
/-- the loop of the first of two -/
theorem runTo {t0 i0 t1 i1 : Expr} {wi1 : TI} {g1 : TG} {vs1 : List Nat} {B1 : TB} (hc : X.calm = true) (T : Turn X.prog X.w X.K t0 J fp it tn) (pg : PG X t0 g) (pi1 : PI X t1 i1 wi1) (pg1 : PG X t1 g1) (hv : ∀ j ∈ vs1, j ∈ vs) {H : Hp} (hf : ∀ b ∈ fp, FpOk X pins H b) (hx : X.xe = fun _ _ => False)
    (hs : ∀ x, foldedSetIterable i1 X.env x = pure x)
    (hB : ∀ pl s3 σ3 H3 N1, Inv X pl σ3 H3 s3 → B1 σ3 H3 N1 → wpAny (model X.prog X.w) X.A (kd.put acc X.env) (fun _ s4 => ∃ H4, Inv X pl σ3 H4 s4 ∧ N1 H4) (fun _ _ => False) s3)
    {s : Shared} (I : Inv X pins (L2.wipe σ vs) H s) (st : tn 0 s.heap) (h : tCl g vs (fun σ3 H3 N1 => wi1 σ3 H3 fun J1 H4 => tCl g1 vs1 B1 J1 σ3 H4 N1) J σ H Nx) :
    codeAny (model X.prog X.w) X.A (.compLoop (kd.ex [⟨t0, i0, [], 0⟩, ⟨t1, i1, [], 0⟩] sc pos) 0 (.ref it) acc X.env) (fun r s' => (∃ f, r = .ok f) ∧ ∃ H1, Inv X pins (L2.wipe σ vs) H1 s' ∧ Nx H1) s := by
  obtain ⟨W, ⟨m0, w0⟩, hW⟩ := h
  refine loopTo hs (Btw X pins (L2.wipe σ vs) fp tn W) (fun n s' b => ?_) m0 ⟨0, H, I, st, fun b hb => (hf b hb).1, w0⟩
  have tr := turnRun (n := n) hc T pg hf hW b
  rw [hx] at tr
  refine thnF tr fun r s1 h1 => ?_
  cases r with
  | none => exact ⟨⟨_, rfl⟩, h1⟩
  | some y =>
    refine thnF h1 fun _ s2 h2 => thnF h2 fun _ s3 h3 => ?_
    obtain ⟨pl, σ3, H3, N1, I3, b3, k⟩ := h3
    have pr := pi1.run _ s3 σ3 H3 _ I3 b3
    rw [hx] at pr
    refine thnF pr fun z s4 h4 => thnF h4 fun jt s5 h5 => ?_
    obtain ⟨it1, fp1, tn1, J1, H5, e1, I5, T1, st5, f5, h6⟩ := h5
    subst e1
    have loop := runBy (kd := kd) (cs := [⟨t0, i0, [], 0⟩, ⟨t1, i1, [], 0⟩]) (d := 1) (sc := sc) (pos := pos) hc T1 pg1 f5 hx turn2b hB (I5.weak (wipe_length _ _) fun j v e => (wipe_some e).1) st5 h6
    have loop' : codeAny (model X.prog X.w) X.A (.compLoop (kd.ex [⟨t0, i0, [], 0⟩, ⟨t1, i1, [], 0⟩] sc pos) 1 (.ref it1) acc X.env) (fun r s' => (∃ f, r = .ok f) ∧ ∃ m, m < n ∧ Btw X pins (L2.wipe σ vs) fp tn W m s') s5 :=
      codeAny_mono loop fun r s6 ⟨hr, H6, I6, n6⟩ => ⟨hr, k s6 H6 vs1 hv I6 n6⟩
    exact startBy loop' (T1.self X.A 0 _ _ _ st5 loop')
end
end PL

/-! .. as values of the def's own context -/
namespace PL
open PySem PySem.Spec PyProof.Rows L2
def Knd.newAcc : Knd → Sem Value
  | .st _ => newSet (.type "set")
  | .dc _ _ => newDict
/-- how such a thing begins: its first object, and what is seen of it -/
structure Begin (P : Program) (w : World) (kd : Knd) (o0 : HO) where
  ob : Obj
  new : ∀ {A : Around} {E Q : Value → Shared → Prop} {s : Shared}, Q (.ref s.heap.objs.size) { s with heap := s.heap.push ob } →
    wpAny (model P w) A kd.newAcc Q E s
  laid : ∀ (H : Hp) (h : Heap), sysModules < h.objs.size → ObjOk P w H (h.push ob) h.objs.size o0
section
variable {X : Cx} {kd : Knd} {o0 : HO} {t0 i0 t1 i1 : Expr} {scope : Scope} {own : List (Str × Nat)} {pos : Pos} {wi wi1 : TI} {g g1 : TG} {vs1 : List Nat} {B : Addr → TB}
/-- in every block of such a comprehension -/
abbrev AtBlk (X : Cx) (scope : Scope) (q : Cx → Prop) : Prop := ∀ (s : Shared) (H : Hp) (C : Addr) (cl : List (Str × Addr)) (fp : List Addr), q (X.blk s H scope (compEnvC scope cl C X.env) fp)
theorem blkRun (hc : X.calm = true) (hN : X.N.Nodup) (Bg : Begin X.prog X.w kd o0) {cs : List Comprehension} (ok : BlkOk X.N X.env.scope scope own) (hi : PI X t0 i0 wi) (hcs : ∃ r, cs = ⟨t0, i0, [], 0⟩ :: r) (hs : ∀ x, foldedSetIterable i0 X.env x = pure x)
    {pins : List (Addr × Obj)} {s : Shared} {σ : L2.St} {H : Hp} {Q : VK} {Bl : Addr → It → TB} (I : Inv X pins σ H s)
    (h : wi σ H fun J H1 => ∀ D, H1 D = none → Bl D J σ (upd H1 D o0) (fun H2 => Q (.ref D) H2))
    (run : ∀ (s3 : Shared) (H3 : Hp) (C : Addr) (cl : List (Str × Addr)) (fp : List Addr) (it D : Addr) (J : It) (tn : Nat → Heap → Prop) (s4 : Shared) (Nx : Hp → Prop),
      Turn X.prog X.w X.K t0 J fp it tn → (∀ b ∈ fp, FpOk (X.blk s3 H3 scope (compEnvC scope cl C X.env) fp) [] H3 b) → Inv (X.blk s3 H3 scope (compEnvC scope cl C X.env) fp) [] (L2.wipe σ (own.map (·.2))) H3 s4 → tn 0 s4.heap → Bl D J σ H3 Nx →
      codeAny (model X.prog X.w) X.A (.compLoop (kd.ex cs scope pos) 0 (.ref it) (.ref D) (compEnvC scope cl C X.env)) (fun r s' => (∃ f, r = .ok f) ∧ ∃ H1, Inv (X.blk s3 H3 scope (compEnvC scope cl C X.env) fp) [] (L2.wipe σ (own.map (·.2))) H1 s' ∧ Nx H1) s4) :
    wpAny (model X.prog X.w) X.A (eval (kd.ex cs scope pos) X.env) (EP X pins σ Q) X.xe s := by
  obtain ⟨rs, rfl⟩ := hcs
  have free : ∀ y ∈ scope.names, y.2 = .free → ∃ c, X.env.cells.lookup y.1 = some c := fun y hy e => (ok.free y hy e).elim (fun k => I.ok.has _ (.inl k)) fun k => I.ok.has _ (.inr k)
  have key : wpAny (model X.prog X.w) X.A (comprehension (kd.ex (⟨t0, i0, [], 0⟩ :: rs) scope pos) scope X.env (firstIterPos (⟨t0, i0, [], 0⟩ :: rs) pos) kd.newAcc false (eval i0 X.env)) (EP X pins σ Q) X.xe s := by
    refine wpAny_comprehension_free (g := ⟨t0, i0, [], 0⟩) (gs := rs) (use := none) (by cases kd <;> rfl) hs (closure_ok free) ok.kind (fun y hy e => by rw [ok.uniq y hy, e])
      (thn (hi.run pins s σ H _ I h) fun xv s1 hx => thn hx fun itv s2 h2 => ?_)
    obtain ⟨it, fp, tn, J, H2, e1, I2, T, st2, f2, q2⟩ := h2
    subst e1
    refine Bg.new ?_
    refine newEnv_comp ?_
    obtain ⟨L, hL⟩ : ∃ L, s2.heap.objs.size = L := ⟨_, rfl⟩
    rw [hL]
    have q3 := q2 L (I2.hok.fresh (Nat.le_of_eq hL))
    obtain ⟨s3, hs3⟩ : ∃ s3 : Shared, ({ s2 with heap := s2.heap.push Bg.ob } : Shared) = s3 := ⟨_, rfl⟩
    have I3 : Inv X pins σ (upd H2 L o0) s3 := by
      rw [← hs3]
      refine I2.laid (t' := s2.toks) (fun b o e => Heap.get?_push_of_some _ e) (Nat.le_of_eq hL) ?_
      rw [← hL]
      exact Bg.laid _ s2.heap I2.big
    have h3 : s3.heap = s2.heap.push Bg.ob := by rw [← hs3]
    have f3 : ∀ b ∈ fp, FpOk X pins (upd H2 L o0) b ∧ b < s3.heap.objs.size := fun b hb => by
      obtain ⟨o, e, _⟩ := T.obj _ _ st2 b hb
      have lt := Heap.lt_size e
      refine ⟨⟨?_, (f2 b hb).2⟩, by rw [h3, Heap.size_push]; exact Nat.lt_succ_of_lt lt⟩
      rw [upd_ne (by rw [← hL]; exact Nat.ne_of_lt lt)]
      exact (f2 b hb).1
    have st3 : tn 0 s3.heap := T.keep _ _ _ st2 fun b _ o e => by rw [h3]; exact Heap.get?_push_of_some _ e
    have I4 := block_start I3 ok hN f3
    rw [hs3]
    generalize upd H2 L o0 = H3 at I3 I4 f3 q3
    generalize hcl : cellsFrom (s3.heap.objs.size + 1) scope.names (cloFrom X.env.cells scope.names []) = cl at I4
    generalize hs4 : ({ s3 with heap := pushCells (s3.heap.push { cls := .type "dict", data := .dict #[] }) scope.names } : Shared) = s4 at I4
    have st4 : tn 0 s4.heap := T.keep _ _ _ st3 fun b _ o e => by rw [← hs4]; exact pushCells_keeps _ _ _ _ (Heap.get?_push_of_some _ e)
    have f4 : ∀ b ∈ fp, FpOk (X.blk s3 H3 scope (compEnvC scope cl s3.heap.objs.size X.env) fp) [] H3 b := fun b hb =>
      ⟨(f3 b hb).1.1, (I4.ok.exf b hb).1, I4.ok.exfs b hb, .inl hb, fun x c e => (I4.ok.exf b hb).2 x c e, fun p hp => absurd (show p ∈ ([] : List (Addr × Obj)) ++ [] from hp) (by simp)⟩
    have loop := run s3 H3 s3.heap.objs.size cl fp it L J tn s4 (fun H5 => Q (.ref L) H5) T f4 I4 st4 q3
    have loop' : codeAny (model X.prog X.w) X.A (.compLoop (kd.ex (⟨t0, i0, [], 0⟩ :: rs) scope pos) 0 (.ref it) (.ref L) (compEnvC scope cl s3.heap.objs.size X.env)) (compPost (model X.prog X.w) X.A X.xe none (EP X pins σ Q) (.ref L) s3.heap.objs.size) s4 := by
      refine codeAny_mono loop fun r s6 ⟨⟨f, hr⟩, H6, I6, q6⟩ => ?_
      subst hr
      have I7 : Inv X pins σ H6 s6 := I3.call' (ch := fp) I6.os I6.base I6.hok I6.bare fun b hb => ⟨(f3 b hb).1.2.2.2.1, (f3 b hb).1.2.1, (f3 b hb).1.2.2.2.2.1, (f3 b hb).1.2.2.2.2.2⟩
      have nC : H6 s3.heap.objs.size = none := I6.free
      obtain ⟨m, hm, _⟩ := I6.loc
      refine ⟨m, hm, fun h' sb => ?_⟩
      obtain ⟨p0, p1, p2, p3, p4, p5⟩ := I3.fpOk (Nat.le_refl _) nC
      exact ⟨.ref L, H6, I7.turned (t' := s6.toks) (fun b o hb e => (sb.2 b hb).trans e) p0 p1 p3 p4 p5, rfl, q6⟩
    show codeAny _ _ (.compStart (kd.ex (⟨t0, i0, [], 0⟩ :: rs) scope pos) 0 (.ref it) (.ref L) (compEnvC scope cl s3.heap.objs.size X.env)) (compPost (model X.prog X.w) X.A X.xe none (EP X pins σ Q) (.ref L) s3.heap.objs.size) s4
    cases kd with
    | st a => exact PySem.codeAny_compStart_set loop' (T.self X.A 0 _ _ _ st4 loop')
    | dc a b => exact codeAny_compStart_dict loop' (T.self X.A 0 _ _ _ st4 loop')
  cases kd with
  | st a => exact key
  | dc a b => exact key
/-- one clause -/
def tCm1 (o0 : HO) (wi : TI) (g : TG) (vs : List Nat) (B : Addr → TB) : TE := fun σ H Q => wi σ H fun J H1 => ∀ D, H1 D = none → tCl g vs (B D) J σ (upd H1 D o0) fun H2 => Q (.ref D) H2
/-- two -/
def tCm2 (o0 : HO) (wi : TI) (g : TG) (vs : List Nat) (wi1 : TI) (g1 : TG) (vs1 : List Nat) (B : Addr → TB) : TE := fun σ H Q => wi σ H fun J H1 => ∀ D, H1 D = none →
  tCl g vs (fun σ3 H3 N1 => wi1 σ3 H3 fun J1 H4 => tCl g1 vs1 (B D) J1 σ3 H4 N1) J σ (upd H1 D o0) fun H2 => Q (.ref D) H2
/-- one element put in, in a block -/
abbrev PutOk (kd : Knd) (B : Addr → TB) (Xb : Cx) : Prop := ∀ (D : Addr) (pl : List (Addr × Obj)) (s3 : Shared) (σ3 : L2.St) (H3 : Hp) (N1 : Hp → Prop), Inv Xb pl σ3 H3 s3 → B D σ3 H3 N1 → wpAny (model Xb.prog Xb.w) Xb.A (kd.put (.ref D) Xb.env) (fun _ s4 => ∃ H4, Inv Xb pl σ3 H4 s4 ∧ N1 H4) (fun _ _ => False) s3
theorem pe_cm1 (hc : X.calm = true) (hN : X.N.Nodup) (Bg : Begin X.prog X.w kd o0) (ok : BlkOk X.N X.env.scope scope own) (hi : PI X t0 i0 wi) (hg : AtBlk X scope fun Xb => PG Xb t0 g) (hp : AtBlk X scope (PutOk kd B)) (hs : ∀ x, foldedSetIterable i0 X.env x = pure x := by intro _; rfl) :
    PE X (kd.ex [⟨t0, i0, [], 0⟩] scope pos) (tCm1 o0 wi g (own.map (·.2)) B) :=
  ⟨fun pins s σ H Q I (h : wi σ H fun J H1 => ∀ D, H1 D = none → (fun (D : Addr) (J : It) => tCl g (own.map (fun x : Str × Nat => x.2)) (B D) J) D J σ (upd H1 D o0) fun H2 => Q (.ref D) H2) => blkRun (own := own) hc hN Bg ok hi ⟨_, rfl⟩ hs I h fun s3 H3 C cl fp it D J tn s4 Nx T f I4 st hl =>
    runBy (X := X.blk s3 H3 scope (compEnvC scope cl C X.env) fp) hc T (hg s3 H3 C cl fp) f rfl turn1 (fun pl s5 σ5 H5 N1 I5 b5 => hp s3 H3 C cl fp D pl s5 σ5 H5 N1 I5 b5) I4 st hl⟩
theorem pe_cm2 (hc : X.calm = true) (hN : X.N.Nodup) (Bg : Begin X.prog X.w kd o0) (ok : BlkOk X.N X.env.scope scope own) (hv : ∀ j ∈ vs1, j ∈ own.map (·.2)) (hi : PI X t0 i0 wi) (hg : AtBlk X scope fun Xb => PG Xb t0 g) (hi1 : AtBlk X scope fun Xb => PI Xb t1 i1 wi1) (hg1 : AtBlk X scope fun Xb => PG Xb t1 g1)
    (hp : AtBlk X scope (PutOk kd B)) (hs : ∀ x, foldedSetIterable i0 X.env x = pure x := by intro _; rfl) (hs1 : ∀ env x, foldedSetIterable i1 env x = pure x := by intro _ _; rfl) :
    PE X (kd.ex [⟨t0, i0, [], 0⟩, ⟨t1, i1, [], 0⟩] scope pos) (tCm2 o0 wi g (own.map (·.2)) wi1 g1 vs1 B) :=
  ⟨fun pins s σ H Q I (h : wi σ H fun J H1 => ∀ D, H1 D = none → (fun (D : Addr) (J : It) => tCl g (own.map (fun x : Str × Nat => x.2)) (fun σ3 H3 N1 => wi1 σ3 H3 fun J1 H4 => tCl g1 vs1 (B D) J1 σ3 H4 N1) J) D J σ (upd H1 D o0) fun H2 => Q (.ref D) H2) => blkRun (own := own) hc hN Bg ok hi ⟨_, rfl⟩ hs I h fun s3 H3 C cl fp it D J tn s4 Nx T f I4 st hl =>
    runTo (X := X.blk s3 H3 scope (compEnvC scope cl C X.env) fp) hc T (hg s3 H3 C cl fp) (hi1 s3 H3 C cl fp) (hg1 s3 H3 C cl fp) hv f rfl (hs1 _) (fun pl s5 σ5 H5 N1 I5 b5 => hp s3 H3 C cl fp D pl s5 σ5 H5 N1 I5 b5) I4 st hl⟩
/-! ### dicts -/
def beginK {P : Program} {w : World} {kx vx : Expr} : Begin P w (.dc kx vx) (.dK []) := ⟨{ cls := .type "dict", data := .dict #[] }, fun h => wpAny_newObj_type h, fun H h hb => dk_empty h hb⟩
def beginT {P : Program} {w : World} {kx vx : Expr} : Begin P w (.dc kx vx) (.dT []) := ⟨{ cls := .type "dict", data := .dict #[] }, fun h => wpAny_newObj_type h, fun H h hb => dt_empty h hb⟩
end
end PL

/-! dicts by clauses, as functions -/
namespace PL
open PySem PySem.Spec PyProof.Rows L2
/-- a kind of keys -/
structure DKi (κ : Type) [DecidableEq κ] where
  box : List (κ × V) → HO
  plain : ∀ kvs h, box kvs ≠ .ext h
  at' : V → κ → Hp → Prop
  as : D → Option κ
  kv : List (κ × D) → List (D × D)
  at_of : ∀ {d : D} {k : κ} {y : V} {Z H : Hp}, as d = some k → Dq Z y d → Same Z H → at' y k H
  at_up : ∀ {y : V} {k : κ} {H H' : Hp}, at' y k H → (∀ b xs, H b = some (.tup xs) → H' b = some (.tup xs)) → at' y k H'
  dq : ∀ {Z : Hp} {a : Addr} {kvs : List (κ × V)} {es : List (κ × D)}, Z a = some (box kvs) → kvs.map (·.1) = es.map (·.1) → Dqs Z (kvs.map (·.2)) (es.map (·.2)) → Dq Z (.ref a) (.dict (kv es))
  set : ∀ {X : Cx} {pl : List (Addr × Obj)} {σ : L2.St} {H : Hp} {s : Shared} {a : Addr} {y v : V} {k : κ} {kvs : List (κ × V)} {u r : Value} {Q : Unit → Shared → Prop}, X.A.units + 1 < cLine → Inv X pl σ H s → H a = some (box kvs) → at' y k H → kvs.length < sizeLine → RelV y u → RelV v r →
    (∀ s', Inv X pl σ (upd H a (box (putK kvs k v))) s' → Q () s') → wpAny (model X.prog X.w) X.A (dictSet a u r) Q (fun _ _ => False) s
def kiK : DKi Key where
  box := .dK
  plain := fun _ _ z => nomatch z
  at' := fun y k _ => y = kV k
  as := asKey
  kv := kvK
  at_of := fun {d k y Z H} e q _ => by rw [asKey_of e] at q; exact key_val q
  at_up := fun e _ => e
  dq := fun h a b => .dK h a b rfl
  set := fun {X pl σ H s a y v k kvs u r Q} _ I e ey hl ry rv h => by
    subst ey
    exact d_dictSet I e hl ry rv h
theorem dsetT {X : Cx} {pl : List (Addr × Obj)} {σ : L2.St} {H : Hp} {s : Shared} {a b : Addr} {v : V} {k : List Key} {kvs : List (List Key × V)} {u r : Value} {Q : Unit → Shared → Prop} (hu : X.A.units + 1 < cLine) (I : Inv X pl σ H s) (e : H a = some (.dT kvs)) (eb : H b = some (.tup (k.map kV))) (hl : kvs.length < sizeLine) (ry : RelV (.ref b) u) (rv : RelV v r)
    (h : ∀ s', Inv X pl σ (upd H a (.dT (putK kvs k v))) s' → Q () s') : wpAny (model X.prog X.w) X.A (dictSet a u r) Q (fun _ _ => False) s := by
  cases (show u = Value.ref b from ry)
  obtain ⟨z0, z1, ents, relE, ddE⟩ := dt_of I.hok e
  have many : ents.length ≤ sizeLine := by rw [← Paired.length relE]; exact z0
  have more : (putK kvs k v).length ≤ sizeLine := Nat.le_trans (length_putK kvs k v) hl
  refine wpAny_dictSet_heap (hsz := many) (Nat.lt_of_succ_lt hu) (key_of I.hok eb) ddE fun g ddG same => h _ ?_
  obtain ⟨ob, fs, ep, at1, at2, at3, at4, _, at5⟩ := ddG
  refine d_write I (by rw [e]; trivial) same ⟨ob, at1⟩ ⟨more, z1, _, (relE.put k eb rv).keeps fun c ys ec => ?_, ob, fs, ep, at1, at2, at3, at4, at5⟩
  rw [upd_ne (ne_of ec e fun z => nomatch z)]
  exact ec
def kiT : DKi (List Key) where
  box := .dT
  plain := fun _ _ z => nomatch z
  at' := fun y k H => ∃ b, y = .ref b ∧ H b = some (.tup (k.map kV))
  as := asKeyT
  kv := kvT
  at_of := fun {d k y Z H} e q zh => by rw [asKeyT_of e] at q; exact keyT_val q zh
  at_up := fun ⟨b, e, h⟩ up => ⟨b, e, up _ _ h⟩
  dq := fun h a b => .dT h a b rfl
  set := fun {X pl σ H s a y v k kvs u r Q} hu I e ⟨b, ey, hb⟩ hl ry rv h => by
    subst ey
    exact dsetT hu I e hb hl ry rv h
section
variable {κ : Type} [DecidableEq κ] {ki : DKi κ}
/-- what a block's one element does to the dict at L -/
def bDc (ki : DKi κ) (tk tv : TE) (L : Addr) : TB := fun σ3 H3 N1 => tk σ3 H3 fun y H4 => tv σ3 H4 fun z H5 => ∃ kvs k, ki.at' y k H5 ∧ H5 L = some (ki.box kvs) ∧ kvs.length < sizeLine ∧ N1 (upd H5 L (ki.box (putK kvs k z)))
theorem put_dc {Xb : Cx} {kx vx : Expr} {tk tv : TE} (hu : Xb.A.units + 1 < cLine) (hx : Xb.xe = fun _ _ => False) (hk : PE Xb kx tk) (hv : PE Xb vx tv) : PutOk (.dc kx vx) (bDc ki tk tv) Xb := by
  intro L pl s3 σ3 H3 N1 I3 h
  have r1 := hk.run pl s3 σ3 H3 _ I3 h
  rw [hx] at r1
  show wpAny _ _ (eval kx Xb.env >>= _) _ _ _
  refine wpAny_bind (thnF r1 fun u s4 ⟨y, H4, I4, ry, h4⟩ => ?_)
  have r2 := hv.run pl s4 σ3 H4 _ I4 h4
  rw [hx] at r2
  refine wpAny_bind (wpAny_holding (thnF r2 fun r s5 ⟨z, H5, I5, rz, kvs, k, hk5, hL, hl, nx⟩ => ?_))
  exact wpAny_bind (wpAny_standAt (wpAny_holding (ki.set hu I5 hL hk5 hl ry rz fun s6 I6 => ⟨_, I6, nx⟩)))
/-- the dict at p while it grows -/
structure MidD (ki : DKi κ) (C : Cp) (H1 Z1 H Z : Hp) (p : Addr) (es : List (κ × D)) : Prop where
  fr : Fr C.F H1 Z1 H Z
  fd : FeedOk C.F H
  zn : Z p = none
  ob : ∃ kvs, H p = some (ki.box kvs) ∧ kvs.map (·.1) = es.map (·.1) ∧ Dqs Z (kvs.map (·.2)) (es.map (·.2))
variable {C : Cp} {H1 Z1 H Z H' Z' : Hp} {p : Addr} {es : List (κ × D)}
theorem MidD.next (m : MidD ki C H1 Z1 H Z p es) (nf : nf C.F p) (f : Fr C.F H Z H' Z') (fd : FeedOk C.F H') : MidD ki C H1 Z1 H' Z' p es := by
  obtain ⟨kvs, h1, h2, h3⟩ := m.ob
  refine ⟨m.fr.trans f, fd, ?_, kvs, f.keep p _ nf h1, h2, dps_mono f.zz _ _ h3⟩
  cases q : Z' p with
  | none => rfl
  | some o =>
    have := f.new p o q m.zn
    rw [h1] at this; cases this
theorem MidD.put (m : MidD ki C H1 Z1 H Z p es) (hn : H1 p = none) (nf : nf C.F p) {z : V} {d : D} {k : κ} {kvs : List (κ × V)} (hp : H p = some (ki.box kvs)) (h2 : kvs.map (·.1) = es.map (·.1)) (h3 : Dqs Z (kvs.map (·.2)) (es.map (·.2))) (dq : Dq Z z d) :
    MidD ki C H1 Z1 (upd H p (ki.box (putK kvs k z))) Z p (storeK es k d) := by
  refine ⟨⟨fun a o n e => ?_, m.fr.zz, fun a o e => ?_, m.fr.new, m.fr.notF⟩, m.fd.other nf (fun h e => by rw [hp] at e; exact ki.plain kvs h (Option.some.inj e)), m.zn, _, upd_same, store_fst h2, store_snd dq h2 h3⟩
  · rw [upd_ne (ne_of_none e hn)]; exact m.fr.keep a o n e
  · rw [upd_ne (ne_of_none e m.zn)]; exact m.fr.zh a o e
end
/-- pairs, one behind the other -/
def fillK {κ : Type} [DecidableEq κ] (es : List (κ × D)) : List (κ × D) → List (κ × D)
  | [] => es
  | p :: r => fillK (storeK es p.1 p.2) r
theorem fillK_app {κ : Type} [DecidableEq κ] : ∀ (ps qs es : List (κ × D)), fillK es (ps ++ qs) = fillK (fillK es ps) qs
  | [], _, _ => rfl
  | p :: r, qs, es => fillK_app r qs _
theorem fillK_len {κ : Type} [DecidableEq κ] : ∀ (ps es : List (κ × D)), (fillK es ps).length ≤ es.length + ps.length
  | [], es => Nat.le_refl _
  | p :: r, es => by
    have h1 := fillK_len r (storeK es p.1 p.2)
    have h2 := storeK_len es p.1 p.2
    simp only [fillK, List.length_cons]
    omega
/-- the pairs that a block's turn gives -/
def dcElt {κ : Type} (as : D → Option κ) (xk xv : X) (ρ : Env') : Option (List (κ × D)) := match quiet (xk ρ), quiet (xv ρ) with
  | some (.dat dk), some (.dat dv) => match as dk with
    | some k => some [(k, dv)]
    | none => none
  | _, _ => none
/-- .. of all items -/
def manyOf {α β : Type} (f : α → Option (List β)) : List α → Option (List β)
  | [] => some []
  | a :: r => match f a, manyOf f r with
    | some bs, some cs => some (bs ++ cs)
    | _, _ => none
def clStep {β : Type} (sel : D → Option (List D)) (vs is : List Nat) (f : Env' → Option (List β)) (ρ : Env') (d : D) : Option (List β) := match sel d with
  | some es => f (setAll (wipe' ρ vs) is es)
  | none => none
/-- a further clause -/
def clIn {β : Type} (i : XI) (sel : D → Option (List D)) (vs is : List Nat) (f : Env' → Option (List β)) (ρ : Env') : Option (List β) := match quiet (i ρ) with
  | some ds => manyOf (clStep sel vs is f ρ) ds
  | none => none
def xDc {κ : Type} [DecidableEq κ] (ki : DKi κ) (i : XI) (sel : D → Option (List D)) (vs is : List Nat) (f : Env' → Option (List (κ × D))) : X := fun ρ => rbind (i ρ) fun ds => match manyOf (clStep sel vs is f ρ) ds with
  | some ps => guard' (decide (ps.length < sizeLine)) (ok (.dat (.dict (ki.kv (fillK [] ps)))))
  | none => none
end PL

/-! .. from their functions -/
namespace PL
open PySem PySem.Spec PyProof.Rows L2
/-- slots that go on being what they are, from the heap H1 on, wherever the data Z3 still stands -/
def Stays (C : Cp) (H1 Z1 : Hp) (σ : L2.St) (ρ : Env') (Z3 : Hp) : Prop := ∀ H Z, Fr C.F H1 Z1 H Z → FeedOk C.F H → Same Z3 Z → Sta.at C H Z σ ρ
section
variable {C : Cp} {H1 Z1 : Hp} {p : Addr}
theorem Stays.start {σ : L2.St} {ρ : Env'} (s : Sta.at C H1 Z1 σ ρ) (Z3 : Hp) : Stays C H1 Z1 σ ρ Z3 := fun H Z f fd _ => s.next f fd
theorem Stays.turn {σ : L2.St} {ρ : Env'} {Z3 Z4 : Hp} {is us : List Nat} {vs : List V} {ds : List D} (s : Stays C H1 Z1 σ ρ Z3) (z : Same Z3 Z4) (dv : Dqs Z4 vs ds) : Stays C H1 Z1 (setAllV (L2.wipe σ us) is vs) (setAll (wipe' ρ us) is ds) Z4 := fun H Z f fd zz =>
  Sta.setAll ((s H Z f fd (z.trans zz)).wipe us) (dps_mono zz _ _ dv)
variable {κ : Type} [DecidableEq κ] {ki : DKi κ}
/-- a block's turn by its function -/
def BOk (ki : DKi κ) (C : Cp) (H1 Z1 : Hp) (p : Addr) (B : TB) (f : Env' → Option (List (κ × D))) : Prop :=
  ∀ σ ρ Z3, Stays C H1 Z1 σ ρ Z3 → ∀ H Z es qs N1, Same Z3 Z → MidD ki C H1 Z1 H Z p es → f ρ = some qs → es.length + qs.length < sizeLine → (∀ H4 Z4, Same Z Z4 → MidD ki C H1 Z1 H4 Z4 p (fillK es qs) → N1 H4) → B σ H N1
theorem red_cl {g : TG} {is us : List Nat} {sel : D → Option (List D)} {B : TB} {f : Env' → Option (List (κ × D))} (tg : TgOk g is sel) (his : ∀ i ∈ is, i ∈ us) (hb : BOk ki C H1 Z1 p B f) (hn : H1 p = none) (nf : nf C.F p)
    {J : It} {ds : List D} {Zy : Hp} (Y : Yields C.X.K J Zy ds) {σ : L2.St} {ρ : Env'} {Z3 : Hp} (st : Stays C H1 Z1 σ ρ Z3) {H Z : Hp} {es qs : List (κ × D)} {Nx : Hp → Prop} (z3 : Same Z3 Z) (zy : Same Zy Z) (m : MidD ki C H1 Z1 H Z p es)
    (hf : manyOf (clStep sel us is f ρ) ds = some qs) (hl : es.length + qs.length < sizeLine) (k : ∀ H4 Z4, Same Z Z4 → MidD ki C H1 Z1 H4 Z4 p (fillK es qs) → Nx H4) : tCl g us B J σ H Nx := by
  refine ⟨fun i n H' => n = ds.length - i ∧ i ≤ ds.length ∧ ∃ Z' es' qs', Same Z Z' ∧ MidD ki C H1 Z1 H' Z' p es' ∧ manyOf (clStep sel us is f ρ) (ds.drop i) = some qs' ∧ es'.length + qs'.length < sizeLine ∧ fillK es' qs' = fillK es qs,
    ⟨ds.length, by omega, Nat.zero_le _, Z, es, qs, fun _ _ h => h, m, by simpa using hf, hl, rfl⟩, ?_⟩
  rintro i n H' ⟨rfl, hi, Z', es', qs', zz, mid, hq, hl', he⟩
  have zH : Same Zy H' := (zy.trans zz).trans mid.fr.zh
  by_cases hlt : i < ds.length
  · refine .inr ⟨Y.go i H' zH hlt, _, fun H2 (h2 : ∃ Z2 es2 qs2, Same Z Z2 ∧ MidD ki C H1 Z1 H2 Z2 p es2 ∧ manyOf (clStep sel us is f ρ) (ds.drop (i + 1)) = some qs2 ∧ es2.length + qs2.length < sizeLine ∧ fillK es2 qs2 = fillK es qs) => ⟨ds.length - (i + 1), by omega, rfl, hlt, h2⟩, fun x H2 y => ?_⟩
    obtain ⟨Z2, dd, fy, fdy, hd, dq⟩ := Y.yld C.F i x H' H2 Z' hlt (zy.trans zz) (Fr.refl mid.fr.zh mid.fr.notF) mid.fd y
    have mid2 := mid.next nf fy fdy
    have e1 : ds.drop i = dd :: ds.drop (i + 1) := by
      rw [List.drop_eq_getElem_cons hlt]
      rw [List.getElem?_eq_getElem hlt] at hd
      cases hd; rfl
    rw [e1] at hq
    unfold manyOf at hq
    split at hq
    · rename_i bs cs e2 e3
      cases hq
      unfold clStep at e2
      split at e2
      · rename_i els e4
        refine tg x dd els _ H2 Z2 _ mid2.fr.zh dq e4 fun vs dvs => ?_
        refine ⟨by rw [setAllV_wipe his, wipe_twice], ?_⟩
        have z32 : Same Z3 Z2 := (z3.trans zz).trans fy.zz
        refine hb _ _ _ (st.turn z32 dvs) H2 Z2 es' bs _ (fun _ _ h => h) mid2 e2 (by rw [List.length_append] at hl'; omega) fun H4 Z4 z4 m4 => ?_
        refine ⟨Z4, _, cs, (zz.trans fy.zz).trans z4, m4, e3, ?_, by rw [← fillK_app]; exact he⟩
        have := fillK_len bs es'
        rw [List.length_append] at hl'
        omega
      · cases e2
    · cases hq
  · have e : i = ds.length := by omega
    subst e
    rw [List.drop_length] at hq
    cases hq
    refine .inl ⟨Y.stop H' zH, k H' Z' zz ?_⟩
    rw [← he]
    exact mid
theorem bok_dc {xk xv : X} (hn : H1 p = none) (nf : nf C.F p) : BOk ki C H1 Z1 p (bDc ki (tP { C with EE := fun _ _ _ => False } (ofX xk)) (tP { C with EE := fun _ _ _ => False } (ofX xv)) p) (dcElt ki.as xk xv) := by
  intro σ ρ Z3 st H Z es qs N1 z3 mid hq hl k
  unfold dcElt at hq
  split at hq
  · rename_i dk dv e1 e2
    split at hq
    · rename_i key e3
      cases hq
      have s0 := st H Z mid.fr mid.fd z3
      refine ⟨Z, ρ, fun s => s = .dat dk, noX, s0, by unfold ofX; rw [quiet_of e1]; rfl, fun s y H4 Z4 f4 fd4 sv4 hs => ?_, fun x cls d H4 Z4 _ _ _ hx => hx.elim⟩
      subst hs
      have mid4 := mid.next nf f4 fd4
      refine ⟨Z4, ρ, fun s => s = .dat dv, noX, st H4 Z4 mid4.fr mid4.fd (z3.trans f4.zz), by unfold ofX; rw [quiet_of e2]; rfl, fun s z H5 Z5 f5 fd5 sv5 hs => ?_, fun x cls d H4 Z4 _ _ _ hx => hx.elim⟩
      subst hs
      have mid5 := mid4.next nf f5 fd5
      obtain ⟨kvs, h1, h2, h3⟩ := mid5.ob
      have lk : kvs.length < sizeLine := by
        have := congrArg List.length h2
        rw [List.length_map, List.length_map] at this
        rw [this]
        simp at hl
        omega
      exact ⟨kvs, key, ki.at_of e3 (dp_mono f5.zz _ _ sv4) f5.zh, h1, lk, k _ Z5 (f4.zz.trans f5.zz) (mid5.put hn nf h1 h2 h3 sv5)⟩
    · cases hq
  · cases hq
theorem bok_in {g : TG} {is us : List Nat} {sel : D → Option (List D)} {B : TB} {f : Env' → Option (List (κ × D))} {i : XI} (tg : TgOk g is sel) (his : ∀ i ∈ is, i ∈ us) (hb : BOk ki C H1 Z1 p B f) (hn : H1 p = none) (nf : nf C.F p) :
    BOk ki C H1 Z1 p (fun σ3 H3 N1 => tPI { C with EE := fun _ _ _ => False } (ofI i) σ3 H3 fun J1 H4 => tCl g us B J1 σ3 H4 N1) (clIn i sel us is f) := by
  intro σ ρ Z3 st H Z es qs N1 z3 mid hq hl k
  unfold clIn at hq
  split at hq
  · rename_i ds e1
    refine ⟨Z, ρ, fun l => l = ds, noX, st H Z mid.fr mid.fd z3, by unfold ofI; rw [quiet_of e1]; rfl, fun J l H4 Z4 f4 fd4 Y hs => ?_, fun x cls d H4 Z4 _ _ _ hx => hx.elim⟩
    subst hs
    have mid4 := mid.next nf f4 fd4
    exact red_cl tg his hb hn nf Y st (z3.trans f4.zz) (fun _ _ h => h) mid4 hq hl fun H5 Z5 z5 m5 => k H5 Z5 (f4.zz.trans z5) m5
  · cases hq
end
section
variable {C : Cp} {κ : Type} [DecidableEq κ] {ki : DKi κ} {kx vx t0 i0 t1 i1 : Expr} {scope : Scope} {own : List (Str × Nat)} {pos : Pos} {i i' : XI} {g g1 : TG} {us is is1 us1 : List Nat} {sel sel1 : D → Option (List D)} {xk xv : X}
/-- in every block within C -/
abbrev AllBlk (C : Cp) (scope : Scope) (q : Cp → Prop) : Prop := ∀ (s : Shared) (H : Hp) (c : Addr) (cl : List (Str × Addr)) (fp : List Addr), q (C.blk s H scope (compEnvC scope cl c C.X.env) fp)
theorem dc_end {σ : L2.St} {H : Hp} {Q : VK} {us : List Nat} {f : Env' → Option (List (κ × D))} {g : TG} {B : Addr → TB} (tg : TgOk g is sel) (his : ∀ i ∈ is, i ∈ us) (hB : ∀ H1 Z1 p, H1 p = none → nf C.F p → BOk ki C H1 Z1 p (B p) f) (h : tP C (ofX (xDc ki i sel us is f)) σ H Q) :
    tPI C (ofI i) σ H fun J H1 => ∀ L, H1 L = none → tCl g us (B L) J σ (upd H1 L (ki.box [])) fun H2 => Q (.ref L) H2 := by
  obtain ⟨Z, ρ, q, ex, st, hw, k, ke⟩ := h
  refine ⟨Z, ρ, _, ex, st, ofR_bind hw, fun J ds H1 Z1 f1 fd1 Y h1 L np => ?_, ke⟩
  split at h1
  · rename_i ps e1
    obtain ⟨hl, hq⟩ := ofR_guard h1
    have st1 := st.next f1 fd1
    have nfL : nf C.F L := fd1.ne np
    obtain ⟨f2, zL⟩ := Fr.madeH (o := ki.box []) (Fr.refl f1.zh f1.notF) np
    have m0 : MidD ki C H1 Z1 (upd H1 L (ki.box [])) Z1 L [] := ⟨f2, fd1.made np, zL, [], upd_same, rfl, .nil⟩
    refine red_cl tg his (hB H1 Z1 L np nfL) np nfL Y (Stays.start st1 Z1) (fun _ _ h => h) (fun _ _ h => h) m0 e1 (by simpa using of_decide_eq_true hl) fun H4 Z4 _ m4 => ?_
    obtain ⟨kvs, h2, h3, h4⟩ := m4.ob
    have frL : Fr C.F H1 Z1 H4 (upd Z4 L (ki.box kvs)) := m4.fr.frz h2 m4.zn np nfL
    exact k (.dat (.dict (ki.kv (fillK [] ps)))) _ H4 _ (f1.trans frL) m4.fd (ki.dq upd_same h3 (dps_mono (Same.made m4.zn) _ _ h4)) hq
  · exact h1.elim
theorem x_dc1 (Bg : Begin C.X.prog C.X.w (.dc kx vx) (ki.box [])) (hu : C.X.A.units + 1 < cLine) (hc : C.X.calm = true) (hN : C.X.N.Nodup) (hi : Iter C t0 i0 (ofI i)) (ok : BlkOk C.X.N C.X.env.scope scope own) (tg : TgOk g is sel) (his : ∀ i ∈ is, i ∈ us)
    (hg : AllBlk C scope fun Cb => PG Cb.X t0 g) (hk : AllBlk C scope fun Cb => E Cb kx (ofX xk)) (hv : AllBlk C scope fun Cb => E Cb vx (ofX xv)) (hs : ∀ x, foldedSetIterable i0 C.X.env x = pure x := by intro _; rfl) (hus : own.map (·.2) = us := by rfl) :
    E C (.DictComp kx vx [⟨t0, i0, [], 0⟩] scope pos) (ofX (xDc ki i sel us is (dcElt ki.as xk xv))) := by
  subst hus
  exact weakE (pe_cm1 (B := bDc ki (tP { C with EE := fun _ _ _ => False } (ofX xk)) (tP { C with EE := fun _ _ _ => False } (ofX xv))) hc hN Bg ok hi hg (fun s H c cl fp => put_dc hu rfl (hk s H c cl fp) (hv s H c cl fp)) hs) fun σ H Q h =>
    dc_end tg his (fun H1 Z1 p hn nf => bok_dc hn nf) h
theorem x_dc2 (Bg : Begin C.X.prog C.X.w (.dc kx vx) (ki.box [])) (hu : C.X.A.units + 1 < cLine) (hc : C.X.calm = true) (hN : C.X.N.Nodup) (hi : Iter C t0 i0 (ofI i)) (ok : BlkOk C.X.N C.X.env.scope scope own) (tg : TgOk g is sel) (his : ∀ i ∈ is, i ∈ us) (tg1 : TgOk g1 is1 sel1) (his1 : ∀ i ∈ is1, i ∈ us1) (hv1 : ∀ j ∈ us1, j ∈ us)
    (hg : AllBlk C scope fun Cb => PG Cb.X t0 g) (hi1 : AllBlk C scope fun Cb => Iter Cb t1 i1 (ofI i')) (hg1 : AllBlk C scope fun Cb => PG Cb.X t1 g1) (hk : AllBlk C scope fun Cb => E Cb kx (ofX xk)) (hv : AllBlk C scope fun Cb => E Cb vx (ofX xv))
    (hs : ∀ x, foldedSetIterable i0 C.X.env x = pure x := by intro _; rfl) (hs1 : ∀ env x, foldedSetIterable i1 env x = pure x := by intro _ _; rfl) (hus : own.map (·.2) = us := by rfl) :
    E C (.DictComp kx vx [⟨t0, i0, [], 0⟩, ⟨t1, i1, [], 0⟩] scope pos) (ofX (xDc ki i sel us is (clIn i' sel1 us1 is1 (dcElt ki.as xk xv)))) := by
  subst hus
  exact weakE (pe_cm2 (wi1 := tPI { C with EE := fun _ _ _ => False } (ofI i')) (B := bDc ki (tP { C with EE := fun _ _ _ => False } (ofX xk)) (tP { C with EE := fun _ _ _ => False } (ofX xv))) hc hN Bg ok hv1 hi hg (fun s H c cl fp => hi1 s H c cl fp) hg1 (fun s H c cl fp => put_dc hu rfl (hk s H c cl fp) (hv s H c cl fp)) hs hs1) fun σ H Q h =>
    dc_end tg his (fun H1 Z1 p hn nf => bok_in tg1 his1 (bok_dc hn nf) hn nf) h
end
end PL

/-! max, min, sum of ints -/
namespace PL
open PySem PySem.Spec PyProof.Rows L2
def asInts : List D → Option (List Int)
  | [] => some []
  | .int i :: r => match asInts r with
    | some is => some (i :: is)
    | none => none
  | _ => none
theorem asInts_of : ∀ {ds : List D} {is : List Int}, asInts ds = some is → ds = is.map PyData.int
  | [], is, h => by cases h; rfl
  | .int b :: r, is, h => by
    unfold asInts at h
    split at h
    · rename_i bs' e; cases h; rw [asInts_of e]; rfl
    · cases h
  | .none :: _, _, h => by cases h
  | .bool _ :: _, _, h => by cases h
  | .str _ :: _, _, h => by cases h
  | .list _ :: _, _, h => by cases h
  | .tuple _ :: _, _, h => by cases h
  | .dict _ :: _, _, h => by cases h
@[simp] theorem asInts_map : ∀ is : List Int, asInts (is.map PyData.int) = some is
  | [] => rfl
  | b :: r => by simp [asInts, asInts_map r]
theorem dps_ints' {Z : Hp} : ∀ {vs : List V} (ns : List Int), Dqs Z vs (ns.map PyData.int) → vs = ns.map V.int
  | _, [], h => by cases h; rfl
  | _, n :: r, h => by
    cases h with
    | cons h1 h2 =>
      have := dps_ints' r h2
      cases (show Dq Z _ (.int n) from h1)
      rw [this]; rfl
theorem intsAll {Z : Hp} {K : PySem.W.Frag} : ∀ ns : List Int, DpAll K Z (ns.map V.int) (ns.map PyData.int)
  | [] => .nil
  | n :: r => .cons (.int n) (intsAll r)
theorem depth_ints : ∀ ns : List Int, PyData.depthAll (ns.map PyData.int) = 0
  | [] => rfl
  | n :: r => by
    show max (PyData.depth (.int n)) (PyData.depthAll (r.map PyData.int)) = 0
    rw [depth_ints r]; rfl
theorem alike_ints (ns : List Int) : PySem.W.AlikeAll (ns.map PyData.int) := by
  refine ⟨fun x hx y hy => ?_, fun x hx => ?_⟩
  · obtain ⟨a, _, rfl⟩ := List.mem_map.mp hx
    obtain ⟨b, _, rfl⟩ := List.mem_map.mp hy
    simp only [PySem.W.alike]
  · obtain ⟨a, _, rfl⟩ := List.mem_map.mp hx
    intro h; cases h
section
variable {X : Cx}
def rMxD (K : PySem.W.Frag) (g : Int → List Int → Int) : List V → List V → Hp → VK → Prop := fun vs zs H Q => ∃ (a : Addr) (ns : List Int) (z : V), vs = [.ref a] ∧ zs = [z] ∧ SqL K H a (ns.map V.int) ∧ (ns = [] → Q z H) ∧ ∀ n r, ns = n :: r → Q (.int (g n r)) H
theorem cr_maxD2 (hc : X.calm = true) (hu : X.A.units + 1 < cLine) : CallRK X (.builtin "max") ["default"] (rMxD X.K fun n r => r.foldl max n) := by
  intro pins s σ H xs zs us ws Q I rx rz ⟨a, ns, z, e1, e2, hS, q0, q1⟩
  subst e1 e2
  cases rz with
  | cons r1 r2 =>
  cases r2
  rename_i w'
  obtain ⟨its, rv, hl, hz⟩ := I.list hS
  rw [Vals.ref1 rx]
  obtain ⟨as, rd⟩ := Dp.readsAll I _ _ its (intsAll ns) rv
  show wpAny _ _ (call (.builtin "max") [.ref a] [(Str.ofString "default", w')]) _ _ _
  refine PySem.W.max_list_default (vs := its.toArray) (xs := ns.map PyData.int) (I.ok.hd hc) hl.isList (by simpa using rd) (alike_ints ns) (by rw [depth_ints]; omega) (fun e h' tk hk => ?_) fun y ys i v h' tk bs e _ rd' hk => ?_
  · have : ns = [] := by simpa using e
    exact ⟨z, H, I.kept hk, r1, q0 this⟩
  · cases ns with
    | nil => cases e
    | cons n r =>
      cases e
      rw [PySem.W.maxD_ints] at rd'
      cases rd'
      exact ⟨.int _, H, I.kept hk, ⟨_, rfl⟩, q1 n r rfl⟩
theorem cr_minD2 (hc : X.calm = true) (hu : X.A.units + 1 < cLine) : CallRK X (.builtin "min") ["default"] (rMxD X.K fun n r => r.foldl min n) := by
  intro pins s σ H xs zs us ws Q I rx rz ⟨a, ns, z, e1, e2, hS, q0, q1⟩
  subst e1 e2
  cases rz with
  | cons r1 r2 =>
  cases r2
  rename_i w'
  obtain ⟨its, rv, hl, hz⟩ := I.list hS
  rw [Vals.ref1 rx]
  obtain ⟨as, rd⟩ := Dp.readsAll I _ _ its (intsAll ns) rv
  show wpAny _ _ (call (.builtin "min") [.ref a] [(Str.ofString "default", w')]) _ _ _
  refine PySem.W.min_list_default (vs := its.toArray) (xs := ns.map PyData.int) (I.ok.hd hc) hl.isList (by simpa using rd) (alike_ints ns) (by rw [depth_ints]; omega) (fun e h' tk hk => ?_) fun y ys i v h' tk bs e _ rd' hk => ?_
  · have : ns = [] := by simpa using e
    exact ⟨z, H, I.kept hk, r1, q0 this⟩
  · cases ns with
    | nil => cases e
    | cons n r =>
      cases e
      rw [PySem.W.minD_ints] at rd'
      cases rd'
      exact ⟨.int _, H, I.kept hk, ⟨_, rfl⟩, q1 n r rfl⟩
end
section
variable {C : Cp} {e f : Expr} {xa xb : X} {pos p : Pos}
def xMxD (g : Int → List Int → Int) (xa xb : X) : X := fun ρ => rbind (xa ρ) fun s => rbind (xb ρ) fun z => match s.lst with
  | some ds => match asInts ds with
    | some [] => match z with
      | .dat d => ok (.dat d)
      | _ => none
    | some (n :: r) => ok (.dat (.int (g n r)))
    | none => none
  | none => none
theorem mxD_of {x : Str} {id : String} {g : Int → List Int → Int} {kp : Pos} (hc : CallRK C.X (.builtin id) ["default"] (rMxD C.X.K g)) (hg : Gl C.X x) (hm : C.X.mg x = none) (hv : bootBuiltins x = some (.builtin id)) (ha : E C e (ofX xa)) (hb : E C f (ofX xb)) (hn : x ≠ "__name__" := by decide) (hdb : (x == ("__debug__" : Str)) = false := by decide)
    (hs : starEach (e :: []) C.X.env = (false, eval e C.X.env) :: starEach [] C.X.env := by rfl)
    (he : backTo pos (starEach (e :: []) C.X.env) = (false, eval e C.X.env) :: backTo pos (starEach [] C.X.env) := by rfl) (hpl : (backTo pos (starEach (e :: []) C.X.env)).any (·.1) = false := by rfl)
    (hall : (backToKw pos (keywordEach [⟨some "default", f, kp⟩] C.X.env)).all (·.1.isSome) = true := by rfl) (hnone : (backToKw pos (keywordEach [⟨some "default", f, kp⟩] C.X.env)).any (·.1.isNone) = false := by rfl) (hks : (backToKw pos (keywordEach [⟨some "default", f, kp⟩] C.X.env)).filterMap (·.1) = (["default"] : List Str) := by rfl) :
    E C (.Call (.Name x p) [e] [⟨some "default", f, kp⟩] pos) (ofX (xMxD g xa xb)) :=
  weakE (pe_callBK hc hg hm hv (pa_cons ha pa_nil hs) (pk_cons hb pk_nil) hn hdb he hpl hall hnone hks) fun σ H Q ⟨Z, ρ, q, ex, st, hw, k, ke⟩ => by
    refine ⟨Z, ρ, _, ex, st, ofR_bind hw, fun s v H1 Z1 f1 fd1 sv1 q1 => ?_, ke⟩
    refine ⟨Z1, ρ, _, ex, st.next f1 fd1, ofR_bind q1, fun t z H2 Z2 f2 fd2 sv2 q2 => ?_, ke.next f1⟩
    dsimp only at q2
    split at q2
    · rename_i ds e1
      obtain ⟨a, vs, rfl, h1, h2⟩ := (sv1.next f2).lst f2.zh fd2 e1
      split at q2
      · rename_i e2
        rw [asInts_of e2] at h2
        cases h2
        split at q2
        · rename_i d
          exact ⟨a, [], z, rfl, rfl, SqL.of h1, fun _ => k (.dat d) _ H2 Z2 (f1.trans f2) fd2 sv2 q2, fun n r e => nomatch e⟩
        · exact q2.elim
      · rename_i n r e2
        rw [asInts_of e2] at h2
        rw [dps_ints' _ h2] at h1
        refine ⟨a, n :: r, z, rfl, rfl, SqL.of h1, fun e => (nomatch e), fun n' r' e => ?_⟩
        cases e
        exact k (.dat (.int _)) _ H2 Z2 (f1.trans f2) fd2 (Dq.int _) q2
      · exact q2.elim
    · exact q2.elim
theorem x_maxD {kp : Pos} (hcm : C.X.calm = true) (hu : C.X.A.units + 1 < cLine) (hg : Gl C.X "max") (hm : C.X.mg "max" = none) (ha : E C e (ofX xa)) (hb : E C f (ofX xb))
    (hs : starEach (e :: []) C.X.env = (false, eval e C.X.env) :: starEach [] C.X.env := by rfl)
    (he : backTo pos (starEach (e :: []) C.X.env) = (false, eval e C.X.env) :: backTo pos (starEach [] C.X.env) := by rfl) (hpl : (backTo pos (starEach (e :: []) C.X.env)).any (·.1) = false := by rfl) :
    E C (.Call (.Name "max" p) [e] [⟨some "default", f, kp⟩] pos) (ofX (xMxD (fun n r => r.foldl max n) xa xb)) := mxD_of (cr_maxD2 hcm hu) hg hm (by decide +kernel) ha hb (by decide) (by decide) hs he hpl
theorem x_minD {kp : Pos} (hcm : C.X.calm = true) (hu : C.X.A.units + 1 < cLine) (hg : Gl C.X "min") (hm : C.X.mg "min" = none) (ha : E C e (ofX xa)) (hb : E C f (ofX xb))
    (hs : starEach (e :: []) C.X.env = (false, eval e C.X.env) :: starEach [] C.X.env := by rfl)
    (he : backTo pos (starEach (e :: []) C.X.env) = (false, eval e C.X.env) :: backTo pos (starEach [] C.X.env) := by rfl) (hpl : (backTo pos (starEach (e :: []) C.X.env)).any (·.1) = false := by rfl) :
    E C (.Call (.Name "min" p) [e] [⟨some "default", f, kp⟩] pos) (ofX (xMxD (fun n r => r.foldl min n) xa xb)) := mxD_of (cr_minD2 hcm hu) hg hm (by decide +kernel) ha hb (by decide) (by decide) hs he hpl
/-- of a list of ints -/
def pMx (g : Int → List Int → Int) : List S → Option S
  | [s] => match s.lst with
    | some ds => match asInts ds with
      | some (n :: r) => some (.dat (.int (g n r)))
      | _ => none
    | none => none
  | _ => none
def pSum : List S → Option S
  | [s] => match s.lst with
    | some ds => match asInts ds with
      | some ns => some (.dat (.int ns.sum))
      | none => none
    | none => none
  | _ => none
def oOf (p : List S → Option S) : OA := fun ss q => ∃ s, p ss = some s ∧ q s
theorem fits_oOf {p : List S → Option S} : FitsA (oOf p) p := fun ss q s e hq => ⟨s, e, hq⟩
theorem foldl_mx {g : Int → Int → Int} (hg : ∀ a b, g a b = a ∨ g a b = b) : ∀ (r : List Int) (n : Int), r.foldl g n ∈ n :: r
  | [], n => by simp
  | k :: r, n => by
    have := foldl_mx hg r (g n k)
    rw [List.foldl_cons]
    rcases List.mem_cons.mp this with h | h
    · rw [h]
      rcases hg n k with e | e <;> rw [e] <;> simp
    · simp [h]
theorem foldl_max_ge : ∀ (r : List Int) (n y : Int), y ∈ n :: r → y ≤ r.foldl max n
  | [], n, y, h => by
    have : y = n := by simpa using h
    rw [this]; exact Int.le_refl _
  | k :: r, n, y, h => by
    rw [List.foldl_cons]
    have h1 := foldl_max_ge r (max n k) (max n k) (by simp)
    rcases List.mem_cons.mp h with rfl | h
    · exact Int.le_trans (Int.le_max_left _ _) h1
    · rcases List.mem_cons.mp h with rfl | h
      · exact Int.le_trans (Int.le_max_right _ _) h1
      · exact foldl_max_ge r _ y (by simp [h])
theorem foldl_min_le : ∀ (r : List Int) (n y : Int), y ∈ n :: r → r.foldl min n ≤ y
  | [], n, y, h => by
    have : y = n := by simpa using h
    rw [this]; exact Int.le_refl _
  | k :: r, n, y, h => by
    rw [List.foldl_cons]
    have h1 := foldl_min_le r (min n k) (min n k) (by simp)
    rcases List.mem_cons.mp h with rfl | h
    · exact Int.le_trans h1 (Int.min_le_left _ _)
    · rcases List.mem_cons.mp h with rfl | h
      · exact Int.le_trans h1 (Int.min_le_right _ _)
      · exact foldl_min_le r _ y (by simp [h])
def pMax := pMx fun n r => r.foldl max n
def pMin := pMx fun n r => r.foldl min n
theorem mx_parts {g : Int → List Int → Int} {ss : List S} {s : S} {F : Option Fd} {H0 H Z : Hp} {vs : List V} (sv : SVs F H0 H Z vs ss) (zh : Same Z H) (fd : FeedOk F H) (h : pMx g ss = some s) : ∃ a n r, vs = [.ref a] ∧ H a = some (.lst ((n :: r).map V.int)) ∧ s = .dat (.int (g n r)) := by
  unfold pMx at h
  split at h
  · obtain ⟨v, rfl, hv⟩ := svs1 sv
    split at h
    · rename_i ds e1
      split at h
      · rename_i n r e2; cases h
        obtain ⟨a, ws, rfl, h1, h2⟩ := hv.lst zh fd e1
        rw [asInts_of e2] at h2
        rw [dps_ints' _ h2] at h1
        exact ⟨a, n, r, rfl, h1, rfl⟩
      · cases h
    · cases h
  · cases h
theorem b_max (hc : C.X.calm = true) : Bi C (.builtin "max") (oOf pMax) := by
  intro pins s σ H vs us Q I r ⟨Z, ss, q, a, sv, t, e, hq⟩
  obtain ⟨b, n, rs, rfl, h1, rfl⟩ := mx_parts sv a.fr.zh a.fd e
  refine cr_max hc pins s σ H _ us Q I r ⟨b, n :: rs, rfl, SqL.of h1, by simp, fun m hm hge => ?_⟩
  have : m = rs.foldl max n := Int.le_antisymm (foldl_max_ge rs n m hm) (hge _ (foldl_mx (fun a b => by rcases Int.le_total a b with h | h; exact .inr (Int.max_eq_right h); exact .inl (Int.max_eq_left h)) rs n))
  rw [this]
  exact a.ret (s := .dat (.int _)) (Dq.int _) hq
theorem b_min (hc : C.X.calm = true) : Bi C (.builtin "min") (oOf pMin) := by
  intro pins s σ H vs us Q I r ⟨Z, ss, q, a, sv, t, e, hq⟩
  obtain ⟨b, n, rs, rfl, h1, rfl⟩ := mx_parts sv a.fr.zh a.fd e
  refine cr_min hc pins s σ H _ us Q I r ⟨b, n :: rs, rfl, SqL.of h1, by simp, fun m hm hge => ?_⟩
  have : m = rs.foldl min n := Int.le_antisymm (hge _ (foldl_mx (fun a b => by rcases Int.le_total a b with h | h; exact .inl (Int.min_eq_left h); exact .inr (Int.min_eq_right h)) rs n)) (foldl_min_le rs n m hm)
  rw [this]
  exact a.ret (s := .dat (.int _)) (Dq.int _) hq
theorem b_sum (hc : C.X.calm = true) : Bi C (.builtin "sum") (oOf pSum) := by
  intro pins s σ H vs us Q I r ⟨Z, ss, q, a, sv, t, e, hq⟩
  unfold pSum at e
  split at e
  · obtain ⟨v, rfl, hv⟩ := svs1 sv
    split at e
    · rename_i ds e1
      split at e
      · rename_i ns e2; cases e
        obtain ⟨b, ws, rfl, h1, h2⟩ := hv.lst a.fr.zh a.fd e1
        rw [asInts_of e2] at h2
        rw [dps_ints' _ h2] at h1
        exact cr_sum hc pins s σ H _ us Q I r ⟨b, ns, rfl, SqL.of h1, a.ret (s := .dat (.int _)) (Dq.int _) hq⟩
      · cases e
    · cases e
  · cases e
end
end PL

/-! several names at once, some of them new objects of one's own; statements that are not reached; append -/
namespace PL
open PySem PySem.Spec PyProof.Rows L2
section
variable {C : Cp} {e : Expr} {pos : Pos}
/-- lent, or a new object of its own -/
def New1 (C : Cp) (H : Hp) (v : V) (s : S) : Prop := s.lent = true ∨ ∃ p, v = .ref p ∧ H p = none ∧ nf C.F p
def tPF (C : Cp) (w : W) : TE := fun σ H Q => ∃ Z ρ q e, Sta.at C H Z σ ρ ∧ w ρ q e ∧ (∀ s v H' Z', Fr C.F H Z H' Z' → FeedOk C.F H' → SV C.F C.H0 H' Z' v s → New1 C H v s → q s → Q v H') ∧ Ke C H Z e
def EF (C : Cp) (e : Expr) (x : X) : Prop := PE C.X e (tPF C (ofX x))
theorem Sta.setF {H Z H' Z' : Hp} {σ : L2.St} {ρ : Env'} (st : Sta.at C H Z σ ρ) (f : Fr C.F H Z H' Z') (fd : FeedOk C.F H') (i : Nat) {s : S} {v : V} (sv : SV C.F C.H0 H' Z' v s) (n : New1 C H v s) : Sta.at C H' Z' (σ.set i (some v)) (ρ.set i (some s)) := by
  rcases n with l | ⟨p, rfl, hn, nfp⟩
  · exact (st.next f fd).set i sv l
  · exact st.setMine (o := .lst []) f fd i hn nfp fun _ => sv
def xLent (x : X) : X := fun ρ => rbind (x ρ) fun s => guard' s.lent (ok s)
theorem ef_lent {x : X} (h : E C e (ofX x)) : EF C e (xLent x) := weakE h fun σ H Q ⟨Z, ρ, q, ex, st, hw, k, ke⟩ =>
  ⟨Z, ρ, _, ex, st, ofR_bind hw, fun s v H' Z' f fd sv hq => let ⟨hl, hq⟩ := ofR_guard hq; k s v H' Z' f fd sv (.inl hl) hq, ke⟩
def xOwnE (n : XN) : X := fun ρ => rbind (n ρ) fun ds => ok (.own ds)
theorem ef_own {n : XN} (h : N C e (ofN n)) : EF C e (xOwnE n) := weakE h fun σ H Q ⟨Z, ρ, q, ex, st, hw, k, ke⟩ =>
  ⟨Z, ρ, _, ex, st, ofR_bind hw, fun ds vs p H' Z' f fd h1 h2 h3 h4 h5 hq => k (.own ds) (.ref p) H' Z' f fd ⟨p, vs, rfl, h1, h3, (by
    cases q' : C.H0 p with
    | none => rfl
    | some o => rw [st.fr.keep p o h4 q'] at h2; cases h2), h4, h5⟩ (.inr ⟨p, rfl, h2, h4⟩) hq, ke⟩
def xDkE : X := fun _ => ok (.odK [])
def xDtE : X := fun _ => ok (.odT [])
theorem fresh0 {H Z : Hp} {σ : L2.St} {ρ : Env'} (st : Sta.at C H Z σ ρ) {p : Addr} (np : H p = none) : C.H0 p = none := by
  cases q' : C.H0 p with
  | none => rfl
  | some o => rw [st.fr.keep p o (st.fd.ne np) q'] at np; cases np
theorem ef_dk : EF C (.Dict [] [] pos) xDkE := weakE pe_dnewK fun σ H Q ⟨Z, ρ, q, ex, st, hw, k, ke⟩ p np => by
  obtain ⟨f, zp⟩ := Fr.madeH (o := .dK []) st.refl np
  exact k (.odK []) (.ref p) _ Z f (st.fd.made np) ⟨p, [], rfl, upd_same, zp, fresh0 st np, st.fd.ne np, rfl, .nil⟩ (.inr ⟨p, rfl, np, st.fd.ne np⟩) hw
theorem ef_dt : EF C (.Dict [] [] pos) xDtE := weakE pe_dnewT fun σ H Q ⟨Z, ρ, q, ex, st, hw, k, ke⟩ p np => by
  obtain ⟨f, zp⟩ := Fr.madeH (o := .dT []) st.refl np
  exact k (.odT []) (.ref p) _ Z f (st.fd.made np) ⟨p, [], rfl, upd_same, zp, fresh0 st np, st.fd.ne np, rfl, .nil⟩ (.inr ⟨p, rfl, np, st.fd.ne np⟩) hw
variable {a b c : Expr} {xa xb xc : X} {i j l : Nat} {x y z : Str} {px py pz pt : Pos} {kt k2 pt2}
def xPar2 (i j : Nat) (xa xb : X) : XS := fun ρ => rbind (xa ρ) fun s => rbind (xb ρ) fun t => ok (.nx ((ρ.set i (some s)).set j (some t)))
theorem xs_par2 (hc : C.X.calm = true) (hN : C.X.N.Nodup) (hi : C.X.N[i]? = some x) (hj : C.X.N[j]? = some y) (hij : i ≠ j)
    (hx : C.X.env.scope.names.lookup x = some .local) (hy : C.X.env.scope.names.lookup y = some .local) (ha : EF C a xa) (hb : EF C b xb)
    (hw : swappedStores [.Tuple [.Name x px, .Name y py] kt pt] (.Tuple [a, b] k2 pt2) C.X.env = pure (some [x, y]))
    (hs : swapsWithSole [.Tuple [.Name x px, .Name y py] kt pt] (.Tuple [a, b] k2 pt2) pos.line C.X.env = pure false := by rfl)
    (h1 : starEach [a, b] C.X.env = (false, eval a C.X.env) :: starEach [b] C.X.env := by rfl) (h2 : starEach [b] C.X.env = (false, eval b C.X.env) :: starEach [] C.X.env := by rfl) :
    St1 C (.Assign [.Tuple [.Name x px, .Name y py] kt pt] (.Tuple [a, b] k2 pt2) pos) (ofS (xPar2 i j xa xb)) :=
  weakS (ps_par hc hN hi hj hij hx hy (pa_cons ha (pa_cons hb pa_nil h2) h1) hw hs) fun D σ H ⟨Z, ρ, P, st, h, d⟩ => by
    refine ⟨Z, ρ, _, P.ex, st, ofR_bind h, fun s v H1 Z1 f1 fd1 sv1 n1 q1 => ?_, d.ke st⟩
    have st1 := st.next f1 fd1
    refine ⟨Z1, ρ, _, P.ex, st1, ofR_bind q1, fun t w H2 Z2 f2 fd2 sv2 n2 q2 => ⟨v, w, rfl, ?_⟩, d.ke st1⟩
    exact d.nx _ _ _ _ ((st.setF f1 fd1 i sv1 n1).setF f2 fd2 j sv2 n2) q2
def xPar3 (i j l : Nat) (xa xb xc : X) : XS := fun ρ => rbind (xa ρ) fun s => rbind (xb ρ) fun t => rbind (xc ρ) fun u => ok (.nx (((ρ.set i (some s)).set j (some t)).set l (some u)))
theorem xs_par3 (hc : C.X.calm = true) (hN : C.X.N.Nodup) (hi : C.X.N[i]? = some x) (hj : C.X.N[j]? = some y) (hl : C.X.N[l]? = some z) (hij : i ≠ j) (hil : i ≠ l) (hjl : j ≠ l)
    (hx : C.X.env.scope.names.lookup x = some .local) (hy : C.X.env.scope.names.lookup y = some .local) (hz : C.X.env.scope.names.lookup z = some .local) (ha : EF C a xa) (hb : EF C b xb) (hcc : EF C c xc)
    (hw : swappedStores [.Tuple [.Name x px, .Name y py, .Name z pz] kt pt] (.Tuple [a, b, c] k2 pt2) C.X.env = pure (some [x, y, z]))
    (hs : swapsWithSole [.Tuple [.Name x px, .Name y py, .Name z pz] kt pt] (.Tuple [a, b, c] k2 pt2) pos.line C.X.env = pure false := by rfl)
    (h1 : starEach [a, b, c] C.X.env = (false, eval a C.X.env) :: starEach [b, c] C.X.env := by rfl) (h2 : starEach [b, c] C.X.env = (false, eval b C.X.env) :: starEach [c] C.X.env := by rfl) (h3 : starEach [c] C.X.env = (false, eval c C.X.env) :: starEach [] C.X.env := by rfl) :
    St1 C (.Assign [.Tuple [.Name x px, .Name y py, .Name z pz] kt pt] (.Tuple [a, b, c] k2 pt2) pos) (ofS (xPar3 i j l xa xb xc)) :=
  weakS (ps_par3 hc hN hi hj hl hij hil hjl hx hy hz (pa_cons ha (pa_cons hb (pa_cons hcc pa_nil h3) h2) h1) hw hs) fun D σ H ⟨Z, ρ, P, st, h, d⟩ => by
    refine ⟨Z, ρ, _, P.ex, st, ofR_bind h, fun s v H1 Z1 f1 fd1 sv1 n1 q1 => ?_, d.ke st⟩
    have st1 := st.next f1 fd1
    refine ⟨Z1, ρ, _, P.ex, st1, ofR_bind q1, fun t w H2 Z2 f2 fd2 sv2 n2 q2 => ?_, d.ke st1⟩
    have st2 := st1.next f2 fd2
    refine ⟨Z2, ρ, _, P.ex, st2, ofR_bind q2, fun r u H3 Z3 f3 fd3 sv3 n3 q3 => ⟨v, w, u, rfl, ?_⟩, d.ke st2⟩
    exact d.nx _ _ _ _ (((st.setF f1 fd1 i sv1 n1).setF f2 fd2 j sv2 n2).setF f3 fd3 l sv3 n3) q3
/-! ### not reached -/
def xDead : XS := fun _ => none
theorem xs_dead {st : Stmt} : St1 C st (ofS xDead) := ⟨fun pins s σ H D I ⟨Z, ρ, P, st, h, d⟩ => h.elim⟩
/-! ### append -/
theorem xs_app {i : Nat} {x : Str} {e : Expr} {w : X} {p1 apos cpos pos : Pos} (hv : PE C.X (.Name x p1) (tVar i)) (he : E C e (ofX w))
    (hs : starEach [e] C.X.env = (false, eval e C.X.env) :: starEach [] C.X.env := by rfl)
    (hbase : attributeBase (.Name x p1) "append" C.X.env (eval (.Name x p1) C.X.env) = eval (.Name x p1) C.X.env := by rfl)
    (hfew : ((backTo cpos (starEach (e :: []) C.X.env)).all (fun x => !x.1) && (backToKw cpos (keywordEach [] C.X.env)).all (fun x => x.1.isSome)
      && decide ((e :: []).length + ([] : List Keyword).length + (if ([] : List Keyword).isEmpty then 0 else 1) < 30)) = true := by rfl)
    (hline : (apos.endLine == cpos.line) = true := by rfl) (hplain : (backTo cpos (starEach [] C.X.env)).any (·.1) = false := by rfl)
    (hsw : swapsWith (.Call (.Attribute (.Name x p1) "append" apos) [e] [] cpos) none pos.line C.X.env = pure false := by rfl) :
    St1 C (.Expr (.Call (.Attribute (.Name x p1) "append" apos) [e] [] cpos) pos) (ofS (xApp i w)) :=
  s_weak (s_app hv he hs hbase hfew hline hplain hsw) xApp_of
end
end PL

/-! what is left: tests of clauses, keywords, several names at once as wishes -/
namespace PL
open PySem PySem.Spec PyProof.Rows L2
section
variable {C : Cp} {e : Expr} {pos : Pos}
def xYes : XB := fun _ => ok true
theorem xts_nil : Tts C [] (ofB xYes) := ⟨fun pins s σ H Q I ⟨Z, ρ, q, ex, st, hw, k, ke⟩ => ts_nil.run pins s σ H Q I ⟨Z, ρ, q, ex, st, hw, k, ke⟩⟩
def pLe2 : S → S → Option S
  | .dat (.tuple [.str a, .str b]), .dat (.tuple [.str c, .str d]) => some (.dat (.bool (pairLe a b c d)))
  | _, _ => none
theorem fits_le2 : Fits oLe2 pLe2 := by
  intro x y q s e hq
  unfold pLe2 at e
  unfold oLe2
  split at e
  · cases e; exact hq
  · cases e
theorem xLcSet_of {i : Nat} {vs is : List Nat} {sel : D → Option (List D)} {it : XI} {t : XB} {x : X} (P : Po) (ρ : Env') (h : ofS (xSet i (xNew (xLc vs is sel it t x))) P ρ) : wSet i (wNew (wLc vs is sel (ofI it) (ofB t) (ofX x))) P ρ := by
  have h := ofR_bind (ofR_bind h)
  exact xLc_of ρ _ _ (ofR_q h fun ds h => ⟨rfl, h⟩)
variable {fam : Fd → Prop} {k : Nat} {ps : List Str} {F : List S → R S} {x : Str} {p : Pos} {st : Stmt}
/-- no argument -/
theorem x_call0 (d : DefX C.X.prog C.X.w C.X.K C.X.mg C.X.base fam C.XV x st k ps (ofF ps.length F)) (hps : ps = []) (hF : HasF fam C.F) (hr : Room k C.X.A) (hgd : C.X.A.guards = some []) (hg : Gl C.X x) (hx : Lets C) (hdb : (x == ("__debug__" : Str)) = false := by decide) :
    E C (.Call (.Name x p) [] [] pos) (ofX (xCall F xNil)) := by
  obtain ⟨f, fd, Fn, hm, hk, hb, _⟩ := d.ex
  subst hps
  constructor
  intro pins s σ H Q I ⟨Z, ρ, q, ex, st, hw, kt, ke⟩
  apply wpAny_Call_Name_kw
  apply ld_glob I hg hm _ hdb
  apply PySem.W.callWith_K0 I.kIn hk
  exact run_g (args := ⟨[] ++ [], []⟩) (us := []) (Fn C.F hF) hr hgd hx I (hb s [] I.kIn rfl) .nil (sp_call (d.len []) (Fr.refl st.fr.zh st.fr.notF) st.fd .nil rfl ⟨rfl, hw⟩ kt ke)
theorem e_call0X {wf : WF} (d : DefX C.X.prog C.X.w C.X.K C.X.mg C.X.base fam C.XV x st k ps wf) (hps : ps = []) (hF : HasF fam C.F) (hr : Room k C.X.A) (hgd : C.X.A.guards = some []) (hg : Gl C.X x) (hx : Lets C) (hdb : (x == ("__debug__" : Str)) = false := by decide) :
    E C (.Call (.Name x p) [] [] pos) (wCall wf wNil) := by
  obtain ⟨f, fd, Fn, hm, hk, hb, _⟩ := d.ex
  subst hps
  constructor
  intro pins s σ H Q I ⟨Z, ρ, q, ex, st, ⟨ln, hw⟩, kt, ke⟩
  apply wpAny_Call_Name_kw
  apply ld_glob I hg hm _ hdb
  apply PySem.W.callWith_K0 I.kIn hk
  exact run_g (args := ⟨[] ++ [], []⟩) (us := []) (Fn C.F hF) hr hgd hx I (hb s [] I.kIn rfl) .nil (sp_call (d.len []) (Fr.refl st.fr.zh st.fr.notF) st.fd .nil ln hw kt ke)
/-! several names at once, as wishes -/
def EW (C : Cp) (e : Expr) (w : W) : Prop := PE C.X e (tPF C w)
def wLent (w : W) : W := fun ρ q e => w ρ (fun s => s.lent = true ∧ q s) e
def wOwnE (n : WL) : W := fun ρ q e => n ρ (fun ds => q (.own ds)) e
theorem wf_lent {w : W} (h : E C e w) : EW C e (wLent w) := weakE h fun σ H Q ⟨Z, ρ, q, ex, st, hw, k, ke⟩ =>
  ⟨Z, ρ, _, ex, st, hw, fun s v H' Z' f fd sv ⟨hl, hq⟩ => k s v H' Z' f fd sv (.inl hl) hq, ke⟩
theorem wf_own {n : WL} (h : N C e n) : EW C e (wOwnE n) := weakE h fun σ H Q ⟨Z, ρ, q, ex, st, hw, k, ke⟩ =>
  ⟨Z, ρ, _, ex, st, hw, fun ds vs p H' Z' f fd h1 h2 h3 h4 h5 hq => k (.own ds) (.ref p) H' Z' f fd ⟨p, vs, rfl, h1, h3, fresh0' st h4 h2, h4, h5⟩ (.inr ⟨p, rfl, h2, h4⟩) hq, ke⟩
where
  fresh0' {C : Cp} {H Z : Hp} {σ : L2.St} {ρ : Env'} (st : Sta.at C H Z σ ρ) {p : Addr} (n : nf C.F p) (np : H p = none) : C.H0 p = none := by
    cases q' : C.H0 p with
    | none => rfl
    | some o => rw [st.fr.keep p o n q'] at np; cases np
variable {a b c : Expr} {wa wb wc : W} {i j l : Nat} {y z : Str} {px py pz pt : Pos} {kt k2 pt2}
def wPar2 (i j : Nat) (a b : W) : WS := fun P ρ => a ρ (fun s => b ρ (fun t => P.nx ((ρ.set i (some s)).set j (some t))) P.ex) P.ex
theorem s_par2 (hc : C.X.calm = true) (hN : C.X.N.Nodup) (hi : C.X.N[i]? = some x) (hj : C.X.N[j]? = some y) (hij : i ≠ j)
    (hx : C.X.env.scope.names.lookup x = some .local) (hy : C.X.env.scope.names.lookup y = some .local) (ha : EW C a wa) (hb : EW C b wb)
    (hw : swappedStores [.Tuple [.Name x px, .Name y py] kt pt] (.Tuple [a, b] k2 pt2) C.X.env = pure (some [x, y]))
    (hs : swapsWithSole [.Tuple [.Name x px, .Name y py] kt pt] (.Tuple [a, b] k2 pt2) pos.line C.X.env = pure false := by rfl)
    (h1 : starEach [a, b] C.X.env = (false, eval a C.X.env) :: starEach [b] C.X.env := by rfl) (h2 : starEach [b] C.X.env = (false, eval b C.X.env) :: starEach [] C.X.env := by rfl) :
    St1 C (.Assign [.Tuple [.Name x px, .Name y py] kt pt] (.Tuple [a, b] k2 pt2) pos) (wPar2 i j wa wb) :=
  weakS (ps_par hc hN hi hj hij hx hy (pa_cons ha (pa_cons hb pa_nil h2) h1) hw hs) fun D σ H ⟨Z, ρ, P, st, h, d⟩ => by
    refine ⟨Z, ρ, _, P.ex, st, h, fun s v H1 Z1 f1 fd1 sv1 n1 q1 => ?_, d.ke st⟩
    have st1 := st.next f1 fd1
    refine ⟨Z1, ρ, _, P.ex, st1, q1, fun t w H2 Z2 f2 fd2 sv2 n2 q2 => ⟨v, w, rfl, ?_⟩, d.ke st1⟩
    exact d.nx _ _ _ _ ((st.setF f1 fd1 i sv1 n1).setF f2 fd2 j sv2 n2) q2
def wPar3 (i j l : Nat) (a b c : W) : WS := fun P ρ => a ρ (fun s => b ρ (fun t => c ρ (fun u => P.nx (((ρ.set i (some s)).set j (some t)).set l (some u))) P.ex) P.ex) P.ex
theorem s_par3 (hc : C.X.calm = true) (hN : C.X.N.Nodup) (hi : C.X.N[i]? = some x) (hj : C.X.N[j]? = some y) (hl : C.X.N[l]? = some z) (hij : i ≠ j) (hil : i ≠ l) (hjl : j ≠ l)
    (hx : C.X.env.scope.names.lookup x = some .local) (hy : C.X.env.scope.names.lookup y = some .local) (hz : C.X.env.scope.names.lookup z = some .local) (ha : EW C a wa) (hb : EW C b wb) (hcc : EW C c wc)
    (hw : swappedStores [.Tuple [.Name x px, .Name y py, .Name z pz] kt pt] (.Tuple [a, b, c] k2 pt2) C.X.env = pure (some [x, y, z]))
    (hs : swapsWithSole [.Tuple [.Name x px, .Name y py, .Name z pz] kt pt] (.Tuple [a, b, c] k2 pt2) pos.line C.X.env = pure false := by rfl)
    (h1 : starEach [a, b, c] C.X.env = (false, eval a C.X.env) :: starEach [b, c] C.X.env := by rfl) (h2 : starEach [b, c] C.X.env = (false, eval b C.X.env) :: starEach [c] C.X.env := by rfl) (h3 : starEach [c] C.X.env = (false, eval c C.X.env) :: starEach [] C.X.env := by rfl) :
    St1 C (.Assign [.Tuple [.Name x px, .Name y py, .Name z pz] kt pt] (.Tuple [a, b, c] k2 pt2) pos) (wPar3 i j l wa wb wc) :=
  weakS (ps_par3 hc hN hi hj hl hij hil hjl hx hy hz (pa_cons ha (pa_cons hb (pa_cons hcc pa_nil h3) h2) h1) hw hs) fun D σ H ⟨Z, ρ, P, st, h, d⟩ => by
    refine ⟨Z, ρ, _, P.ex, st, h, fun s v H1 Z1 f1 fd1 sv1 n1 q1 => ?_, d.ke st⟩
    have st1 := st.next f1 fd1
    refine ⟨Z1, ρ, _, P.ex, st1, q1, fun t w H2 Z2 f2 fd2 sv2 n2 q2 => ?_, d.ke st1⟩
    have st2 := st1.next f2 fd2
    refine ⟨Z2, ρ, _, P.ex, st2, q2, fun r u H3 Z3 f3 fd3 sv3 n3 q3 => ⟨v, w, u, rfl, ?_⟩, d.ke st2⟩
    exact d.nx _ _ _ _ (((st.setF f1 fd1 i sv1 n1).setF f2 fd2 j sv2 n2).setF f3 fd3 l sv3 n3) q3
end
end PL

/-! a, b, .. = x, y, .. by a tuple: the names are cells, or many -/
namespace PL
open PySem PySem.Spec PyProof.Rows L2
section
variable {C : Cp} {e : Expr} {es : List Expr}
/-- a list of elements, each for its slot: wishes of the slots behind all stores -/
abbrev WU := Env' → Env' → (Env' → Prop) → (Xn → Prop) → Prop
def wuNil : WU := fun _ a q _ => q a
def wuCons (i : Nat) (w : W) (r : WU) : WU := fun ρ a q e => w ρ (fun s => r ρ (a.set i (some s)) q e) e
def tPU (C : Cp) (is : List Nat) (w : WU) : TA := fun σ H Q => ∃ Z ρ σa ρa q e, Sta.at C H Z σ ρ ∧ Sta.at C H Z σa ρa ∧ w ρ ρa q e ∧
  (∀ vs ρ' H' Z', vs.length = is.length → Fr C.F H Z H' Z' → FeedOk C.F H' → Sta.at C H' Z' (setAllV σa is vs) ρ' → q ρ' → Q vs H') ∧ Ke C H Z e
def AU (C : Cp) (is : List Nat) (es : List Expr) (w : WU) : Prop := PA C.X es (tPU C is w)
theorem au_nil : AU C [] [] wuNil := weakA pa_nil fun σ H Q ⟨Z, ρ, σa, ρa, q, ex, st, sa, hw, k, ke⟩ => k [] ρa H Z rfl st.refl st.fd sa hw
theorem au_cons {i : Nat} {is : List Nat} {w : W} {r : WU} (he : EW C e w) (hr : AU C is es r) (hs : starEach (e :: es) C.X.env = (false, eval e C.X.env) :: starEach es C.X.env := by rfl) : AU C (i :: is) (e :: es) (wuCons i w r) :=
  weakA (pa_cons he hr hs) fun σ H Q ⟨Z, ρ, σa, ρa, q, ex, st, sa, hw, k, ke⟩ => by
    refine ⟨Z, ρ, _, ex, st, hw, fun s v H1 Z1 f1 fd1 sv1 n1 q1 => ?_, ke⟩
    refine ⟨Z1, ρ, _, _, q, ex, st.next f1 fd1, sa.setF f1 fd1 i sv1 n1, q1, fun vs ρ' H2 Z2 hl f2 fd2 s2 q2 => ?_, ke.next f1⟩
    exact k (v :: vs) ρ' H2 Z2 (by simp [hl]) (f1.trans f2) fd2 s2 q2
/-- the targets: names -/
def tgNames (C : Cp) (is : List Nat) (tg : Expr) : Prop := PG C.X tg (gTup C.X.K is.length (gNames is))
def wUnp (w : WU) : WS := fun P ρ => w ρ ρ P.nx P.ex
theorem s_unp {is : List Nat} {tg : Expr} {w : WU} {k2} {p2 pos : Pos} (ht : tgNames C is tg) (h : AU C is es w) (hz : is.length ≤ 1000) (hs : swapsWithSole [tg] (.Tuple es k2 p2) pos.line C.X.env = pure false := by rfl) (hw : swappedStores [tg] (.Tuple es k2 p2) C.X.env = pure none := by rfl)
    (h1 : (assignEach [tg] C.X.env).map (·.2) = [assign tg C.X.env] := by rfl) : St1 C (.Assign [tg] (.Tuple es k2 p2) pos) (wUnp w) :=
  weakS (ps_asg (pe_tup h) ht hs hw h1) fun D σ H ⟨Z, ρ, P, st, hw, d⟩ => by
    refine ⟨Z, ρ, σ, ρ, _, P.ex, st, st, hw, fun vs ρ' H1 Z1 hl f1 fd1 s1 hq => ?_, d.ke st⟩
    refine ⟨Nat.le_of_lt (small1000 (by rw [hl]; exact hz)), fun p np => ?_⟩
    refine ⟨p, vs, rfl, SqT.of upd_same, hl, gNames_ok hl ?_⟩
    obtain ⟨f2, zp⟩ := Fr.madeH (o := .tup vs) (Fr.refl f1.zh f1.notF) np
    exact d.nx _ ρ' _ Z1 (s1.next f2 (fd1.made np)) hq
/-- .. as functions -/
def xUnpGo : List (Nat × X) → Env' → Env' → R Env'
  | [], _, a => ok a
  | p :: r, ρ, a => rbind (p.2 ρ) fun s => xUnpGo r ρ (a.set p.1 (some s))
def xUnp (ps : List (Nat × X)) : XS := fun ρ => rbind (xUnpGo ps ρ ρ) fun ρ' => ok (.nx ρ')
def ofU (ps : List (Nat × X)) : WU := fun ρ a q e => ofR (xUnpGo ps ρ a) q e
theorem xau_nil : AU C [] [] (ofU []) := au_nil
theorem xau_cons {i : Nat} {is : List Nat} {x : X} {r : List (Nat × X)} (he : EF C e x) (hr : AU C is es (ofU r)) (hs : starEach (e :: es) C.X.env = (false, eval e C.X.env) :: starEach es C.X.env := by rfl) : AU C (i :: is) (e :: es) (ofU ((i, x) :: r)) :=
  weakA (au_cons (w := ofX x) he hr hs) fun σ H Q ⟨Z, ρ, σa, ρa, q, ex, st, sa, hw, k, ke⟩ => ⟨Z, ρ, σa, ρa, q, ex, st, sa, ofR_bind hw, k, ke⟩
theorem xs_unp {is : List Nat} {tg : Expr} {ps : List (Nat × X)} {k2} {p2 pos : Pos} (ht : tgNames C is tg) (h : AU C is es (ofU ps)) (hz : is.length ≤ 1000) (hs : swapsWithSole [tg] (.Tuple es k2 p2) pos.line C.X.env = pure false := by rfl) (hw : swappedStores [tg] (.Tuple es k2 p2) C.X.env = pure none := by rfl)
    (h1 : (assignEach [tg] C.X.env).map (·.2) = [assign tg C.X.env] := by rfl) : St1 C (.Assign [tg] (.Tuple es k2 p2) pos) (ofS (xUnp ps)) :=
  s_weak (s_unp ht h hz hs hw h1) fun P ρ h => ofR_bind h
end
end PL

/-! a try whose body raises nothing; loops by wishes -/
namespace PL
open PySem PySem.Spec PyProof.Rows L2
theorem s_try0 {C : Cp} {body : List Stmt} {h0 : ExceptHandler} {hs : List ExceptHandler} {pos : Pos} {w : WS} (hn : ∀ e s, ¬ C.X.xe e s) (hb : Sts C body w) : St1 C (.Try body (h0 :: hs) [] [] pos) w := ps_try_never (u := tNext) hn hb pss_nil
theorem wLoop_all {g : XG} {b : WS} (st : Env' → Prop) {P : Po} : ∀ {ds : List D} {ρ : Env'}, (∀ d ∈ ds, ∀ ρ, st ρ → ∃ ρ1, g d ρ = some ρ1 ∧ ∀ P' : Po, (∀ ρ2, st ρ2 → P'.nx ρ2) → b P' ρ1) → (∀ ρ', st ρ' → P.nx ρ') → st ρ → wLoop (ofG g) b ds P ρ
  | [], ρ, _, k, h => k ρ h
  | d :: r, ρ, hs, k, h => by
    obtain ⟨ρ1, h1, h2⟩ := hs d (by simp) ρ h
    exact ⟨ρ1, h1, h2 _ fun ρ2 h3 => wLoop_all st (fun y hy => hs y (by simp [hy])) k h3⟩
theorem pss_from {X : Cx} {XV : XVt} {rest : List Stmt} {ws : WS} {fam : Fd → Prop} (hb : ∀ (Fo : Option Fd) (H0 Z0 : Hp), (HasF fam Fo) → Sts (cpOf X Fo H0 Z0 (fun _ _ _ => False) XV) rest ws) :
    PSs X rest (fun D σ H1 => ∃ (Fo : Option Fd) (H0 Z0 : Hp), (HasF fam Fo) ∧ tPS (cpOf X Fo H0 Z0 (fun _ _ _ => False) XV) ws D σ H1) :=
  ⟨fun pins s σ H D I ⟨Fo, H0, Z0, hF, h⟩ => (hb Fo H0 Z0 hF).run pins s σ H D I h⟩
end PL

/-! dict(list of pairs) -/
namespace PL
open PySem PySem.Spec PyProof.Rows L2
def asPairs : List D → Option (List (Key × D))
  | [] => some []
  | .tuple [k, d] :: r => match asKey k, asPairs r with
    | some x, some es => some ((x, d) :: es)
    | _, _ => none
  | _ => none
def oDictP : OA := fun ss q => ∃ (s : S) (ds : List D) (es : List (Key × D)), ss = [s] ∧ s.lst = some ds ∧ asPairs ds = some es ∧ q (.dat (.dict (kvK (fillK [] es))))
theorem merge_rel {Z : Hp} : ∀ {kvs acc : List (Key × V)} {es acd : List (Key × D)}, kvs.map (·.1) = es.map (·.1) → Dqs Z (kvs.map (·.2)) (es.map (·.2)) → acc.map (·.1) = acd.map (·.1) → Dqs Z (acc.map (·.2)) (acd.map (·.2)) →
    (mergeK acc kvs).map (·.1) = (fillK acd es).map (·.1) ∧ Dqs Z ((mergeK acc kvs).map (·.2)) ((fillK acd es).map (·.2))
  | [], acc, [], acd, _, _, h, q => ⟨h, q⟩
  | [], _, _ :: _, _, h, _, _, _ => by cases h
  | _ :: _, _, [], _, h, _, _, _ => by cases h
  | p :: r, acc, e :: s, acd, h, q, ha, qa => by
    have h1 : p.1 = e.1 := (List.cons.inj h).1
    cases q with
    | cons d1 d2 =>
      refine merge_rel (kvs := r) (es := s) (acc := putK acc p.1 p.2) (acd := storeK acd e.1 e.2) (List.cons.inj h).2 d2 ?_ ?_
      · rw [← h1]; exact store_fst ha
      · rw [← h1]; exact store_snd d1 ha qa
theorem pairs_rel {X : Cx} {Z H : Hp} (zh : Same Z H) : ∀ {ds : List D} {vs : List V} {es : List (Key × D)}, Dqs Z vs ds → asPairs ds = some es → ∃ (ps : List Addr) (kvs : List (Key × V)), vs = ps.map V.ref ∧ Paired (fun p kv => SqT X.K H p [kV kv.1, kv.2]) ps kvs ∧
    kvs.map (·.1) = es.map (·.1) ∧ Dqs Z (kvs.map (·.2)) (es.map (·.2))
  | [], _, _, .nil, e => by cases e; exact ⟨[], [], rfl, .nil, rfl, .nil⟩
  | d :: r, _, es, .cons (v := v) a b, e => by
    unfold asPairs at e
    split at e
    · rename_i h0
      cases h0
    · rename_i k d' r' he
      cases he
      split at e
      · rename_i x es' e1 e2
        cases e
        obtain ⟨ps, kvs, h1, h2, h3, h4⟩ := pairs_rel zh b e2
        cases a with
        | tup z1 z2 =>
          rename_i p ws
          cases z2 with
          | cons y1 y2 =>
            cases y2 with
            | cons w1 w2 =>
              cases w2
              rename_i y z
              rw [asKey_of e1] at y1
              have := key_val y1
              subst this
              refine ⟨p :: ps, (x, z) :: kvs, by rw [h1]; rfl, .cons (SqT.of (zh _ _ z1)) h2, by simp [h3], .cons w1 h4⟩
      · cases e
    · cases e
theorem b_dictP {C : Cp} (hcalm : C.X.calm = true) : Bi C (.type "dict") oDictP := by
  intro pins s σ H vs us Q I r ⟨Z, ss, q, a, sv, t, ds, es, e1, e2, e3, hq⟩
  subst e1
  obtain ⟨v, rfl, h⟩ := svs1 sv
  obtain ⟨b, ws, rfl, h1, h2⟩ := h.lst a.fr.zh a.fd e2
  obtain ⟨ps, kvs, ev, hp, h3, h4⟩ := pairs_rel (X := C.X) a.fr.zh h2 e3
  subst ev
  refine call_dictP hcalm pins s σ H _ us Q I r ⟨b, ps, kvs, rfl, SqL.of h1, hp, fun p np => ?_⟩
  obtain ⟨m1, m2⟩ := merge_rel (acc := []) (acd := []) h3 h4 rfl .nil
  have f := a.fr.made (o := .dK (mergeK [] kvs)) a.fd np
  exact a.k (.dat (.dict (kvK (fillK [] es)))) _ _ _ f (a.fd.made np) (Dq.dK upd_same m1 (dps_mono f.zz _ _ m2) rfl) hq
def pDictP : List S → Option S
  | [s] => match s.lst with
    | some ds => match asPairs ds with
      | some es => some (.dat (.dict (kvK (fillK [] es))))
      | none => none
    | none => none
  | _ => none
theorem fits_dictP : FitsA oDictP pDictP := by
  intro ss q s e hq
  unfold pDictP at e
  split at e
  · split at e
    · rename_i ds e1
      split at e
      · rename_i es e2; cases e
        exact ⟨_, ds, es, rfl, e1, e2, hq⟩
      · cases e
    · cases e
  · cases e
end PL

/-! x[::-1]; an own dict of a list of pairs; xs.index(x) -/
namespace PL
open PySem PySem.Spec PyProof.Rows L2
section
variable {C : Cp} {e : Expr} {x : X} {pos : Pos}
def revS : S → R S
  | .dat (.tuple xs) => guard' (szOk xs.length) (ok (.dat (.tuple xs.reverse)))
  | s => match s.lst with
    | some xs => ok (.dat (.list xs.reverse))
    | none => none
def xRev (x : X) : X := fun ρ => rbind (x ρ) revS
theorem e_revL {w : W} {k : Nat} {p1 p2 p3 : Pos} (he : E C e w) : E C (.Subscript e (.Slice none none (some (.UnaryOp .USub (.Constant (.int 1) k p1) p2)) p3) pos) (fun ρ q ex => w ρ (fun s => ∃ xs, s.lst = some xs ∧ q (.dat (.list xs.reverse))) ex) :=
  weakE (pe_revL he) fun σ H Q ⟨Z, ρ, q, ex, st, hw, kt, ke⟩ => ⟨Z, ρ, _, ex, st, hw, fun s v H1 Z1 f fd sv ⟨xs, e1, hq⟩ => by
    obtain ⟨a, vs, rfl, h1, h2⟩ := sv.lst f.zh fd e1
    exact ⟨a, vs, rfl, SqL.of h1, fun p np => (kt.next f).lst (Fr.refl f.zh f.notF) fd np (dps_rev h2) hq⟩, ke⟩
theorem x_rev {k : Nat} {p1 p2 p3 : Pos} (he : E C e (ofX x)) : E C (.Subscript e (.Slice none none (some (.UnaryOp .USub (.Constant (.int 1) k p1) p2)) p3) pos) (ofX (xRev x)) := by
  constructor
  intro pins s σ H Q I ⟨Z, ρ, q, ex, st, hw, kt, ke⟩
  have hw : ofR (rbind (x ρ) revS) q ex := hw
  have byT := (e_rev (k := k) (p1 := p1) (p2 := p2) (p3 := p3) (pos := pos) he).run pins s σ H Q I
  have byL := (e_revL (k := k) (p1 := p1) (p2 := p2) (p3 := p3) (pos := pos) he).run pins s σ H Q I
  cases hx : x ρ with
  | none => rw [hx] at hw; exact hw.elim
  | some r =>
    cases r with
    | error xn => exact byL ⟨Z, ρ, q, ex, st, by rw [hx] at hw; show ofR (x ρ) _ _; rw [hx]; exact hw, kt, ke⟩
    | ok s' =>
      rw [hx] at hw
      have hw : ofR (revS s') q ex := hw
      unfold revS at hw
      split at hw
      · obtain ⟨h1, h2⟩ := ofR_guard hw
        exact byT ⟨Z, ρ, q, ex, st, by show ofR (x ρ) _ _; rw [hx]; exact ⟨_, rfl, szOk_of h1, h2⟩, kt, ke⟩
      · split at hw
        · rename_i xs e1
          exact byL ⟨Z, ρ, q, ex, st, by show ofR (x ρ) _ _; rw [hx]; exact ⟨xs, e1, hw⟩, kt, ke⟩
        · exact hw.elim
/-- name = dict(list of pairs), which changes later -/
def xOwnD (i : Nat) (x : X) : XS := fun ρ => rbind (x ρ) fun s => match s.lst with
  | some ds => match asPairs ds with
    | some es => ok (.nx (ρ.set i (some (.odK (fillK [] es)))))
    | none => none
  | none => none
theorem xs_ownD {i : Nat} {y : Str} {p1 p2 pos' : Pos} (hc : C.X.calm = true) (hN : C.X.N.Nodup) (hi : C.X.N[i]? = some y) (hx : Loc C.X.env.scope y) (hg : Gl C.X "dict") (hm : C.X.mg "dict" = none) (ha : E C e (ofX x))
    (hs : swapsWith (.Call (.Name "dict" p1) [e] [] p2) (some (.Name y pos')) pos.line C.X.env = pure false := by rfl)
    (hf : C.X.fn y = true ∨ C.X.env.scope.names.lookup y = some .local := by first | exact .inl rfl | exact .inr rfl | assumption) (hv : bootBuiltins "dict" = some (.type "dict") := by decide +kernel)
    (he : starEach [e] C.X.env = (false, eval e C.X.env) :: starEach [] C.X.env := by rfl) (hpl : (backTo p2 (starEach [] C.X.env)).any (·.1) = false := by rfl) :
    St1 C (.Assign [.Name y pos'] (.Call (.Name "dict" p1) [e] [] p2) pos) (ofS (xOwnD i x)) :=
  weakS (ps_set hN hi hx (pe_callTy (call_dictP hc) hg hm hv (pa_cons ha pa_nil he) (by decide) (by decide) he hpl) hs hf) fun D σ H ⟨Z, ρ, P, s, h, d⟩ => by
    refine ⟨Z, ρ, _, P.ex, s, ofR_bind h, fun sv v H1 Z1 f1 fd1 sw q1 => ?_, d.ke s⟩
    dsimp only at q1
    split at q1
    · rename_i ds e1
      split at q1
      · rename_i es e2
        obtain ⟨b, ws, rfl, h1, h2⟩ := sw.lst f1.zh fd1 e1
        obtain ⟨ps, kvs, ev, hp, h3, h4⟩ := pairs_rel (X := C.X) f1.zh h2 e2
        subst ev
        refine ⟨b, ps, kvs, rfl, SqL.of h1, hp, fun p np => ?_⟩
        obtain ⟨m1, m2⟩ := merge_rel (acc := []) (acd := []) h3 h4 rfl .nil
        have s1 := s.next f1 fd1
        obtain ⟨f, zp⟩ := Fr.madeH (o := .dK (mergeK [] kvs)) s1.refl np
        exact d.nx _ _ _ _ (s1.setMine (o := .dK (mergeK [] kvs)) (t := .odK (fillK [] es)) f (s1.fd.made np) i np (s1.fd.ne np) fun h0 => ⟨p, _, rfl, upd_same, zp, h0, s1.fd.ne np, m1, m2⟩) q1
      · exact q1.elim
    · exact q1.elim
/-- xs.index(y) of what is there -/
def idxD (d : D) : List D → Nat → Option Nat
  | [], _ => none
  | z :: r, n => if PyData.eqv z d = true then some n else idxD d r (n + 1)
theorem idxD_of {d : D} : ∀ {ds : List D} {n m : Nat}, idxD d ds n = some m → ∃ j z, m = n + j ∧ ds[j]? = some z ∧ PyData.eqv z d = true ∧ ∀ (i : Nat) (z' : D), i < j → ds[i]? = some z' → PyData.eqv z' d = false
  | [], n, m, h => by cases h
  | z :: r, n, m, h => by
    unfold idxD at h
    split at h
    · rename_i hz
      cases h
      exact ⟨0, z, rfl, rfl, hz, fun i _ hi => absurd hi (Nat.not_lt_zero _)⟩
    · rename_i hz
      obtain ⟨j, z', e1, e2, e3, e4⟩ := idxD_of h
      refine ⟨j + 1, z', by omega, by simpa using e2, e3, fun i z2 hi hg => ?_⟩
      cases i with
      | zero =>
        have : z = z2 := by simpa using hg
        subst this
        simpa using hz
      | succ i => exact e4 i z2 (by omega) (by simpa using hg)
def idxS (ds : List D) (t : S) : R S := match t with
  | .dat d => match SeqAt.shaped (.list ds) && SeqAt.shaped d with
    | true => match idxD d ds 0 with
      | some n => ok (.dat (.int (n : Nat)))
      | none => none
    | false => none
  | _ => none
def xIdx (x y : X) : X := fun ρ => rbind (x ρ) fun s => match s.lst with
  | some ds => rbind (y ρ) fun t => idxS ds t
  | none => none
theorem x_idx {o : Expr} {y : X} {apos cpos : Pos} (hu : C.X.A.units + 65 < cLine) (ho : E C o (ofX x)) (he : E C e (ofX y))
    (hbase : attributeBase o "index" C.X.env (eval o C.X.env) = eval o C.X.env := by rfl)
    (hfew : ((backTo cpos (starEach [e] C.X.env)).all (fun x => !x.1) && (backToKw cpos (keywordEach [] C.X.env)).all (fun x => x.1.isSome)
      && decide (([e] : List Expr).length + ([] : List Keyword).length + (if ([] : List Keyword).isEmpty then 0 else 1) < 30)) = true := by rfl)
    (hline : (apos.endLine == cpos.line) = true := by rfl) (hs : starEach [e] C.X.env = (false, eval e C.X.env) :: starEach [] C.X.env := by rfl) (hplain : (backTo cpos (starEach [] C.X.env)).any (·.1) = false := by rfl) :
    E C (.Call (.Attribute o "index" apos) [e] [] cpos) (ofX (xIdx x y)) :=
  weakE (pe_bm PySem.F.plainAttrs_list PySem.F.slot_list_index PySem.F.type_list_index (mt_indexD hu) ho (pa_cons he pa_nil hs) hbase hfew hline hs hplain) fun σ H Q ⟨Z, ρ, q, ex, st, hw, kt, ke⟩ => by
    refine ⟨Z, ρ, _, ex, st, ofR_bind hw, fun s v H1 Z1 f1 fd1 sv1 q1 => ?_, ke⟩
    dsimp only at q1
    split at q1
    · rename_i ds e1
      obtain ⟨a, vs, rfl, h1, h2⟩ := sv1.lst f1.zh fd1 e1
      refine ⟨.inl ⟨rfl, _, SqL.of h1⟩, Z1, ρ, _, ex, st.next f1 fd1, ofR_bind q1, fun t w H2 Z2 f2 fd2 sv2 q2 => ?_, ke.next f1⟩
      have q2 : ofR (idxS ds t) q ex := q2
      unfold idxS at q2
      split at q2
      · split at q2
        · rename_i sh
          rw [Bool.and_eq_true] at sh
          split at q2
          · rename_i n en
            obtain ⟨j, z, ej, hz, hzj, hno⟩ := idxD_of en
            have en : n = j := by omega
            subst en
            have l1 := (sv1.next f2).dp (K := C.X.K) f2.zh fd2 (d := .list ds) (by cases s <;> first | (cases e1; rfl) | skip; rename_i dd; cases dd <;> first | (cases e1; rfl) | cases e1) sh.1
            exact ⟨a, w, _, ds, n, z, rfl, rfl, l1, sv2.dp f2.zh fd2 rfl sh.2, sh.1, sh.2, hz, hzj, hno, kt (.dat (.int (n : Nat))) _ H2 Z2 (f1.trans f2) fd2 (Dq.int _) q2⟩
          · exact q2.elim
        · exact q2.elim
      · exact q2.elim
    · exact q1.elim
/-! ### range(a, b, c) -/
def rangeC (lo c : Int) (n : Nat) : List D := (List.range n).map fun (i : Nat) => .int (lo + (i : Int) * c)
theorem yields_rngC {K : PySem.W.Frag} {Z : Hp} (lo c : Int) (n : Nat) : Yields K (Itc lo c n) Z (rangeC lo c n) := by
  have y : YieldsF K (Itc lo c n) Z (rangeC lo c n) := by
    refine ⟨fun i H _ hi => (show i < n by simpa [rangeC] using hi), fun H _ => by simp [rangeC, Itc], fun i x H H' hi zh ⟨e, ex⟩ => ⟨e, .int (lo + (i : Int) * c), ?_, by rw [ex]; exact Dq.int _⟩⟩
    have hi' : i < n := by simpa [rangeC] using hi
    unfold rangeC
    rw [List.getElem?_map, List.getElem?_range hi']; rfl
  exact y.up
def stepsOf (i j c : Int) : Nat := (Builtin.Range.rangeSize i j c).toNat
def rg3 (i j c : Int) : Bool := decide (c ≠ 0) && decide (c.natAbs < 1073741824) && Builtin.Range.small i j c && decide (Builtin.Range.rangeSize i j c = (stepsOf i j c : Nat))
def xRng3 (r : XA) : XI := fun ρ => rbind (r ρ) fun ss => match ss with
  | [.dat (.int i), .dat (.int j), .dat (.int c)] => guard' (rg3 i j c) (ok (rangeC i c (stepsOf i j c)))
  | _ => none
theorem svs3 {F : Option Fd} {H0 H Z : Hp} {vs : List V} {s t u : S} (h : SVs F H0 H Z vs [s, t, u]) : ∃ v w y, vs = [v, w, y] ∧ SV F H0 H Z v s ∧ SV F H0 H Z w t ∧ SV F H0 H Z y u := by
  cases h with
  | cons a b => obtain ⟨w, y, e, c, d⟩ := svs2 b; exact ⟨_, w, y, by rw [e], a, c, d⟩
theorem xi_rng3 {tg a b c : Expr} {r : XA} {p : Pos} (hg : Gl C.X "range") (hm : C.X.mg "range" = none) (ha : A C [a, b, c] (ofA r)) (hs : starEach [a, b, c] C.X.env = (false, eval a C.X.env) :: starEach [b, c] C.X.env := by rfl) (hpl : (backTo pos (starEach [b, c] C.X.env)).any (·.1) = false := by rfl) :
    Iter C tg (.Call (.Name "range" p) [a, b, c] [] pos) (ofI (xRng3 r)) :=
  weakI (pi_range3 hg hm ha hs hpl) fun σ H R ⟨Z, ρ, q, ex, st, hw, k, ke⟩ => ⟨Z, ρ, _, ex, st, ofR_bind hw, fun ss vs H' Z' f fd sv hq => by
    split at hq
    · rename_i i j l
      obtain ⟨e1, hq⟩ := ofR_guard hq
      unfold rg3 at e1
      simp only [Bool.and_eq_true, decide_eq_true_eq] at e1
      obtain ⟨v, u, y, rfl, h, h', h''⟩ := svs3 sv
      cases (show Dq Z' v (.int i) from h)
      cases (show Dq Z' u (.int j) from h')
      cases (show Dq Z' y (.int l) from h'')
      exact ⟨i, j, l, stepsOf i j l, rfl, ⟨e1.1.1.1, e1.1.1.2, e1.1.2, e1.2⟩, k _ _ H' Z' f fd (yields_rngC i l _) hq⟩
    · exact hq.elim, ke⟩
end
end PL

/-! zip of two tuples -/
namespace PL
open PySem PySem.Spec PyProof.Rows L2
def zipD (ds es : List D) : List D := (ds.zip es).map fun p => PyData.tuple [p.1, p.2]
theorem zipD_get {ds es : List D} {i : Nat} {x y : D} (h1 : ds[i]? = some x) (h2 : es[i]? = some y) : (zipD ds es)[i]? = some (.tuple [x, y]) := by
  unfold zipD
  rw [List.getElem?_map]
  have : (ds.zip es)[i]? = some (x, y) := by
    rw [List.getElem?_zip_eq_some]
    exact ⟨h1, h2⟩
  rw [this]; rfl
theorem zipD_len (ds es : List D) : (zipD ds es).length = min ds.length es.length := by simp [zipD]
theorem yields_zipT {K : PySem.W.Frag} {Z : Hp} {a b : Addr} {vs us : List V} {ds es : List D} (h1 : Z a = some (.tup vs)) (dv : Dqs Z vs ds) (h2 : Z b = some (.tup us)) (du : Dqs Z us es) : Yields K (RZ.ItzT K a b) Z (zipD ds es) := by
  have l1 := dps_len dv
  have l2 := dps_len du
  refine ⟨fun i H zh hi => ?_, fun H zh => ?_, fun F i x H H' Zc hi zz f fd ⟨T, y, z, e1, nT, e2, hy, hz⟩ => ?_⟩
  · rw [zipD_len] at hi
    exact ⟨vs, us, vs[i]'(by omega), us[i]'(by omega), SqT.of (zh _ _ h1), SqT.of (zh _ _ h2), List.getElem?_eq_getElem _, List.getElem?_eq_getElem _⟩
  · refine ⟨vs, us, SqT.of (zh _ _ h1), SqT.of (zh _ _ h2), ?_⟩
    rw [zipD_len]
    omega
  · subst e1
    subst e2
    rw [zipD_len] at hi
    have hz1 : Zc a = some (.tup vs) := zz _ _ h1
    have hz2 : Zc b = some (.tup us) := zz _ _ h2
    have gy := hy vs (SqT.of (f.zh _ _ hz1))
    have gz := hz us (SqT.of (f.zh _ _ hz2))
    obtain ⟨d, hd, dq⟩ := dps_get' (dps_mono zz _ _ dv) gy
    obtain ⟨d2, hd2, dq2⟩ := dps_get' (dps_mono zz _ _ du) gz
    have sm : Same Zc (upd Zc T (.tup [y, z])) := Same.made (by
      cases q : Zc T with
      | none => rfl
      | some o => rw [f.zh _ _ q] at nT; cases nT)
    exact ⟨upd Zc T (.tup [y, z]), .tuple [d, d2], Fr.made f fd nT, fd.made nT, zipD_get hd hd2, Dq.tup upd_same (.cons (dp_mono sm _ _ dq) (.cons (dp_mono sm _ _ dq2) .nil))⟩
section
variable {C : Cp}
def wZip (r : WA) : WI := fun ρ q e => r ρ (fun ss => ∃ ds es, ss = [.dat (.tuple ds), .dat (.tuple es)] ∧ q (zipD ds es)) e
theorem i_zipT {elts : List Expr} {kk : Nat} {tpos p pos : Pos} {a b : Expr} {r : WA} (hg : Gl C.X "zip") (hm : C.X.mg "zip" = none) (ha : A C [a, b] r)
    (hs : starEach [a, b] C.X.env = (false, eval a C.X.env) :: starEach [b] C.X.env := by rfl) (hpl : (backTo pos (starEach [b] C.X.env)).any (·.1) = false := by rfl) :
    Iter C (.Tuple elts kk tpos) (.Call (.Name "zip" p) [a, b] [] pos) (wZip r) :=
  weakI (RZ.pi_zipA hg hm ha hs hpl) fun σ H R ⟨Z, ρ, q, ex, st, hw, k, ke⟩ => ⟨Z, ρ, _, ex, st, hw, fun ss vs H' Z' f fd sv ⟨ds, es, e1, hq⟩ => by
    subst e1
    obtain ⟨v, u, rfl, h, h'⟩ := svs2 sv
    cases (show Dq Z' v (.tuple ds) from h) with
    | tup h1 h2 =>
    cases (show Dq Z' u (.tuple es) from h') with
    | tup h3 h4 =>
    exact ⟨_, _, _, _, rfl, .inr ⟨SqT.of (f.zh _ _ h1), SqT.of (f.zh _ _ h3), k _ _ H' Z' f fd (yields_zipT h1 h2 h3 h4) hq⟩⟩, ke⟩
def xZip (r : XA) : XI := fun ρ => rbind (r ρ) fun ss => match ss with
  | [.dat (.tuple ds), .dat (.tuple es)] => ok (zipD ds es)
  | _ => none
theorem xi_zipT {elts : List Expr} {kk : Nat} {tpos p pos : Pos} {a b : Expr} {r : XA} (hg : Gl C.X "zip") (hm : C.X.mg "zip" = none) (ha : A C [a, b] (ofA r))
    (hs : starEach [a, b] C.X.env = (false, eval a C.X.env) :: starEach [b] C.X.env := by rfl) (hpl : (backTo pos (starEach [b] C.X.env)).any (·.1) = false := by rfl) :
    Iter C (.Tuple elts kk tpos) (.Call (.Name "zip" p) [a, b] [] pos) (ofI (xZip r)) :=
  i_weak (i_zipT hg hm ha hs hpl) fun ρ q e h => ofR_q (ofR_bind h) fun ss h => by
    split at h
    · exact ⟨_, _, rfl, h⟩
    · exact h.elim
end
end PL

/-! targets = name.pop(), of a list of the def's own -/
namespace PL
open PySem PySem.Spec PyProof.Rows L2
section
variable {C : Cp}
def xPopA (i : Nat) (g : XG) : XS := fun ρ => match ρ[i]? with
  | some (some (.own ds)) => match ds[ds.length - 1]? with
    | some d => rbind (opt (g d (ρ.set i (some (.own (ds.take (ds.length - 1))))))) fun ρ' => ok (.nx ρ')
    | none => none
  | _ => none
theorem xs_popA {i : Nat} {x : Str} {tg : Expr} {g : XG} {p1 apos cpos pos : Pos} (hv : PE C.X (.Name x p1) (tVar i)) (hg : G C tg (ofG g))
    (hbase : attributeBase (.Name x p1) "pop" C.X.env (eval (.Name x p1) C.X.env) = eval (.Name x p1) C.X.env := by rfl)
    (hline : (apos.endLine == cpos.line) = true := by rfl)
    (hs : swapsWithSole [tg] (.Call (.Attribute (.Name x p1) "pop" apos) [] [] cpos) pos.line C.X.env = pure false := by rfl) (hw : swappedStores [tg] (.Call (.Attribute (.Name x p1) "pop" apos) [] [] cpos) C.X.env = pure none := by rfl)
    (h1 : (assignEach [tg] C.X.env).map (·.2) = [assign tg C.X.env] := by rfl) : St1 C (.Assign [tg] (.Call (.Attribute (.Name x p1) "pop" apos) [] [] cpos) pos) (ofS (xPopA i g)) := by
  refine weakS (ps_asg (pe_bm0 PySem.F.plainAttrs_list PySem.F.slot_list_pop PySem.F.type_list_pop mt_pop hv hbase hline) hg hs hw h1) fun D σ H ⟨Z, ρ, P, st, h, d⟩ => ?_
  unfold ofS xPopA at h
  split at h
  · rename_i ds e0
    split at h
    · rename_i dl el
      obtain ⟨v, e1, a, vs, e2, e3, zn, h0, nfa, dv⟩ := st.env i _ e0
      subst e2
      have ln := dps_len dv
      obtain ⟨ρ', eg, hq⟩ := ofR_opt (ofR_bind h)
      obtain ⟨y, ey, dq⟩ := dps_get dv el
      have ey : vs[vs.length - 1]? = some y := by rw [ln]; exact ey
      have st' : Sta.at C (upd H a (.lst vs.dropLast)) Z σ (ρ.set i (some (.own (ds.take (ds.length - 1))))) := st.chg e0 rfl e1 fun _ _ _ => ⟨a, _, rfl, upd_same, zn, h0, nfa, by
        rw [List.dropLast_eq_take, ln]
        exact dps_take _ dv⟩
      refine ⟨.ref a, e1, .inl ⟨rfl, _, .inl (.inl e3)⟩, a, vs, y, rfl, rfl, e3, ey, ?_⟩
      exact ⟨Z, _, dl, _, st', dq, ⟨ρ', eg, hq⟩, fun σ' ρ' H2 Z2 s2 _ h2 => d.nx _ _ _ _ s2 h2⟩
    · exact h.elim
  · exact h.elim
end
end PL

/-! [elt for t in i if .. for t1 in i1 if ..] -/
namespace PL
open PySem PySem.Spec PyProof.Rows L2
def lc2Step (sel : D → Option (List D)) (is : List Nat) (t : XB) (i1 : XI) (sel1 : D → Option (List D)) (vs1 is1 : List Nat) (t1 : XB) (x : X) (ρ : Env') (d : D) : Option (List D) := match sel d with
  | none => none
  | some es => match quiet (t (setAll ρ is es)) with
    | none => none
    | some false => some []
    | some true => match quiet (i1 (setAll ρ is es)) with
      | none => none
      | some ds => lcRun (lcStep sel1 is1 t1 x (wipe' (setAll ρ is es) vs1)) ds
def xLc2 (vs is : List Nat) (sel : D → Option (List D)) (i : XI) (t : XB) (vs1 is1 : List Nat) (sel1 : D → Option (List D)) (i1 : XI) (t1 : XB) (x : X) : XN := fun ρ =>
  rbind (i ρ) fun ds => rbind (opt (manyOf (lc2Step sel is t i1 sel1 vs1 is1 t1 x (wipe' ρ vs)) ds)) fun out => guard' (szOk out.length) (ok out)
section
variable {C : Cp}
/-- .. by its function -/
theorem lc2_red {i i1 : XI} {g g1 : TG} {vs is vs1 is1 : List Nat} {sel sel1 : D → Option (List D)} {t t1 : XB} {x : X} (tg : TgOk g is sel) (his : ∀ j ∈ is, j ∈ vs) (tg1 : TgOk g1 is1 sel1) (his1 : ∀ j ∈ is1, j ∈ vs1) {σ : L2.St} {H : Hp} {Q : VK}
    (h : tPN C (ofN (xLc2 vs is sel i t vs1 is1 sel1 i1 t1 x)) σ H Q) :
    tLc2 (tPI C (ofI i)) g (tPT { C with EE := fun _ _ _ => False } (ofB t)) (tPI { C with EE := fun _ _ _ => False } (ofI i1)) g1 (tPT { C with EE := fun _ _ _ => False } (ofB t1)) (tP { C with EE := fun _ _ _ => False } (ofX x)) vs vs1 σ H Q := by
  obtain ⟨Z, ρ, q, ex, st, hw, k, ke⟩ := h
  refine ⟨Z, ρ, _, ex, st, ofR_bind hw, fun J ds H1 Z1 f1 fd1 Y h1 => ?_, ke⟩
  obtain ⟨out, e1, h2⟩ := ofR_opt (ofR_bind h1)
  obtain ⟨hl, hq⟩ := ofR_guard h2
  have hl := szOk_of hl
  intro p np
  have st1 := st.next f1 fd1
  obtain ⟨f2, zp⟩ := Fr.madeH (o := .lst []) (Fr.refl f1.zh f1.notF) np
  have nfp : nf C.F p := fd1.ne np
  have hp0 : H p = none := by
    cases q' : H p with
    | none => rfl
    | some o => rw [f1.keep p o nfp q'] at np; cases np
  have m0 : Mid C H1 Z1 (upd H1 p (.lst [])) Z1 p [] [] := ⟨f2, fd1.made np, upd_same, zp, .nil⟩
  let stp := lc2Step sel is t i1 sel1 vs1 is1 t1 x (wipe' ρ vs)
  refine ⟨fun i m H' => m = ds.length - i ∧ i ≤ ds.length ∧ ∃ Z' acc accD rest, Mid C H1 Z1 H' Z' p acc accD ∧ manyOf stp (ds.drop i) = some rest ∧ accD ++ rest = out, ⟨ds.length, by omega, Nat.zero_le _, Z1, [], [], out, m0, by simpa using e1, rfl⟩, ?_⟩
  rintro i m H' ⟨rfl, hi', Z', acc, accD, rest, mid, hrun, hout⟩
  have zh : Same Z1 H' := mid.fr.zz.trans mid.fr.zh
  by_cases hlt : i < ds.length
  · refine .inr ⟨Y.go i H' zh hlt, fun H2 => ∃ Z2 acc2 accD2 rest2, Mid C H1 Z1 H2 Z2 p acc2 accD2 ∧ manyOf stp (ds.drop (i + 1)) = some rest2 ∧ accD2 ++ rest2 = out, fun H2 h2 => ⟨ds.length - (i + 1), by omega, rfl, hlt, h2⟩, fun xv H2 y => ?_⟩
    obtain ⟨Zy, dd, fy, fdy, hd, dq⟩ := Y.yld C.F i xv H' H2 Z' hlt mid.fr.zz (Fr.refl mid.fr.zh mid.fr.notF) mid.fd y
    have mid := mid.next nfp fy fdy
    have e2 : ds.drop i = dd :: ds.drop (i + 1) := by
      rw [List.drop_eq_getElem_cons hlt]
      rw [List.getElem?_eq_getElem hlt] at hd
      cases hd; rfl
    rw [e2] at hrun
    unfold manyOf at hrun
    split at hrun
    · rename_i bs cs e3 e4
      cases hrun
      have e3 : lc2Step sel is t i1 sel1 vs1 is1 t1 x (wipe' ρ vs) dd = some bs := e3
      unfold lc2Step at e3
      split at e3
      · cases e3
      · rename_i es hsel
        refine tg xv dd es _ H2 Zy _ mid.fr.zh dq hsel fun vals dvs => ?_
        refine ⟨by rw [setAllV_wipe his, wipe_twice], ?_⟩
        have sty : Stays C H1 Z1 (setAllV (L2.wipe σ vs) is vals) (setAll (wipe' ρ vs) is es) Zy := Stays.turn (Stays.start st1 Z1) mid.fr.zz dvs
        have st2 := sty H2 Zy mid.fr mid.fd (fun _ _ z => z)
        split at e3
        · cases e3
        · rename_i e5
          cases e3
          refine ⟨Zy, _, (fun b => b = false), noX, st2, by unfold ofB; rw [quiet_of e5]; rfl, fun b H3 Z3 f3 fd3 hb => ?_, fun x cls d H4 Z4 _ _ _ hx => hx.elim⟩
          subst hb
          exact ⟨Z3, acc, accD, cs, mid.next nfp f3 fd3, e4, hout⟩
        · rename_i e5
          refine ⟨Zy, _, (fun b => b = true), noX, st2, by unfold ofB; rw [quiet_of e5]; rfl, fun b H3 Z3 f3 fd3 hb => ?_, fun x cls d H4 Z4 _ _ _ hx => hx.elim⟩
          subst hb
          have mid3 := mid.next nfp f3 fd3
          split at e3
          · cases e3
          · rename_i ds1 e6
            refine ⟨Z3, _, (fun l => l = ds1), noX, st2.next f3 fd3, by unfold ofI; rw [quiet_of e6]; rfl, fun J1 l H4 Z4 f4 fd4 Y1 hl1 => ?_, fun x cls d H4 Z4 _ _ _ hx => hx.elim⟩
            subst hl1
            have mid4 := mid3.next nfp f4 fd4
            have z04 : Same Zy Z4 := f3.zz.trans f4.zz
            let stp1 := lcStep sel1 is1 t1 x (wipe' (setAll (wipe' ρ vs) is es) vs1)
            refine ⟨fun j k H' => k = l.length - j ∧ j ≤ l.length ∧ ∃ Z' acc2 accD2 rest2, Same Z4 Z' ∧ Mid C H1 Z1 H' Z' p acc2 accD2 ∧ lcRun stp1 (l.drop j) = some rest2 ∧ accD2 ++ (rest2 ++ cs) = out, ⟨l.length, by omega, Nat.zero_le _, Z4, acc, accD, bs, fun _ _ z => z, mid4, by simpa using e3, hout⟩, ?_⟩
            rintro j k5 H5 ⟨rfl, hj, Z5, acc2, accD2, rest2, z45, mid5, hrun5, hout5⟩
            have zh5 : Same Z4 H5 := z45.trans mid5.fr.zh
            by_cases hlt5 : j < l.length
            · refine .inr ⟨Y1.go j H5 zh5 hlt5, fun H' => ∃ Z' acc2 accD2 rest2, Same Z4 Z' ∧ Mid C H1 Z1 H' Z' p acc2 accD2 ∧ lcRun stp1 (l.drop (j + 1)) = some rest2 ∧ accD2 ++ (rest2 ++ cs) = out, fun H' h' => ⟨l.length - (j + 1), by omega, rfl, hlt5, h'⟩, fun xv1 H6 y1 => ?_⟩
              obtain ⟨Z6, d1, fy6, fdy6, hd6, dq6⟩ := Y1.yld C.F j xv1 H5 H6 Z5 hlt5 z45 (Fr.refl mid5.fr.zh mid5.fr.notF) mid5.fd y1
              have mid6 := mid5.next nfp fy6 fdy6
              have e7 : l.drop j = d1 :: l.drop (j + 1) := by
                rw [List.drop_eq_getElem_cons hlt5]
                rw [List.getElem?_eq_getElem hlt5] at hd6
                cases hd6; rfl
              rw [e7] at hrun5
              have z46 : Same Z4 Z6 := z45.trans fy6.zz
              -- what one turn gives
              have one : ∃ o out5, stp1 d1 = some o ∧ lcRun stp1 (l.drop (j + 1)) = some out5 ∧ rest2 = (match o with | some d' => d' :: out5 | none => out5) := by
                unfold lcRun at hrun5
                split at hrun5
                · rename_i d' out5 a1 a2
                  exact ⟨some d', out5, a1, a2, (Option.some.inj hrun5).symm⟩
                · rename_i out5 a1 a2
                  exact ⟨none, out5, a1, a2, (Option.some.inj hrun5).symm⟩
                · cases hrun5
              obtain ⟨o, out5, a1, a2, a3⟩ := one
              have a1 : lcStep sel1 is1 t1 x (wipe' (setAll (wipe' ρ vs) is es) vs1) d1 = some o := a1
              unfold lcStep at a1
              split at a1
              · cases a1
              · rename_i es1 hsel1
                refine tg1 xv1 d1 es1 _ H6 Z6 _ mid6.fr.zh dq6 hsel1 fun vals1 dvs1 => ?_
                refine ⟨by rw [setAllV_wipe his1, wipe_twice], ?_⟩
                have st6 := (Stays.turn (is := is1) (us := vs1) sty (z04.trans z46) dvs1) H6 Z6 mid6.fr mid6.fd (fun _ _ z => z)
                split at a1
                · cases a1
                · rename_i b1
                  cases a1
                  refine ⟨Z6, _, (fun b => b = false), noX, st6, by unfold ofB; rw [quiet_of b1]; rfl, fun b H7 Z7 f7 fd7 hb => ?_, fun x cls d H4 Z4 _ _ _ hx => hx.elim⟩
                  subst hb
                  exact ⟨Z7, acc2, accD2, out5, z46.trans f7.zz, mid6.next nfp f7 fd7, a2, by rw [← hout5, a3]⟩
                · rename_i b1
                  refine ⟨Z6, _, (fun b => b = true), noX, st6, by unfold ofB; rw [quiet_of b1]; rfl, fun b H7 Z7 f7 fd7 hb => ?_, fun x cls d H4 Z4 _ _ _ hx => hx.elim⟩
                  subst hb
                  split at a1
                  · rename_i d' b2
                    cases a1
                    refine ⟨Z7, _, (fun s => s = .dat d'), noX, st6.next f7 fd7, by unfold ofX; rw [quiet_of b2]; rfl, fun s v H8 Z8 f8 fd8 sv hs => ?_, fun x cls d H4 Z4 _ _ _ hx => hx.elim⟩
                    subst hs
                    have mid8 := (mid6.next nfp f7 fd7).next nfp f8 fd8
                    have ln : accD2.length < out.length := by
                      rw [← hout5, a3]
                      simp
                    refine ⟨acc2, mid8.at', by rw [dps_len mid8.dv]; omega, Z8, acc2 ++ [v], accD2 ++ [d'], out5, (z46.trans f7.zz).trans f8.zz, mid8.app np nfp sv, a2, ?_⟩
                    rw [← hout5, a3]
                    simp
                  · cases a1
            · have e : j = l.length := by omega
              subst e
              rw [List.drop_length] at hrun5
              cases hrun5
              exact .inl ⟨Y1.stop H5 zh5, Z5, acc2, accD2, cs, mid5, e4, by simpa using hout5⟩
    · cases hrun
  · have e : i = ds.length := by omega
    subst e
    rw [List.drop_length] at hrun
    cases hrun
    rw [List.append_nil] at hout
    subst hout
    exact .inl ⟨Y.stop H' zh, k accD acc p H' Z' (f1.trans mid.fr) mid.fd mid.at' hp0 mid.zn nfp mid.dv hq⟩
theorem xn_lc2 {elt tg iter tg' iter' : Expr} {ifs ifs' : List Expr} {scope : Scope} {own : List (Str × Nat)} {vs vs1 is is1 : List Nat} {pos : Pos} {i i1 : XI} {g g1 : TG} {sel sel1 : D → Option (List D)} {t t1 : XB} {x : X} (hc : C.X.calm = true) (hN : C.X.N.Nodup) (hi : Iter C tg iter (ofI i)) (ok : BlkOk C.X.N C.X.env.scope scope own)
    (ht0 : TgOk g is sel) (his : ∀ j ∈ is, j ∈ vs) (ht1 : TgOk g1 is1 sel1) (his1 : ∀ j ∈ is1, j ∈ vs1) (hv : ∀ j ∈ vs1, j ∈ vs)
    (hg : AtBlk C.X scope fun Xb => PG Xb tg g) (ht : AllBlk C scope fun Cb => Tts Cb ifs (ofB t)) (hi1 : AllBlk C scope fun Cb => Iter Cb tg' iter' (ofI i1)) (hg1 : AtBlk C.X scope fun Xb => PG Xb tg' g1) (htt : AllBlk C scope fun Cb => Tts Cb ifs' (ofB t1)) (he : AllBlk C scope fun Cb => E Cb elt (ofX x))
    (hs : ∀ x, foldedSetIterable iter C.X.env x = pure x := by intro _; rfl) (hs1 : ∀ env x, foldedSetIterable iter' env x = pure x := by intro _ _; rfl) (hvs : own.map (·.2) = vs := by rfl) :
    N C (.ListComp elt [⟨tg, iter, ifs, 0⟩, ⟨tg', iter', ifs', 0⟩] scope pos) (ofN (xLc2 vs is sel i t vs1 is1 sel1 i1 t1 x)) := by
  subst hvs
  exact weakE (pe_lc2 (tt := tPT { C with EE := fun _ _ _ => False } (ofB t)) (wi1 := tPI { C with EE := fun _ _ _ => False } (ofI i1)) (tt1 := tPT { C with EE := fun _ _ _ => False } (ofB t1)) (te := tP { C with EE := fun _ _ _ => False } (ofX x)) hc hN hi ok hv hg (fun s H c cl fp => ht s H c cl fp) (fun s H c cl fp => hi1 s H c cl fp) hg1 (fun s H c cl fp => htt s H c cl fp) (fun s H c cl fp => he s H c cl fp) hs hs1)
    fun σ H Q h => lc2_red ht0 his ht1 his1 h
end
end PL

/-! targets within targets -/
namespace PL
open PySem PySem.Spec PyProof.Rows L2
/-- a target, and how many it names -/
structure TgL (g : TG) (is : List Nat) (sel : D → Option (List D)) : Prop where
  ok : TgOk g is sel
  len : ∀ d ds, sel d = some ds → ds.length = is.length
structure TgsL (g : TGs) (is : List Nat) (sel : List D → Option (List D)) : Prop where
  ok : ∀ (vs : List V) (ds es : List D) (σ : L2.St) (H Z : Hp) (Q : L2.St → Hp → Prop), Same Z H → Dqs Z vs ds → sel ds = some es → (∀ ws, Dqs Z ws es → Q (setAllV σ is ws) H) → g vs σ H Q
  len : ∀ d ds, sel d = some ds → ds.length = is.length
def selsNil : List D → Option (List D)
  | [] => some []
  | _ => none
def selsCons (s : D → Option (List D)) (r : List D → Option (List D)) : List D → Option (List D)
  | [] => none
  | d :: ds => match s d, r ds with
    | some a, some b => some (a ++ b)
    | _, _ => none
def selTp (n : Nat) (r : List D → Option (List D)) : D → Option (List D)
  | .tuple ds => if ds.length = n then r ds else none
  | _ => none
theorem setAllV_app : ∀ {is : List Nat} {vs : List V} {js : List Nat} {ws : List V} {σ : L2.St}, vs.length = is.length → setAllV σ (is ++ js) (vs ++ ws) = setAllV (setAllV σ is vs) js ws
  | [], [], _, _, _, _ => rfl
  | i :: is, v :: vs, js, ws, σ, h => setAllV_app (is := is) (σ := σ.set i (some v)) (by simpa using h)
theorem tgl_name (i : Nat) : TgL (gName i) [i] sel1 := ⟨tg_name i, fun d ds e => by cases e; rfl⟩
theorem tgs_nil : TgsL gNil [] selsNil := by
  constructor
  · intro vs ds es σ H Z Q zh dq e k
    unfold selsNil at e
    split at e
    · cases e
      cases dq
      exact ⟨rfl, k [] .nil⟩
    · cases e
  · intro d ds e
    unfold selsNil at e
    split at e
    · cases e; rfl
    · cases e
theorem tgs_cons {g : TG} {is : List Nat} {s : D → Option (List D)} {gs : TGs} {js : List Nat} {r : List D → Option (List D)} (h1 : TgL g is s) (h2 : TgsL gs js r) : TgsL (gCons g gs) (is ++ js) (selsCons s r) := by
  constructor
  · intro vs ds es σ H Z Q zh dq e k
    unfold selsCons at e
    split at e
    · cases e
    · split at e
      · rename_i a b e1 e2
        cases e
        cases dq with
        | cons q1 q2 =>
          refine ⟨_, _, rfl, ?_⟩
          refine h1.ok _ _ _ σ H Z _ zh q1 e1 fun ws d1 => ?_
          refine h2.ok _ _ _ _ H Z _ zh q2 e2 fun us d2 => ?_
          rw [← setAllV_app (by rw [dps_len d1]; exact h1.len _ _ e1)]
          exact k _ (dps_app d1 d2)
      · cases e
  · intro d ds e
    unfold selsCons at e
    split at e
    · cases e
    · split at e
      · rename_i a b e1 e2
        cases e
        rw [List.length_append, List.length_append, h1.len _ _ e1, h2.len _ _ e2]
      · cases e
theorem tgl_tp {K : PySem.W.Frag} {n : Nat} {gs : TGs} {is : List Nat} {r : List D → Option (List D)} (h : TgsL gs is r) : TgL (gTup K n gs) is (selTp n r) := by
  constructor
  · intro x d ds σ H Z Q zh dq e k
    unfold selTp at e
    split at e
    · split at e
      · rename_i es hl
        cases dq with
        | tup h1 h2 => exact ⟨_, _, rfl, SqT.of (zh _ _ h1), by rw [dps_len h2]; exact hl, h.ok _ _ _ σ H Z Q zh h2 e k⟩
      · cases e
    · cases e
  · intro d ds e
    unfold selTp at e
    split at e
    · split at e
      · exact h.len _ _ e
      · cases e
    · cases e
end PL

/-! exceptions of the text's own classes: raised, with two fields -/
namespace PL
open PySem PySem.Spec PyProof.Rows L2
/-- what an exception in the air looks like -/
def XVm (mg : Str → Option Value) : XVt := fun cls d H Z x => ∃ (C dd : Addr) (fs : List (Str × V)), mg x.cls = some (.ref C) ∧ cls = .ref C ∧ d = some dd ∧ Z dd = some (.xd fs) ∧ fs.map (·.1) = x.fs.map (·.1) ∧ Dqs Z (fs.map (·.2)) (x.fs.map (·.2))
/-- what __init__ of two fields does -/
def spInit2 (f1 f2 : Str) (C : Addr) : Sp := fun vs H Q _ => ∃ (a : Addr) (v1 v2 : V), vs = [.ref a, v1, v2] ∧ H a = some (exo a C none) ∧
  ∀ dx, H dx = none → dx ≠ a → Q .non (upd (upd (upd H dx (exd dx [(f1, v1)])) a (exo a C (some dx))) dx (exd dx [(f2, v2), (f1, v1)]))
/-- the class x of the text, its making -/
structure ExcOk (P : Program) (w : World) (K : PySem.W.Frag) (mg : Str → Option Value) (base : Heap) (x f1 f2 : Str) : Prop where
  ex : ∃ (C fI : Addr) (fd : FuncData) (ps : List Str), mg x = some (.ref C) ∧ OexC K C ∧ XfC K C ∧ PySem.W.findIn K (.ref C) f1 = some none ∧ PySem.W.findIn K (.ref C) f2 = some none ∧
    PySem.W.findIn K (.ref C) "__init__" = some (some (.ref fI)) ∧ PySem.W.typeIn K (.ref fI) = some (.type "function") ∧ FnOk P w K mg base CX0 1 fI fd ps (spInit2 f1 f2 C) ∧ Binds K fd ps []
/-- what the top has written of it; st: its __init__ -/
structure HasX (K : PySem.W.Frag) (x qual : Str) (st : Stmt) (f1 f2 : Str) : Prop where
  ex : ∃ (C fI : Addr), PySem.W.nsIn K mainGlobals x = some (some (.ref C)) ∧ OexC K C ∧ XfC K C ∧ PySem.W.findIn K (.ref C) f1 = some none ∧ PySem.W.findIn K (.ref C) f2 = some none ∧
    PySem.W.findIn K (.ref C) "__init__" = some (some (.ref fI)) ∧ PySem.W.typeIn K (.ref fI) = some (.type "function") ∧ ∃ fd, Fun K "__init__" qual st fI fd ∧ Binds K fd ["self", f1, f2] []
theorem hasX_mk {K : PySem.W.Frag} {x qual : Str} {st : Stmt} {f1 f2 nm q : Str} {C fI N : Addr} {bs bm : List Value} {sn : List Str} {sub : List Value} {ab : Bool} {col : Option Bool} {dd od an : Option Addr} {m0 m1 m2 m3 m5 : Option Value}
    {sl : Array (Option Value)} {oc kV dc pm cdv ct : Value} (a : PySem.W.nsIn K mainGlobals x = some (some (.ref C))) (xL : K.lookup C = some (excClassObj nm q C N bs bm true sn sub ab col dd m0 m1 m2 m3 m5 "ValueError.__new__")) (rv : PySem.HandSPX.refsVE bm = true)
    (sa : PySem.W.findIn K (.ref C) "__setattr__" = some (some (.builtin "object.__setattr__"))) (eC : PySem.W.subIn K (.ref C) (.type "BaseException") = some true) (tC : PySem.W.typeIn K (.ref C) = some (.type "type")) (kC : PySem.W.keepIn K (.ref C) = true)
    (ga : PySem.W.findIn K (.ref C) "__getattribute__" = some (some (.builtin "BaseException.__getattribute__"))) (gg : PySem.W.findIn K (.ref C) "__getattr__" = some none) (hd : PySem.W.hasDictIn K C = true)
    (n1 : PySem.W.findIn K (.ref C) f1 = some none) (n2 : PySem.W.findIn K (.ref C) f2 = some none) (i1 : PySem.W.findIn K (.ref C) "__init__" = some (some (.ref fI))) (t1 : PySem.W.typeIn K (.ref fI) = some (.type "function"))
    (l : K.lookup fI = some ⟨oc, od, .func (PySem.W.fnOf "__init__" qual (defArgs st) (defBody st) (defScope st) .none kV dc pm an cdv ct), sl⟩) (c : PySem.W.codeIn K cdv qual = true) (k : PySem.W.keepIn K (.ref fI) = true)
    (hb : ∀ (kV doc pm : Value) (an : Option Addr) (cdv ct : Value) (us : List Value), us.length = (["self", f1, f2] : List Str).length → bindArgs (PySem.W.fnOf "__init__" qual (defArgs st) (defBody st) (defScope st) .none kV doc pm an cdv ct) ⟨us, []⟩ = pure ((["self", f1, f2] : List Str).zip us)) : HasX K x qual st f1 f2 :=
  have F := fun_mk (st := st) l c k
  ⟨C, fI, a, ⟨⟨nm, q, N, bs, bm, sn, sub, ab, col, dd, m0, m1, m2, m3, m5, xL, rv⟩, sa, eC, tC, kC⟩, ⟨ga, gg, eC, hd⟩, n1, n2, i1, t1, _, F, F.binds hb⟩
section
variable {P : Program} {w : World} {K : PySem.W.Frag} {mg : Str → Option Value} {base h : Heap}
theorem excOk_of {x qual : Str} {st : Stmt} {f1 f2 : Str} (X : K.In h) (G : h.Ns mainGlobals mg) (hx : HasX K x qual st f1 f2) (S : FnScope ["self", f1, f2] ["self", f1, f2] (defScope st)) {q1 q2 q3 q4 q5 q6 q7 q8 : Pos}
    (hb : defBody st = [.Assign [.Attribute (.Name "self" q1) f1 q2] (.Name f1 q3) q4, .Assign [.Attribute (.Name "self" q5) f2 q6] (.Name f2 q7) q8])
    (v0 : Vis (defScope st) "self") (v1 : Vis (defScope st) f1) (v2 : Vis (defScope st) f2) (d1 : (f1 == ("__debug__" : Str)) = false := by decide) (d2 : (f2 == ("__debug__" : Str)) = false := by decide) (e1 : (f1 == ("__classdict__" : Str)) = false := by decide) (e2 : (f2 == ("__classdict__" : Str)) = false := by decide)
    (hs1 : ∀ env : Env, swapsWith (.Name f1 q3) (some (.Attribute (.Name "self" q1) f1 q2)) q4.line env = pure false := by intro _; rfl) (hs2 : ∀ env : Env, swapsWith (.Name f2 q7) (some (.Attribute (.Name "self" q5) f2 q6)) q8.line env = pure false := by intro _; rfl) : ExcOk P w K mg base x f1 f2 := by
  obtain ⟨C, fI, a, oC, xC, n1, n2, i1, t1, fd, F, B⟩ := hx.ex
  refine ⟨C, fI, fd, ["self", f1, f2], PySem.W.mg_of X G a, oC, xC, n1, n2, i1, t1, ?_, B⟩
  refine F.ok S (fun vs H Q E ⟨a, v1, v2, e, _⟩ => by rw [e]; rfl) fun cdv A outer s H vs Q E hr ⟨a, y1, y2, ev, ha, hq⟩ => ?_
  subst ev
  rw [hb]
  have g1 := ps_ost (X := (cxOf CX0 P w K mg base ["self", f1, f2] qual (defScope st) fI cdv A outer s H E).nox) (f := f1) (p' := q2) (pos := q4) (o := .Name "self" q1) (e := .Name f1 q3) (pe_var (i := 0) rfl v0) (pe_var (i := 1) rfl v1 d1 e1) (hs1 _)
  have g2 := ps_ost (X := (cxOf CX0 P w K mg base ["self", f1, f2] qual (defScope st) fI cdv A outer s H E).nox) (f := f2) (p' := q6) (pos := q8) (o := .Name "self" q5) (e := .Name f2 q7) (pe_var (i := 0) rfl v0) (pe_var (i := 2) rfl v2 d2 e2) (hs2 _)
  refine ⟨_, pss_cons g1 (pss_one g2), ?_⟩
  refine ⟨y1, rfl, .ref a, rfl, a, C, rfl, oC, n1, .inl ⟨ha, fun dx nd ne => ?_⟩⟩
  refine ⟨y2, rfl, .ref a, rfl, a, C, rfl, oC, n2, .inr ⟨dx, [(f1, y1)], upd_same, ?_, (show 1 ≤ 900 by decide), hq dx nd ne⟩⟩
  rw [upd_ne ne, upd_same]
end
section
variable {C : Cp}
/-- raise X(e, ..) -/
def xRaise (x f1 f2 : Str) (r : XA) : XS := fun ρ => rbind (r ρ) fun ss => match ss with
  | [.dat d1, .dat d2] => some (.error ⟨x, [(f2, d2), (f1, d1)]⟩)
  | _ => none
theorem xs_raise {x f1 f2 : Str} {e e2 : Expr} {r : XA} {p p2 pos : Pos} (T : ExcOk C.X.prog C.X.w C.X.K C.X.mg C.X.base x f1 f2) (hv : C.XV = XVm C.X.mg) (hr : Room 2 C.X.A) (hc : C.X.calm = true) (tk : Takes C.X fun cls d _ H => C.EE cls d H) (hg : Gl C.X x) (ha : A C [e, e2] (ofA r))
    (hdb : (x == ("__debug__" : Str)) = false := by decide) (he : starEach [e, e2] C.X.env = (false, eval e C.X.env) :: starEach [e2] C.X.env := by rfl) (hpl : (backTo p2 (starEach [e2] C.X.env)).any (·.1) = false := by rfl) :
    St1 C (.Raise (some (.Call (.Name x p) [e, e2] [] p2)) none pos) (ofS (xRaise x f1 f2 r)) := by
  obtain ⟨K0, fI, fd, ps, hm, oC, xC, n1, n2, i1, t1, F, B⟩ := T.ex
  refine weakS (ps_raise hc tk (pmk_oex (ds := []) (dvs := []) oC i1 t1 F hr B .nil (fun _ _ _ _ _ _ _ h => h.elim) hg hm ha hdb he hpl)) fun D σ H ⟨Z, ρ, P, st, hw, d⟩ => ?_
  refine ⟨Z, ρ, _, P.ex, st, ofR_bind hw, fun ss vs H1 Z1 f1' fd1 sv hq => ?_, d.ke st⟩
  split at hq
  · rename_i d1 d2
    obtain ⟨v1, v2, rfl, s1, s2⟩ := svs2 sv
    refine ⟨(show 2 ≤ 1000 by decide), fun a na => ?_⟩
    refine ⟨a, v1, v2, rfl, upd_same, fun dx nd ne => ?_⟩
    have nd1 : H1 dx = none := by rw [upd_ne ne] at nd; exact nd
    refine ⟨rfl, dx, [(f2, v2), (f1, v1)], ?_, upd_same, nd1, ?_⟩
    · rw [upd_ne ne.symm, upd_same]
    · have q1 : ∀ b, b ≠ a → b ≠ dx → upd (del (upd (upd (upd (upd H1 a (exo a K0 none)) dx (exd dx [(f1, v1)])) a (exo a K0 (some dx))) dx (exd dx [(f2, v2), (f1, v1)])) a) dx (.xd [(f2, v2), (f1, v1)]) b = H1 b := fun b ha hb => by
        rw [upd_ne hb, del_ne ha, upd_ne hb, upd_ne ha, upd_ne hb, upd_ne ha]
      have f12 := st.fr.trans f1'
      have nz : ∀ b o, H1 b = some o → b ≠ a ∧ b ≠ dx := fun b o e => ⟨ne_of_none e na, ne_of_none e nd1⟩
      have z1 : Z1 dx = none := by
        cases q : Z1 dx with
        | none => rfl
        | some u => rw [f1'.zh dx u q] at nd1; cases nd1
      have fr2 : Fr C.F H1 Z1 (upd (del (upd (upd (upd (upd H1 a (exo a K0 none)) dx (exd dx [(f1, v1)])) a (exo a K0 (some dx))) dx (exd dx [(f2, v2), (f1, v1)])) a) dx (.xd [(f2, v2), (f1, v1)])) (upd Z1 dx (.xd [(f2, v2), (f1, v1)])) := by
        refine ⟨fun b o _ e => by rw [q1 b (nz b o e).1 (nz b o e).2]; exact e, Same.made z1, fun b o e => ?_, fun b o e n => ?_, fun b o e => ?_⟩
        · by_cases hb : b = dx
          · subst hb; rw [upd_same] at e ⊢; exact e
          · rw [upd_ne hb] at e
            have e1 := f1'.zh b o e
            rw [q1 b (nz b o e1).1 hb]; exact e1
        · by_cases hb : b = dx
          · subst hb; exact nd1
          · rw [upd_ne hb, n] at e; cases e
        · by_cases hb : b = dx
          · subst hb; exact fd1.ne nd1
          · rw [upd_ne hb] at e; exact f1'.notF b o e
      have fd2 : FeedOk C.F (upd (del (upd (upd (upd (upd H1 a (exo a K0 none)) dx (exd dx [(f1, v1)])) a (exo a K0 (some dx))) dx (exd dx [(f2, v2), (f1, v1)])) a) dx (.xd [(f2, v2), (f1, v1)])) := fun y ey =>
        y.here H1 _ (fd1 y ey) (fun b hb => q1 b (fun z => fd1.ne na y ey (z ▸ hb)) (fun z => fd1.ne nd1 y ey (z ▸ hb))) fun b h hb => q1 b (ne_of_none hb na) (ne_of_none hb nd1)
      refine d.ex _ _ _ _ _ (f12.trans fr2) fd2 ?_ hq
      rw [hv]
      exact ⟨K0, dx, [(f2, v2), (f1, v1)], hm, rfl, rfl, upd_same, rfl, dps_mono (Same.made z1) [_, _] _ (.cons s2 (.cons s1 .nil))⟩
  · exact hq.elim
end
end PL

/-! a lambda is made: its maker's table of code objects grows, all else stays -/
namespace PL
open PySem PySem.Spec PyProof.Rows L2
/-- all but P's object stays -/
def Grow (P : Addr) (H H1 : Hp) : Prop := ∀ b o, b ≠ P → H b = some o → H1 b = some o
/-- the table at P knows code objects of the name q alone -/
abbrev Tab1 (H : Hp) (P : Addr) (q : Str) : Prop := LamX.TabS H P q
theorem tab_grow {H H1 : Hp} {P P' : Addr} {q : Str} {ps' : Array Value} (t : Tab1 H P q) (g : Grow P' H H1) (hp : H P' = some (.tbl ps')) (ne : P ≠ P') : Tab1 H1 P q := by
  obtain ⟨ps, a1, a2, a3⟩ := t
  refine ⟨ps, g _ _ ne a1, a2, fun pos cv hc => ?_⟩
  obtain ⟨d, e1, e2⟩ := a3 pos cv hc
  have hd : d ≠ P' := fun z => by
    rw [z, hp] at e2
    exact LamX.codeO_ne ps' (Option.some.inj e2).symm
  exact ⟨d, e1, g _ _ hd e2⟩
section
variable {X : Cx} {pins : List (Addr × Obj)} {σ : L2.St} {H : Hp} {s : Shared}
/-- the function object of a lambda of X -/
abbrev lamO (X : Cx) (params : Arguments) (body : Expr) (scope : Scope) (pm : Value) (d : Addr) (ctv : Value) : Obj :=
  PySem.W.kla_obj "<lambda>" (X.env.qual ++ "<lambda>") params body scope (cloFrom X.env.cells scope.names []) pm d ctv
theorem lam_new {c P : Addr} {params : Arguments} {body : Expr} {scope : Scope} {pos : Pos} {E Q : Value → Shared → Prop} (I : Inv X pins σ H s) (B : LamX.TabB X.base X.mg c P) (code : X.env.code = .ref c)
    (T : Tab1 H P (X.env.qual ++ "<lambda>")) (df : defaultsOf params X.env = ([], [])) (free : ∀ y ∈ scope.names, y.2 = .free → ∃ c, X.env.cells.lookup y.1 = some c)
    (h : ∀ (f d : Addr) (pm ctv : Value) (H1 : Hp) (t : Shared), Inv X pins σ H1 t → Grow P H H1 → Tab1 H1 P (X.env.qual ++ "<lambda>") → t.heap.get? f = some (lamO X params body scope pm d ctv) →
      H1 f = none → f ∉ frs X.stack → H1 d = some (LamX.CodeO d (X.env.qual ++ "<lambda>")) → Q (.ref f) t) :
    wpAny (model X.prog X.w) X.A (eval (.Lambda params body scope pos) X.env) Q E s := by
  obtain ⟨ps, hP, three, among⟩ := T
  have atP : s.heap.get? P = some { cls := .none, data := .fields ps } := I.hok P _ hP
  have known : s.heap.BuiltinsAt X.mg P := B.bm.keeps I.bk
  -- the new object's place is no frame's
  have away : ∀ f, s.heap.objs.size ≤ f → f ∉ frs X.stack := by
    intro f big mem
    rcases List.mem_cons.mp (I.stkSub _ mem) with same | older
    · have below := I.lt
      subst same
      exact absurd (Nat.lt_of_lt_of_le below big) (Nat.lt_irrefl _)
    · exact I.nofs big older
  apply PySem.W.kla_eval df
  cases found : codeAmong pos ps.toList with
  | some cv =>
    obtain ⟨d, ed, od⟩ := among pos cv found
    subst ed
    apply PySem.W.kla_makeFunctionHit (mg := X.mg) (c := c) (P := P) (ps := ps) (closure_ok free) I.ok.glob (I.mod.glob.keeps I.bk) code (B.code.keeps I.bk) atP three found known
    intro ctv g tk more bigger
    have J : Inv X pins σ H { s with heap := g.push (lamO X params body scope ((X.mg "__name__").getD .none) d ctv), toks := tk } :=
      I.kept fun b o e => Heap.get?_push_of_some _ (more b o e)
    exact h g.objs.size d _ ctv H _ J (fun _ _ _ e => e) ⟨ps, hP, three, among⟩ (Heap.get?_push_size _ rfl) (I.hok.fresh bigger) (away _ bigger) od
  | none =>
    apply PySem.W.kla_makeFunction (mg := X.mg) (c := c) (P := P) (ps := ps) (closure_ok free) I.ok.glob (I.mod.glob.keeps I.bk) code (B.code.keeps I.bk) atP three found B.gP known
    intro d ctv g tk but ge lt rec tb
    obtain ⟨d2, oc, vs, t, ed, hoc, hd, hv⟩ := rec
    cases ed
    have bigger : s.heap.objs.size ≤ g.objs.size := by omega
    have nd : H d = none := I.hok.fresh ge
    have dP : P ≠ d := ne_of_none hP nd
    have J := LamX.inv_table (t' := tk) (more := #[rawInt pos.line, rawInt pos.col, .ref d]) (h' := g.push (lamO X params body scope ((X.mg "__name__").getD .none) d ctv)) I hP
      (fun b o ne e => Heap.get?_push_of_some _ (but b o ne e)) (Heap.get?_push_of_some _ tb) ge ⟨oc, vs, t, Heap.get?_push_of_some _ hoc, hd, hv⟩
    have gr : Grow P H (upd (upd H P (.tbl (ps ++ #[rawInt pos.line, rawInt pos.col, .ref d]))) d (LamX.CodeO d (X.env.qual ++ "<lambda>"))) := fun b o ne e => by
      rw [upd_ne (ne_of_none e nd), upd_ne ne]
      exact e
    have ls : (ps ++ #[rawInt pos.line, rawInt pos.col, .ref d]).toList = ps.toList ++ [rawInt pos.line, rawInt pos.col, .ref d] := by simp
    refine h g.objs.size d _ ctv _ _ J gr ⟨_, (by rw [upd_ne dP, upd_same]), ?_, ?_⟩ (Heap.get?_push_size _ rfl) ?_ (away _ bigger) upd_same
    · rw [ls]
      exact PySem.TriplesOk_snoc _ _ _ _ three
    · intro p' cv hcv
      rw [ls] at hcv
      rcases LamX.among_app _ three hcv with old | new
      · obtain ⟨d0, e1, e2⟩ := among p' cv old
        have : d0 ≠ P := fun z => by
          rw [z, hP] at e2
          exact LamX.codeO_ne ps (Option.some.inj e2).symm
        exact ⟨d0, e1, gr _ _ this e2⟩
      · exact ⟨d, new, upd_same⟩
    · have n1 : g.objs.size ≠ d := by omega
      have n2 : g.objs.size ≠ P := fun z => by
        have below := Nat.lt_of_lt_of_le (Heap.lt_size atP) bigger
        rw [z] at below
        exact absurd below (Nat.lt_irrefl _)
      rw [upd_ne n1, upd_ne n2]
      exact I.hok.fresh bigger
end
end PL

/-! x(lambda: e): what the lambda gives, or raises, goes to x -/
namespace PL
open PySem PySem.Spec PyProof.Rows L2
/-- the context of a lambda's body, of a def's context -/
abbrev lamC (C : Cp) (A : Around) (outer : List Env) (s : Shared) (H : Hp) (E : XK) (scope : Scope) (f d : Addr) : Cp :=
  { X := LamX.lamCx C.X A outer s H E scope f d, F := C.F, H0 := C.H0, Z0 := C.Z0, EE := E, XV := C.XV }
theorem lets_lam {C : Cp} {A : Around} {outer : List Env} {s : Shared} {H : Hp} {E : XK} {scope : Scope} {f d : Addr} : Lets (lamC C A outer s H E scope f d) :=
  passes_call (takes_of rfl rfl rfl rfl) fun _ _ _ _ h => h
section
variable {X : Cx} {pins : List (Addr × Obj)} {σ : L2.St} {H : Hp} {s : Shared}
/-- a(), where the def of the context Y got the lambda -/
theorem pe_give {CXt : CXT} {Eg : XK} {Ng : List Str} {qg : Str} {sg : Scope} {g f d : Addr} {cdg pm ctv : Value} {params : Arguments} {body : Expr} {scope : Scope} {k i : Nat} {a : Str} {pn : List (Addr × Obj)} {xe : Value → Shared → Prop} {W : WX} {tb : XK → TE} {p1 p2 : Pos}
    (I : Inv X pins σ H s) (L : LamX.LamS X.env.scope scope) (there : s.heap.get? f = some (lamO X params body scope pm d ctv)) (unseen : H f = none) (nofr : f ∉ frs X.stack)
    (binds : bindArgs (PySem.W.kla_fn "<lambda>" (X.env.qual ++ "<lambda>") params body scope (cloFrom X.env.cells scope.names []) pm (.ref d) ctv) ⟨[], []⟩ = pure [])
    (tk : Takes ((cxOf CXt X.prog X.w X.K X.mg X.base Ng qg sg g cdg X.A X.stack s H Eg).tr pn xe) W) (room : Room (k + 1) (X.A.deeper (envOfC qg sg s.heap.objs.size g cdg))) (guards : X.A.guards = some [])
    (hb : ∀ (A : Around) (outer : List Env) (t : Shared) (Ht : Hp) (E : XK), Room k (A.deeper (LamX.lamEnv X scope t.heap.objs.size f d)) → A.guards = some [] → PE (LamX.lamCx X A outer t Ht E scope f d) body (tb E))
    (hN : Ng[i]? = some a) (hv : Vis sg a) (hd : (a == ("__debug__" : Str)) = false := by decide) (hcd : (a == ("__classdict__" : Str)) = false := by decide) :
    PE ((cxOf CXt X.prog X.w X.K X.mg X.base Ng qg sg g cdg X.A X.stack s H Eg).tr pn xe) (.Call (.Name a p1) [] [] p2)
      (fun τ Ht Q => τ[i]? = some (some (.ref f)) ∧ Ht d = some (LamX.CodeO d (X.env.qual ++ "<lambda>")) ∧ tb (fun cls dd H' => W cls dd τ H') σ Ht Q) := by
  constructor
  intro pt t τ Ht Q It h
  obtain ⟨slot, coded, wish⟩ := h
  apply wpAny_Call_Name_kw
  refine thn ((pe_var (pos := p1) (i := i) hN hv hd hcd).run pt t τ Ht (fun v H1 => v = .ref f ∧ H1 = Ht) It ⟨.ref f, slot, rfl, rfl⟩) ?_
  intro u t1 named
  obtain ⟨v, H1, I1, rel, ev, eH⟩ := named
  subst ev eH
  obtain rfl : u = Value.ref f := rel
  have still : Un (frs X.stack) [] H H1 s.heap t1.heap := I1.base
  have obj := still.keep f _ there unseen nofr (by simp)
  apply PySem.W.callWith_F0 ⟨_, _, _, _, obj⟩
  obtain ⟨⟨oc, vs, tt, hoc, hdc, hvc⟩, _, _⟩ := I1.hok d _ coded
  have run : codeAny (model X.prog X.w) (X.A.deeper (envOfC qg sg s.heap.objs.size g cdg)) (.call (.ref f) ⟨[], []⟩)
      (CR (L2.CX X.prog X.w) (envOfC qg sg s.heap.objs.size g cdg :: X.stack) X.prog X.w H1 t1 Q fun cls dd H' => W cls dd τ H') t1 := by
    apply PySem.W.kla_callFunE room.depth obj rfl L.co L.gen rfl ⟨d, oc, vs, tt, rfl, hoc, hdc, hvc⟩
    rw [binds]
    apply wpAny_pure
    apply wpAny_newFunctionEnv (fun y hy => (L.own y hy).2) (fun y hy => absurd hy (by simp)) _ L.kind
    intro h₁ names sub
    refine ⟨I1.nolimit.fresh _ sub, ?_⟩
    have kept : ∀ b o, t1.heap.get? b = some o → h₁.get? b = some o := fun b o e => sub.extBut b o (Nat.ne_of_lt (Heap.lt_size e)) (Heap.get?_push_of_some _ e)
    have J := LamX.lam_start2 (E := fun cls dd H' => W cls dd τ H') (f := f) (c' := d) (tk := t1.toks + ([] : List (Str × Value)).length) I L I1.env0 room.hd still names kept
    apply PySem.W.kla_codeExpr
    refine wpAny_mono ((hb _ _ t1 H1 _ (room.deeper _) guards).run [] _ _ H1 Q J wish) ?_ fun e s' he => he
    intro v s' done
    obtain ⟨u, H', J', rv, q⟩ := done
    exact ⟨u, H', J'.os, J'.bare, J'.base, J'.hok, rv, q⟩
  apply wpAny_call
  refine codeAny_mono run ?_
  intro r s' ended
  cases r with
  | error e => exact tk e s' (XE.of_call I1 (fun _ _ _ z => z) ended)
  | ok fl =>
    cases fl with
    | ret u => exact I1.after ended
    | next => exact ended.elim
    | brk => exact ended.elim
    | cont => exact ended.elim
end
/-- a def of the text at this very state, by its body -/
theorem run_at {CXt : CXT} {P : Program} {w : World} {K : PySem.W.Frag} {mg : Str → Option Value} {base : Heap} {x qual : Str} {st : Stmt} {f : Addr} {fd : FuncData} {N ps : List Str} {k : Nat} (F : Fun K x qual st f fd) (S : FnScope N ps (defScope st))
    {A : Around} {outer : List Env} {s : Shared} {H : Hp} {args : Args} {us : List Value} {vs : List V} {Q : VK} {E : XK} (room : Room (k + 1) A) (env0 : Env0 P w K mg base A outer s H) (bd : BindsTo s fd args (ps.zip us)) (rv : Vals vs us) (lv : vs.length = ps.length)
    (hb : ∀ cdv, Room k (A.deeper (envOfC qual (defScope st) s.heap.objs.size f cdv)) → ∃ t, PSs (cxOf CXt P w K mg base N qual (defScope st) f cdv A outer s H E) (defBody st) t ∧ t { nx := fun _ H' => Q .non H', rt := Q } (L2.start N vs) H) :
    codeAny (model P w) A (.call (.ref f) args) (CR CXt outer P w H s Q E) s := by
  obtain ⟨oc, od, kV, doc, pm, an, cdv, ct, osl, rfl, lk, hcd⟩ := F.ex
  have kIn : K.In s.heap := env0.mod.kin.keeps fun b o e => (env0.bs b o e).1
  have nlim : s.heap.NoLimit := env0.mod.nolimit.keeps fun b o e => (env0.bs b o e).1
  have kinds : ∀ y ∈ ps.zip us, (defScope st).names.lookup y.1 = some .local ∨
      ((defScope st).names.lookup y.1 = some .cell ∧ ((cellsFrom (s.heap.objs.size + 1) (defScope st).names []).lookup y.1).isSome = true) := by
    rintro ⟨n, v⟩ hy
    have q := S.par n (List.of_mem_zip hy).1
    rcases q with q | q
    · exact Or.inl q
    · exact Or.inr ⟨q, PySem.W.cellsFrom_some _ _ _ (.inl q)⟩
  apply codeAny_call_function room.depth (kIn _ _ lk) rfl S.co S.gen rfl (PySem.W.codeRec_of kIn hcd)
  apply bd
  apply wpAny_newFunctionEnv_cells S.kind kinds
  intro env he s1 inc
  subst he
  constructor
  · exact nlim.keeps inc.toInCall.keep
  apply codeAny_func
  obtain ⟨t, ht, hq⟩ := hb cdv (room.deeper _)
  have I := inv_start (CX := CXt) (P := P) (K := K) (base := base) (E := E) S room.hd env0 lv rv inc
  refine wpAny_mono (ht.run [] s1 (L2.start N vs) H _ I hq) ?_ (fun e s' h => h)
  intro fl s' h
  cases fl with
  | ret u =>
    obtain ⟨v, σ', H', J, rv', q⟩ := h
    exact ⟨v, H', J.os, J.bare, J.base, J.hok, rv', q⟩
  | next =>
    obtain ⟨σ', H', J, q⟩ := h
    exact ⟨V.non, H', J.os, J.bare, J.base, J.hok, rfl, q⟩
  | brk => obtain ⟨_, _, _, q⟩ := h; exact q.elim
  | cont => obtain ⟨_, _, _, q⟩ := h; exact q.elim
end PL

/-! defs that are told what a lambda gives -/
namespace PL
open PySem PySem.Spec PyProof.Rows L2
/-- only what may be handed on -/
def lentR (r : R S) : R S := rbind r fun s => guard' s.lent (ok s)
/-- the def x, of the one name a, told by G of what a() gives or raises -/
def Hears (P : Program) (w : World) (K : PySem.W.Frag) (mg : Str → Option Value) (base : Heap) (F : Option Fd) (XV : XVt) (x : Str) (st : Stmt) (Ng : List Str) (a : Str) (k : Nat) (G : R S → R S) : Prop :=
  ∀ (A : Around) (outer : List Env) (s : Shared) (H Z : Hp) (g : Addr) (cdg : Value) (f : Addr) (E : XK) (Q : VK) (r : R S) (q : S → Prop) (e : Xn → Prop) (tl : XK → Hp → VK → Prop),
    Fr F H Z H Z → FeedOk F H → Room k (A.deeper (envOfC x (defScope st) s.heap.objs.size g cdg)) → A.guards = some [] →
    (∀ (W : WX) (pn : List (Addr × Obj)) (xe : Value → Shared → Prop) (p1 p2 : Pos), Takes ((cxOf (L2.CX P w) P w K mg base Ng x (defScope st) g cdg A outer s H E).tr pn xe) W →
      PE ((cxOf (L2.CX P w) P w K mg base Ng x (defScope st) g cdg A outer s H E).tr pn xe) (.Call (.Name a p1) [] [] p2) (fun τ Ht Q' => τ[0]? = some (some (.ref f)) ∧ tl (fun cls dd H' => W cls dd τ H') Ht Q')) →
    (∀ (E' : XK) (Q' : VK) (q' : S → Prop) (e' : Xn → Prop), ofR r q' e' → (∀ s v H' Z', Fr F H Z H' Z' → FeedOk F H' → s.lent = true → SV F H H' Z' v s → q' s → Q' v H') → (∀ x cls dd H' Z', Fr F H Z H' Z' → FeedOk F H' → XV cls dd H' Z' x → e' x → E' cls dd H') → tl E' H Q') →
    ofR (G r) q e → (∀ s v H' Z', Fr F H Z H' Z' → FeedOk F H' → s.lent = true → SV F H H' Z' v s → q s → Q v H') → (∀ x cls dd H' Z', Fr F H Z H' Z' → FeedOk F H' → XV cls dd H' Z' x → e x → E cls dd H') →
    ∃ t, PSs (cxOf (L2.CX P w) P w K mg base Ng x (defScope st) g cdg A outer s H E) (defBody st) t ∧ t { nx := fun _ H' => Q .non H', rt := Q } (L2.start Ng [.ref f]) H
/-- a table that is told of by what F holds -/
def LamP (F : Option Fd) (P : Addr) (q : Str) : Prop := ∃ y, F = some y ∧ y.own P ∧ (∀ H, y.ok H → Tab1 H P q) ∧ ∀ H H1, y.ok H → Grow P H H1 → Tab1 H1 P q → y.ok H1
/-- x(lambda: e) -/
def xHear (G : R S → R S) (xb : X) : X := fun ρ => G (lentR (xb ρ))
section
variable {C : Cp}
theorem x_lam {x a : Str} {st : Stmt} {Ng : List Str} {k : Nat} {G : R S → R S} {c T : Addr} {params : Arguments} {body : Expr} {scope : Scope} {xb : X} {p lpos pos : Pos}
    (Hs : Hears C.X.prog C.X.w C.X.K C.X.mg C.X.base C.F C.XV x st Ng a (k + 1) G) (has : ∃ g fd, Fun C.X.K x x st g fd ∧ C.X.mg x = some (.ref g) ∧ Binds C.X.K fd [a] []) (Sg : FnScope Ng [a] (defScope st)) (hN : Ng[0]? = some a) (hv : Vis (defScope st) a)
    (hg : Gl C.X x) (B : LamX.TabB C.X.base C.X.mg c T) (code : C.X.env.code = .ref c) (tab : LamP C.F T (C.X.env.qual ++ "<lambda>")) (hx : Lets C) (hr : Room (k + 2) C.X.A) (hgd : C.X.A.guards = some []) (L : LamX.LamS C.X.env.scope scope) (df : defaultsOf params C.X.env = ([], []))
    (bd : ∀ (q : Str) (cl : List (Str × Addr)) (pm cv ctv : Value), bindArgs (PySem.W.kla_fn "<lambda>" q params body scope cl pm cv ctv) ⟨[], []⟩ = pure [])
    (hb : ∀ (A : Around) (outer : List Env) (t : Shared) (Ht : Hp) (E' : XK) (f d : Addr), Room k (A.deeper (LamX.lamEnv C.X scope t.heap.objs.size f d)) → A.guards = some [] → E (lamC C A outer t Ht E' scope f d) body (ofX xb))
    (hdb : (x == ("__debug__" : Str)) = false := by decide) (hd : (a == ("__debug__" : Str)) = false := by decide) (hcd : (a == ("__classdict__" : Str)) = false := by decide) :
    E C (.Call (.Name x p) [.Lambda params body scope lpos] [] pos) (ofX (xHear G xb)) := by
  obtain ⟨g, fd, Fg, hm, bg⟩ := has
  constructor
  intro pins s σ H Q I ⟨Z, ρ, q, ex, sta, hw, kt, ke⟩
  obtain ⟨y, ey, own, tells, grows⟩ := tab
  have okH := sta.fd y ey
  apply wpAny_Call_Name_kw
  apply ld_glob I hg hm _ hdb
  apply PySem.W.callWith_K (h₀ := C.X.base) I.ok.mod.kin Fg.kp _ (by rfl) (by rfl)
  show wpAny _ _ (spliced ((false, eval (.Lambda params body scope lpos) C.X.env) :: backTo pos (starEach [] C.X.env))) _ _ s
  apply Calls.spliced_cons
  apply lam_new I B code (tells H okH) df (L.has I.ok)
  intro f d pm ctv H1 t I1 gr tab1 obj unseen nofr coded
  have fr1 : Fr C.F H Z H1 Z := by
    have ne : ∀ b, nf C.F b → b ≠ T := fun b n z => n y ey (z ▸ own)
    refine ⟨fun b o n e => gr b o (ne b n) e, fun _ _ e => e, fun b o e => ?_, fun b o e n => (by rw [e] at n; cases n), sta.fr.notF⟩
    exact gr b o (ne b (sta.fr.notF b o e)) (sta.fr.zh b o e)
  have fd1 : FeedOk C.F H1 := fun z ez => by
    rw [ey] at ez
    cases ez
    exact grows H H1 okH gr tab1
  apply Calls.spliced_nil
  refine ⟨I1.kIn, ?_⟩
  have run : codeAny (model C.X.prog C.X.w) C.X.A (.call (.ref g) ⟨[.ref f], []⟩) (CR (L2.CX C.X.prog C.X.w) C.X.stack C.X.prog C.X.w H1 t Q C.EE) t := by
    refine run_at (N := Ng) (ps := [a]) (us := [.ref f]) (vs := [.ref f]) Fg Sg hr I1.env0 (bg t [.ref f] I1.kIn rfl) (.cons rfl .nil) rfl fun cdg room => ?_
    refine Hs C.X.A C.X.stack t H1 Z g cdg f C.EE Q (lentR (xb ρ)) q ex (fun E' Ht Q' => Ht d = some (LamX.CodeO d (C.X.env.qual ++ "<lambda>")) ∧ ∃ A outer t' Ht', tP (lamC C A outer t' Ht' E' scope f d) (ofX xb) σ Ht Q')
      (Fr.refl fr1.zh fr1.notF) fd1 room hgd (fun W pn xe p1 p2 tk => ?_) (fun E' Q' q' e' h k1 k2 => ?_) hw (fun sv v H' Z' f' fd' ln sw hq => kt sv v H' Z' (fr1.trans f') fd' (sw.lent ln) hq) (fun xn cls dd H' Z' f' fd' xv he => ke xn cls dd H' Z' (fr1.trans f') fd' xv he)
    · refine weakE (pe_give (X := C.X) (i := 0) (k := k) (tb := fun E' σ' Ht' Q' => ∃ A outer t' Ht'', tP (lamC C A outer t' Ht'' E' scope f d) (ofX xb) σ' Ht' Q') I1 L obj unseen nofr (bd _ _ _ _ _) tk room hgd (fun A outer t' Ht' E' room' hg' => ?_) hN hv hd hcd) fun τ Ht Q' ⟨h1, h2, h3⟩ => ⟨h1, h2, h3⟩
      exact ⟨fun pp ss σ' Hs' Q' II ⟨A2, o2, t2, H2, z⟩ => (hb A outer t' Ht' E' f d room' hg').run pp ss σ' Hs' Q' II z⟩
    · refine ⟨coded, C.X.A, C.X.stack, t, H1, Z, ρ, _, e', sta.next fr1 fd1, ofR_bind h, fun sv v H' Z' f' fd' sw hq => ?_, fun xn cls dd H' Z' f' fd' xv he => k2 xn cls dd H' Z' f' fd' xv he⟩
      obtain ⟨ln, hq⟩ := ofR_guard hq
      exact k1 sv v H' Z' f' fd' ln (sw.lent ln) hq
  apply wpAny_call
  refine codeAny_mono run ?_
  intro res s' ended
  cases res with
  | error e => exact hx pins σ H1 t e s' I1 ended
  | ok fl =>
    cases fl with
    | ret u => exact I1.after ended
    | next => exact ended.elim
    | brk => exact ended.elim
    | cont => exact ended.elim
end
end PL

/-! try, with several clauses «except X as n» -/
namespace PL
open PySem PySem.Spec PyProof.Rows L2
/-- a clause: the class, the name's slot, what its suite asks -/
structure Cl where
  c : Value
  i : Nat
  ts : Addr → Value → Option Addr → TS
/-- behind a clause its name is gone -/
def unname (i : Nat) (D : Ends) : Ends := { nx := fun τ H => D.nx (τ.set i none) H, rt := D.rt, bk := fun τ H => D.bk (τ.set i none) H, ct := fun τ H => D.ct (τ.set i none) H }
/-- what the clauses ask of an exception of the body, one behind the other -/
def wCls (K : PySem.W.Frag) (Wo : WX) (D : Ends) : List Cl → WX
  | [] => Wo
  | l :: r => fun cls d σ H => ∃ b, PySem.W.exmOne K cls l.c = some b ∧ (b = true → ∀ a, H a = none → l.ts a cls d (unname l.i D) (σ.set l.i (some (.ref a))) H) ∧ (b = false → wCls K Wo D r cls d σ H)
inductive Clauses (X : Cx) : List ExceptHandler → List Cl → Prop
  | nil : Clauses X [] []
  | cons {x n : Str} {l : Cl} {st : Stmt} {suite : List Stmt} {np hp : Pos} {hs : List ExceptHandler} {ls : List Cl} (nm : Names X x l.c) (at_ : X.N[l.i]? = some n) (loc : X.env.kindOf n = some .local)
      (su : ∀ (a : Addr) (oe : Obj) (cls : Value) (d : Option Addr) (pn : List (Addr × Obj)), Zc cls d oe → (∃ vs, oe.data = .fields vs) → PSs (X.suite a ((a, oe) :: pn)) (st :: suite) (l.ts a cls d)) (rest : Clauses X hs ls) :
      Clauses X (.ExceptHandler (some (.Name x np)) (some n) (st :: suite) hp :: hs) (l :: ls)
section
variable {X : Cx} {body : List Stmt} {h0 : ExceptHandler} {hs : List ExceptHandler} {ls : List Cl} {pos : Pos} {tb : WX → TS} {Wo : WX}
theorem ps_try_cls (stk : X.stack = X.env :: X.outer) (frm : X.env.frame = some X.env.locals) (uniq : X.N.Nodup) (out : Takes X Wo)
    (hb : ∀ (W : WX) (pn : List (Addr × Obj)) (xe : Value → Shared → Prop), Takes (X.tr pn xe) W → PassesOwn (model X.prog X.w) X.A X.env xe → PSs (X.tr pn xe) body (tb W))
    (hc : Clauses X (h0 :: hs) ls) : PS X (.Try body (h0 :: hs) [] [] pos) (fun D σ H => tb (wCls X.K Wo D ls) D σ H) := by
  constructor
  intro pins s σ H D I asked
  have sound := I.ok
  have frames : X.A.frames = some (X.env :: X.outer) := by
    rw [sound.frames, stk]
  apply wpAny_Try_except
  let xe' : Value → Shared → Prop := fun e t => wpAny (model X.prog X.w) X.A (noteFrame e X.env) (fun _ t2 => wpAny (model X.prog X.w) X.A (setFlight e none)
    (fun _ t3 => wpAny (model X.prog X.w) X.A (handleBy e X.env (h0 :: hs)) (SP X pins D) X.xe t3) X.xe t2) X.xe t
  have caught : Takes (X.tr (X.pn ++ pins) xe') (wCls X.K Wo D ls) := by
    intro u s' air
    obtain ⟨a, B, sI, pins', τ, G, cls, d, eu, J', nb, up, sky, na, os, ag, wish⟩ := air
    subst eu
    have J : Inv X pins τ G sI := J'.ofTry sound
    have sky' : Sky B (X.env :: X.outer) a (Zc cls d) X.env.locals s'.heap := by
      rw [← stk]; exact sky
    show wpAny (model X.prog X.w) X.A (noteFrame (.ref a) X.env) _ _ _
    apply Sky.land Zc.steady frames frm sky'
    intro h3 fl up3
    have J3 : Inv X pins τ G { s' with heap := h3 } := J.landed nb fl.1 (up.trans up3) os ag
    obtain ⟨oe, vs, here, zc, fields⟩ := fl.there
    -- the exception is no frame
    have noframe : a ∉ frs (X.env :: X.outer) := by
      intro mem
      obtain ⟨_, o', e', hnf⟩ := fl.2.2.1.mem mem
      rw [here] at e'
      cases e'
      exact hnf _ fields
    have notL : a ≠ X.env.locals := fun z => noframe (List.mem_filterMap.mpr ⟨X.env, List.mem_cons_self, by rw [frm, z]⟩)
    have notF : a ∉ X.fs := by
      intro mem
      obtain ⟨e, he, q⟩ := List.mem_filterMap.mp mem
      exact noframe (List.mem_filterMap.mpr ⟨e, List.mem_cons_of_mem _ he, q⟩)
    have inS := J3.suite here fields na notL notF
    have walk : ∀ {hs' : List ExceptHandler} {ls' : List Cl}, Clauses X hs' ls' → wCls X.K Wo D ls' cls d τ G → wpAny (model X.prog X.w) X.A (handleBy (.ref a) X.env hs') (SP X pins D) X.xe { s' with heap := h3 } := by
      intro hs' ls' hk
      induction hk with
      | nil =>
        intro left
        apply wpAny_handleBy_nil
        obtain ⟨_, _, _, _, _, T, _, _, e1, _, e2, e3, _⟩ := id fl
        unfold PySem.passOn
        apply wpAny_bind
        apply wpAny_field e1 e2 e3
        rw [if_neg (show ¬ ((Value.ref T == Value.none) = true) from by simp)]
        have fin : wpAny (model X.prog X.w) X.A (setFlight (.ref a) X.env.frame) (fun _ t4 => wpAny (model X.prog X.w) X.A (throw (.ref a) : Sem Flow) (SP X pins D) X.xe t4) X.xe { s' with heap := h3 } := by
          rw [frm]
          apply HandSPX.setFlight_upZ fl
          intro h4 held up4
          apply wpAny_throw
          apply out
          exact ⟨a, B, sI, pins, τ, G, cls, d, rfl, J, nb, (up.trans up3).trans up4, .inr (.inr (by rw [stk]; exact held)), na, os, ag, left⟩
        first
          | exact wpAny_bind (wpAny_pure (wpAny_bind fin))
          | exact wpAny_bind fin
      | @cons x n l st suite np hp hs2 ls2 nm at_ loc su rest ih =>
        intro left
        obtain ⟨b, eb, yes, no⟩ := left
        apply wpAny_handleBy_cons (codeAny_handlers_test ?_) (by intro q; cases q)
        have ty : PySem.W.Looks (model X.prog X.w) h3 (typeOf (.ref a)) cls := fun A Q E t k q => wpAny_typeOf_ref (k _ _ here) (by rw [zc.1]; exact q)
        have meets := PySem.W.exm_one (M := model X.prog X.w) (J3.kIn) ty eb
        have named : ∀ {Q E : Value → Shared → Prop}, (Q l.c { s' with heap := h3 }) → wpAny (model X.prog X.w) (X.A.mark (some (.ref a))) (eval (.Name x np) X.env) Q E { s' with heap := h3 } := by
          intro Q E q
          obtain ⟨gl, dbg, m | ⟨m, v, nn⟩⟩ := nm
          · exact ld_glob (X := X.suite a ((a, oe) :: (X.pn ++ pins))) inS gl m q dbg
          · exact ld_blt (X := X.suite a ((a, oe) :: (X.pn ++ pins))) inS gl m v q nn dbg
        apply named
        apply meets.here
        cases b with
        | false =>
          show wpAny _ X.A (handleBy (.ref a) X.env hs2) _ _ _
          exact ih (no rfl)
        | true =>
          apply codeAny_handlers_suite_as
          apply HandSPX.lands_againZ fl
          intro h4 fl4 up4
          have J4 : Inv X pins τ G { s' with heap := h4 } := J.landed nb fl4.1 ((up.trans up3).trans up4) os ag
          obtain ⟨oe4, vs4, here4, zc4, fields4⟩ := fl4.there
          have S4 := J4.suite here4 fields4 na notL notF
          apply store_ok (X := X.suite a ((a, oe4) :: (X.pn ++ pins))) (v := .ref a) S4 uniq at_ (.inl loc) rfl (fun s5 S5 => ?_) (.inr loc)
          have ends : ∀ {s6 : Shared} {τ6 : L2.St} {G6 : Hp} {Q : Shared → Prop}, Inv (X.suite a ((a, oe4) :: (X.pn ++ pins))) [] τ6 G6 s6 → (∀ s7, Inv X pins (τ6.set l.i none) G6 s7 → Q s7) →
              wpAny (model X.prog X.w) X.A (do bindName X.env n .none; unbindBehindTheSuite X.env n hp) (fun _ s7 => Q s7) X.xe s6 := fun S6 hq => gone_ok (S6.unsuite sound) uniq at_ loc hq
          refine wpAny_mono ((su a oe4 cls d (X.pn ++ pins) zc4 ⟨_, fields4⟩).run [] s5 _ G _ S5 (yes rfl a na)) ?_ fun _ _ z => z.elim
          intro fl6 s6 did
          cases fl6 with
          | ret u =>
            obtain ⟨v6, τ6, G6, S6, r6, q6⟩ := did
            exact ends S6 fun s7 J7 => ⟨_, _, _, J7, r6, q6⟩
          | next =>
            obtain ⟨τ6, G6, S6, q6⟩ := did
            exact ends S6 fun s7 J7 => ⟨_, _, J7, q6⟩
          | brk =>
            obtain ⟨τ6, G6, S6, q6⟩ := did
            exact ends S6 fun s7 J7 => ⟨_, _, J7, q6⟩
          | cont =>
            obtain ⟨τ6, G6, S6, q6⟩ := did
            exact ends S6 fun s7 J7 => ⟨_, _, J7, q6⟩
    exact walk hc wish
  refine wpAny_mono ((hb (wCls X.K Wo D ls) (X.pn ++ pins) xe' caught PassesOwn.looking).run [] s σ H D (I.toTry _) asked) ?_ fun e t he => he
  intro f t did
  cases f with
  | ret u =>
    obtain ⟨v, τ, G, J', r, q⟩ := did
    exact ⟨v, τ, G, J'.ofTry sound, r, q⟩
  | next =>
    obtain ⟨τ, G, J', q⟩ := did
    exact wpAny_execs_nil ⟨τ, G, J'.ofTry sound, q⟩
  | brk =>
    obtain ⟨τ, G, J', q⟩ := did
    exact ⟨τ, G, J'.ofTry sound, q⟩
  | cont =>
    obtain ⟨τ, G, J', q⟩ := did
    exact ⟨τ, G, J'.ofTry sound, q⟩
end
end PL

/-! defs that tell what a lambda gives or raises: try: return (.., a()) / except X as e: .. -/
namespace PL
open PySem PySem.Spec PyProof.Rows L2
/-- a clause by its class's name, its slot, its suite's meaning (of the exception's place and data), what it tells -/
structure Cw where
  x : Str
  i : Nat
  m : Addr → Xn → XS
  g : Xn → Option S
def rtOf (r : R Fl) : R S := rbind r fun f => match f with
  | .rt s => ok s
  | _ => none
/-- whether a class is under another: what the text says -/
def SubOk (K : PySem.W.Frag) (mg : Str → Option Value) (sub : Str → Str → Option Bool) : Prop := ∀ x y b, sub x y = some b → ∃ C D, mg x = some (.ref C) ∧ mg y = some (.ref D) ∧ PySem.W.exmOne K (.ref C) (.ref D) = some b
def goCls (sub : Str → Str → Option Bool) (x : Xn) : List Cw → R S
  | [] => some (.error x)
  | c :: r => match sub x.cls c.x with
    | some true => opt (c.g x)
    | some false => goCls sub x r
    | none => none
/-- what such a def tells -/
def toldBy (sub : Str → Str → Option Bool) (told : Str) (cs : List Cw) : R S → R S
  | some (.ok (.dat d)) => ok (.dat (.tuple [.str told, d]))
  | some (.error x) => goCls sub x cs
  | _ => none
/-- the context of a suite -/
abbrev suC (Y : Cx) (F : Option Fd) (XV : XVt) (a : Addr) (oe : Obj) (pn : List (Addr × Obj)) (G Z : Hp) : Cp :=
  { X := Y.suite a ((a, oe) :: pn), F := F, H0 := G, Z0 := Z, EE := fun _ _ _ => False, XV := XV }
/-- the clauses, each with its derivation -/
inductive ClsOk (sub : Str → Str → Option Bool) (Y : Cx) (F : Option Fd) (XV : XVt) (n : Nat) : List ExceptHandler → List Cw → Prop
  | nil : ClsOk sub Y F XV n [] []
  | cons {y : Str} {c : Cw} {st : Stmt} {suite : List Stmt} {np hp : Pos} {hs : List ExceptHandler} {cs : List Cw} (nm : ∃ D, Y.mg c.x = some (.ref D)) (gl : Gl Y c.x) (dbg : (c.x == ("__debug__" : Str)) = false) (at_ : Y.N[c.i]? = some y) (lt : c.i < n) (loc : Y.env.kindOf y = some .local)
      (der : ∀ (a : Addr) (oe : Obj) (cls : Value) (d : Option Addr) (pn : List (Addr × Obj)) (G Z : Hp) (xn : Xn), sub xn.cls c.x = some true → Zc cls d oe → (∃ vs, oe.data = .fields vs) → XV cls d G Z xn → Sts (suC Y F XV a oe pn G Z) (st :: suite) (ofS (c.m a xn)))
      (tell : ∀ (a : Addr) (xn : Xn) (s : S), c.g xn = some s → rtOf (c.m a xn ((List.replicate n none).set c.i (some (.raw (.ref a))))) = ok s) (rest : ClsOk sub Y F XV n hs cs) :
      ClsOk sub Y F XV n (.ExceptHandler (some (.Name c.x np)) (some y) (st :: suite) hp :: hs) (c :: cs)
theorem ofR_rt {r : R Fl} {q : S → Prop} {e : Xn → Prop} (h : ofR (rtOf r) q e) : ofR r (goFl { nx := fun _ => False, rt := q, ex := e }) e := ofR_q (ofR_bind h) fun f h => by
  cases f with
  | rt s => exact h
  | nx ρ => exact h.elim
  | bk ρ => exact h.elim
  | ct ρ => exact h.elim
section
variable {P : Program} {w : World} {K : PySem.W.Frag} {mg : Str → Option Value} {base : Heap} {F : Option Fd}
theorem sta_suite {H Z : Hp} {σ : L2.St} {n i : Nat} {a : Addr} (fr : Fr F H Z H Z) (fd : FeedOk F H) (hl : σ.length = n) (hi : i < n) : Sta F H Z H Z (σ.set i (some (.ref a))) ((List.replicate n none).set i (some (.raw (.ref a)))) := by
  refine ⟨fr, fd, by simp [hl], fun j s e => ?_, fun j k b s t e1 _ m _ _ _ => ?_⟩
  · by_cases hj : i = j
    · subst hj
      rw [List.getElem?_set_self (by simpa using hi)] at e
      cases e
      exact ⟨.ref a, List.getElem?_set_self (by rw [hl]; exact hi), rfl⟩
    · rw [List.getElem?_set_ne hj, List.getElem?_replicate] at e
      split at e <;> cases e
  · exfalso
    by_cases hj : i = j
    · subst hj
      rw [List.getElem?_set_self (by simpa using hi)] at e1
      cases e1
      cases m
    · rw [List.getElem?_set_ne hj, List.getElem?_replicate] at e1
      split at e1 <;> cases e1
theorem hears_try {x a told : Str} {st : Stmt} {Ng : List Str} {k : Nat} {sub : Str → Str → Option Bool} {cs : List Cw} {j kk : Nat} {h0 : ExceptHandler} {hs : List ExceptHandler} {p1 p2 p3 p4 p5 p6 : Pos} (hN0 : Ng[0]? = some a) (uniq : Ng.Nodup)
    (hst : defBody st = [.Try [.Return (some (.Tuple [.Constant (.str told) j p1, .Call (.Name a p2) [] [] p3] kk p4)) p5] (h0 :: hs) [] [] p6])
    (hsub : SubOk K mg sub)
    (hc : ∀ (A : Around) (outer : List Env) (s : Shared) (H : Hp) (g : Addr) (cdg : Value) (E : XK), Room k (A.deeper (envOfC x (defScope st) s.heap.objs.size g cdg)) → A.guards = some [] → ClsOk sub (cxOf (L2.CX P w) P w K mg base Ng x (defScope st) g cdg A outer s H E) F (XVm mg) Ng.length (h0 :: hs) cs) :
    Hears P w K mg base F (XVm mg) x st Ng a k (toldBy sub told cs) := by
  intro A outer s H Z g cdg f E Q r q e tl fr fd room guards act tells hw k1 k2
  let Y := cxOf (L2.CX P w) P w K mg base Ng x (defScope st) g cdg A outer s H E
  have takes : Takes Y fun cls d _ H' => E cls d H' := takes_of rfl rfl rfl rfl
  have start0 : (L2.start Ng [V.ref f])[0]? = some (some (.ref f)) := by
    unfold L2.start
    rfl
  have lenS : (L2.start Ng [V.ref f]).length = Ng.length := by
    have : 0 < Ng.length := by
      cases Ng with
      | nil => cases hN0
      | cons _ _ => exact Nat.succ_pos _
    unfold L2.start
    simp
    omega
  rw [hst]
  -- the clauses, as wishes
  have cl : ∀ {hs' : List ExceptHandler} {cs' : List Cw}, ClsOk sub Y F (XVm mg) Ng.length hs' cs' → ∃ ls : List Cl, Clauses Y hs' ls ∧
      ∀ (cls : Value) (d : Option Addr) (G Zg : Hp) (xn : Xn), Fr F H Z G Zg → FeedOk F G → XVm mg cls d G Zg xn → ofR (goCls sub xn cs') q e →
        wCls K (fun cls d _ H' => E cls d H') { nx := fun _ H' => Q .non H', rt := Q } ls cls d (L2.start Ng [V.ref f]) G := by
    intro hs' cs' hk
    induction hk with
    | nil => exact ⟨[], .nil, fun cls d G Zg xn fr' fd' xv h => k2 xn cls d G Zg fr' fd' xv h⟩
    | @cons y c st1 suite np hp hs2 cs2 nm gl dbg at_ lt loc der tell rest ih =>
      obtain ⟨ls, h1, h2⟩ := ih
      obtain ⟨D, hD⟩ := nm
      have hD : mg c.x = some (.ref D) := hD
      refine ⟨⟨.ref D, c.i, fun b cls d => fun D' τ G => ∃ Zg xn, sub xn.cls c.x = some true ∧ XVm mg cls d G Zg xn ∧ tPS (cpOf Y F G Zg (fun _ _ _ => False) (XVm mg)) (ofS (c.m b xn)) D' τ G⟩ :: ls, .cons ⟨gl, dbg, .inl hD⟩ at_ loc (fun b oe cls d pn zc fl => ?_) h1, fun cls d G Zg xn fr' fd' xv h => ?_⟩
      · exact ⟨fun pins s' τ G D' I ⟨Zg, xn, sb, xv, Z1, ρ1, P1, st1, hw1, d1⟩ => (der b oe cls d pn G Zg xn sb zc fl xv).run pins s' τ G D' I ⟨Z1, ρ1, P1, st1, hw1, ⟨d1.nx, d1.bk, d1.ct, d1.rt, d1.ex⟩⟩⟩
      · unfold goCls at h
        cases hb : sub xn.cls c.x with
        | none => rw [hb] at h; exact h.elim
        | some b =>
          rw [hb] at h
          obtain ⟨C1, D1, m1, m2, ex⟩ := hsub _ _ _ hb
          obtain ⟨C2, dd, fs, m3, ecls, _⟩ := id xv
          rw [m1] at m3
          cases m3
          rw [hD] at m2
          cases m2
          subst ecls
          refine ⟨b, ex, fun eb b' nb => ?_, fun eb => ?_⟩
          · subst eb
            have h : ofR (opt (c.g xn)) q e := h
            obtain ⟨s0, eg, hq0⟩ := ofR_opt h
            have h2 : ofR (rtOf (c.m b' xn ((List.replicate Ng.length none).set c.i (some (.raw (.ref b')))))) q noX := by
              rw [tell b' xn s0 eg]; exact hq0
            refine ⟨Zg, xn, hb, xv, Zg, _, _, sta_suite (Fr.refl fr'.zh fr'.notF) fd' lenS lt, ofR_rt h2, ?_⟩
            exact ⟨fun _ _ _ _ _ z => z.elim, fun _ _ _ _ _ z => z.elim, fun _ _ _ _ _ z => z.elim, fun s' v H' Z' f' fd'' ln sv hq => k1 s' v H' Z' (fr'.trans f') fd'' ln (sv.lent ln) hq, fun _ _ _ _ _ _ _ _ z => z.elim⟩
          · subst eb
            exact h2 (.ref C1) d G Zg xn fr' fd' xv h
  obtain ⟨ls, h1, h2⟩ := cl (hc A outer s H g cdg E room guards)
  refine ⟨_, pss_one (ps_try_cls (X := Y) rfl rfl uniq takes (fun W pn xe tk _ => pss_one (ps_ret (pe_tup (pa_cons pe_str (pa_cons (act W pn xe p2 p3 tk) pa_nil))))) h1), ?_⟩
  refine ⟨start0, tells _ _ (fun s => toldBy sub told cs (ok s) = toldBy sub told cs r ∧ ofR (toldBy sub told cs r) q e) (fun xn => ofR (goCls sub xn cs) q e) ?_ ?_ ?_⟩
  · cases r with
    | none => exact hw.elim
    | some r =>
      cases r with
      | ok s => exact ⟨rfl, hw⟩
      | error xn => exact hw
  · intro s' v H' Z' f' fd' ln sv ⟨h3, h4⟩
    rw [← h3] at h4
    cases s' with
    | dat d =>
      refine ⟨by show 2 ≤ sizeLine; rw [sizeLine_eq]; omega, fun p np => ?_⟩
      have f2 := (Fr.refl f'.zh f'.notF).made (o := .tup [.str told, v]) fd' np
      exact k1 (.dat (.tuple [.str told, d])) _ _ _ (f'.trans f2) (fd'.made np) rfl (Dq.tup upd_same (dps_mono f2.zz [_, _] _ (.cons (.str told) (.cons sv .nil)))) h4
    | _ => exact h4.elim
  · intro xn cls d G Zg fr' fd' xv he
    exact h2 cls d G Zg xn fr' fd' xv he
end
end PL

/-! e.f of an exception in hand -/
namespace PL
open PySem PySem.Spec PyProof.Rows L2
def xExF (i : Nat) (a : Addr) (fs : List (Str × D)) (f : Str) : X := fun ρ => match ρ[i]? with
  | some (some (.raw (.ref b))) => if b = a then opt ((fs.lookup f).map S.dat) else none
  | _ => none
theorem lookup_rel {Z : Hp} {f : Str} : ∀ {vs : List (Str × V)} {fs : List (Str × D)} {d : D}, vs.map (·.1) = fs.map (·.1) → Dqs Z (vs.map (·.2)) (fs.map (·.2)) → fs.lookup f = some d → ∃ v, vs.lookup f = some v ∧ Dq Z v d
  | [], [], d, _, _, h => by cases h
  | [], _ :: _, _, e, _, _ => by cases e
  | _ :: _, [], _, e, _, _ => by cases e
  | (g, v) :: vs, (g', d') :: fs, d, e, q, h => by
    have e1 : g = g' := (List.cons.inj e).1
    subst e1
    cases q with
    | cons q1 q2 =>
      by_cases c : f = g
      · subst c
        rw [List.lookup_cons_self] at h ⊢
        cases h
        exact ⟨v, rfl, q1⟩
      · have c' : (f == g) = false := by simpa using c
        rw [List.lookup_cons, c'] at h ⊢
        exact lookup_rel (List.cons.inj e).2 q2 h
theorem x_exf {Y : Cx} {F : Option Fd} {a : Addr} {oe : Obj} {cls : Value} {d : Option Addr} {pn : List (Addr × Obj)} {G Z : Hp} {xn : Xn} {i : Nat} {y f : Str} {p1 pos : Pos} (hz : Zc cls d oe) (hf : ∃ vs, oe.data = .fields vs) (xv : XVm Y.mg cls d G Z xn)
    (hX : ∀ C0, Y.mg xn.cls = some (.ref C0) → XfC Y.K C0 ∧ PySem.W.findIn Y.K (.ref C0) f = some none) (hv : PE (Y.suite a ((a, oe) :: pn)) (.Name y p1) (tVar i)) (hb : attributeBase (.Name y p1) f Y.env (eval (.Name y p1) Y.env) = eval (.Name y p1) Y.env := by rfl) :
    E (suC Y F (XVm Y.mg) a oe pn G Z) (.Attribute (.Name y p1) f pos) (ofX (xExF i a xn.fs f)) := by
  obtain ⟨C0, dd, fs, hm, ec, ed, hzd, hk, hq⟩ := xv
  obtain ⟨xf, hno⟩ := hX C0 hm
  refine weakE (pe_xf xf hno hz hf hv hb) fun σ H Q ⟨Z1, ρ, q, ex, st, hw, k, ke⟩ => ?_
  unfold ofX xExF at hw
  split at hw
  · rename_i b hr
    split at hw
    · rename_i hba
      subst hba
      obtain ⟨s0, e0, hq0⟩ := ofR_opt hw
      obtain ⟨dv, e1, e2⟩ := map_some e0
      subst e2
      obtain ⟨v, ev, sv⟩ := st.env i _ hr
      have sv : v = .ref b := sv
      subst sv
      have zz := st.fr.zz
      obtain ⟨u, l1, l2⟩ := lookup_rel (Z := Z1) hk (dps_mono zz _ _ hq) e1
      exact ⟨.ref b, ev, rfl, ec, dd, fs, u, ed, st.fr.zh _ _ (zz _ _ hzd), l1, k.here st (s := .dat dv) l2 hq0⟩
    · exact hw.elim
  · exact hw.elim
end PL

/-! defs that make lambdas, defs that hear them, the law's entry with tables of code objects -/
namespace PL
open PySem PySem.Spec PyProof.Rows L2
/-- where the top has put a def whose code object is at c, its table at T -/
def HasL (K : PySem.W.Frag) (x : Str) (st : Stmt) (c T : Addr) : Prop := ∃ (f : Addr) (oc : Value) (od an : Option Addr) (osl : Array (Option Value)) (kV doc pm ct : Value),
  PySem.W.nsIn K mainGlobals x = some (some (.ref f)) ∧ K.lookup f = some ⟨oc, od, .func (PySem.W.fnOf x x (defArgs st) (defBody st) (defScope st) .none kV doc pm an (.ref c) ct), osl⟩ ∧
  PySem.W.codeIn K (.ref c) x = true ∧ PySem.W.keepIn K (.ref f) = true ∧ PySem.W.codeHdIn K c T = true ∧ K.lookup T = none
theorem hasL_mk {K : PySem.W.Frag} {x : Str} {st : Stmt} {f c T : Addr} {oc : Value} {od an : Option Addr} {osl : Array (Option Value)} {kV doc pm ct : Value} (a : PySem.W.nsIn K mainGlobals x = some (some (.ref f)))
    (l : K.lookup f = some ⟨oc, od, .func (PySem.W.fnOf x x (defArgs st) (defBody st) (defScope st) .none kV doc pm an (.ref c) ct), osl⟩) (q : PySem.W.codeIn K (.ref c) x = true) (k : PySem.W.keepIn K (.ref f) = true) (h : PySem.W.codeHdIn K c T = true) (n : K.lookup T = none) : HasL K x st c T :=
  ⟨f, oc, od, an, osl, kV, doc, pm, ct, a, l, q, k, h, n⟩
section
variable {P : Program} {w : World} {K : PySem.W.Frag} {mg : Str → Option Value} {base h : Heap} {fam : Fd → Prop} {XV : XVt}
theorem defL_of {x : Str} {st : Stmt} {N ps : List Str} {k : Nat} {b : XS} {c T : Addr} (X : K.In h) (G : h.Ns mainGlobals mg) (has : HasL K x st c T) (S : FnScope N ps (defScope st))
    (hb : ∀ {f : Addr} {A : Around} {outer : List Env} {s : Shared} {H Z : Hp} {E : XK} {Fo : Option Fd}, Room k (A.deeper (envOfC x (defScope st) s.heap.objs.size f (.ref c))) → A.guards = some [] → (HasF fam Fo) →
      Sts (bodyC P w K mg base XV N x st f (.ref c) A outer s H Z E Fo) (defBody st) (ofS b))
    (bd : ∀ (kV doc pm : Value) (an : Option Addr) (cdv ct : Value) (us : List Value), us.length = ps.length → bindArgs (PySem.W.fnOf x x (defArgs st) (defBody st) (defScope st) .none kV doc pm an cdv ct) ⟨us, []⟩ = pure (ps.zip us)) :
    DefX P w K mg base fam XV x st (k + 1) ps (ofF ps.length (runF N.length b)) := by
  obtain ⟨f, oc, od, an, osl, kV, doc, pm, ct, a, l, q, kp, _⟩ := has
  have F := fun_mk l q kp
  refine ⟨⟨f, _, fp_ofC F S (fun cdv e A outer s H Z E Fo hr hg hF => ?_) fun ss q e _ h => runF_of h.2, PySem.W.mg_of X G a, kp, F.binds bd, _, _, _, _, _, _, rfl⟩, fun ss q e h => h.1⟩
  cases e
  exact hb hr hg hF
/-- a def that hears what a() gives -/
structure HearX (P : Program) (w : World) (K : PySem.W.Frag) (mg : Str → Option Value) (base : Heap) (fam : Fd → Prop) (XV : XVt) (x : Str) (st : Stmt) (Ng : List Str) (a : Str) (G : R S → R S) : Prop where
  hears : ∀ (F : Option Fd), HasF fam F → ∀ k, Hears P w K mg base F XV x st Ng a k G
  has : ∃ g fd, Fun K x x st g fd ∧ mg x = some (.ref g) ∧ Binds K fd [a] []
  sc : FnScope Ng [a] (defScope st)
  n0 : Ng[0]? = some a
  vis : Vis (defScope st) a
end
/-- tables are told of -/
theorem lamT {y : Fd} {nt : ∀ H p ps, y.ok H → H p = some (.tbl ps) → ¬ y.own p} {tabs : List (Addr × Str)} {F : Option Fd} {T : Addr} {q : Str} (e : F = some (fdT y nt tabs)) (m : (T, q) ∈ tabs) : LamP F T q := by
  refine ⟨_, e, .inr ⟨(T, q), m, rfl⟩, fun H h => h.2.1 _ m, fun H H1 h gr t1 => ?_⟩
  obtain ⟨ps, hT, _, _⟩ := id (h.2.1 _ m)
  refine ⟨y.here H H1 h.1 (fun a ha => ?_) (fun a g hg => ?_), fun p hp => ?_, h.2.2⟩
  · cases e1 : H a with
    | none => exact absurd ha (y.away H a h.1 e1)
    | some o => exact gr a o (fun z => nt H a ps h.1 (z ▸ hT) ha) e1
  · exact (gr a _ (fun z => by rw [z, hT] at hg; cases hg) hg).trans hg.symm
  · by_cases c : p.1 = T
    · rw [c, h.2.2 p hp (T, q) m c]; exact t1
    · exact tab_grow (h.2.1 p hp) gr hT c
theorem lamP_T {tabs : List (Addr × Str)} {F : Option Fd} {T : Addr} {q : Str} (h : HasF (FamT tabs) F) (m : (T, q) ∈ tabs) : LamP F T q := by
  obtain ⟨y, e, rfl⟩ := h
  exact lamT e m
theorem lamP_DT {ks : List Str} {tabs : List (Addr × Str)} {F : Option Fd} {T : Addr} {q : Str} (h : HasF (FamDT ks tabs) F) (m : (T, q) ∈ tabs) : LamP F T q := by
  obtain ⟨y, e, f, c, cells, rfl⟩ := h
  exact lamT e m
section
variable {C : Cp} {fam : Fd → Prop}
/-- x(lambda: e), by x's promise -/
theorem x_lamX {x a : Str} {st : Stmt} {Ng : List Str} {k : Nat} {G : R S → R S} {c T : Addr} {params : Arguments} {body : Expr} {scope : Scope} {xb : X} {p lpos pos : Pos}
    (Hs : HearX C.X.prog C.X.w C.X.K C.X.mg C.X.base fam C.XV x st Ng a G) (hF : HasF fam C.F)
    (hg : Gl C.X x) (B : LamX.TabB C.X.base C.X.mg c T) (code : C.X.env.code = .ref c) (tab : LamP C.F T (C.X.env.qual ++ "<lambda>")) (hx : Lets C) (hr : Room (k + 2) C.X.A) (hgd : C.X.A.guards = some []) (L : LamX.LamS C.X.env.scope scope) (df : defaultsOf params C.X.env = ([], []))
    (bd : ∀ (q : Str) (cl : List (Str × Addr)) (pm cv ctv : Value), bindArgs (PySem.W.kla_fn "<lambda>" q params body scope cl pm cv ctv) ⟨[], []⟩ = pure [])
    (hb : ∀ {A : Around} {outer : List Env} {t : Shared} {Ht : Hp} {E' : XK} {f d : Addr}, Room k (A.deeper (LamX.lamEnv C.X scope t.heap.objs.size f d)) → A.guards = some [] → E (lamC C A outer t Ht E' scope f d) body (ofX xb))
    (hdb : (x == ("__debug__" : Str)) = false := by decide) (hd : (a == ("__debug__" : Str)) = false := by decide) (hcd : (a == ("__classdict__" : Str)) = false := by decide) :
    E C (.Call (.Name x p) [.Lambda params body scope lpos] [] pos) (ofX (xHear G xb)) :=
  x_lam (Hs.hears C.F hF (k + 1)) Hs.has Hs.sc Hs.n0 Hs.vis hg B code tab hx hr hgd L df bd (fun A outer t Ht E' f d r g => hb r g) hdb hd hcd
end
/-! ### the law's entry, tables told of -/
/-- the module's object of built-ins, as the making of functions asks for it -/
structure BMain (mg : Str → Option Value) (h : Heap) : Prop where
  ex : ∃ (bm : Addr) (ob : Obj), mg "__builtins__" = some (.ref bm) ∧ bm ≠ builtinsNs ∧ h.get? bm = some ob ∧ ob.cls = .type "module" ∧ ob.dict = some builtinsNs ∧ ob.data = .plain
/-- what is tracked at the entry: the script, and empty tables -/
def HT (K : PySem.W.Frag) (Ts : List Addr) (a : Addr) (vs : List Value) (ns : List Int) : Hp := fun b =>
  if b ∈ Ts then some (.tbl #[]) else H0 K a vs ns b
section
variable {P : Program} {w : World} {K : PySem.W.Frag} {mg mb : Str → Option Value} {k : Nat} {fa a : Addr} {fd : FuncData} {x : Str} {sp : Sp} {st : Shared}
  {vs : List Value} {ns : List Int} {cs : List (Addr × Addr)}
theorem enter_tabs (guarded : callerA.guards = some []) (room : Room k callerA)
    (known : K.In st.heap)
    (globals : st.heap.Ns mainGlobals mg)
    (builtins : st.heap.Ns builtinsNs mb) (boot : ∀ y : Str, y ≠ "__name__" → mb y = bootBuiltins y)
    (free : st.heap.NoLimit) (still : st.gens = #[]) (bmain : BMain mg st.heap)
    (empty : ∀ p ∈ cs, st.heap.get? p.2 = some { cls := .none, data := .fields #[] }) (off : ∀ p ∈ cs, K.lookup p.2 = none) (codes : ∀ p ∈ cs, PySem.W.CodeHd st.heap p.1 p.2)
    (script : st.heap.get? a = some { cls := .type "list", data := .seq vs.toArray }) (whole : IntsAre vs ns) (few : ns.length ≤ sizeLine)
    (promise : ∀ base : Heap, (∀ p ∈ cs, LamX.TabB base mg p.1 p.2) → FnG P w K mg base CX0 k fa fd [x] sp)
    (binds : ∀ (t : Shared) (u : Value), BindsTo t fd ⟨[u], []⟩ [(x, u)])
    (meets : ∀ H : Hp, (∀ p ∈ cs, H p.2 = some (.tbl #[])) → SqL K H a (ns.map V.int) → sp [.ref a] H (fun v _ => v = .bl true) E0) :
    codeAny (model P w) callerA (.call (.ref fa) ⟨[.ref a], []⟩)
      (fun r t => r = .ok (.ret (.bool true)) ∧ OldK st.heap t.heap ∧ t.os = st.os ∧ AllBare t.gens) st := by
  have rv : Vals (ns.map V.int) vs := vals_ints whole
  have len : vs.length = ns.length := by rw [whole.length]
  obtain ⟨Ts, hTs⟩ : ∃ Ts, Ts = cs.map (·.2) := ⟨_, rfl⟩
  have inT : ∀ b, b ∈ Ts → st.heap.get? b = some { cls := .none, data := .fields #[] } := fun b hb => by
    rw [hTs] at hb
    obtain ⟨p, hp, rfl⟩ := List.mem_map.mp hb
    exact empty p hp
  have memT : ∀ p ∈ cs, p.2 ∈ Ts := fun p hp => by rw [hTs]; exact List.mem_map_of_mem hp
  have scriptT : a ∉ Ts := fun z => by
    have e := inT a z
    rw [script] at e
    cases (congrArg Obj.data (Option.some.inj e) : Data.seq _ _ = _)
  have tr : ∀ b, b ∈ Ts → HT K Ts a vs ns b = some (.tbl #[]) := fun b hb => if_pos hb
  have ntr : ∀ b, b ∉ Ts → HT K Ts a vs ns b = H0 K a vs ns b := fun b hb => if_neg hb
  -- neither the script nor a table: not tracked
  have loose : ∀ {b : Addr} {o : Obj}, st.heap.get? b = some o → o ≠ { cls := .type "list", data := .seq vs.toArray } → o ≠ { cls := .none, data := .fields #[] } → HT K Ts a vs ns b = none := fun {b o} e n1 n2 => by
    rw [ntr b fun z => n2 (Option.some.inj (e.symm.trans (inT b z)))]
    exact H0_off fun c => n1 (Option.some.inj (e.symm.trans (c.1 ▸ script)))
  have apart : ∀ {b : Addr} {o : Obj} {es : Array DictEntry} {ep : Nat}, st.heap.get? b = some o → o.data = .dict es ep → HT K Ts a vs ns b = none := fun {b o es ep} e d =>
    loose e (fun z => by rw [z] at d; cases d) fun z => by rw [z] at d; cases d
  have nsOf : ∀ {b : Addr} {m : Str → Option Value}, st.heap.Ns b m → (hidT st.heap (HT K Ts a vs ns)).Ns b m := by
    rintro b m ⟨o, es, ep, e, d, r⟩
    exact ⟨o, es, ep, hidT_get e (apart e d), d, r⟩
  have offT : ∀ b, b ∈ Ts → K.lookup b = none := fun b hb => by
    rw [hTs] at hb
    obtain ⟨p, hp, rfl⟩ := List.mem_map.mp hb
    exact off p hp
  have known' : K.In (hidT st.heap (HT K Ts a vs ns)) := fun b o e => hidT_get (known b o e) (by
    rw [ntr b fun z => by rw [offT b z] at e; cases e]
    exact H0_off fun c => by rw [c.1, c.2] at e; cases e)
  have ok : HOk P w (HT K Ts a vs ns) st.heap := fun b u e => by
    by_cases hb : b ∈ Ts
    · rw [tr b hb] at e
      cases e
      exact inT b hb
    · rw [ntr b hb] at e
      obtain ⟨rfl, _, rfl⟩ := H0_at e
      exact ⟨script, by rw [List.length_map]; exact few, vs, _, rv, script⟩
  have seq : SqL K (HT K Ts a vs ns) a (ns.map V.int) := by
    cases own : K.lookup a with
    | none => exact .inl (.inr ⟨_, (ntr a scriptT).trans (if_pos ⟨rfl, own⟩)⟩)
    | some o =>
      have e := known a o own
      rw [script] at e
      cases e
      exact .inr ⟨_, vs.toArray, _, own, rfl, rfl, rfl, by rw [List.size_toArray, len]; exact few, by simpa using rv⟩
  have TB : ∀ p ∈ cs, LamX.TabB (hidT st.heap (HT K Ts a vs ns)) mg p.1 p.2 := fun p hp => by
    have hTp := empty p hp
    refine ⟨?_, ?_, fun z => ?_⟩
    · obtain ⟨o, us, file, tf, flags, tg, inF, text, tt, e1, r1, r2, r3, rest⟩ := codes p hp
      refine ⟨o, us, file, tf, flags, tg, inF, text, tt, hidT_get e1 (loose e1 (fun z => ?_) fun z => ?_), r1, r2, r3, rest⟩
      · rw [z] at r2; cases r2
      · rw [z] at r2; cases r2; simp at r3
    · obtain ⟨bm, ob, b1, b2, b3, b4, b5, b6⟩ := bmain.ex
      refine ⟨bm, ob, b1, b2, fun q => ?_, fun q => ?_, hidT_get b3 (loose b3 (fun z => ?_) fun z => ?_), b4, b5, b6⟩
      · obtain ⟨o, es, ep, e, hd, _⟩ := globals
        rw [q, e] at b3
        cases b3
        rw [hd] at b6; cases b6
      · rw [q, hTp] at b3
        cases b3
        cases b6
      · rw [z] at b6; cases b6
      · rw [z] at b6; cases b6
    · obtain ⟨o, es, ep, e, hd, _⟩ := globals
      rw [z, hTp] at e
      cases e
      cases hd
  have entry : Env0 P w K mg (hidT st.heap (HT K Ts a vs ns)) callerA [] st (HT K Ts a vs ns) := by
    constructor
    · rfl
    · exact ⟨known', nsOf globals, ⟨mb, nsOf builtins, boot⟩, by
        obtain ⟨mc, h1, h2⟩ := free
        exact ⟨mc, nsOf h1, h2⟩⟩
    · exact fun b o e => of_hidT e
    · exact Nat.le_of_eq (hidT_size _ _)
    · trivial
    · intro b hb
      cases hb
    · exact ok
    · exact .of_eq still
  have run := (promise (hidT st.heap (HT K Ts a vs ns)) TB).run callerA [] st (HT K Ts a vs ns) ⟨[.ref a], []⟩ [.ref a] [.ref a] _ E0
    room guarded entry (binds st (.ref a)) (.cons rfl .nil) (meets _ (fun p hp => tr _ (memT p hp)) seq)
  refine codeAny_mono run ?_
  intro r t h
  match r, h with
  | .error e, h => exact h.elim
  | .ok .next, h => exact h.elim
  | .ok .brk, h => exact h.elim
  | .ok .cont, h => exact h.elim
  | .ok (.ret u), h =>
    obtain ⟨v, H', os, bare, un, hok', rel, q⟩ := h
    have q' : v = .bl true := q
    subst q'
    obtain rfl : u = Value.bool true := rel
    -- what is no table stays, tables grow
    have same : ∀ b o, b ∉ Ts → st.heap.get? b = some o → t.heap.get? b = some o := fun b o nb e => by
      cases tracked : HT K Ts a vs ns b with
      | none =>
        refine un.keep b o e tracked ?_ ?_
        · intro z
          cases z
        · simp
      | some u =>
        have tracked' := tracked
        rw [ntr b nb] at tracked'
        obtain ⟨_, _, rfl⟩ := H0_at tracked'
        have later := (hok' b _ (un.frzs b _ _ tracked)).1
        have before := (ok b _ tracked).1
        rw [e] at before
        cases before
        exact later
    have grow : ∀ p ∈ cs, ∃ more : Array Value, t.heap.get? p.2 = some { cls := .none, data := .fields more } := fun p hp => by
      obtain ⟨more, z⟩ := un.tbls p.2 #[] (tr _ (memT p hp))
      exact ⟨_, hok' p.2 _ z⟩
    have pick : ∀ b, b ∈ Ts → ∃ p ∈ cs, p.2 = b := fun b hb => by
      rw [hTs] at hb
      obtain ⟨p, hp, e⟩ := List.mem_map.mp hb
      exact ⟨p, hp, e⟩
    refine ⟨rfl, ⟨fun b o e => ?_, fun b o e => ?_⟩, os, bare⟩
    · by_cases hb : b ∈ Ts
      · obtain ⟨p, hp, rfl⟩ := pick b hb
        obtain ⟨more, hm⟩ := grow p hp
        rw [empty p hp] at e
        cases e
        exact .inr (.inl ⟨((codes p hp).tab (empty p hp)).isCodeTable, rfl, #[], more, rfl, by rw [Array.empty_append]; exact hm⟩)
      · exact .inl (same b o hb e)
    · by_cases hb : b ∈ Ts
      · obtain ⟨p, hp, rfl⟩ := pick b hb
        obtain ⟨more, hm⟩ := grow p hp
        exact ⟨_, hm⟩
      · exact ⟨o, same b o hb e⟩
end
end PL

/-! dict(zip(a, b)), a and b tuples -/
namespace PL
open PySem PySem.Spec PyProof.Rows L2
section
variable {prog : Program} {w : World} {A : Around} {E : Value → Shared → Prop} {s : Shared} {u ti to p q a b last : Addr} {told : Bool} {ob : Obj} {i j : Nat} {xs ys : Array Value} {x y : Value}
/-- a turn of a zip whose last pair is still about -/
theorem zheld_item {Q : Value → Shared → Prop} (D : ZipApart u ti to p q a b) (hu : IsZipHeld s.heap u ti to last told) (hl : s.heap.get? last = some ob)
    (hi : IsPair s.heap ti (.ref p) (.ref q)) (hp : s.heap.IsTupleIter p a i) (hq : s.heap.IsTupleIter q b j) (ha : s.heap.IsTuple a xs) (hb : s.heap.IsTuple b ys) (ex : xs[i]? = some x) (ey : ys[j]? = some y)
    (k : ∀ g, IsZipHeld g u ti to last true → g.IsTupleIter p a (i + 1) → g.IsTupleIter q b (j + 1) → IsPair g s.heap.objs.size x y → g.objs.size = s.heap.objs.size + 1 →
      (∀ c o, c ≠ u → c ≠ p → c ≠ q → s.heap.get? c = some o → g.get? c = some o) → Q (.ref s.heap.objs.size) { s with heap := g }) :
    wpAny (model prog w) A (Builtin.«zip.__next__» ⟨[.ref u], []⟩) (fun fin t => ∃ v, fin = .done (.ret v) ∧ Q v t) E s := by
  show wpAny _ _ (field (.ref u) 2 >>= _) _ _ _
  apply wpAny_bind (wpAny_field hu rfl (x := .bool false) rfl _)
  show wpAny _ _ (field (.ref u) 3 >>= _) _ _ _
  apply wpAny_bind (wpAny_field hu rfl (x := .ref ti) rfl _)
  apply wpAny_bind (wpAny_seqItems hi rfl _)
  show wpAny _ _ (Builtin.SmallTypes.ownedTupleIsFree (.ref u) >>= _) _ _ _
  refine wpAny_bind (wpAny_tupleHeld_zip hu hl fun g1 hg1 s1 => ?_)
  simp only [Bool.false_eq_true, if_false]
  apply wpAny_bind
  rw [← Array.forIn_toList]
  simp only [List.forIn_cons, List.forIn_nil]
  apply wpAny_bind
  apply wpAny_bind
  apply wpAny_holding
  show wpAny _ _ (Builtin.SmallTypes.nextOf (.ref p) >>= _) _ _ _
  refine wpAny_bind (RZ.nextOf_tuple_item (s := { s with heap := g1 }) (hp.extBut s1.extBut D.i1z) (ha.extBut s1.extBut D.l1z) ex fun g2 hp2 s2 => wpAny_pure ?_)
  apply wpAny_pure
  apply wpAny_bind
  apply wpAny_bind
  apply wpAny_holding
  show wpAny _ _ (Builtin.SmallTypes.nextOf (.ref q) >>= _) _ _ _
  refine wpAny_bind (RZ.nextOf_tuple_item (s := { s with heap := g2 }) ((hq.extBut s1.extBut D.i2z).extBut s2.extBut D.i12.symm) ((hb.extBut s1.extBut D.l2z).extBut s2.extBut D.l2i1) ey fun g3 hq3 s3 => wpAny_pure ?_)
  apply wpAny_pure
  apply wpAny_pure
  show wpAny _ _ (newTuple [x, y] >>= _) _ _ _
  refine wpAny_bind (wpAny_newTuple ?_)
  have size3 : g3.objs.size = s.heap.objs.size := by rw [s3.1, s2.1, s1.1]
  have zip3 : IsZipHeld g3 u ti to last true := s3.extBut _ _ D.i2z.symm (s2.extBut _ _ D.i1z.symm hg1)
  have kept : ∀ c o, c ≠ u → c ≠ p → c ≠ q → s.heap.get? c = some o → g3.get? c = some o := fun c o n1 n2 n3 e => s3.extBut _ _ n3 (s2.extBut _ _ n2 (s1.extBut _ _ n1 e))
  have hp3 : g3.IsTupleIter p a (i + 1) := hp2.extBut s3.extBut D.i12
  refine wpAny_pure ⟨_, rfl, ?_⟩
  show Q (.ref g3.objs.size) _
  have new : IsPair (g3.push { cls := .type "tuple", data := .seq #[x, y] }) g3.objs.size x y := Heap.get?_push_size _ rfl
  have size4 : (g3.push { cls := .type "tuple", data := .seq #[x, y] }).objs.size = g3.objs.size + 1 := Heap.size_push ..
  rw [size3] at new size4 ⊢
  refine k _ (Heap.get?_push_of_some _ zip3) (hp3.at fun o e => Heap.get?_push_of_some _ e) (hq3.at fun o e => Heap.get?_push_of_some _ e) new size4 ?_
  intro c o n1 n2 n3 e
  exact Heap.get?_push_of_some _ (kept c o n1 n2 n3 e)
theorem zheld_end {Q : PySem.Fin → Shared → Prop} (hh : A.handled = none) (D : ZipApart u ti to p q a b) (hu : IsZipHeld s.heap u ti to last told) (hl : s.heap.get? last = some ob)
    (hi : IsPair s.heap ti (.ref p) (.ref q)) (hp : s.heap.IsTupleIter p a i) (hq : s.heap.IsTupleIter q b j) (ha : s.heap.IsTuple a xs) (hb : s.heap.IsTuple b ys) (over : xs[i]? = none ∨ ys[j]? = none)
    (k : ∀ g e, (∀ c o, c ≠ u → c ≠ p → c ≠ q → s.heap.get? c = some o → g.get? c = some o) → (∃ o, g.get? e = some o ∧ o.cls = .type "StopIteration") → E (.ref e) { s with heap := g }) :
    wpAny (model prog w) A (Builtin.«zip.__next__» ⟨[.ref u], []⟩) Q E s := by
  show wpAny _ _ (field (.ref u) 2 >>= _) _ _ _
  apply wpAny_bind (wpAny_field hu rfl (x := .bool false) rfl _)
  show wpAny _ _ (field (.ref u) 3 >>= _) _ _ _
  apply wpAny_bind (wpAny_field hu rfl (x := .ref ti) rfl _)
  apply wpAny_bind (wpAny_seqItems hi rfl _)
  show wpAny _ _ (Builtin.SmallTypes.ownedTupleIsFree (.ref u) >>= _) _ _ _
  refine wpAny_bind (wpAny_tupleHeld_zip hu hl fun g1 hg1 s1 => ?_)
  simp only [Bool.false_eq_true, if_false]
  apply wpAny_bind
  rw [← Array.forIn_toList]
  simp only [List.forIn_cons, List.forIn_nil]
  apply wpAny_bind
  apply wpAny_bind
  apply wpAny_holding
  show wpAny _ _ (Builtin.SmallTypes.nextOf (.ref p) >>= _) _ _ _
  have hp1 := hp.extBut s1.extBut D.i1z
  have ha1 := ha.extBut s1.extBut D.l1z
  cases ex : xs[i]? with
  | none =>
    refine wpAny_bind (RZ.nextOf_tuple_end (s := { s with heap := g1 }) hh hp1 ha1 ex fun g2 e s2 he => ?_)
    refine k g2 e (fun c o n1 n2 _ h => ?_) he
    exact s2 _ _ n2 (s1.extBut _ _ n1 h)
  | some x =>
    have ey : ys[j]? = none := by
      rcases over with h | h
      · rw [ex] at h; cases h
      · exact h
    refine wpAny_bind (RZ.nextOf_tuple_item (s := { s with heap := g1 }) hp1 ha1 ex fun g2 hp2 s2 => wpAny_pure ?_)
    apply wpAny_pure
    apply wpAny_bind
    apply wpAny_bind
    apply wpAny_holding
    show wpAny _ _ (Builtin.SmallTypes.nextOf (.ref q) >>= _) _ _ _
    refine wpAny_bind (RZ.nextOf_tuple_end (s := { s with heap := g2 }) hh ((hq.extBut s1.extBut D.i2z).extBut s2.extBut D.i12.symm) ((hb.extBut s1.extBut D.l2z).extBut s2.extBut D.l2i1) ey fun g3 e s3 he => ?_)
    refine k g3 e (fun c o n1 n2 n3 h => ?_) he
    exact s3 _ _ n3 (s2.extBut _ _ n2 (s1.extBut _ _ n1 h))
theorem zheld_next {Q : Option Value → Shared → Prop} (D : ZipApart u ti to p q a b) (hu : IsZipHeld s.heap u ti to last told) (hl : s.heap.get? last = some ob)
    (hi : IsPair s.heap ti (.ref p) (.ref q)) (hp : s.heap.IsTupleIter p a i) (hq : s.heap.IsTupleIter q b j) (ha : s.heap.IsTuple a xs) (hb : s.heap.IsTuple b ys) (ex : xs[i]? = some x) (ey : ys[j]? = some y)
    (k : ∀ g, IsZipHeld g u ti to last true → g.IsTupleIter p a (i + 1) → g.IsTupleIter q b (j + 1) → IsPair g s.heap.objs.size x y → g.objs.size = s.heap.objs.size + 1 →
      (∀ c o, c ≠ u → c ≠ p → c ≠ q → s.heap.get? c = some o → g.get? c = some o) → Q (some (.ref s.heap.objs.size)) { s with heap := g }) : wpAny (model prog w) A (pyNext (.ref u)) Q E s := by
  have ty : s.TypeIs (.ref u) "zip" := ⟨_, hu, rfl⟩
  unfold pyNext
  apply wpAny_bind
  apply wpAny_attempt
  refine wpAny_callSpecial?_slot (name := Str.ofString "__next__") ty F.slot_zip_next (wpAny_call_entry F.slot_zip_next ty F.entry_zip_next (zheld_item D hu hl hi hp hq ha hb ex ey ?_) (F.args_zip_next_1 _))
  intro g a1 a3 a4 a5 a6 a7
  exact wpAny_pure (k g a1 a3 a4 a5 a6 a7)
theorem zheld_stop {Q : Option Value → Shared → Prop} (hh : A.handled = none) (D : ZipApart u ti to p q a b) (hu : IsZipHeld s.heap u ti to last told) (hl : s.heap.get? last = some ob)
    (hi : IsPair s.heap ti (.ref p) (.ref q)) (hp : s.heap.IsTupleIter p a i) (hq : s.heap.IsTupleIter q b j) (ha : s.heap.IsTuple a xs) (hb : s.heap.IsTuple b ys) (over : xs[i]? = none ∨ ys[j]? = none)
    (k : ∀ g, (∀ c o, c ≠ u → c ≠ p → c ≠ q → s.heap.get? c = some o → g.get? c = some o) → Q none { s with heap := g }) : wpAny (model prog w) A (pyNext (.ref u)) Q E s := by
  have ty : s.TypeIs (.ref u) "zip" := ⟨_, hu, rfl⟩
  unfold pyNext
  apply wpAny_bind
  apply wpAny_attempt
  refine wpAny_callSpecial?_slot (name := Str.ofString "__next__") ty F.slot_zip_next (wpAny_call_entry F.slot_zip_next ty F.entry_zip_next (zheld_end hh D hu hl hi hp hq ha hb over ?_) (F.args_zip_next_1 _))
  intro g e kept he
  obtain ⟨o, ho, hc⟩ := he
  refine wpAny_bind (wpAny_isInstance (T := "StopIteration") (b := true) (show Shared.TypeIs { s with heap := g } (.ref e) "StopIteration" from ⟨o, ho, hc⟩) isSubtype_stop ?_)
  exact wpAny_pure (k _ kept)
/-- what a zip of two tuples is, ahead of its first turn -/
abbrev ZT0 (u ti to p q a b : Addr) (xs ys : Array Value) (h : Heap) : Prop :=
  IsZip h u ti to .none ∧ IsPair h ti (.ref p) (.ref q) ∧ (∃ x y, IsPair h to x y) ∧ h.IsTupleIter p a 0 ∧ h.IsTupleIter q b 0 ∧ h.IsTuple a xs ∧ h.IsTuple b ys
theorem zt_src {d : Addr} (hA : A.handled = none) (D : ZipApart u ti to p q a b) (off : d ≠ u ∧ d ≠ ti ∧ d ≠ to ∧ d ≠ p ∧ d ≠ q ∧ d ≠ a ∧ d ≠ b) :
    PairSrc prog w A u d [u, to, p, q] (min xs.size ys.size) (fun n k v => xs[n]? = some k ∧ ys[n]? = some v) (fun n h => IsPair h ti (.ref p) (.ref q) ∧ h.IsTupleIter p a n ∧ h.IsTupleIter q b n ∧ h.IsTuple a xs ∧ h.IsTuple b ys ∧
      ((IsZip h u ti to .none ∧ ∃ x y, IsPair h to x y) ∨ ∃ T f oT, IsZipHeld h u ti to T f ∧ h.get? T = some oT ∧ T ≠ u ∧ T ≠ p ∧ T ≠ q ∧ T ≠ d)) := by
  obtain ⟨du, dti, dto, dp, dq, da, db⟩ := off
  constructor
  case off =>
    intro m
    simp only [List.mem_cons, List.not_mem_nil, or_false] at m
    rcases m with m | m | m | m
    · exact du m
    · exact dto m
    · exact dp m
    · exact dq m
  case frame =>
    intro n h1 h2 st k
    obtain ⟨hi, hp, hq, ha, hb, hz⟩ := st
    refine ⟨k _ _ (Ne.symm dti) hi, hp.at fun o e => k _ o (Ne.symm dp) e, hq.at fun o e => k _ o (Ne.symm dq) e, ha.at fun o e => k _ o (Ne.symm da) e, hb.at fun o e => k _ o (Ne.symm db) e, ?_⟩
    rcases hz with ⟨hz, x, y, hto⟩ | ⟨T, f, oT, hz, hT, n1, n2, n3, n4⟩
    · exact .inl ⟨k _ _ (Ne.symm du) hz, x, y, k _ _ (Ne.symm dto) hto⟩
    · exact .inr ⟨T, f, oT, k _ _ (Ne.symm du) hz, k _ _ n4 hT, n1, n2, n3, n4⟩
  case item =>
    intro n s1 Q1 E1 lt st ds hQ
    obtain ⟨hi, hp, hq, ha, hb, hz⟩ := st
    have ltx : n < xs.size := Nat.lt_of_lt_of_le lt (Nat.min_le_left ..)
    have lty : n < ys.size := Nat.lt_of_lt_of_le lt (Nat.min_le_right ..)
    have ex := Array.getElem?_eq_getElem ltx
    have ey := Array.getElem?_eq_getElem lty
    have older : ∀ {c o}, s1.heap.get? c = some o → s1.heap.objs.size ≠ c := fun e => Nat.ne_of_gt (Heap.lt_size e)
    have np : s1.heap.objs.size ≠ p := let ⟨_, e, _⟩ := hp; older e
    have nq : s1.heap.objs.size ≠ q := let ⟨_, e, _⟩ := hq; older e
    rcases hz with ⟨hz, x, y, hto⟩ | ⟨T, f, oT, hz, hT, n1, n2, n3, n4⟩
    · refine RZ.pyNext_zipT_item D hz hi hto hp hq ha hb ex ey fun g a1 a2 a3 a4 a5 a6 kept => ?_
      refine hQ s1.heap.objs.size _ _ g s1.toks ⟨ex, ey⟩ (.inl ⟨_, a5, rfl, _, rfl⟩) ⟨kept _ _ D.TIz D.TITO D.TIi1 D.TIi2 hi, a3, a4, ha.at fun o e => kept _ o D.l1z D.l1TO D.l1i1 D.l1i2 e, hb.at fun o e => kept _ o D.l2z D.l2TO D.l2i1 D.l2i2 e, ?_⟩ ?_
      · exact .inr ⟨s1.heap.objs.size, false, _, a1, a5, older hz, np, nq, Nat.ne_of_gt ds⟩
      · intro c o hc e
        simp only [List.mem_cons, List.not_mem_nil, or_false, not_or] at hc
        exact kept c o hc.1 hc.2.1 hc.2.2.1 hc.2.2.2 e
    · refine zheld_next D hz hT hi hp hq ha hb ex ey fun g a1 a3 a4 a5 a6 kept => ?_
      refine hQ s1.heap.objs.size _ _ g s1.toks ⟨ex, ey⟩ (.inl ⟨_, a5, rfl, _, rfl⟩) ⟨kept _ _ D.TIz D.TIi1 D.TIi2 hi, a3, a4, ha.at fun o e => kept _ o D.l1z D.l1i1 D.l1i2 e, hb.at fun o e => kept _ o D.l2z D.l2i1 D.l2i2 e, ?_⟩ ?_
      · exact .inr ⟨T, true, oT, a1, kept _ _ n1 n2 n3 hT, n1, n2, n3, n4⟩
      · intro c o hc e
        simp only [List.mem_cons, List.not_mem_nil, or_false, not_or] at hc
        exact kept c o hc.1 hc.2.2.1 hc.2.2.2 e
  case done =>
    intro s1 Q1 E1 st hQ
    obtain ⟨hi, hp, hq, ha, hb, hz⟩ := st
    have over : xs[min xs.size ys.size]? = none ∨ ys[min xs.size ys.size]? = none := by
      rcases Nat.le_total xs.size ys.size with h | h
      · left; rw [Nat.min_eq_left h]; exact Array.getElem?_eq_none (Nat.le_refl _)
      · right; rw [Nat.min_eq_right h]; exact Array.getElem?_eq_none (Nat.le_refl _)
    rcases hz with ⟨hz, x, y, hto⟩ | ⟨T, f, oT, hz, hT, n1, n2, n3, n4⟩
    · refine RZ.pyNext_zipT_end hA D hz hi hto hp hq ha hb over fun g kept => hQ g s1.toks fun c o hc e => ?_
      simp only [List.mem_cons, List.not_mem_nil, or_false, not_or] at hc
      exact kept c o hc.1 hc.2.1 hc.2.2.1 hc.2.2.2 e
    · refine zheld_stop hA D hz hT hi hp hq ha hb over fun g kept => hQ g s1.toks fun c o hc e => ?_
      simp only [List.mem_cons, List.not_mem_nil, or_false, not_or] at hc
      exact kept c o hc.1 hc.2.2.1 hc.2.2.2 e
theorem zt_arg (D : ZipApart u ti to p q a b) : PairArg prog w "zip" u [u, ti, to, p, q, a, b] [u, to, p, q] (min xs.size ys.size) (fun n k v => xs[n]? = some k ∧ ys[n]? = some v) (ZT0 u ti to p q a b xs ys) := by
  constructor
  case type => exact fun s ok => ⟨_, ok.1, rfl⟩
  case notDict => decide
  case keep =>
    intro h h' ok k
    obtain ⟨hz, hi, ⟨x, y, hto⟩, hp, hq, ha, hb⟩ := ok
    exact ⟨k _ _ hz, k _ _ hi, ⟨x, y, k _ _ hto⟩, hp.at fun o e => k _ o e, hq.at fun o e => k _ o e, ha.at fun o e => k _ o e, hb.at fun o e => k _ o e⟩
  case there =>
    intro h ok c hc
    obtain ⟨hz, hi, ⟨x, y, hto⟩, ⟨o1, e1, _⟩, ⟨o2, e2, _⟩, ⟨o3, e3, _⟩, ⟨o4, e4, _⟩⟩ := ok
    simp only [List.mem_cons, List.not_mem_nil, or_false] at hc
    rcases hc with rfl | rfl | rfl | rfl | rfl | rfl | rfl
    · exact ⟨_, hz⟩
    · exact ⟨_, hi⟩
    · exact ⟨_, hto⟩
    · exact ⟨_, e1⟩
    · exact ⟨_, e2⟩
    · exact ⟨_, e3⟩
    · exact ⟨_, e4⟩
  case sub =>
    intro c hc
    simp only [List.mem_cons, List.not_mem_nil, or_false] at hc ⊢
    rcases hc with rfl | rfl | rfl | rfl <;> simp
  case noKeys => exact fun A s Q E hA ok h => getAttrOr_miss_zip ok.1 rfl rfl rfl zip_no_keys (by decide +kernel) hA h
  case iter =>
    intro A s d Q E hA ok hd off h
    obtain ⟨hz, hi, ⟨x, y, hto⟩, hp, hq, ha, hb⟩ := ok
    simp only [List.mem_cons, List.not_mem_nil, or_false, not_or] at off
    exact wpAny_pyIter_zip hz (h u [u, to, p, q] _ s.heap s.toks (zt_src hA D off) ⟨hi, hp, hq, ha, hb, .inl ⟨hz, x, y, hto⟩⟩ (fun _ _ e => e) fun c hc => .inl hc)
end
end PL

/-! dict(zip(a, b)) of tuples, as a value and as an own name -/
namespace PL
open PySem PySem.Spec PyProof.Rows L2
def keysD : List D → Option (List Key)
  | [] => some []
  | d :: r => match asKey d, keysD r with
    | some k, some ks => some (k :: ks)
    | _, _ => none
def dictZ (ss : List S) : R (List (Key × D)) := match ss with
  | [.dat (.tuple ds), .dat (.tuple es)] => match keysD ds with
    | some ks => guard' (szOk (min ds.length es.length)) (ok (fillK [] (ks.zip es)))
    | none => none
  | _ => none
theorem keysD_len : ∀ {ds : List D} {ks : List Key}, keysD ds = some ks → ks.length = ds.length
  | [], ks, e => by cases e; rfl
  | d :: r, ks, e => by
    unfold keysD at e
    split at e
    · rename_i k ks' e1 e2; cases e
      simp [keysD_len e2]
    · cases e
theorem keysD_at {K : PySem.W.Frag} {Z : Hp} : ∀ {ds : List D} {ks : List Key} {vs : List V}, keysD ds = some ks → Dqs Z vs ds → vs = ks.map kV
  | [], ks, _, e, .nil => by cases e; rfl
  | d :: r, ks, _, e, .cons a b => by
    unfold keysD at e
    split at e
    · rename_i k ks' e1 e2; cases e
      rw [asKey_of e1] at a
      rw [key_val a, keysD_at (K := K) e2 b]
      rfl
    · cases e
theorem kv_zip : ∀ (ks : List Key) {vs : List V} {us : List Value}, Vals vs us → KV (ks.zip vs) (ks.zip us)
  | [], _, _, _ => .nil
  | _ :: _, _, _, .nil => .nil
  | k :: ks, _, _, .cons r t => .cons ⟨rfl, r⟩ (kv_zip ks t)
theorem zip_fst : ∀ (ks : List Key) {vs : List V} {es : List D}, vs.length = es.length → (ks.zip vs).map (·.1) = (ks.zip es).map (·.1)
  | [], _, _, _ => rfl
  | _ :: _, [], [], _ => rfl
  | _ :: _, [], _ :: _, h => by cases h
  | _ :: _, _ :: _, [], h => by cases h
  | k :: ks, v :: vs, e :: es, h => by
    simp only [List.zip_cons_cons, List.map_cons]
    rw [zip_fst ks (by simpa using h)]
theorem zip_snd {Z : Hp} : ∀ (ks : List Key) {vs : List V} {es : List D}, Dqs Z vs es → Dqs Z ((ks.zip vs).map (·.2)) ((ks.zip es).map (·.2))
  | [], _, _, _ => .nil
  | _ :: _, _, _, .nil => .nil
  | k :: ks, _, _, .cons a b => .cons a (zip_snd ks b)
section
variable {C : Cp} {x : X} {pos : Pos}
/-- what is done with the new dict -/
theorem dictZ_run {a b : Expr} {r : XA} {p1 p2 p3 p4 : Pos} (hc : C.X.calm = true) (hg : Gl C.X "dict") (hm : C.X.mg "dict" = none) (hg2 : Gl C.X "zip") (hm2 : C.X.mg "zip" = none) (ha : A C [a, b] (ofA r))
    (hs : starEach [a, b] C.X.env = (false, eval a C.X.env) :: starEach [b] C.X.env) (hp : (backTo p3 (starEach [b] C.X.env)).any (·.1) = false)
    (hs2 : starEach [.Call (.Name "zip" p2) [a, b] [] p3] C.X.env = (false, eval (.Call (.Name "zip" p2) [a, b] [] p3) C.X.env) :: starEach [] C.X.env) (hp2 : (backTo p4 (starEach [] C.X.env)).any (·.1) = false) :
    PE C.X (.Call (.Name "dict" p1) [.Call (.Name "zip" p2) [a, b] [] p3] [] p4) (fun σ H Q => ∃ Z ρ ex, Sta.at C H Z σ ρ ∧ ofR (rbind (r ρ) dictZ) (fun es => ∀ (kvs : List (Key × V)) H1 Z1 p, Fr C.F H Z H1 Z1 → FeedOk C.F H1 → H1 p = none → kvs.map (·.1) = es.map (·.1) → Dqs Z1 (kvs.map (·.2)) (es.map (·.2)) → Q (.ref p) (upd H1 p (.dK kvs))) ex ∧ Ke C H Z ex) := by
  constructor
  intro pins s σ H Q I ⟨Z, ρ, ex, sta, hw, ke⟩
  refine Call_ (ld_blt I hg hm (by decide +kernel : bootBuiltins "dict" = some (.type "dict")) (PyProof.Rows.callWith_type1 ?_ hs2 hp2))
  rw [hs2]
  show wpAny _ _ (spliced ((false, eval (.Call (.Name "zip" p2) [a, b] [] p3) C.X.env) :: backTo p4 (starEach [] C.X.env))) _ _ s
  apply Calls.spliced_cons
  refine Call_ (ld_blt I hg2 hm2 PyProof.Rows.boot_zip (PyProof.Rows.callWith_type1 ?_ hs hp))
  have run := ha.run p3 pins s σ H (fun vs H1 => ∃ Z1 ss, Fr C.F H Z H1 Z1 ∧ FeedOk C.F H1 ∧ SVs C.F C.H0 H1 Z1 vs ss ∧ ofR (dictZ ss) (fun es => ∀ (kvs : List (Key × V)) H1 Z1 p, Fr C.F H Z H1 Z1 → FeedOk C.F H1 → H1 p = none → kvs.map (·.1) = es.map (·.1) → Dqs Z1 (kvs.map (·.2)) (es.map (·.2)) → Q (.ref p) (upd H1 p (.dK kvs))) ex) I
    ⟨Z, ρ, _, ex, sta, ofR_bind hw, fun ss vs H1 Z1 f fd sv h => ⟨Z1, ss, f, fd, sv, h⟩, ke⟩
  refine thn run fun us s1 ⟨vs, H1, I1, rv, Z1, ss, f1, fd1, sv, hz⟩ => ?_
  unfold dictZ at hz
  split at hz
  · rename_i ds es
    split at hz
    · rename_i ks ek
      obtain ⟨small, hq⟩ := ofR_guard hz
      have small := szOk_of small
      obtain ⟨v, v2, rfl, h, h'⟩ := svs2 sv
      cases (show Dq Z1 v (.tuple ds) from h) with
      | @tup ad vs1 _ a1 a2 =>
      cases (show Dq Z1 v2 (.tuple es) from h') with
      | @tup bd vs2 _ b1 b2 =>
      cases rv with
      | cons r1 rr =>
      cases rr with
      | cons r2 rr =>
      cases rr
      cases r1
      cases r2
      obtain ⟨its, rva, pa, _⟩ := I1.tuple (SqT.of (f1.zh _ _ a1))
      obtain ⟨its2, rvb, pb, _⟩ := I1.tuple (SqT.of (f1.zh _ _ b1))
      obtain ⟨oa, hoa, _⟩ := id pa
      obtain ⟨obj, hob, _⟩ := id pb
      have calm := I1.ok.hd hc
      refine RZ.call_zipT (show s1.heap.IsTuple ad its.toArray from pa) (show s1.heap.IsTuple bd its2.toArray from pb) fun g hz hti hto hi1 hi2 hsz hk => ?_
      have I2 : Inv C.X pins σ H1 { s1 with heap := g } := I1.kept (t' := s1.toks) hk
      have D : ZipApart (s1.heap.objs.size + 4) (s1.heap.objs.size + 2) (s1.heap.objs.size + 3) s1.heap.objs.size (s1.heap.objs.size + 1) ad bd := PySem.W.ktu_apart s1.heap.objs.size ad bd (Heap.lt_size hoa) (Heap.lt_size hob)
      apply Calls.spliced_nil
      have ev := keysD_at (K := C.X.K) ek a2
      have lk := keysD_len ek
      have la : its.length = ds.length := by rw [← rva.length, dps_len a2]
      have lb : its2.length = es.length := by rw [← rvb.length, dps_len b2]
      refine PySem.call_dict_pairs (knd := mixKind C.X.prog C.X.w) (kvs := ks.zip its2) (zt_arg D (xs := its.toArray) (ys := its2.toArray)) calm ⟨hz, hti, ⟨_, _, hto⟩, hi1, hi2, (show s1.heap.IsTuple ad its.toArray from pa).at fun o e => hk _ o e, (show s1.heap.IsTuple bd its2.toArray from pb).at fun o e => hk _ o e⟩ ⟨?_, ?_⟩ ?_ ?_
      · rw [List.length_zip, List.size_toArray, List.size_toArray, lk, la]
      · intro i key y ⟨e1, e2⟩
        have e1 : its[i]? = some key := by simpa using e1
        have e2 : its2[i]? = some y := by simpa using e2
        have il : i < ks.length := by
          have := (List.getElem?_eq_some_iff.mp e1).1
          omega
        refine ⟨ks[i], ?_, ?_⟩
        · rw [List.getElem?_zip_eq_some]
          exact ⟨List.getElem?_eq_getElem il, e2⟩
        · obtain ⟨u, e3, ru⟩ := rva.get (i := i) (x := kV ks[i]) (by rw [ev, List.getElem?_map, List.getElem?_eq_getElem il]; rfl)
          rw [e1] at e3
          cases e3
          exact kV_is (P := C.X.prog) (w := C.X.w) ru
      · rw [List.size_toArray, List.size_toArray, la, lb]; exact small
      · intro h' tk hd' k2
        have kept : ∀ c, c ∈ [s1.heap.objs.size + 4, s1.heap.objs.size + 3, s1.heap.objs.size, s1.heap.objs.size + 1] → FpOk C.X pins H1 c := fun c hcm => by
          have hle : s1.heap.objs.size ≤ c := by
            simp only [List.mem_cons, List.not_mem_nil, or_false] at hcm
            omega
          exact I1.fpOk hle (I1.hok.fresh hle)
        have rel := kv_zip ks rvb
        have hm : (g.objs.size == sysModules) = false := beq_eq_false_iff_ne.mpr (Nat.ne_of_gt I2.big)
        have hlen : (mergeK [] (ks.zip vs2)).length ≤ sizeLine := by
          refine Nat.le_trans (length_mergeK (ks.zip vs2) []) ?_
          rw [List.length_nil, Nat.zero_add, List.length_zip, lk, dps_len b2]
          exact small
        have new : ObjOk C.X.prog C.X.w (upd H1 g.objs.size (.dK (mergeK [] (ks.zip vs2)))) h' g.objs.size (.dK (mergeK [] (ks.zip vs2))) := ⟨hlen, hm, merged [] (ks.zip its2), KV.merge rel .nil, hd'⟩
        have J : Inv C.X pins σ (upd H1 g.objs.size (.dK (mergeK [] (ks.zip vs2)))) { s1 with heap := h', toks := tk } :=
          I2.turnedNew (t' := tk) (ch := [s1.heap.objs.size + 4, s1.heap.objs.size + 3, s1.heap.objs.size, s1.heap.objs.size + 1]) (fun c o hcm e => k2 c o hcm e) kept (Nat.le_refl _) new
        refine ⟨.ref g.objs.size, _, J, rfl, ?_⟩
        obtain ⟨m1, m2⟩ := merge_rel (Z := Z1) (kvs := ks.zip vs2) (acc := []) (es := ks.zip es) (acd := []) (zip_fst ks (dps_len b2)) (zip_snd ks b2) rfl .nil
        exact hq _ H1 Z1 _ f1 fd1 (I2.hok.fresh (Nat.le_refl _)) m1 m2
    · exact hz.elim
  · exact hz.elim
def xDictZ (r : XA) : X := fun ρ => rbind (rbind (r ρ) dictZ) fun es => ok (.dat (.dict (kvK es)))
theorem x_dictZ {a b : Expr} {r : XA} {p1 p2 p3 p4 : Pos} (hc : C.X.calm = true) (hg : Gl C.X "dict") (hm : C.X.mg "dict" = none) (hg2 : Gl C.X "zip") (hm2 : C.X.mg "zip" = none) (ha : A C [a, b] (ofA r))
    (hs : starEach [a, b] C.X.env = (false, eval a C.X.env) :: starEach [b] C.X.env := by rfl) (hp : (backTo p3 (starEach [b] C.X.env)).any (·.1) = false := by rfl)
    (hs2 : starEach [.Call (.Name "zip" p2) [a, b] [] p3] C.X.env = (false, eval (.Call (.Name "zip" p2) [a, b] [] p3) C.X.env) :: starEach [] C.X.env := by rfl) (hp2 : (backTo p4 (starEach [] C.X.env)).any (·.1) = false := by rfl) :
    E C (.Call (.Name "dict" p1) [.Call (.Name "zip" p2) [a, b] [] p3] [] p4) (ofX (xDictZ r)) :=
  weakE (dictZ_run hc hg hm hg2 hm2 ha hs hp hs2 hp2) fun σ H Q ⟨Z, ρ, q, ex, st, hw, kt, ke⟩ => ⟨Z, ρ, ex, st, ofR_q (ofR_bind hw) fun es h kvs H1 Z1 p f fd np m1 m2 => by
    have f2 := (Fr.refl f.zh f.notF).made (o := .dK kvs) fd np
    exact kt (.dat (.dict (kvK es))) _ _ _ (f.trans f2) (fd.made np) (Dq.dK upd_same m1 (dps_mono f2.zz _ _ m2) rfl) h, ke⟩
/-- name = dict(zip(a, b)), which changes later -/
def xOwnDZ (i : Nat) (r : XA) : XS := fun ρ => rbind (rbind (r ρ) dictZ) fun es => ok (.nx (ρ.set i (some (.odK es))))
theorem xs_ownDZ {i : Nat} {y : Str} {a b : Expr} {r : XA} {p1 p2 p3 p4 pos' : Pos} (hc : C.X.calm = true) (hN : C.X.N.Nodup) (hi : C.X.N[i]? = some y) (hx : Loc C.X.env.scope y) (hg : Gl C.X "dict") (hm : C.X.mg "dict" = none) (hg2 : Gl C.X "zip") (hm2 : C.X.mg "zip" = none) (ha : A C [a, b] (ofA r))
    (hw : swapsWith (.Call (.Name "dict" p1) [.Call (.Name "zip" p2) [a, b] [] p3] [] p4) (some (.Name y pos')) pos.line C.X.env = pure false := by rfl)
    (hf : C.X.fn y = true ∨ C.X.env.scope.names.lookup y = some .local := by first | exact .inl rfl | exact .inr rfl | assumption)
    (hs : starEach [a, b] C.X.env = (false, eval a C.X.env) :: starEach [b] C.X.env := by rfl) (hp : (backTo p3 (starEach [b] C.X.env)).any (·.1) = false := by rfl)
    (hs2 : starEach [.Call (.Name "zip" p2) [a, b] [] p3] C.X.env = (false, eval (.Call (.Name "zip" p2) [a, b] [] p3) C.X.env) :: starEach [] C.X.env := by rfl) (hp2 : (backTo p4 (starEach [] C.X.env)).any (·.1) = false := by rfl) :
    St1 C (.Assign [.Name y pos'] (.Call (.Name "dict" p1) [.Call (.Name "zip" p2) [a, b] [] p3] [] p4) pos) (ofS (xOwnDZ i r)) :=
  weakS (ps_set hN hi hx (dictZ_run hc hg hm hg2 hm2 ha hs hp hs2 hp2) hw hf) fun D σ H ⟨Z, ρ, P, st, hw, d⟩ => ⟨Z, ρ, P.ex, st, ofR_q (ofR_bind hw) fun es h kvs H1 Z1 p f fd np m1 m2 => by
    have s1 := st.next f fd
    obtain ⟨f2, zp⟩ := Fr.madeH (o := .dK kvs) s1.refl np
    exact d.nx _ _ _ _ (s1.setMine (o := .dK kvs) (t := .odK es) f2 (s1.fd.made np) i np (s1.fd.ne np) fun h0 => ⟨p, _, rfl, upd_same, zp, h0, s1.fd.ne np, m1, m2⟩) h, d.ke st⟩
end
end PL

/-! list * int -/
namespace PL
open PySem PySem.Spec PyProof.Rows L2
section
variable {C : Cp} {a b : Expr} {xa xb : X} {pos : Pos}
def repS (s t : S) : R (List D) := match s.lst, t with
  | some xs, .dat (.int k) => guard' (decide (-4611686018427387904 ≤ k) && decide (k < 4611686018427387904) && szOk (xs.length * k.toNat)) (ok (List.replicate k.toNat xs).flatten)
  | _, _ => none
def xRepN (x y : X) : XN := fun ρ => rbind (x ρ) fun s => rbind (y ρ) fun t => repS s t
theorem xn_rep (ha : E C a (ofX xa)) (hb : E C b (ofX xb)) : N C (.BinOp a .Mult b pos) (ofN (xRepN xa xb)) :=
  weakE (pe_op op_rep ha hb) fun σ H Q ⟨Z, ρ, q, ex, st, hw, k, ke⟩ => by
    refine ⟨Z, ρ, _, ex, st, ofR_bind hw, fun s x H1 Z1 f1 fd1 sv1 q1 => ?_, ke⟩
    refine ⟨Z1, ρ, _, ex, st.next f1 fd1, ofR_bind q1, fun t y H2 Z2 f2 fd2 sv2 q2 => ?_, ke.next f1⟩
    replace q2 : ofR (repS s t) q ex := q2
    unfold repS at q2
    split at q2
    · rename_i xs n e1
      obtain ⟨c, hq⟩ := ofR_guard q2
      simp only [Bool.and_eq_true, decide_eq_true_eq] at c
      have sz := szOk_of c.2
      obtain ⟨b', vs, rfl, h1, h2⟩ := (sv1.next f2).lst f2.zh fd2 e1
      cases (show Dq Z2 y (.int n) from sv2)
      refine ⟨b', n, vs, rfl, rfl, h1, by omega, by omega, by rw [dps_len h2]; exact sz, fun p np => ?_⟩
      obtain ⟨f3, zp⟩ := Fr.madeH (o := .lst (List.replicate n.toNat vs).flatten) (Fr.refl f2.zh f2.notF) np
      have nfp := fd2.ne np
      have hp0 : H p = none := by
        cases q' : H p with
        | none => rfl
        | some o => rw [(f1.trans f2).keep p o nfp q'] at np; cases np
      exact k _ _ p _ Z2 ((f1.trans f2).trans f3) (fd2.made np) upd_same hp0 zp nfp (dps_rep h2 n.toNat) hq
    · exact q2.elim
end
end PL

/-! enumerate(zip(a, b)), a and b tuples -/
namespace PL
open PySem PySem.Spec PyProof.Rows L2
section
variable {prog : Program} {w : World} {A : Around} {E : Value → Shared → Prop} {s : Shared} {m u ti to p q a b : Addr} {i j n : Nat} {xs ys : Array Value} {x y : Value}
theorem alive_any {c : Addr} {Q : Option Obj → Shared → Prop} (h : Q (s.heap.get? c) s) : wpAny (model prog w) A (loadIfAlive c) Q E s := fun _ _ _ => h
/-- a zip whose last pair may be gone or about -/
def ZipU (h : Heap) (u ti to : Addr) : Prop := ∃ (f0 : Value) (f1 : Bool), h.get? u = some { cls := .type "zip", dict := none, data := .fields #[f0, .bool f1, .bool false, .ref ti, .ref to], slots := #[] } ∧ (f0 = .none ∨ ∃ T : Addr, f0 = rawInt T)
/-- its pair is free, or it makes a new one -/
theorem zu_free {Q : Bool → Shared → Prop} (hu : ZipU s.heap u ti to) (h : ∀ g r, ZipU g u ti to → Heap.SameBut u s.heap g → Q r { s with heap := g }) : wpAny (model prog w) A (Builtin.SmallTypes.ownedTupleIsFree (.ref u)) Q E s := by
  obtain ⟨f0, f1, hz, f⟩ := hu
  unfold Builtin.SmallTypes.ownedTupleIsFree
  rcases f with rfl | ⟨T, rfl⟩
  · exact wpAny_bind (wpAny_field hz rfl (x := .none) rfl (wpAny_pure (h _ _ ⟨_, _, hz, .inl rfl⟩ (Heap.SameBut.refl _ _))))
  · apply wpAny_bind (wpAny_field hz rfl (x := rawInt T) rfl _)
    show wpAny _ _ (loadIfAlive (T : Int).toNat >>= _) _ _ _
    apply wpAny_bind
    apply alive_any
    cases s.heap.get? (T : Int).toNat with
    | none =>
      exact wpAny_pure (h _ _ ⟨_, _, hz, .inr ⟨T, rfl⟩⟩ (Heap.SameBut.refl _ _))
    | some o =>
      simp only [Option.isNone_some, Bool.false_eq_true, if_false]
      apply wpAny_bind (wpAny_field hz rfl (x := .bool f1) rfl _)
      cases f1 with
      | true =>
        rw [if_neg (by decide)]
        exact wpAny_pure (h _ _ ⟨_, _, hz, .inr ⟨T, rfl⟩⟩ (Heap.SameBut.refl _ _))
      | false =>
        rw [if_pos (by decide)]
        exact wpAny_bind (wpAny_setField_rec hz (by simp) fun g hg sb => wpAny_pure (h g _ ⟨_, _, hg, .inr ⟨T, rfl⟩⟩ sb))
/-- the state of a zip of two tuples within a loop -/
structure ZipAt (u ti to p q a b : Addr) (n : Nat) (h : Heap) : Prop where
  me : ZipU h u ti to
  inn : IsPair h ti (.ref p) (.ref q)
  out : ∃ x y, IsPair h to x y
  one : h.IsTupleIter p a n
  two : h.IsTupleIter q b n
theorem zu_item {Q : Value → Shared → Prop} (D : ZipApart u ti to p q a b) (z : ZipAt u ti to p q a b n s.heap) (ha : s.heap.IsTuple a xs) (hb : s.heap.IsTuple b ys) (ex : xs[n]? = some x) (ey : ys[n]? = some y)
    (k : ∀ g, ZipAt u ti to p q a b (n + 1) g → IsPair g s.heap.objs.size x y → g.objs.size = s.heap.objs.size + 1 → (∀ c o, c ≠ u → c ≠ to → c ≠ p → c ≠ q → s.heap.get? c = some o → g.get? c = some o) → Q (.ref s.heap.objs.size) { s with heap := g }) :
    wpAny (model prog w) A (Builtin.«zip.__next__» ⟨[.ref u], []⟩) (fun fin t => ∃ v, fin = .done (.ret v) ∧ Q v t) E s := by
  obtain ⟨⟨f0, f1, hz, hf0⟩, hi, ⟨x0, y0, ho⟩, hp, hq⟩ := id z
  show wpAny _ _ (field (.ref u) 2 >>= _) _ _ _
  apply wpAny_bind (wpAny_field hz rfl (x := .bool false) rfl _)
  show wpAny _ _ (field (.ref u) 3 >>= _) _ _ _
  apply wpAny_bind (wpAny_field hz rfl (x := .ref ti) rfl _)
  apply wpAny_bind (wpAny_seqItems hi rfl _)
  show wpAny _ _ (Builtin.SmallTypes.ownedTupleIsFree (.ref u) >>= _) _ _ _
  apply wpAny_bind
  apply zu_free z.me
  intro g1 r ⟨f2, f3, hz1, hf2⟩ s1
  have hi1 : IsPair g1 ti (.ref p) (.ref q) := s1.extBut _ _ D.TIz hi
  have ho1 : IsPair g1 to x0 y0 := s1.extBut _ _ D.TOz ho
  have hp1 := hp.extBut s1.extBut D.i1z
  have hq1 := hq.extBut s1.extBut D.i2z
  have ha1 := ha.extBut s1.extBut D.l1z
  have hb1 := hb.extBut s1.extBut D.l2z
  cases r with
  | false =>
    simp only [Bool.false_eq_true, if_false]
    apply wpAny_bind
    rw [← Array.forIn_toList]
    simp only [List.forIn_cons, List.forIn_nil]
    apply wpAny_bind
    apply wpAny_bind
    apply wpAny_holding
    show wpAny _ _ (Builtin.SmallTypes.nextOf (.ref p) >>= _) _ _ _
    apply wpAny_bind
    refine RZ.nextOf_tuple_item (s := { s with heap := g1 }) hp1 ha1 ex fun g2 hp2 s2 => wpAny_pure ?_
    apply wpAny_pure
    apply wpAny_bind
    apply wpAny_bind
    apply wpAny_holding
    show wpAny _ _ (Builtin.SmallTypes.nextOf (.ref q) >>= _) _ _ _
    apply wpAny_bind
    refine RZ.nextOf_tuple_item (s := { s with heap := g2 }) (hq1.extBut s2.extBut D.i12.symm) (hb1.extBut s2.extBut D.l2i1) ey fun g3 hq3 s3 => wpAny_pure ?_
    apply wpAny_pure
    apply wpAny_pure
    show wpAny _ _ (newTuple [x, y] >>= _) _ _ _
    apply wpAny_bind
    refine wpAny_newTuple ?_
    have size3 : g3.objs.size = s.heap.objs.size := by rw [s3.1, s2.1, s1.1]
    have z3 := s3.extBut _ _ D.i2z.symm (s2.extBut _ _ D.i1z.symm hz1)
    have up : ∀ c o, c ≠ u → c ≠ p → c ≠ q → s.heap.get? c = some o → (g3.push { cls := .type "tuple", data := .seq #[x, y] }).get? c = some o := fun c o n1 n2 n3 e => Heap.get?_push_of_some _ (s3.extBut _ _ n3 (s2.extBut _ _ n2 (s1.extBut _ _ n1 e)))
    have hp3 : g3.IsTupleIter p a (n + 1) := hp2.extBut s3.extBut D.i12
    refine wpAny_pure ⟨_, rfl, ?_⟩
    show Q (.ref g3.objs.size) _
    have new : IsPair (g3.push { cls := .type "tuple", data := .seq #[x, y] }) g3.objs.size x y := Heap.get?_push_size _ rfl
    have size4 : (g3.push { cls := .type "tuple", data := .seq #[x, y] }).objs.size = g3.objs.size + 1 := Heap.size_push ..
    rw [size3] at new size4 ⊢
    exact k _ ⟨⟨_, _, Heap.get?_push_of_some _ z3, hf2⟩, up _ _ D.TIz D.TIi1 D.TIi2 hi, ⟨_, _, up _ _ D.TOz D.TOi1 D.TOi2 ho⟩, hp3.at fun o e => Heap.get?_push_of_some _ e, hq3.at fun o e => Heap.get?_push_of_some _ e⟩ new size4 fun c o n1 n2 n3 n4 e => up c o n1 n3 n4 e
  | true =>
    simp only [if_true]
    apply wpAny_bind
    apply wpAny_rule
    apply wpAny_bind (wpAny_field hz1 rfl (x := .ref to) rfl _)
    apply wpAny_bind
    apply wpAny_setField_rec hz1 (by simp)
    intro g2 hz2 s2
    apply wpAny_bind
    simp only [List.zipIdx_cons, List.zipIdx_nil, List.forIn_cons, List.forIn_nil]
    apply wpAny_bind
    apply wpAny_bind
    apply wpAny_onRaise
    show wpAny _ _ (Builtin.SmallTypes.nextOf (.ref p) >>= _) _ _ _
    apply wpAny_bind
    refine RZ.nextOf_tuple_item (s := { s with heap := g2 }) (hp1.extBut s2.extBut D.i1z) (ha1.extBut s2.extBut D.l1z) ex fun g3 hp3 s3 => wpAny_pure ?_
    have ho3 : IsPair g3 to x0 y0 := s3.extBut _ _ D.TOi1 (s2.extBut _ _ D.TOz ho1)
    apply wpAny_bind (wpAny_seqItems ho3 rfl _)
    apply wpAny_bind
    apply wpAny_updateSeq_pair ho3
    intro g4 ho4 s4
    replace ho4 : IsPair g4 to x y0 := ho4
    apply wpAny_bind
    apply wpAny_letGo
    apply wpAny_pure
    apply wpAny_bind
    apply wpAny_bind
    apply wpAny_onRaise
    show wpAny _ _ (Builtin.SmallTypes.nextOf (.ref q) >>= _) _ _ _
    apply wpAny_bind
    refine RZ.nextOf_tuple_item (s := { s with heap := g4 }) (((hq1.extBut s2.extBut D.i2z).extBut s3.extBut D.i12.symm).extBut s4.extBut D.TOi2.symm) (((hb1.extBut s2.extBut D.l2z).extBut s3.extBut D.l2i1).extBut s4.extBut D.l2TO) ey fun g5 hq5 s5 => wpAny_pure ?_
    have ho5 : IsPair g5 to x y0 := s5.extBut _ _ D.TOi2 ho4
    apply wpAny_bind (wpAny_seqItems ho5 rfl _)
    apply wpAny_bind
    apply wpAny_updateSeq_pair ho5
    intro g6 ho6 s6
    replace ho6 : IsPair g6 to x y := ho6
    apply wpAny_bind
    apply wpAny_letGo
    apply wpAny_pure
    apply wpAny_pure
    apply wpAny_bind (wpAny_seqItems ho6 rfl _)
    apply wpAny_bind
    refine wpAny_newTuple ?_
    have size6 : g6.objs.size = s.heap.objs.size := by rw [s6.1, s5.1, s4.1, s3.1, s2.1, s1.1]
    have z6 := s6.extBut _ _ D.TOz.symm (s5.extBut _ _ D.i2z.symm (s4.extBut _ _ D.TOz.symm (s3.extBut _ _ D.i1z.symm hz2)))
    have up6 : ∀ c o, c ≠ u → c ≠ to → c ≠ p → c ≠ q → s.heap.get? c = some o → g6.get? c = some o := fun c o n1 n2 n3 n4 e => s6.extBut _ _ n2 (s5.extBut _ _ n4 (s4.extBut _ _ n2 (s3.extBut _ _ n3 (s2.extBut _ _ n1 (s1.extBut _ _ n1 e)))))
    have p6 : g6.IsTupleIter p a (n + 1) := ((hp3.extBut s4.extBut D.TOi1.symm).extBut s5.extBut D.i12).extBut s6.extBut D.TOi1.symm
    have q6 : g6.IsTupleIter q b (n + 1) := hq5.extBut s6.extBut D.TOi2.symm
    have lu : u < g6.objs.size := Heap.lt_size z6
    show wpAny _ _ (Builtin.SmallTypes.ownedTupleHandOut (.ref u) (.ref g6.objs.size) >>= _) _ _ _
    apply wpAny_bind
    unfold Builtin.SmallTypes.ownedTupleHandOut
    have z7 : (g6.push { cls := .type "tuple", data := .seq #[x, y] }).get? u = _ := Heap.get?_push_of_some _ z6
    apply wpAny_bind
    apply wpAny_setField_rec z7 (by simp)
    intro g8 z8 s8
    apply wpAny_setField_rec z8 (by simp)
    intro g9 z9 s9
    have up : ∀ c o, c ≠ u → g6.get? c = some o → g9.get? c = some o := fun c o n1 e => s9.extBut _ _ n1 (s8.extBut _ _ n1 (Heap.get?_push_of_some _ e))
    have new : IsPair g9 g6.objs.size x y := s9.extBut _ _ (Nat.ne_of_gt lu) (s8.extBut _ _ (Nat.ne_of_gt lu) (Heap.get?_push_size _ rfl))
    have size9 : g9.objs.size = g6.objs.size + 1 := by rw [s9.1, s8.1, Heap.size_push]
    refine wpAny_pure ⟨_, rfl, ?_⟩
    show Q (.ref g6.objs.size) _
    rw [size6] at new size9 z9 ⊢
    exact k g9 ⟨⟨_, _, z9, .inr ⟨_, rfl⟩⟩, up _ _ D.TIz (up6 _ _ D.TIz D.TITO D.TIi1 D.TIi2 hi), ⟨_, _, up _ _ D.TOz ho6⟩, p6.at fun o e => up _ o D.i1z e, q6.at fun o e => up _ o D.i2z e⟩ new size9 fun c o n1 n2 n3 n4 e => up c o n1 (up6 c o n1 n2 n3 n4 e)
theorem zu_end {Q : PySem.Fin → Shared → Prop} (hh : A.handled = none) (D : ZipApart u ti to p q a b) (z : ZipAt u ti to p q a b n s.heap) (ha : s.heap.IsTuple a xs) (hb : s.heap.IsTuple b ys) (over : xs[n]? = none ∨ ys[n]? = none)
    (k : ∀ g e, (∀ c o, c ≠ u → c ≠ to → c ≠ p → c ≠ q → s.heap.get? c = some o → g.get? c = some o) → (∃ o, g.get? e = some o ∧ o.cls = .type "StopIteration") → E (.ref e) { s with heap := g }) :
    wpAny (model prog w) A (Builtin.«zip.__next__» ⟨[.ref u], []⟩) Q E s := by
  obtain ⟨⟨f0, f1, hz, hf0⟩, hi, ⟨x0, y0, ho⟩, hp, hq⟩ := id z
  show wpAny _ _ (field (.ref u) 2 >>= _) _ _ _
  apply wpAny_bind (wpAny_field hz rfl (x := .bool false) rfl _)
  show wpAny _ _ (field (.ref u) 3 >>= _) _ _ _
  apply wpAny_bind (wpAny_field hz rfl (x := .ref ti) rfl _)
  apply wpAny_bind (wpAny_seqItems hi rfl _)
  show wpAny _ _ (Builtin.SmallTypes.ownedTupleIsFree (.ref u) >>= _) _ _ _
  apply wpAny_bind
  apply zu_free z.me
  intro g1 r ⟨f2, f3, hz1, hf2⟩ s1
  have ho1 : IsPair g1 to x0 y0 := s1.extBut _ _ D.TOz ho
  have hp1 := hp.extBut s1.extBut D.i1z
  have hq1 := hq.extBut s1.extBut D.i2z
  have ha1 := ha.extBut s1.extBut D.l1z
  have hb1 := hb.extBut s1.extBut D.l2z
  cases r with
  | false =>
    simp only [Bool.false_eq_true, if_false]
    apply wpAny_bind
    rw [← Array.forIn_toList]
    simp only [List.forIn_cons, List.forIn_nil]
    apply wpAny_bind
    apply wpAny_bind
    apply wpAny_holding
    show wpAny _ _ (Builtin.SmallTypes.nextOf (.ref p) >>= _) _ _ _
    cases ex : xs[n]? with
    | none =>
      apply wpAny_bind
      refine RZ.nextOf_tuple_end (s := { s with heap := g1 }) hh hp1 ha1 ex fun g2 e s2 he => ?_
      exact k g2 e (fun c o n1 _ n3 _ h => s2 _ _ n3 (s1.extBut _ _ n1 h)) he
    | some x =>
      have ey : ys[n]? = none := by
        rcases over with h | h
        · rw [ex] at h; cases h
        · exact h
      apply wpAny_bind
      refine RZ.nextOf_tuple_item (s := { s with heap := g1 }) hp1 ha1 ex fun g2 hp2 s2 => wpAny_pure ?_
      apply wpAny_pure
      apply wpAny_bind
      apply wpAny_bind
      apply wpAny_holding
      show wpAny _ _ (Builtin.SmallTypes.nextOf (.ref q) >>= _) _ _ _
      apply wpAny_bind
      refine RZ.nextOf_tuple_end (s := { s with heap := g2 }) hh (hq1.extBut s2.extBut D.i12.symm) (hb1.extBut s2.extBut D.l2i1) ey fun g3 e s3 he => ?_
      exact k g3 e (fun c o n1 _ n3 n4 h => s3 _ _ n4 (s2.extBut _ _ n3 (s1.extBut _ _ n1 h))) he
  | true =>
    simp only [if_true]
    apply wpAny_bind
    apply wpAny_rule
    apply wpAny_bind (wpAny_field hz1 rfl (x := .ref to) rfl _)
    apply wpAny_bind
    apply wpAny_setField_rec hz1 (by simp)
    intro g2 hz2 s2
    apply wpAny_bind
    simp only [List.zipIdx_cons, List.zipIdx_nil, List.forIn_cons, List.forIn_nil]
    apply wpAny_bind
    apply wpAny_bind
    apply wpAny_onRaise
    show wpAny _ _ (Builtin.SmallTypes.nextOf (.ref p) >>= _) _ _ _
    have hp2 := hp1.extBut s2.extBut D.i1z
    have ha2 := ha1.extBut s2.extBut D.l1z
    cases ex : xs[n]? with
    | none =>
      apply wpAny_bind
      refine RZ.nextOf_tuple_end (s := { s with heap := g2 }) hh hp2 ha2 ex fun g3 e s3 ⟨oe, he, ce⟩ => ?_
      have hz3 := s3 _ _ D.i1z.symm hz2
      have ne : e ≠ u := fun z => by
        rw [z, hz3] at he
        cases he
        simp at ce
      exact wpAny_setField_rec hz3 (by simp) fun g4 _ s4 => k g4 e (fun c o n1 _ n3 _ h => s4.extBut _ _ n1 (s3 _ _ n3 (s2.extBut _ _ n1 (s1.extBut _ _ n1 h)))) ⟨oe, s4.extBut _ _ ne he, ce⟩
    | some x =>
      have ey : ys[n]? = none := by
        rcases over with h | h
        · rw [ex] at h; cases h
        · exact h
      apply wpAny_bind
      refine RZ.nextOf_tuple_item (s := { s with heap := g2 }) hp2 ha2 ex fun g3 hp3 s3 => wpAny_pure ?_
      have ho3 : IsPair g3 to x0 y0 := s3.extBut _ _ D.TOi1 (s2.extBut _ _ D.TOz ho1)
      apply wpAny_bind (wpAny_seqItems ho3 rfl _)
      apply wpAny_bind
      apply wpAny_updateSeq_pair ho3
      intro g4 ho4 s4
      apply wpAny_bind
      apply wpAny_letGo
      apply wpAny_pure
      apply wpAny_bind
      apply wpAny_bind
      apply wpAny_onRaise
      show wpAny _ _ (Builtin.SmallTypes.nextOf (.ref q) >>= _) _ _ _
      apply wpAny_bind
      refine RZ.nextOf_tuple_end (s := { s with heap := g4 }) hh (((hq1.extBut s2.extBut D.i2z).extBut s3.extBut D.i12.symm).extBut s4.extBut D.TOi2.symm) (((hb1.extBut s2.extBut D.l2z).extBut s3.extBut D.l2i1).extBut s4.extBut D.l2TO) ey fun g5 e s5 ⟨oe, he, ce⟩ => ?_
      have hz5 := s5 _ _ D.i2z.symm (s4.extBut _ _ D.TOz.symm (s3.extBut _ _ D.i1z.symm hz2))
      have ne : e ≠ u := fun z => by
        rw [z, hz5] at he
        cases he
        simp at ce
      exact wpAny_setField_rec hz5 (by simp) fun g6 _ s6 => k g6 e (fun c o n1 n2 n3 n4 h => s6.extBut _ _ n1 (s5 _ _ n4 (s4.extBut _ _ n2 (s3.extBut _ _ n3 (s2.extBut _ _ n1 (s1.extBut _ _ n1 h)))))) ⟨oe, s6.extBut _ _ ne he, ce⟩
theorem ZipU.type (z : ZipU s.heap u ti to) : s.TypeIs (.ref u) "zip" := by
  obtain ⟨f0, f1, h, _⟩ := z
  exact ⟨_, h, rfl⟩
/-- .. as enumerate asks it -/
theorem zu_next {Q : Value → Shared → Prop} (D : ZipApart u ti to p q a b) (z : ZipAt u ti to p q a b n s.heap) (ha : s.heap.IsTuple a xs) (hb : s.heap.IsTuple b ys) (ex : xs[n]? = some x) (ey : ys[n]? = some y)
    (k : ∀ g, ZipAt u ti to p q a b (n + 1) g → IsPair g s.heap.objs.size x y → g.objs.size = s.heap.objs.size + 1 → (∀ c o, c ≠ u → c ≠ to → c ≠ p → c ≠ q → s.heap.get? c = some o → g.get? c = some o) → Q (.ref s.heap.objs.size) { s with heap := g }) :
    wpAny (model prog w) A (Builtin.SmallTypes.nextOf (.ref u)) Q E s := by
  unfold Builtin.SmallTypes.nextOf
  apply wpAny_bind
  exact wpAny_callSpecial?_slot (name := Str.ofString "__next__") z.me.type F.slot_zip_next (wpAny_call_entry F.slot_zip_next z.me.type F.entry_zip_next (zu_item D z ha hb ex ey fun g a1 a2 a3 a4 => wpAny_pure (k g a1 a2 a3 a4)) (F.args_zip_next_1 _))
theorem zu_stop {Q : Value → Shared → Prop} (hh : A.in1.handled = none) (D : ZipApart u ti to p q a b) (z : ZipAt u ti to p q a b n s.heap) (ha : s.heap.IsTuple a xs) (hb : s.heap.IsTuple b ys) (over : xs[n]? = none ∨ ys[n]? = none)
    (k : ∀ g e, (∀ c o, c ≠ u → c ≠ to → c ≠ p → c ≠ q → s.heap.get? c = some o → g.get? c = some o) → (∃ o, g.get? e = some o ∧ o.cls = .type "StopIteration") → E (.ref e) { s with heap := g }) :
    wpAny (model prog w) A (Builtin.SmallTypes.nextOf (.ref u)) Q E s := by
  unfold Builtin.SmallTypes.nextOf
  apply wpAny_bind
  exact wpAny_callSpecial?_slot (name := Str.ofString "__next__") z.me.type F.slot_zip_next (wpAny_call_entry F.slot_zip_next z.me.type F.entry_zip_next (zu_end hh D z ha hb over k) (F.args_zip_next_1 _))
end
end PL

/-! for i, (x, y) in enumerate(zip(a, b)) -/
namespace PL
open PySem PySem.Spec PyProof.Rows L2
section
variable {prog : Program} {w : World} {A : Around} {E : Value → Shared → Prop} {s : Shared} {m u ti to p q a b : Addr} {i n : Nat} {xs ys : Array Value} {x y old : Value}
/-- the enumerate's own place lies apart -/
def Off (m u ti to p q a b : Addr) : Prop := m ≠ u ∧ m ≠ ti ∧ m ≠ to ∧ m ≠ p ∧ m ≠ q ∧ m ≠ a ∧ m ≠ b
theorem ZipAt.keep {g h : Heap} (z : ZipAt u ti to p q a b n g) (k : ∀ c o, (c = u ∨ c = ti ∨ c = to ∨ c = p ∨ c = q) → g.get? c = some o → h.get? c = some o) : ZipAt u ti to p q a b n h := by
  obtain ⟨⟨f0, f1, hz, hf⟩, hi, ⟨x0, y0, ho⟩, hp, hq⟩ := z
  refine ⟨⟨f0, f1, k _ _ (.inl rfl) hz, hf⟩, k _ _ (.inr (.inl rfl)) hi, ⟨x0, y0, k _ _ (.inr (.inr (.inl rfl))) ho⟩, hp.at fun o e => k _ o (.inr (.inr (.inr (.inl rfl)))) e, hq.at fun o e => k _ o (.inr (.inr (.inr (.inr rfl)))) e⟩
theorem ez_item {Q : Option Value → Shared → Prop} (D : ZipApart u ti to p q a b) (F : Off m u ti to p q a b) (he : IsEnum s.heap m u (n : Nat) old) (z : ZipAt u ti to p q a b n s.heap) (ha : s.heap.IsTuple a xs) (hb : s.heap.IsTuple b ys) (ex : xs[n]? = some x) (ey : ys[n]? = some y)
    (k : ∀ g tk, IsEnumOut g m u ((n : Nat) + 1 : Int) (.ref s.heap.objs.size) (s.heap.objs.size + 1) → ZipAt u ti to p q a b (n + 1) g → IsPair g s.heap.objs.size x y → IsPair g (s.heap.objs.size + 1) (.int (n : Nat) tk) (.ref s.heap.objs.size) →
      g.objs.size = s.heap.objs.size + 2 → (∀ c o, c ≠ m → c ≠ u → c ≠ to → c ≠ p → c ≠ q → s.heap.get? c = some o → g.get? c = some o) → Q (some (.ref (s.heap.objs.size + 1))) { s with heap := g, toks := tk + 1 }) :
    wpAny (model prog w) A (pyNext (.ref m)) Q E s := by
  obtain ⟨m1, m2, m3, m4, m5, m6, m7⟩ := F
  have ty : s.TypeIs (.ref m) "enumerate" := ⟨_, he, rfl⟩
  unfold pyNext
  apply wpAny_bind
  apply wpAny_attempt
  refine wpAny_callSpecial?_slot (name := Str.ofString "__next__") ty F.slot_enumerate_next (wpAny_call_entry F.slot_enumerate_next ty F.entry_enumerate_next ?_ (F.args_enumerate_next_1 _))
  obtain ⟨h0, g0, d0, t0, o0⟩ := s
  show wpAny _ _ (field (.ref m) 2 >>= _) _ _ _
  apply wpAny_bind (wpAny_field he rfl (x := .ref u) rfl _)
  apply wpAny_bind
  refine zu_next (s := ⟨h0, g0, d0, t0, o0⟩) D z ha hb ex ey fun g1 z1 n1 size1 up1 => ?_
  have he1 : IsEnum g1 m u (n : Nat) old := up1 _ _ m1 m3 m4 m5 he
  show wpAny _ _ (field (.ref m) 3 >>= _) _ _ ⟨g1, g0, d0, t0, o0⟩
  apply wpAny_bind (wpAny_field he1 rfl (x := rawInt (n : Nat)) rfl _)
  show wpAny _ _ (field (.ref m) 4 >>= _) _ _ ⟨g1, g0, d0, t0, o0⟩
  apply wpAny_bind (wpAny_field he1 rfl (x := .none) rfl _)
  show wpAny _ _ (mkInt (n : Nat) >>= _) _ _ ⟨g1, g0, d0, t0, o0⟩
  apply wpAny_bind
  apply wpAny_mkInt
  show wpAny _ _ (setField (.ref m) 3 (rawInt ((n : Nat) + 1)) >>= _) _ _ _
  apply wpAny_bind
  apply wpAny_setField_rec he1 (by simp)
  intro g2 he2 s2
  replace he2 : IsEnum g2 m u ((n : Nat) + 1) old := he2
  show wpAny _ _ (setField (.ref m) 4 .none >>= _) _ _ _
  apply wpAny_bind
  apply wpAny_setField_rec he2 (by simp)
  intro g3 he3 s3
  replace he3 : IsEnum g3 m u ((n : Nat) + 1) old := he3
  have size3 : g3.objs.size = h0.objs.size + 1 := by rw [s3.1, s2.1]; exact size1
  show wpAny _ _ (newTuple [.int (n : Nat) t0, .ref h0.objs.size] >>= _) _ _ _
  apply wpAny_bind
  refine wpAny_newTuple ?_
  have he4 : IsEnum (g3.push { cls := .type "tuple", data := .seq #[.int (n : Nat) t0, .ref h0.objs.size] }) m u ((n : Nat) + 1) old := Heap.get?_push_of_some _ he3
  have new4 : IsPair (g3.push { cls := .type "tuple", data := .seq #[.int (n : Nat) t0, .ref h0.objs.size] }) g3.objs.size (.int (n : Nat) t0) (.ref h0.objs.size) := Heap.get?_push_size _ rfl
  have size4 : (g3.push { cls := .type "tuple", data := .seq #[.int (n : Nat) t0, .ref h0.objs.size] }).objs.size = g3.objs.size + 1 := Heap.size_push ..
  have up4 : ∀ c o, c ≠ m → g1.get? c = some o → (g3.push { cls := .type "tuple", data := .seq #[.int (n : Nat) t0, .ref h0.objs.size] }).get? c = some o := fun c o nm e => Heap.get?_push_of_some _ (s3.extBut c o nm (s2.extBut c o nm e))
  generalize hg4 : g3.push { cls := .type "tuple", data := .seq #[.int (n : Nat) t0, .ref h0.objs.size] } = g4 at he4 new4 size4 up4
  rw [size3] at new4 size4 ⊢
  show wpAny _ _ (Builtin.SmallTypes.ownedTupleIsFree (.ref m) >>= _) _ _ _
  apply wpAny_bind
  unfold Builtin.SmallTypes.ownedTupleIsFree
  apply wpAny_bind (wpAny_field he4 rfl (x := .none) rfl _)
  apply wpAny_pure
  simp only [if_true]
  apply wpAny_bind
  apply wpAny_rule
  apply wpAny_bind (wpAny_field he4 rfl (x := old) rfl _)
  apply wpAny_bind
  apply wpAny_setField_rec he4 (by simp)
  intro g5 he5 s5
  replace he5 : IsEnum g5 m u ((n : Nat) + 1) (.ref h0.objs.size) := he5
  show wpAny _ _ (Builtin.SmallTypes.ownedTupleHandOut (.ref m) (.ref (h0.objs.size + 1)) >>= _) _ _ _
  apply wpAny_bind
  unfold Builtin.SmallTypes.ownedTupleHandOut
  apply wpAny_bind
  apply wpAny_setField_rec he5 (by simp)
  intro g6 he6 s6
  apply wpAny_setField_rec he6 (by simp)
  intro g7 he7 s7
  replace he7 : IsEnumOut g7 m u ((n : Nat) + 1) (.ref h0.objs.size) (h0.objs.size + 1) := he7
  apply wpAny_bind
  apply wpAny_letGo
  apply wpAny_pure
  refine ⟨_, rfl, wpAny_pure ?_⟩
  have lm : m < h0.objs.size := Heap.lt_size he
  have up : ∀ c o, c ≠ m → g1.get? c = some o → g7.get? c = some o := fun c o nm e => s7.extBut c o nm (s6.extBut c o nm (s5.extBut c o nm (up4 c o nm e)))
  have nl : h0.objs.size + 1 ≠ m := Nat.ne_of_gt (Nat.lt_succ_of_lt lm)
  refine k g7 t0 he7 (z1.keep fun c o hc e => up c o ?_ e) (up _ _ (Nat.ne_of_gt lm) n1) (s7.extBut _ _ nl (s6.extBut _ _ nl (s5.extBut _ _ nl new4))) ?_ fun c o c1 c2 c3 c4 c5 e => up c o c1 (up1 c o c2 c3 c4 c5 e)
  · rcases hc with r | r | r | r | r
    · exact r ▸ m1.symm
    · exact r ▸ m2.symm
    · exact r ▸ m3.symm
    · exact r ▸ m4.symm
    · exact r ▸ m5.symm
  · rw [s7.1, s6.1, s5.1]
    exact size4
theorem ez_end {Q : Option Value → Shared → Prop} (hh : A.handled = none) (D : ZipApart u ti to p q a b) (he : IsEnum s.heap m u (n : Nat) old) (z : ZipAt u ti to p q a b n s.heap) (ha : s.heap.IsTuple a xs) (hb : s.heap.IsTuple b ys) (over : xs[n]? = none ∨ ys[n]? = none)
    (k : ∀ g, (∀ c o, c ≠ u → c ≠ to → c ≠ p → c ≠ q → s.heap.get? c = some o → g.get? c = some o) → Q none { s with heap := g }) : wpAny (model prog w) A (pyNext (.ref m)) Q E s := by
  have ty : s.TypeIs (.ref m) "enumerate" := ⟨_, he, rfl⟩
  unfold pyNext
  apply wpAny_bind
  apply wpAny_attempt
  refine wpAny_callSpecial?_slot (name := Str.ofString "__next__") ty F.slot_enumerate_next (wpAny_call_entry F.slot_enumerate_next ty F.entry_enumerate_next ?_ (F.args_enumerate_next_1 _))
  show wpAny _ _ (field (.ref m) 2 >>= _) _ _ _
  apply wpAny_bind (wpAny_field he rfl (x := .ref u) rfl _)
  apply wpAny_bind
  refine zu_stop (by exact hh) D z ha hb over fun g e up he' => ?_
  have te : Shared.TypeIs { s with heap := g } (.ref e) "StopIteration" := he'
  apply wpAny_bind
  exact wpAny_isInstance te isSubtype_stop (wpAny_pure (k g up))
end
/-- what lies in the heap is told of too -/
theorem inv_lay {X : Cx} {pins : List (Addr × Obj)} {σ : L2.St} {H : Hp} {s : Shared} {T : Addr} {ob : HO} (I : Inv X pins σ H s) (hf : FpOk X pins H T) (new : ObjOk X.prog X.w (upd H T ob) s.heap T ob) : Inv X pins σ (upd H T ob) s := by
  obtain ⟨hn, f1, f2, f3, f4, f5⟩ := hf
  have ne : ∀ b u, H b = some u → b ≠ T := fun b u e z => by rw [z, hn] at e; cases e
  refine I.step (t' := s.toks) (h' := s.heap) (g' := s.gens) (d' := s.drawn) (ch := [T]) (fun b hb => ?_) (fun b o _ _ _ e _ => e) (fun b o _ _ _ e _ => ⟨o.slots, e⟩) (fun b o hc _ e => ?_) (fun b o _ e => ⟨o, e⟩) (fun b xs e => ?_) (fun b o u e => ?_) (fun b ps e => ⟨#[], ?_⟩) (fun m hm => hm) (fun b u e => ?_) I.bare
  · cases List.mem_singleton.mp hb
    exact ⟨f3, f1, f4, f5⟩
  · rw [upd_ne fun z => hc (List.mem_singleton.mpr z)]; exact e
  · rw [upd_ne (ne b _ e)]; exact e
  · rw [upd_ne (ne b _ e)]; exact e
  · rw [upd_ne (ne b _ e), e]; simp
  · by_cases hb : b = T
    · subst hb
      rw [upd_same] at e
      cases e
      exact new
    · rw [upd_ne hb] at e
      exact (I.hok b u e).stay (fun c v _ q => q) (fun c q => by rw [upd_ne (ne c _ q)]; exact q) fun c xs q => by rw [upd_ne (ne c _ q)]; exact q
/-- (index, (item, item)) -/
def EzT (K : PySem.W.Frag) (a b : Addr) : It where
  go := fun i H => ∃ (xs ys : List V) (x y : V), SqT K H a xs ∧ SqT K H b ys ∧ xs[i]? = some x ∧ ys[i]? = some y
  yld := fun i H v H' => ∃ U T x y, v = .ref T ∧ H U = none ∧ H T = none ∧ U ≠ T ∧ H' = upd (upd H U (.tup [x, y])) T (.tup [.int (i : Nat), .ref U]) ∧ (∀ xs, SqT K H a xs → xs[i]? = some x) ∧ ∀ ys, SqT K H b ys → ys[i]? = some y
  stop := fun i H => ∃ xs ys : List V, SqT K H a xs ∧ SqT K H b ys ∧ (xs.length ≤ i ∨ ys.length ≤ i)
theorem turn_ez {P : Program} {w : World} {K : PySem.W.Frag} {elts : List Expr} {kk : Nat} {tpos : Pos} {m u ti to p q a b : Addr} (D : ZipApart u ti to p q a b) (F : Off m u ti to p q a b) :
    Turn P w K (.Tuple elts kk tpos) (EzT K a b) [m, u, ti, to, p, q] m (fun i h => (∃ old, IsEnum h m u (i : Nat) old) ∧ ZipAt u ti to p q a b i h) where
  mem := by simp
  obj := fun i h st c hc => by
    obtain ⟨⟨old, he⟩, ⟨f0, f1, hz, _⟩, hi, ⟨x0, y0, ho⟩, ⟨o1, e1, _, d1⟩, ⟨o2, e2, _, d2⟩⟩ := st
    have hc' : c = m ∨ c = u ∨ c = ti ∨ c = to ∨ c = p ∨ c = q := by simpa using hc
    rcases hc' with r | r | r | r | r | r
    · exact r ▸ ⟨_, he, fun v z => nomatch z⟩
    · exact r ▸ ⟨_, hz, fun v z => nomatch z⟩
    · exact r ▸ ⟨_, hi, fun v z => nomatch z⟩
    · exact r ▸ ⟨_, ho, fun v z => nomatch z⟩
    · exact r ▸ ⟨o1, e1, fun v z => by rw [d1] at z; cases z⟩
    · exact r ▸ ⟨o2, e2, fun v z => by rw [d2] at z; cases z⟩
  keep := fun i h h' st k => by
    obtain ⟨⟨old, he⟩, z⟩ := st
    refine ⟨⟨old, k m (by simp) _ he⟩, z.keep fun c o hc e => k c ?_ o e⟩
    rcases hc with r | r | r | r | r <;> subst r <;> simp
  item := by
    intro X hP hw hK hc i pins s σ H E I hf st hg
    subst hP hw hK
    obtain ⟨⟨old, he⟩, z⟩ := st
    obtain ⟨xs, ys, x, y, hqx, hqy, hx, hy⟩ := hg
    obtain ⟨its, rv, pa, _⟩ := I.tuple hqx
    obtain ⟨its2, rv2, pb, _⟩ := I.tuple hqy
    obtain ⟨v, hv, ru⟩ := rv.get hx
    obtain ⟨v2, hv2, ru2⟩ := rv2.get hy
    have lm : m < s.heap.objs.size := Heap.lt_size he
    refine ez_item D F he z (show s.heap.IsTuple a its.toArray from pa) (show s.heap.IsTuple b its2.toArray from pb) (x := v) (y := v2) (by simpa using hv) (by simpa using hv2) fun g tk he1 z1 n1 n2 size1 up => ?_
    refine ⟨_, rfl, wpAny_letOwnedTupleGo_enum (s := { s with heap := g, toks := tk + 1 }) he1 fun h2 he2 sb => ?_⟩
    have nm : s.heap.objs.size ≠ m := Nat.ne_of_gt lm
    have nm1 : s.heap.objs.size + 1 ≠ m := Nat.ne_of_gt (Nat.lt_succ_of_lt lm)
    have w1 : IsPair h2 s.heap.objs.size v v2 := (sb.2 _ nm).trans n1
    have w2 : IsPair h2 (s.heap.objs.size + 1) (.int (i : Nat) tk) (.ref s.heap.objs.size) := (sb.2 _ nm1).trans n2
    have hn : H s.heap.objs.size = none := I.hok.fresh (Nat.le_refl _)
    have hn1 : H (s.heap.objs.size + 1) = none := I.hok.fresh (Nat.le_succ _)
    have ne : s.heap.objs.size ≠ s.heap.objs.size + 1 := (Nat.succ_ne_self _).symm
    have new : ObjOk X.prog X.w (upd H s.heap.objs.size (.tup [x, y])) h2 s.heap.objs.size (.tup [x, y]) :=
      ⟨by show 2 ≤ sizeLine; decide, [v, v2], .cons ru (.cons ru2 .nil), ⟨_, w1, rfl, _, rfl⟩⟩
    have I1 : Inv X pins σ (upd H s.heap.objs.size (.tup [x, y])) { s with heap := h2, toks := tk + 1 } := by
      refine I.turnedNew (ch := [m, u, ti, to, p, q]) (fun c o hb e => ?_) hf (Nat.le_refl _) new
      simp only [List.mem_cons, List.not_mem_nil, or_false, not_or] at hb
      exact (sb.2 c hb.1).trans (up c o hb.1 hb.2.1 hb.2.2.2.1 hb.2.2.2.2.1 hb.2.2.2.2.2 e)
    have hn2 : upd H s.heap.objs.size (.tup [x, y]) (s.heap.objs.size + 1) = none := by rw [upd_ne ne.symm]; exact hn1
    have new2 : ObjOk X.prog X.w (upd (upd H s.heap.objs.size (.tup [x, y])) (s.heap.objs.size + 1) (.tup [.int (i : Nat), .ref s.heap.objs.size])) h2 (s.heap.objs.size + 1) (.tup [.int (i : Nat), .ref s.heap.objs.size]) :=
      ⟨by show 2 ≤ sizeLine; decide, [.int (i : Nat) tk, .ref s.heap.objs.size], .cons ⟨_, rfl⟩ (.cons rfl .nil), ⟨_, w2, rfl, _, rfl⟩⟩
    have I2 := inv_lay I1 (I.fpOk (Nat.le_succ _) hn2) new2
    refine ⟨.ref (s.heap.objs.size + 1), _, I2, rfl, ⟨s.heap.objs.size, s.heap.objs.size + 1, x, y, rfl, hn, hn1, ne, rfl, fun l hl => by rw [I.tuple_inj hl hqx]; exact hx, fun l hl => by rw [I.tuple_inj hl hqy]; exact hy⟩, ⟨⟨.ref s.heap.objs.size, ?_⟩, z1.keep fun c o hc e => (sb.2 c ?_).trans e⟩, fun c hcm => ?_⟩
    · have e1 : ((i + 1 : Nat) : Int) = (i : Int) + 1 := by omega
      rw [e1]
      exact he2
    · obtain ⟨m1, m2, m3, m4, m5, _⟩ := F
      rcases hc with r | r | r | r | r
      · exact r ▸ m1.symm
      · exact r ▸ m2.symm
      · exact r ▸ m3.symm
      · exact r ▸ m4.symm
      · exact r ▸ m5.symm
    · have lt : c < s.heap.objs.size := by
        obtain ⟨⟨f0, f1, hz, _⟩, hi, ⟨x0, y0, ho⟩, ⟨o1, e1, _⟩, ⟨o2, e2, _⟩⟩ := z
        have hc' : c = m ∨ c = u ∨ c = ti ∨ c = to ∨ c = p ∨ c = q := by simpa using hcm
        rcases hc' with r | r | r | r | r | r
        · exact r ▸ lm
        · exact r ▸ Heap.lt_size hz
        · exact r ▸ Heap.lt_size hi
        · exact r ▸ Heap.lt_size ho
        · exact r ▸ Heap.lt_size e1
        · exact r ▸ Heap.lt_size e2
      rw [upd_ne (Nat.ne_of_lt (Nat.lt_succ_of_lt lt)), upd_ne (Nat.ne_of_lt lt)]
      exact (hf c hcm).1
  done := by
    intro X hP hw hK hc i pins s σ H E I hf st hg
    subst hP hw hK
    obtain ⟨⟨old, he⟩, z⟩ := st
    obtain ⟨xs, ys, hqx, hqy, over⟩ := hg
    obtain ⟨its, rv, pa, _⟩ := I.tuple hqx
    obtain ⟨its2, rv2, pb, _⟩ := I.tuple hqy
    have l1 := rv.length
    have l2 := rv2.length
    have ov : its.toArray[i]? = none ∨ its2.toArray[i]? = none := by
      rcases over with r | r
      · left; simp; omega
      · right; simp; omega
    refine ez_end (I.ok.hd hc) D he z (show s.heap.IsTuple a its.toArray from pa) (show s.heap.IsTuple b its2.toArray from pb) ov fun g up => ⟨rfl, I.turnedL (t' := s.toks) (ch := [m, u, ti, to, p, q]) (fun c o hb e => ?_) hf⟩
    simp only [List.mem_cons, List.not_mem_nil, or_false, not_or] at hb
    exact up c o hb.2.1 hb.2.2.2.1 hb.2.2.2.2.1 hb.2.2.2.2.2 e
  self := fun A i s Q E st h => by
    obtain ⟨⟨_, he⟩, _⟩ := st
    exact wpAny_pyIter_enum he h
theorem yields_ez {K : PySem.W.Frag} {Z : Hp} {a b : Addr} {vs us : List V} {ds es : List D} (h1 : Z a = some (.tup vs)) (dv : Dqs Z vs ds) (h2 : Z b = some (.tup us)) (du : Dqs Z us es) : Yields K (EzT K a b) Z (pairsD (zipD ds es)) := by
  have l1 := dps_len dv
  have l2 := dps_len du
  have ln : (pairsD (zipD ds es)).length = min ds.length es.length := by simp [pairsD, zipD_len]
  refine ⟨fun i H zh hi => ?_, fun H zh => ?_, fun F i v H H' Zc hi zz f fd ⟨U, T, x, y, e1, nU, nT, ne, e2, hx, hy⟩ => ?_⟩
  · rw [ln] at hi
    exact ⟨vs, us, vs[i]'(by omega), us[i]'(by omega), SqT.of (zh _ _ h1), SqT.of (zh _ _ h2), List.getElem?_eq_getElem _, List.getElem?_eq_getElem _⟩
  · refine ⟨vs, us, SqT.of (zh _ _ h1), SqT.of (zh _ _ h2), ?_⟩
    rw [ln]
    omega
  · subst e1
    subst e2
    rw [ln] at hi
    have hz1 : Zc a = some (.tup vs) := zz _ _ h1
    have hz2 : Zc b = some (.tup us) := zz _ _ h2
    have gx := hx vs (SqT.of (f.zh _ _ hz1))
    have gy := hy us (SqT.of (f.zh _ _ hz2))
    obtain ⟨d, hd, dq⟩ := dps_get' (dps_mono zz _ _ dv) gx
    obtain ⟨d2, hd2, dq2⟩ := dps_get' (dps_mono zz _ _ du) gy
    have zU : Zc U = none := by
      cases r : Zc U with
      | none => rfl
      | some o => rw [f.zh _ _ r] at nU; cases nU
    have s1 : Same Zc (upd Zc U (.tup [x, y])) := Same.made zU
    have f1 := Fr.made (o := .tup [x, y]) f fd nU
    have fd1 := fd.made (o := .tup [x, y]) nU
    have nT1 : upd H U (.tup [x, y]) T = none := by rw [upd_ne ne.symm]; exact nT
    have zT : upd Zc U (.tup [x, y]) T = none := by
      cases r : upd Zc U (.tup [x, y]) T with
      | none => rfl
      | some o => rw [f1.zh _ _ r] at nT1; cases nT1
    have s2 := Same.made (o := .tup [.int (i : Nat), .ref U]) zT
    refine ⟨_, .tuple [.int (i : Int), .tuple [d, d2]], f1.trans (Fr.made (Fr.refl f1.zh f1.notF) fd1 nT1), fd1.made nT1, ?_, Dq.tup upd_same (.cons (Dq.int _) (.cons (Dq.tup (s2 _ _ upd_same) (.cons (dp_mono s2 _ _ (dp_mono s1 _ _ dq)) (.cons (dp_mono s2 _ _ (dp_mono s1 _ _ dq2)) .nil))) .nil))⟩
    have z := zipD_get hd hd2
    have li : i < (zipD ds es).length := by rw [zipD_len]; omega
    unfold pairsD
    rw [List.getElem?_map, List.getElem?_range li, Option.map_some, List.getD_eq_getElem?_getD, z]
    rfl
theorem off_new {N a b : Nat} (ha : a < N) (hb : b < N) : Off (N + 5) (N + 4) (N + 2) (N + 3) N (N + 1) a b :=
  ⟨show (N + 5 : Nat) ≠ N + 4 by omega, show (N + 5 : Nat) ≠ N + 2 by omega, show (N + 5 : Nat) ≠ N + 3 by omega, show (N + 5 : Nat) ≠ N by omega, show (N + 5 : Nat) ≠ N + 1 by omega, show (N + 5 : Nat) ≠ a by omega, show (N + 5 : Nat) ≠ b by omega⟩
/-- enumerate(v), v an iterator itself -/
theorem new_enumI {v : Value} {J : Heap → Prop} (B : ∀ (prog : Program) (w : World) (A : Around) (E : Value → Shared → Prop) (s : Shared) (Q : Value → Shared → Prop), J s.heap → Q v s → wpAny (model prog w) A (pyIter v) Q E s) :
    Meets (Builtin.«enumerate.__new__» ⟨[.type "enumerate", v], []⟩) (fun _ R s => J s.heap ∧
      R (.ok (.ret (.ref s.heap.objs.size))) { s with heap := s.heap.push { cls := .type "enumerate", data := .fields #[.none, .bool false, v, rawInt 0, .none, .none] } }) :=
  .of_wp fun prog w A R s h => by
    obtain ⟨hh, g, d, tk, os⟩ := s
    obtain ⟨h1, h2⟩ := h
    have it : ∀ (A : Around) (E : Value → Shared → Prop) (Q : Value → Shared → Prop), Q v ⟨hh, g, d, tk, os⟩ → wpAny (model prog w) A (pyIter v) Q E ⟨hh, g, d, tk, os⟩ := fun A E Q q => B prog w A E _ Q h1 q
    have hsub := sub_enumerate
    wp_walk
    refine wpAny_stack_any fun st => wpAny_pure ?_
    split
    · rename_i c _ _ _ _ _
      cases (c == Value.type "enumerate")
      · wp_walk using it
        exact ⟨_, rfl, h2⟩
      · wp_walk using it
        exact ⟨_, rfl, h2⟩
    · wp_walk using it
      exact ⟨_, rfl, h2⟩
section
variable {prog : Program} {w : World} {A : Around} {E : Value → Shared → Prop} {s : Shared}
theorem call_enumI {v : Value} {J : Heap → Prop} {Q : Value → Shared → Prop} (B : ∀ (prog : Program) (w : World) (A : Around) (E : Value → Shared → Prop) (s : Shared) (Q : Value → Shared → Prop), J s.heap → Q v s → wpAny (model prog w) A (pyIter v) Q E s) (h1 : J s.heap)
    (h : ∀ g, g.get? s.heap.objs.size = some { cls := .type "enumerate", dict := none, data := .fields #[.none, .bool false, v, rawInt 0, .none, .none], slots := #[] } → (∀ b u, s.heap.get? b = some u → g.get? b = some u) → Q (.ref s.heap.objs.size) { s with heap := g }) :
    wpAny (model prog w) A (call (.type "enumerate") [v]) Q E s := by
  have at1 := Heap.get?_push_size s.heap (o := { cls := .type "enumerate", data := .fields #[.none, .bool false, v, rawInt 0, .none, .none] }) rfl
  refine callType_new F.called_enumerate (by decide) (F.typeCall_enumerate_1 _) (F.newCall_enumerate_1 _) (fun obj => F.args_object_init_2 obj _) F.entry_enumerate_new (new_enumI B) ⟨h1, ?_⟩
  exact ⟨⟨_, at1, rfl⟩, h _ at1 fun b u e => Heap.get?_push_of_some _ e⟩
end
section
variable {C : Cp}
def wEnumZ (r : WA) : WI := fun ρ q e => r ρ (fun ss => ∃ ds es, ss = [.dat (.tuple ds), .dat (.tuple es)] ∧ q (pairsD (zipD ds es))) e
theorem i_enumZ {elts : List Expr} {kk : Nat} {tpos p pos p2 pos2 : Pos} {a b : Expr} {r : WA} (hg : Gl C.X "enumerate") (hm : C.X.mg "enumerate" = none) (hg2 : Gl C.X "zip") (hm2 : C.X.mg "zip" = none) (ha : A C [a, b] r)
    (hs : starEach [a, b] C.X.env = (false, eval a C.X.env) :: starEach [b] C.X.env := by rfl) (hpl : (backTo pos2 (starEach [b] C.X.env)).any (·.1) = false := by rfl) (hs1 : starEach [.Call (.Name "zip" p2) [a, b] [] pos2] C.X.env = (false, eval (.Call (.Name "zip" p2) [a, b] [] pos2) C.X.env) :: starEach [] C.X.env := by rfl) :
    Iter C (.Tuple elts kk tpos) (.Call (.Name "enumerate" p) [.Call (.Name "zip" p2) [a, b] [] pos2] [] pos) (wEnumZ r) := by
  constructor
  intro pins s σ H R I ⟨Z, ρ, q, ex, st, hw, k, ke⟩
  refine Call_ (ld_blt I hg hm boot_enumerate ?_)
  refine PyProof.Rows.callWith_type1 (PyProof.Rows.args_cons ?_ hs1) hs1 rfl
  refine Call_ (ld_blt I hg2 hm2 PyProof.Rows.boot_zip ?_)
  refine PyProof.Rows.callWith_type1 (thn (ha.run pos2 pins s σ H (fun vs H1 => ∃ x y Z1 ds es, vs = [x, y] ∧ Fr C.F H Z H1 Z1 ∧ FeedOk C.F H1 ∧ Dq Z1 x (.tuple ds) ∧ Dq Z1 y (.tuple es) ∧ q (pairsD (zipD ds es))) I ?_) fun us s1 ⟨vs, H1, I1, r1, q1⟩ => ?_) hs hpl
  · refine ⟨Z, ρ, _, ex, st, hw, fun ss vs H1 Z1 f fd sv ⟨ds, es, e, hq⟩ => ?_, ke⟩
    subst e
    obtain ⟨x, y, rfl, h1, h2⟩ := svs2 sv
    exact ⟨x, y, Z1, ds, es, rfl, f, fd, h1, h2, hq⟩
  · obtain ⟨x, y, Z1, ds, es, ev, f, fd, dx, dy, hq⟩ := q1
    subst ev
    cases dx with
    | @tup ax vx _ x1 x2 =>
    cases dy with
    | @tup ay vy _ y1 y2 =>
    cases r1 with
    | cons r rr =>
    cases rr with
    | cons r' rr =>
    cases rr
    cases r
    cases r'
    obtain ⟨its, rv, pa, _⟩ := I1.tuple (SqT.of (f.zh _ _ x1))
    obtain ⟨its2, rv2, pb, _⟩ := I1.tuple (SqT.of (f.zh _ _ y1))
    obtain ⟨o1, ho1, _⟩ := id pa
    obtain ⟨o2, ho2, _⟩ := id pb
    have l1 := Heap.lt_size ho1
    have l2 := Heap.lt_size ho2
    have D := PySem.W.ktu_apart s1.heap.objs.size ax ay l1 l2
    refine RZ.call_zipT (show s1.heap.IsTuple ax its.toArray from pa) (show s1.heap.IsTuple ay its2.toArray from pb) fun g hz hi ho hp hq' size k1 => ?_
    have z0 : ZipAt (s1.heap.objs.size + 4) (s1.heap.objs.size + 2) (s1.heap.objs.size + 3) s1.heap.objs.size (s1.heap.objs.size + 1) ax ay 0 g := ⟨⟨_, _, hz, .inl rfl⟩, hi, ⟨_, _, ho⟩, hp, hq'⟩
    refine PyProof.Rows.args_nil ?_
    refine call_enumI (J := fun h => IsZip h (s1.heap.objs.size + 4) (s1.heap.objs.size + 2) (s1.heap.objs.size + 3) .none) (fun prog w A E s Q hz h => wpAny_pyIter_zip hz h) hz fun g2 he k2 => wpAny_pyIter_enum he ?_
    have I2 : Inv C.X pins σ H1 { s1 with heap := g2 } := I1.kept (t' := s1.toks) fun c o e => k2 c o (k1 c o e)
    have gsize : g.objs.size = s1.heap.objs.size + 5 := size
    have off : Off g.objs.size (s1.heap.objs.size + 4) (s1.heap.objs.size + 2) (s1.heap.objs.size + 3) s1.heap.objs.size (s1.heap.objs.size + 1) ax ay := by
      rw [gsize]
      exact off_new l1 l2
    refine ⟨g.objs.size, [g.objs.size, s1.heap.objs.size + 4, s1.heap.objs.size + 2, s1.heap.objs.size + 3, s1.heap.objs.size, s1.heap.objs.size + 1], _, _, H1, rfl, I2, turn_ez D off, ⟨⟨.none, he⟩, z0.keep fun c o _ e => k2 c o e⟩, fun c hc => ?_, k _ _ H1 Z1 f fd (yields_ez x1 x2 y1 y2) hq⟩
    have hle : s1.heap.objs.size ≤ c := by
      rw [gsize] at hc
      simp only [List.mem_cons, List.not_mem_nil, or_false] at hc
      rcases hc with r | r | r | r | r | r
      · rw [r]; exact Nat.le_add_right _ _
      · rw [r]; exact Nat.le_add_right _ _
      · rw [r]; exact Nat.le_add_right _ _
      · rw [r]; exact Nat.le_add_right _ _
      · rw [r]; exact Nat.le_refl _
      · rw [r]; exact Nat.le_add_right _ _
    exact I1.fpOk hle (I1.hok.fresh hle)
def xEnumZ (r : XA) : XI := fun ρ => rbind (r ρ) fun ss => match ss with
  | [.dat (.tuple ds), .dat (.tuple es)] => ok (pairsD (zipD ds es))
  | _ => none
theorem xi_enumZ {elts : List Expr} {kk : Nat} {tpos p pos p2 pos2 : Pos} {a b : Expr} {r : XA} (hg : Gl C.X "enumerate") (hm : C.X.mg "enumerate" = none) (hg2 : Gl C.X "zip") (hm2 : C.X.mg "zip" = none) (ha : A C [a, b] (ofA r))
    (hs : starEach [a, b] C.X.env = (false, eval a C.X.env) :: starEach [b] C.X.env := by rfl) (hpl : (backTo pos2 (starEach [b] C.X.env)).any (·.1) = false := by rfl) (hs1 : starEach [.Call (.Name "zip" p2) [a, b] [] pos2] C.X.env = (false, eval (.Call (.Name "zip" p2) [a, b] [] pos2) C.X.env) :: starEach [] C.X.env := by rfl) :
    Iter C (.Tuple elts kk tpos) (.Call (.Name "enumerate" p) [.Call (.Name "zip" p2) [a, b] [] pos2] [] pos) (ofI (xEnumZ r)) :=
  i_weak (i_enumZ hg hm hg2 hm2 ha hs hpl hs1) fun ρ q e h => ofR_q (ofR_bind h) fun ss h => by
    split at h
    · exact ⟨_, _, rfl, h⟩
    · exact h.elim
end
end PL

/-! isinstance(e, D), e the exception in hand -/
namespace PL
open PySem PySem.Spec PyProof.Rows L2
/-- what isinstance asks of an exception's class -/
structure ExI (K : PySem.W.Frag) (C : Addr) : Prop where
  xf : XfC K C
  cl : PySem.W.findIn K (.ref C) "__class__" = some (some (.builtin "object.__class__"))
  gs : PySem.W.specialIn K (.builtin "object.__class__") "__get__" = some (some (.builtin "getset_descriptor.__get__"))
  tk : PySem.W.takesIn K (.builtin "object.__class__") = some true
  ob : PySem.W.mroIn K C (.type "object") = some true
def isX (K : PySem.W.Frag) (a C dd : Addr) : List V → Hp → VK → Prop := fun xs H Q => ∃ (c : V) (cv : Value) (b : Bool) (fs : List (Str × V)), xs = [.ref a, c] ∧ H dd = some (.xd fs) ∧ (∀ u, L2.RelV c u → u = cv) ∧ PySem.W.kitOne K (.ref C) cv = some b ∧ Q (.bl b) H
theorem call_isX {X : Cx} {a C dd : Addr} {oe : Obj} {pn : List (Addr × Obj)} (T : ExI X.K C) (hz : Zc (.ref C) (some dd) oe) (hf : ∃ vs, oe.data = .fields vs) : CallR (X.suite a ((a, oe) :: pn)) (.builtin "isinstance") (isX X.K a C dd) := by
  intro pins s σ H xs us Q I r ⟨c, cv, b, fs, e, hd, hc, hk, q⟩
  subst e
  obtain ⟨u1, us1, e1, r1, rr⟩ : ∃ u1 us1, us = u1 :: us1 ∧ L2.RelV (.ref a) u1 ∧ Vals [c] us1 := by
    cases r with
    | cons r1 rr => exact ⟨_, _, rfl, r1, rr⟩
  subst e1
  obtain ⟨u2, e2, r2⟩ := vals1 rr
  subst e2
  cases (show u1 = Value.ref a from r1)
  cases hc _ r2
  obtain ⟨here, _⟩ := I.pin (a, oe) (List.mem_append_left _ List.mem_cons_self)
  obtain ⟨vs, hv⟩ := hf
  obtain ⟨mA, hns, _⟩ : ObjOk X.prog X.w H s.heap dd (.xd fs) := I.hok dd _ hd
  obtain ⟨od, ho, _⟩ := lookIn_ns hns
  have J : PySem.W.InstAt s.heap a oe C (some od) := ⟨here, hz.1, by unfold PySem.W.notCls; rw [hv] <;> rfl, by rw [hz.2]; exact ho⟩
  have hcl : (PySem.W.clsIn X.K C).isSome = true := by
    obtain ⟨cd, h1, _⟩ := PySem.W.any_some T.xf.hdC
    rw [h1] <;> rfl
  exact PySem.W.kia_one (PySem.W.kitx_exc hcl T.xf.ga T.xf.gg T.xf.exC T.cl T.gs T.tk T.ob) I.kIn J hk (fun z => nomatch z) fun tk => ⟨.bl b, H, I.tok _, rfl, q⟩
/-- what a name of a class stands for: a class of the text, or one built in -/
def ClassAt (mg : Str → Option Value) (y : Str) (cv : Value) : Prop := (∃ D, mg y = some (.ref D) ∧ cv = .ref D) ∨ ∃ T, mg y = none ∧ bootBuiltins y = some (.type T) ∧ y ≠ "__name__" ∧ cv = .type T
/-- whether instances of x are instances of y: what the text says -/
def IsaOk (K : PySem.W.Frag) (mg : Str → Option Value) (isa : Str → Str → Option Bool) : Prop := ∀ x y b, isa x y = some b → ∃ C cv, mg x = some (.ref C) ∧ ExI K C ∧ ClassAt mg y cv ∧ (y == ("__debug__" : Str)) = false ∧ PySem.W.kitOne K (.ref C) cv = some b
def xIsE (i : Nat) (a : Addr) (b : Option Bool) : X := fun ρ => match ρ[i]? with
  | some (some (.raw (.ref c))) => if c = a then opt (b.map fun b => S.dat (.bool b)) else none
  | _ => none
theorem x_isE {Y : Cx} {F : Option Fd} {a : Addr} {oe : Obj} {cls : Value} {d : Option Addr} {pn : List (Addr × Obj)} {G Z : Hp} {xn : Xn} {i : Nat} {y n : Str} {isa : Str → Str → Option Bool} {p p1 p2 pos : Pos} (hI : IsaOk Y.K Y.mg isa) (hz : Zc cls d oe) (hf : ∃ vs, oe.data = .fields vs) (xv : XVm Y.mg cls d G Z xn)
    (hg : Gl Y "isinstance") (hm : Y.mg "isinstance" = none) (hg2 : Gl Y n) (hv : PE (Y.suite a ((a, oe) :: pn)) (.Name y p1) (tVar i))
    (hb : bootBuiltins "isinstance" = some (.builtin "isinstance") := by decide +kernel) (h1 : starEach [.Name y p1, .Name n p2] Y.env = (false, eval (.Name y p1) Y.env) :: starEach [.Name n p2] Y.env := by rfl) (h2 : (backTo pos (starEach [.Name n p2] Y.env)).any (·.1) = false := by rfl) :
    E (suC Y F (XVm Y.mg) a oe pn G Z) (.Call (.Name "isinstance" p) [.Name y p1, .Name n p2] [] pos) (ofX (xIsE i a (isa xn.cls n))) := by
  obtain ⟨C0, dd, fs, hmx, ec, ed, hzd, hk, hq⟩ := xv
  cases hb' : isa xn.cls n with
  | none =>
    refine ⟨fun pins s σ H Q I ⟨Z1, ρ, q, ex, st, hw, k, ke⟩ => ?_⟩
    exfalso
    unfold ofX xIsE at hw
    split at hw
    · split at hw
      · exact hw
      · exact hw
    · exact hw
  | some b =>
    obtain ⟨C, cv, m1, T, cl, db, kit⟩ := hI _ _ _ hb'
    rw [hmx] at m1
    cases m1
    subst ec
    subst ed
    have nm : ∃ v, PE (Y.suite a ((a, oe) :: pn)) (.Name n p2) (tC v) ∧ ∀ u, L2.RelV v u → u = cv := by
      rcases cl with ⟨D, hD, e⟩ | ⟨T', hn, hv', ne, e⟩
      · exact ⟨.ref D, pe_glob hg2 hD rfl db, fun u r => by rw [e]; exact r⟩
      · exact ⟨.ty T', pe_bltn hg2 hn hv' rfl ne db, fun u r => by rw [e]; exact r⟩
    obtain ⟨v, hn, only⟩ := nm
    refine weakE (pe_callB (call_isX (dd := dd) T hz hf) hg hm hb (pa_cons hv (pa_cons hn pa_nil)) (by decide) (by decide) h1 h2) fun σ H Q ⟨Z1, ρ, q, ex, st, hw, k, ke⟩ => ?_
    unfold ofX xIsE at hw
    split at hw
    · rename_i c hr
      split at hw
      · rename_i hca
        subst hca
        obtain ⟨v1, ev, sv⟩ := st.env i _ hr
        have sv : v1 = .ref c := sv
        subst sv
        have zz := st.fr.zz
        refine ⟨.ref c, ev, ?_⟩
        exact ⟨v, cv, b, fs, rfl, st.fr.zh _ _ (zz _ _ hzd), only, kit, k.here st (s := .dat (.bool b)) (Dq.bl _) hw⟩
      · exact hw.elim
    · exact hw.elim
end PL

/-! a < b < c as a value; a part that is never reached -/
namespace PL
open PySem PySem.Spec PyProof.Rows L2
section
variable {C : Cp} {a b c : Expr} {pos : Pos}
def wChainE (o1 o2 : O2) (wa wb wc : W) : W := fun ρ q e => wChain o1 o2 wa wb wc ρ (fun b => q (.dat (.bool b))) e
theorem e_chain {op op' : CmpOp} {o1 o2 : O2} {wa wb wc : W} (h1 : Op C (compareOp op) o1) (h2 : Op C (compareOp op') o2) (ha : E C a wa) (hb : E C b wb) (hc : E C c wc)
    (hm : lastMarks [op, op'] [b, c] = false := by with_unfolding_all rfl) : E C (.Compare a [op, op'] [b, c] pos) (wChainE o1 o2 wa wb wc) :=
  weakE (pe_chain h1 h2 ha hb hc hm) fun σ H Q ⟨Z, ρ, q, ex, st, hw, k, ke⟩ => by
    refine ⟨Z, ρ, _, ex, st, hw, fun s x H1 Z1 f1 fd1 sv1 q1 => ?_, ke⟩
    refine ⟨Z1, ρ, _, ex, st.next f1 fd1, q1, fun t y H2 Z2 f2 fd2 sv2 q2 => ?_, ke.next f1⟩
    refine ⟨Z2, s, t, _, ⟨Fr.refl f2.zh f2.notF, fd2, fun r v H3 Z3 f3 fd3 sv3 ⟨b, e3, q3⟩ => ?_⟩, sv1.next f2, sv2, q2⟩
    subst e3
    cases (show Dq Z3 v (.bool b) from sv3)
    have f13 := (f1.trans f2).trans f3
    refine ⟨b, rfl, ?_⟩
    cases b with
    | false => exact k (.dat (.bool false)) (.bl false) H3 Z3 f13 fd3 (Dq.bl _) q3
    | true =>
      refine ⟨Z3, ρ, _, ex, st.next f13 fd3, q3, fun u z H4 Z4 f4 fd4 sv4 q4 => ?_, ke.next f13⟩
      refine ⟨Z4, t, u, _, ⟨Fr.refl f4.zh f4.notF, fd4, fun r v H5 Z5 f5 fd5 sv5 ⟨b, e5, q5⟩ => ?_⟩, (sv2.next f3).next f4, sv4, q4⟩
      subst e5
      cases (show Dq Z5 v (.bool b) from sv5)
      exact k (.dat (.bool b)) (.bl b) H5 Z5 ((f13.trans f4).trans f5) fd5 (Dq.bl _) q5
def xChainE (p r : S → S → Option S) (xa xb xc : X) : X := fun ρ => rbind (xChain p r xa xb xc ρ) fun b => ok (.dat (.bool b))
theorem x_chain {op op' : CmpOp} {o1 o2 : O2} {p r : S → S → Option S} {xa xb xc : X} (h1 : Op C (compareOp op) o1) (k1 : Fits o1 p) (h2 : Op C (compareOp op') o2) (k2 : Fits o2 r) (ha : E C a (ofX xa)) (hb : E C b (ofX xb)) (hc : E C c (ofX xc))
    (hm : lastMarks [op, op'] [b, c] = false := by with_unfolding_all rfl) : E C (.Compare a [op, op'] [b, c] pos) (ofX (xChainE p r xa xb xc)) :=
  e_weak (e_chain h1 h2 ha hb hc hm) fun ρ q e h => ofR_q (ofR_bind (ofR_bind h)) fun s h => ofR_q (ofR_bind h) fun t h => by
    obtain ⟨b, e1, h⟩ := opt_b (ofR_bind h)
    refine k1 s t _ _ e1 ⟨b, rfl, ?_⟩
    cases b with
    | false => exact h
    | true => exact ofR_q (ofR_bind h) fun u h => let ⟨b, e2, hq⟩ := opt_b h; k2 t u _ _ e2 ⟨b, rfl, hq⟩
/-- never reached -/
def xNo : X := fun _ => none
theorem x_no {e : Expr} : E C e (ofX xNo) := ⟨fun pins s σ H Q I ⟨Z, ρ, q, ex, st, hw, k, ke⟩ => hw.elim⟩
end
end PL

/-! laws without draws: what their function gives; classes of exceptions told by tables -/
namespace PL
open PySem PySem.Spec PyProof.Rows L2
def tblB (l : List ((Str × Str) × Bool)) (x y : Str) : Option Bool := l.lookup (x, y)
theorem lookup_in {α : Type} {β : Type} [BEq α] [LawfulBEq α] {k : α} {v : β} : ∀ {l : List (α × β)}, l.lookup k = some v → (k, v) ∈ l
  | [], h => by cases h
  | (a, b) :: l, h => by
    rw [List.lookup_cons] at h
    cases e : (k == a) with
    | true =>
      rw [e] at h
      cases h
      have := eq_of_beq e
      subst this
      exact List.mem_cons_self
    | false =>
      rw [e] at h
      exact List.mem_cons_of_mem _ (lookup_in h)
/-- x is under y, or not: what the top has written -/
def HasSub (K : PySem.W.Frag) (x y : Str) (b : Bool) : Prop := ∃ C D, PySem.W.nsIn K mainGlobals x = some (some (.ref C)) ∧ PySem.W.nsIn K mainGlobals y = some (some (.ref D)) ∧ PySem.W.exmOne K (.ref C) (.ref D) = some b
theorem hasSub_mk {K : PySem.W.Frag} {x y : Str} {b : Bool} {C D : Addr} (a : PySem.W.nsIn K mainGlobals x = some (some (.ref C))) (d : PySem.W.nsIn K mainGlobals y = some (some (.ref D))) (e : PySem.W.exmOne K (.ref C) (.ref D) = some b) : HasSub K x y b := ⟨C, D, a, d, e⟩
section
variable {P : Program} {w : World} {K : PySem.W.Frag} {mg : Str → Option Value} {base h : Heap} {fam : Fd → Prop} {XV : XVt}
theorem sub_of {l : List ((Str × Str) × Bool)} (X : K.In h) (G : h.Ns mainGlobals mg) (hl : ∀ e ∈ l, HasSub K e.1.1 e.1.2 e.2) : SubOk K mg (tblB l) := fun x y b e => by
  obtain ⟨C, D, a, d, z⟩ := hl _ (lookup_in e)
  exact ⟨C, D, PySem.W.mg_of X G a, PySem.W.mg_of X G d, z⟩
theorem at_of {x y : Str} {b : Bool} (X : K.In h) (G : h.Ns mainGlobals mg) (s : HasSub K x y b) : ∃ D, mg y = some (.ref D) := by
  obtain ⟨C, D, a, d, z⟩ := s
  exact ⟨D, PySem.W.mg_of X G d⟩
/-- the fields of the exceptions raised -/
def XfOk (K : PySem.W.Frag) (mg : Str → Option Value) (l : List Str) (f1 f2 : Str) : Prop := ∀ x ∈ l, ∀ f ∈ [f1, f2], ∀ C0, mg x = some (.ref C0) → XfC K C0 ∧ PySem.W.findIn K (.ref C0) f = some none
theorem xfOk_of {l : List Str} {f1 f2 : Str} (hl : ∀ x ∈ l, ExcOk P w K mg base x f1 f2) : XfOk K mg l f1 f2 := fun x hx f hf C0 hC => by
  obtain ⟨C, fI, fd, ps, m, oC, xC, n1, n2, _⟩ := (hl x hx).ex
  rw [hC] at m
  cases m
  refine ⟨xC, ?_⟩
  simp only [List.mem_cons, List.not_mem_nil, or_false] at hf
  rcases hf with r | r
  · rw [r]; exact n1
  · rw [r]; exact n2
theorem tblB_in {l : List ((Str × Str) × Bool)} {x y : Str} {b : Bool} {cl : List Str} (h : tblB l x y = some b) (hc : l.all (fun e => cl.contains e.1.1) = true) : x ∈ cl := by
  have := List.all_eq_true.mp hc _ (lookup_in h)
  simpa using this
theorem hearX_of {x a : Str} {st : Stmt} {Ng : List Str} {G0 : R S → R S} (X : K.In h) (G : h.Ns mainGlobals mg) (has : Has K x st) (S : FnScope Ng [a] (defScope st)) (n0 : Ng[0]? = some a) (vis : Vis (defScope st) a)
    (hb : ∀ (F : Option Fd), HasF fam F → ∀ k, Hears P w K mg base F XV x st Ng a k G0)
    (bd : ∀ (kV doc pm : Value) (an : Option Addr) (cdv ct : Value) (us : List Value), us.length = ([a] : List Str).length → bindArgs (PySem.W.fnOf x x (defArgs st) (defBody st) (defScope st) .none kV doc pm an cdv ct) ⟨us, []⟩ = pure (([a] : List Str).zip us)) : HearX P w K mg base fam XV x st Ng a G0 := by
  obtain ⟨f, oc, od, an, osl, kV, doc, pm, cdv, ct, m, l, q, kp⟩ := has
  have F := fun_mk l q kp
  exact ⟨hb, ⟨f, _, F, PySem.W.mg_of X G m, F.binds bd⟩, S, n0, vis⟩
end
/-! ### the law -/
def isT : R S → Bool
  | some (.ok (.dat (.bool true))) => true
  | _ => false
theorem isT_of {r : R S} (h : isT r = true) : r = ok (.dat (.bool true)) := by
  unfold isT at h
  split at h
  · rfl
  · cases h
def spT (cs : List (Addr × Addr)) : Sp := fun vs H Q _ => ∃ a : Addr, vs = [.ref a] ∧ (∀ p ∈ cs, H p.2 = some (.tbl #[])) ∧ ∀ H', Q (.bl true) H'
/-- tables lie apart -/
def Apart (ts : List (Addr × Str)) : Prop := ∀ p ∈ ts, ∀ q ∈ ts, p.1 = q.1 → p.2 = q.2
theorem ok_tabs {ts : List (Addr × Str)} {H : Hp} (ap : Apart ts) (h : ∀ p ∈ ts, H p.1 = some (.tbl #[])) : (fdT fd0 nt0 ts).ok H := ⟨trivial, fun p hp => LamX.TabS.nil (h p hp), ap⟩
section
variable {P : Program} {w : World} {K : PySem.W.Frag} {mg : Str → Option Value} {base : Heap}
theorem gT_law {st : Stmt} {N : List Str} {lv : Nat} {b : XS} {c : Addr} {ts : List (Addr × Str)} {cs : List (Addr × Addr)} {f : Addr} {fd : FuncData} (F : Fun K "law" "law" st f fd) (hcd : fd.code = .ref c) (S : FnScope N ["_law_script"] (defScope st)) (hn : 0 < N.length)
    (hb : ∀ {A : Around} {outer : List Env} {s : Shared} {H : Hp} {E : XK} {Fo : Option Fd} {H0 Z0 : Hp}, Room lv (A.deeper (envOfC "law" (defScope st) s.heap.objs.size f (.ref c))) → A.guards = some [] → HasF (FamT ts) Fo →
      Sts (cpOf (cxOf CX0 P w K mg base N "law" (defScope st) f (.ref c) A outer s H E).nox Fo H0 Z0 (fun _ _ _ => False) (XVm mg)) (defBody st) (ofS b))
    (ev : isT (rtOf (b (List.replicate N.length none))) = true) (ap : Apart ts) (hm : ∀ p ∈ ts, ∃ q ∈ cs, q.2 = p.1) : FnG P w K mg base CX0 (lv + 1) f fd ["_law_script"] (spT cs) := by
  refine fg_ofC F S (fun vs H Q E ⟨a, e, _⟩ => by rw [e]; rfl) fun cdv e A outer s H vs Q E hr hg ⟨a, ev', ht, hq⟩ => ?_
  rw [hcd] at e
  subst e
  subst ev'
  have hB := pss_from (XV := XVm mg) (X := (cxOf CX0 P w K mg base N "law" (defScope st) f (.ref c) A outer s H E).nox) (rest := defBody st) (ws := ofS b) (fam := FamT ts) fun Fo H0 Z0 hF => hb hr hg hF
  refine ⟨_, hB.nox, ?_⟩
  have ok : (fdT fd0 nt0 ts).ok H := ok_tabs ap fun p hp => by
    obtain ⟨q, hq', e⟩ := hm p hp
    rw [← e]; exact ht q hq'
  refine ⟨some (fdT fd0 nt0 ts), H, (fun _ => none), ⟨_, rfl, rfl⟩, (fun _ => none), List.replicate N.length none, { nx := fun _ => False, rt := fun s => s = .dat (.bool true), ex := noX }, ?_, ?_, ?_⟩
  · refine ⟨Fr.refl (fun b o e => nomatch e) (fun b o e => nomatch e), fun x e => ?_, ?_, fun i sx e => ?_, fun i j b s1 s2 e1 e2 m1 m2 => ?_⟩
    · cases e
      exact ok
    · rw [List.length_replicate]
      unfold L2.start
      simp
      omega
    · rw [List.getElem?_replicate] at e
      split at e <;> cases e
    · rw [List.getElem?_replicate] at e1
      split at e1 <;> cases e1
  · have h2 : ofR (rtOf (b (List.replicate N.length none))) (fun s => s = .dat (.bool true)) noX := by
      rw [isT_of ev]; rfl
    exact ofR_rt h2
  · refine ⟨fun σ ρ H2 Z2 _ h => h.elim, fun σ ρ H2 Z2 _ h => h.elim, fun σ ρ H2 Z2 _ h => h.elim, fun sx v H2 Z2 _ _ _ sv e => ?_, fun x cls d H2 Z2 _ _ _ h => h.elim⟩
    subst e
    cases (show Dq Z2 v (.bool true) from sv)
    exact hq H2
end
end PL

/-! a <= b of tuples of texts -/
namespace PL
open PySem PySem.Spec PyProof.Rows L2
def strsD : List D → Option (List Str)
  | [] => some []
  | .str x :: r => match strsD r with
    | some l => some (x :: l)
    | none => none
  | _ :: _ => none
theorem strsD_eq : ∀ {ds : List D} {l : List Str}, strsD ds = some l → ds = l.map PyData.str
  | [], l, h => by cases h; rfl
  | d :: r, l, h => by
    unfold strsD at h
    split at h
    · rename_i e; cases e
    · rename_i x r' e
      cases e
      split at h
      · rename_i l' e'
        cases h
        rw [strsD_eq e']
        rfl
      · cases h
    · cases h
def lexT (xs ys : List Str) : Bool := Ob.lexAt (fun j => xs.getD j default == ys.getD j default) (fun j => !strLt (ys.getD j default) (xs.getD j default)) (decide (xs.length ≤ ys.length)) 0 (min xs.length ys.length)
section
variable {C : Cp}
def oLeT : O2
  | .dat (.tuple ds), .dat (.tuple es), q => ∃ xs ys, ds = xs.map PyData.str ∧ es = ys.map PyData.str ∧ q (.dat (.bool (lexT xs ys)))
  | _, _, _ => False
theorem oLeT_to {s1 s2 : S} {q : S → Prop} (h : oLeT s1 s2 q) : ∃ xs ys, s1 = .dat (.tuple (xs.map PyData.str)) ∧ s2 = .dat (.tuple (ys.map PyData.str)) ∧ q (.dat (.bool (lexT xs ys))) := by
  unfold oLeT at h
  split at h
  · obtain ⟨xs, ys, e1, e2, hq⟩ := h
    exact ⟨xs, ys, by rw [e1], by rw [e2], hq⟩
  · exact h.elim
theorem vals_at {xs : List Str} {us : List Value} (r : Vals (xs.map V.str) us) (j : Nat) (h : j < us.toArray.size) : ∃ t, us.toArray[j] = .str (xs.getD j default) t := by
  have l : (xs.map V.str).length = us.length := r.length
  have h' : j < us.length := by simpa using h
  have lx : j < xs.length := by simp at l; omega
  have e : (xs.map V.str)[j]? = some (.str xs[j]) := by simp [lx]
  obtain ⟨u, hu, ru⟩ := r.get e
  obtain ⟨t, rfl⟩ := ru
  refine ⟨t, ?_⟩
  have e2 : xs.getD j default = xs[j] := by simp [List.getD, lx]
  rw [e2]
  have : us[j]? = some us[j] := List.getElem?_eq_getElem h'
  rw [this] at hu
  simpa using hu
theorem o_leT (hu : C.X.A.units < cLine) : Op C (compareOp .LtE) oLeT := by
  intro pins s σ H x y v u Q I rx ry ⟨Z, s1, s2, q, a, sv1, sv2, ho⟩
  obtain ⟨xs, ys, rfl, rfl, hq⟩ := oLeT_to ho
  cases (show Dq Z x (.tuple (xs.map PyData.str)) from sv1) with
  | @tup pa va _ h1 h2 =>
  cases (show Dq Z y (.tuple (ys.map PyData.str)) from sv2) with
  | @tup pb vb _ h3 h4 =>
  rw [dps_strs' xs h2] at h1
  rw [dps_strs' ys h4] at h3
  cases rx
  cases ry
  obtain ⟨its, r1, p1, _⟩ := I.tuple (SqT.of (a.fr.zh _ _ h1))
  obtain ⟨its2, r2, p2, _⟩ := I.tuple (SqT.of (a.fr.zh _ _ h3))
  have R := Ob.RcOp.tuples_le (A := C.X.A) (s := s) (e := fun j => xs.getD j default == ys.getD j default) (r := fun j => !strLt (ys.getD j default) (xs.getD j default)) p1 p2 hu (fun j g1 g2 => by
    obtain ⟨t, et⟩ := vals_at r1 j g1
    obtain ⟨t', et'⟩ := vals_at r2 j g2
    rw [et, et']
    exact SeqAt.EqAt.str_str _ _ _ _) (fun j g1 g2 _ => by
    obtain ⟨t, et⟩ := vals_at r1 j g1
    obtain ⟨t', et'⟩ := vals_at r2 j g2
    rw [et, et']
    exact RcLeStr _ _ _ _)
  have n1 : its.toArray.size = xs.length := by
    have := r1.length
    simp at this
    simp [← this]
  have n2 : its2.toArray.size = ys.length := by
    have := r2.length
    simp at this
    simp [← this]
  rw [n1, n2] at R
  exact R C.X.prog C.X.w C.X.xe _ (a.ret (s := .dat (.bool _)) (Dq.bl _) hq |> fun fin => ⟨.bl _, H, I, rfl, fin⟩)
def pLeT : S → S → Option S
  | .dat (.tuple ds), .dat (.tuple es) => match strsD ds, strsD es with
    | some xs, some ys => some (.dat (.bool (lexT xs ys)))
    | _, _ => none
  | _, _ => none
theorem fits_leT : Fits oLeT pLeT := by
  intro x y q s e hq
  unfold pLeT at e
  split at e
  · split at e
    · rename_i xs ys e1 e2
      cases e
      exact ⟨xs, ys, strsD_eq e1, strsD_eq e2, hq⟩
    · cases e
  · cases e
end
end PL

/-! tuples of texts (empty ones too), as sorting compares them -/
namespace PL
open PySem PySem.Spec PyProof.Rows L2 PySem.SeqAt
/-- the order of rows of texts -/
def ltT : List Str → List Str → Bool
  | [], [] => false
  | [], _ :: _ => true
  | _ :: _, [] => false
  | x :: xs, y :: ys => if x = y then ltT xs ys else strLt x y
theorem strs_alike : ∀ xs ys : List Str, PySem.W.alikeAll (xs.map PyData.str) (ys.map PyData.str) = true
  | [], _ => by simp [PySem.W.alikeAll]
  | _ :: _, [] => by simp [PySem.W.alikeAll]
  | x :: xs, y :: ys => by
    rw [List.map_cons, List.map_cons, PySem.W.alikeAll, strs_alike xs ys]
    simp [PySem.W.alike]
theorem ltT_toks : ∀ xs ys : List Str, PyProof.Rows.lexLt itemOrd (PySem.W.keyToksAll (xs.map PyData.str)) (PySem.W.keyToksAll (ys.map PyData.str)) = ltT xs ys
  | [], [] => by
    rw [lex_irrefl]
    rfl
  | [], y :: ys => by
    rw [List.map_cons, PySem.W.toks_all_cons]
    simp only [List.map_nil, PySem.W.keyToksAll]
    rw [lex_diff (O := itemOrd) (by simp)]
    simp [itemLt, ltT]
  | x :: xs, [] => by
    rw [List.map_cons, PySem.W.toks_all_cons]
    simp only [List.map_nil, PySem.W.keyToksAll]
    rw [lex_diff (O := itemOrd) (by simp)]
    simp [itemLt, ltT]
  | x :: xs, y :: ys => by
    rw [List.map_cons, List.map_cons, PySem.W.dataLt_cons (by simp [PySem.W.alike]), ltT_toks xs ys, PySem.W.dataLt_str]
    rw [show ltT (x :: xs) (y :: ys) = if x = y then ltT xs ys else strLt x y from rfl]
    by_cases h : x = y
    · rw [if_pos (show PyData.eqv (.str x) (.str y) = true by simp [PyData.eqv, h]), if_pos h]
    · rw [if_neg (show ¬ PyData.eqv (.str x) (.str y) = true by simp [PyData.eqv, h]), if_neg h]
      rfl
theorem ltT_data (xs ys : List Str) : PySem.W.dataLt (.tuple (xs.map PyData.str)) (.tuple (ys.map PyData.str)) = ltT xs ys := by
  rw [PySem.W.dataLt_tuple, ltT_toks]
/-- v is a tuple of the texts zs -/
def TupS (h : Heap) (v : Value) (zs : List Str) : Prop := ∃ bs, Reads h v (.tuple (zs.map PyData.str)) bs
theorem depth_strs : ∀ xs : List Str, PyData.depthAll (xs.map PyData.str) = 0
  | [] => by simp [PyData.depthAll]
  | x :: xs => by
    rw [List.map_cons, PyData.depthAll, depth_strs xs]
    simp [PyData.depth]
theorem depth_tupS (xs ys : List Str) {u : Nat} (h : u + 1 < cLine) : u + min (PyData.tuple (xs.map PyData.str)).depth (PyData.tuple (ys.map PyData.str)).depth < cLine := by
  rw [PyData.depth, PyData.depth, depth_strs, depth_strs]
  simpa using h
section
variable {prog : Program} {w : World} {A : Around} {E : Value → Shared → Prop} {s : Shared}
theorem call_tuple_lt {Q : Value → Shared → Prop} {t u : Addr} {xs ys : Array Value} {e r : Nat → Bool} (ht : s.heap.IsTuple t xs) (hu : s.heap.IsTuple u ys)
    (k1 : ∀ j (p : j < xs.size) (q : j < ys.size), EqAt A.in1 s xs[j] ys[j] (e j)) (k2 : ∀ j (p : j < xs.size) (q : j < ys.size), e j = false → RcLt A.in1 s xs[j] ys[j] (r j))
    (h : Q (.bool (firstLt e r (decide (xs.size < ys.size)) (List.range (min xs.size ys.size)))) s) : wpAny (model prog w) A (call (.builtin "tuple.__lt__") [.ref t, .ref u]) Q E s := by
  obtain ⟨⟨c1, d1, g1, l1⟩, o1, e1, n1, f1⟩ := id ht
  obtain ⟨⟨c2, d2, g2, l2⟩, o2, e2, n2, f2⟩ := id hu
  simp only at e1 f1 e2 f2
  subst e1 f1 e2 f2
  exact call_meets PySem.F.slot_tuple_lt ⟨_, o1, rfl⟩ PySem.F.entry_tuple_lt (PySem.F.args_tuple_lt_2 _ _) (tuple_ltAt t u xs ys n1 n2 d1 d2 l1 l2 e r) ⟨o1, o2, k1, k2, h⟩
theorem oneLt_tup {xs ys : List Str} {a b : Value} {Q : Bool → Shared → Prop} (ta : TupS s.heap a xs) (tb : TupS s.heap b ys) (hu : A.units + 1 < cLine) (hq : Q (ltT xs ys) s) : wpAny (model prog w) A (oneLt' true a b) Q E s := by
  obtain ⟨as, ra⟩ := ta
  obtain ⟨bs, rb⟩ := tb
  have hal := strs_alike xs ys
  have room := depth_tupS xs ys hu
  rw [← ltT_toks, ← PySem.W.firstLt_toks _ _ hal] at hq
  generalize eX : xs.map PyData.str = X at *
  generalize eY : ys.map PyData.str = Y at *
  cases ra with
  | @tuple t o its n _ _ h1 h2 h3 h4 =>
  cases rb with
  | @tuple u o' its' n' _ _ k1 k2 k3 k4 =>
  have m1 : its.size = X.length := by simpa using ReadsAll.length _ _ _ h4
  have m2 : its'.size = Y.length := by simpa using ReadsAll.length _ _ _ k4
  rw [← m1, ← m2] at hq
  rw [oneLt'_eq]
  simp only [if_true]
  refine wpAny_bind (wpAny_cRoomFor (room_here room) ?_)
  refine wpAny_bind (wpAny_callSpecialIfBound?_slot (T := "tuple") ⟨_, h1, h2⟩ PySem.F.slot_tuple_lt (call_tuple_lt (e := pairEq X Y) (r := fun j => PySem.W.dataLt (X.getD j .none) (Y.getD j .none)) ⟨_, h1, h2, _, h3⟩ ⟨_, k1, k2, _, k3⟩ (fun j j1 j2 => ?_) (fun j j1 j2 hj => ?_) ?_))
  · have q := PySem.W.eqAt_alikeAll X Y A.in1 s its.toList its'.toList _ _ h4 k4 hal (room_in room) j (by simpa using j1) (by simpa using j2)
    simpa using q
  · have q := PySem.W.rcLt_alikeAll X Y A.in1 s its.toList its'.toList _ _ h4 k4 hal (room_in room) j (by simpa using j1) (by simpa using j2) hj
    simpa using q
  · exact wpAny_truthy_bool hq
/-- the kinds that such keys have -/
def KindT (κ : SortKind) : Prop := κ = tuples' true ∨ κ = general' ∨ κ = oneType'
theorem lt_tup {κ : SortKind} (hκ : KindT κ) {xs ys : List Str} {a b : Value} {Q : Bool → Shared → Prop} (ta : TupS s.heap a xs) (tb : TupS s.heap b ys) (hu : A.units + 1 < cLine) (hq : Q (ltT xs ys) s) : wpAny (model prog w) A (keyLt' κ a b) Q E s := by
  rcases hκ with rfl | rfl | rfl
  · obtain ⟨as, ra⟩ := ta
    obtain ⟨bs, rb⟩ := tb
    have hal := strs_alike xs ys
    have room := depth_tupS xs ys hu
    rw [← ltT_toks] at hq
    have nt : ∀ x r (t : List PyData), xs.map PyData.str = x :: r → x ≠ PyData.tuple t := fun x r t e => by
      cases xs with
      | nil => cases e
      | cons z zs => cases e; exact fun z => nomatch z
    generalize eX : xs.map PyData.str = X at *
    generalize eY : ys.map PyData.str = Y at *
    cases ra with
    | @tuple t o its n _ _ h1 h2 h3 h4 =>
    cases rb with
    | @tuple u o' its' n' _ _ k1 k2 k3 k4 =>
    have m1 : its.size = X.length := by simpa using ReadsAll.length _ _ _ h4
    have m2 : its'.size = Y.length := by simpa using ReadsAll.length _ _ _ k4
    refine PySem.W.kat_lt h1 h3 k1 k3 (PySem.W.katLex_alike X Y 0 _ _ _ _ h4 k4 hal (by have q := room_in room; omega) (fun _ _ x r t ex => nt x r t ex) (by rw [m1, m2]) hq)
  · obtain ⟨as, ra⟩ := ta
    obtain ⟨bs, rb⟩ := tb
    show wpAny (model prog w) A (oneLt' false a b) Q E s
    refine PySem.W.oneLt_alike (fun e => nomatch e) ra rb ?_ (fun e => nomatch e) (depth_tupS xs ys hu) (by rw [ltT_data]; exact hq)
    simpa [PySem.W.alike] using strs_alike xs ys
  · rw [keyLt'_oneType]
    exact oneLt_tup ta tb hu hq
end
section
variable {M : Model} {A : Around} {E : Value → Shared → Prop} {s : Shared}
theorem firsts_tt : ∀ vs : List Value, (∀ v ∈ vs, ∃ zs, TupS s.heap v zs) → ∃ fs : List (Option Value), fs.length = vs.length ∧ (∀ f ∈ fs, ∀ x, f = some x → ∃ y t, x = .str y t) ∧
    ((∀ f ∈ fs, f.isSome = true) → ∃ gs, PySem.W.KatTups s.heap vs gs ∧ gs.length = vs.length ∧ ∀ g ∈ gs, ∃ y t, g = .str y t) ∧
    ∀ {Q : List (Option Value) → Shared → Prop} {E : Value → Shared → Prop}, Q fs s → wpAny M A (vs.mapM firstOfTuple') Q E s
  | [], _ => ⟨[], rfl, fun f hf => absurd hf (by simp), fun _ => ⟨[], PySem.W.KatTups.nil, rfl, fun f hf => absurd hf (by simp)⟩, fun h => by rw [List.mapM_nil]; exact wpAny_pure h⟩
  | v :: vs, hv => by
    obtain ⟨fs, i1, i2, i3, i4⟩ := firsts_tt vs fun x hx => hv x (.tail _ hx)
    obtain ⟨zs, as, r⟩ := hv v (.head _)
    generalize eX : zs.map PyData.str = X at r
    cases r with
    | @tuple a o its n _ _ h1 h2 h3 h4 =>
    have hf : ∀ x, its[0]? = some x → ∃ y t, x = .str y t := fun x hx => by
      rw [← Array.getElem?_toList] at hx
      cases e : its.toList with
      | nil => rw [e] at hx; cases hx
      | cons f r =>
        rw [e] at hx h4
        cases hx
        cases zs with
        | nil => subst eX; cases h4
        | cons z zr =>
          subst eX
          cases h4 with
          | cons r1 r2 => cases r1; exact ⟨_, _, rfl⟩
    refine ⟨its[0]? :: fs, by rw [List.length_cons, List.length_cons, i1], fun f hm x hx => ?_, fun all => ?_, fun h => ?_⟩
    · rcases List.mem_cons.mp hm with e | hm
      · exact hf x (e ▸ hx)
      · exact i2 f hm x hx
    · obtain ⟨gs, j1, j2, j3⟩ := i3 fun f hm => all f (.tail _ hm)
      have a0 := all _ (.head _)
      obtain ⟨g, hg⟩ := Option.isSome_iff_exists.mp a0
      refine ⟨g :: gs, PySem.W.KatTups.cons h1 h2 h3 hg j1, by rw [List.length_cons, List.length_cons, j2], fun f hm => ?_⟩
      rcases List.mem_cons.mp hm with e | hm
      · exact hf f (e ▸ hg)
      · exact j3 f hm
    · rename_i Q E'
      rw [List.mapM_cons]
      refine wpAny_bind ?_
      rw [PySem.W.kas_first_eq]
      refine wpAny_bind (PySem.W.Looks.here (show PySem.W.Looks M s.heap (typeOf (.ref a)) o.cls from (PySem.W.Looks.ld h1).andThen .now) ?_)
      rw [h2, if_neg (by decide)]
      refine wpAny_bind (listItems_at h1 h3 (wpAny_pure ?_))
      exact wpAny_bind (i4 (Q := fun bs s' => wpAny M A (pure (its[0]? :: bs)) Q E' s') (wpAny_pure h))
theorem kind_tt {vs : List Value} (h2 : 2 ≤ vs.length) (hv : ∀ v ∈ vs, ∃ zs, TupS s.heap v zs) : ∃ κ, KindT κ ∧ ∀ (Q : SortKind → Shared → Prop) (E : Value → Shared → Prop), Q κ s → wpAny M A (keyKind' vs.toArray) Q E s := by
  obtain ⟨fs, i1, i2, i3, i4⟩ := firsts_tt (M := M) (A := A) vs hv
  by_cases all : ∀ f ∈ fs, f.isSome = true
  · obtain ⟨gs, j1, j2, j3⟩ := i3 all
    refine ⟨tuples' true, .inl rfl, fun Q E hq => ?_⟩
    refine PySem.W.kat_kind (T := .type "str") j1 (by omega) (fun f hm => ?_) (by decide) ?_
    · obtain ⟨y, t, rfl⟩ := j3 f hm
      exact PySem.W.Looks.now
    · have e : (Value.type "str" != Value.type "tuple") = true := by decide
      rw [e]
      exact hq
  · have na : ¬ (fs.toArray.all fun x => x.isSome) = true := fun h => all (by simpa using h)
    by_cases f0 : (fs.toArray[0]?.bind id).isSome = true
    · refine ⟨general', .inr (.inl rfl), fun Q E hq => ?_⟩
      rw [keyKind'_eq, List.mapM_toArray, map_eq_pure_bind]
      refine wpAny_bind (wpAny_bind (i4 (wpAny_pure ?_)))
      rw [if_neg na, if_pos f0]
      exact wpAny_pure hq
    · refine ⟨oneType', .inr (.inr rfl), fun Q E hq => ?_⟩
      rw [keyKind'_eq, List.mapM_toArray, map_eq_pure_bind]
      refine wpAny_bind (wpAny_bind (i4 (wpAny_pure ?_)))
      rw [if_neg na, if_neg f0]
      rw [oneTypeOnly'_eq, List.mapM_toArray, map_eq_pure_bind]
      refine wpAny_bind (wpAny_bind (wpAny_bind (PySem.W.kas_mapM (r := Value.type "tuple") _ (fun v hm Q' hq' => ?_) (wpAny_pure ?_))))
      · obtain ⟨zs, as, r⟩ := hv v hm
        cases r with
        | @tuple a o its n _ _ h1 h2 h3 h4 =>
        refine PySem.W.Looks.here (show PySem.W.Looks M s.heap (typeOf (.ref a)) o.cls from (PySem.W.Looks.ld h1).andThen .now) ?_
        rw [h2]
        exact hq'
      · have n0 : (vs.map fun _ => Value.type "tuple").toArray[0]? = some (Value.type "tuple") := by
          cases vs with
          | nil => exact absurd h2 (by simp)
          | cons v r => simp
        have a0 : ((vs.map fun _ => Value.type "tuple").toArray.all fun x => x == Value.type "tuple") = true := by
          simp
        rw [n0]
        simp only [a0, if_true]
        exact wpAny_pure (wpAny_pure hq)
end
end PL

/-! sorted(a list of tuples of texts), sorted(set(texts)) as functions -/
namespace PL
open PySem PySem.Spec PyProof.Rows L2 PySem.SeqAt
theorem ltT_swo {α : Type} (k : α → List Str) : SrtO.Swo fun x y => ltT (k x) (k y) := by
  have irr : ∀ a b, ltT a b = true → ltT b a = false := fun a b h => by
    rcases SrtO.bcase (ltT b a) with q | q
    · rw [← ltT_toks] at h q
      have t := (listOrd itemOrd).trans _ _ _ h q
      rw [(listOrd itemOrd).irrefl] at t
      cases t
    · exact q
  refine ⟨fun x y h => irr _ _ h, fun x y z h1 h2 => ?_⟩
  rcases SrtO.bcase (ltT (k z) (k x)) with q | q
  · rw [← ltT_toks] at h1 h2 q
    rcases (listOrd itemOrd).negTrans _ (PySem.W.keyToksAll ((k y).map PyData.str)) _ q with t | t
    · exact absurd (t.symm.trans h2) (by decide)
    · exact absurd (t.symm.trans h1) (by decide)
  · exact q
theorem ltT_total : ∀ {a b : List Str}, ltT a b = false → ltT b a = false → a = b
  | [], [], _, _ => rfl
  | [], _ :: _, h, _ => nomatch h
  | _ :: _, [], _, h => nomatch h
  | x :: xs, y :: ys, h1, h2 => by
    unfold ltT at h1 h2
    by_cases e : x = y
    · subst e
      simp only [if_true] at h1 h2
      rw [ltT_total h1 h2]
    · rw [if_neg e] at h1
      rw [if_neg fun z => e z.symm] at h2
      unfold strLt at h1 h2
      have g1 := List.not_lt.mp (of_decide_eq_false h1)
      have g2 := List.not_lt.mp (of_decide_eq_false h2)
      exact absurd (PySem.W.str_of_cps (List.le_antisymm g2 g1)) e
section
variable {prog : Program} {w : World} {A : Around} {E : Value → Shared → Prop} {s : Shared}
theorem sorted_tt {l : Addr} {vs : List Value} {k : Value → List Str} {Q : Value → Shared → Prop} (hl : s.heap.IsList l vs.toArray) (lim : vs.length ≤ sizeLine) (hp : ∀ v ∈ vs, TupS s.heap v (k v)) (hu : A.in1.in1.units + 1 < cLine)
    (h : ∀ (g : Heap) (d : Addr) (out : List Value), SrtO.Srtd (fun v u => ltT (k v) (k u)) out → SrtO.Stb (fun v u => ltT (k v) (k u)) out vs → (∀ b o, s.heap.get? b = some o → g.get? b = some o) → s.heap.objs.size ≤ d → (∃ n, g.get? d = some (seqObj "list" out.toArray n)) → Q (.ref d) { s with heap := g }) :
    wpAny (model prog w) A (call (.builtin "sorted") [.ref l]) Q E s := by
  refine SrtO.sorted_ord (ltT_swo k) hl lim (fun two g a ha kp => ?_) fun out hs hb => ?_
  · intro g' keep
    have hp' : ∀ v ∈ vs, TupS g' v (k v) := fun v hv => by
      obtain ⟨as, r⟩ := hp v hv
      exact ⟨as, PyProof.Rows.Reads.keeps (fun b o e => keep b o (kp b o e).1 (kp b o e).2) r⟩
    obtain ⟨κ, hκ, hq⟩ := kind_tt (M := model prog w) (A := A.in1.in1) (s := { s with heap := g' }) two fun v hv => ⟨_, hp' v hv⟩
    exact ⟨κ, fun Q E hQ => hq Q E hQ, fun p q hm hm' => lt_tup hκ (hp' _ hm) (hp' _ hm') hu ⟨rfl, rfl⟩⟩
  · exact h _ _ out hs hb (fun b o e => PyProof.Rows.sortedAll_old e) (Nat.le_succ _) (PyProof.Rows.sortedAll_at s.heap vs out.toArray)
end
section
variable {X : Cx}
theorem reads_strs {h : Heap} : ∀ {zs : List Str} {us : List Value}, Vals (zs.map V.str) us → ReadsAll h us (zs.map PyData.str) []
  | [], _, r => by
    cases r
    exact .nil
  | z :: zs, _, r => by
    cases r with
    | cons r1 r2 =>
      obtain ⟨t, rfl⟩ := r1
      exact .cons (as := []) (.str z t) (reads_strs r2)
theorem cr_sortedT (hu : X.A.units + 3 < cLine) : CallR X (.builtin "sorted") (fun vs H Q => ∃ (a : Addr) (xs : List V) (k : V → List Str), vs = [V.ref a] ∧ SqL X.K H a xs ∧ (∀ x ∈ xs, ∃ t, x = V.ref t ∧ H t = some (.tup ((k x).map V.str))) ∧
    ∀ ys p, SrtO.Srtd (fun x y => ltT (k x) (k y)) ys → SrtO.Stb (fun x y => ltT (k x) (k y)) ys xs → H p = none → Q (.ref p) (upd H p (.lst ys))) := by
  rintro pins s σ H _ us Q I r ⟨a, xs, k, rfl, hs, hx, q⟩
  obtain ⟨its, rv, hl, lim⟩ := I.list hs
  obtain ⟨u, rfl, ru⟩ := vals1 r
  obtain rfl : u = Value.ref a := ru
  obtain ⟨b1, b2⟩ := refs_back rv fun x m => by
    obtain ⟨t, e, _⟩ := hx x m
    exact ⟨t, e⟩
  refine sorted_tt (k := fun u => k (backV u)) hl.isList (by rw [← rv.length]; exact lim) (fun v hv => ?_) ?_ fun g d out h1 h2 kp hd hn => ?_
  · obtain ⟨t, rfl⟩ := b2 v hv
    have hm : V.ref t ∈ xs := by rw [b1]; exact List.mem_map.mpr ⟨_, hv, rfl⟩
    obtain ⟨t', e, ht⟩ := hx _ hm
    cases e
    obtain ⟨_, us, r2, o, ho, hc, n, hd⟩ := I.hok _ _ ht
    refine ⟨[], .tuple ho hc hd ?_⟩
    exact reads_strs r2
  · show X.A.units + 1 + 1 + 1 < cLine
    omega
  · have h3 : ∀ u ∈ out, ∃ a, u = Value.ref a := fun u hu => b2 u (h2.perm.mem_iff.mp hu)
    obtain ⟨n, hn⟩ := hn
    have hb : SrtO.Stb (fun x y => ltT (k x) (k y)) (out.map backV) xs := by
      rw [b1]
      exact SrtO.Stb.map (ltT_swo k) backV h2
    refine ⟨.ref d, upd H d (.lst (out.map backV)), I.laid (t' := s.toks) kp hd ⟨?_, out, n, vals_back h3, hn⟩, rfl, q _ d (SrtO.srtd_map h1) hb (I.hok.fresh hd)⟩
    rw [hb.len]
    exact lim
end
/-! ### the sorted list, as a function -/
def insT (x : List Str) : List (List Str) → List (List Str)
  | [] => [x]
  | y :: r => if ltT y x then y :: insT x r else x :: y :: r
def srtT : List (List Str) → List (List Str)
  | [] => []
  | x :: r => insT x (srtT r)
theorem insT_perm (x : List Str) : ∀ l, (insT x l).Perm (x :: l)
  | [] => List.Perm.refl _
  | y :: r => by
    unfold insT
    split
    · exact ((insT_perm x r).cons y).trans (List.Perm.swap x y r)
    · exact List.Perm.refl _
theorem srtT_perm : ∀ l, (srtT l).Perm l
  | [] => List.Perm.refl _
  | x :: r => (insT_perm x (srtT r)).trans ((srtT_perm r).cons x)
theorem insT_srtd (x : List Str) : ∀ {l}, SrtO.Srtd ltT l → SrtO.Srtd ltT (insT x l)
  | [], _ => List.pairwise_singleton _ _
  | y :: r, h => by
    have O := ltT_swo (id : List Str → List Str)
    obtain ⟨h1, h2⟩ := List.pairwise_cons.mp h
    unfold insT
    split
    · rename_i q
      refine List.pairwise_cons.mpr ⟨fun z hz => ?_, insT_srtd x h2⟩
      rcases List.mem_cons.mp ((insT_perm x r).mem_iff.mp hz) with rfl | hz
      · exact O.asym _ _ q
      · exact h1 z hz
    · rename_i q
      have q : ltT y x = false := by simpa using q
      refine List.pairwise_cons.mpr ⟨fun z hz => ?_, h⟩
      rcases List.mem_cons.mp hz with rfl | hz
      · exact q
      · exact O.tr _ _ _ q (h1 z hz)
theorem srtT_srtd : ∀ l, SrtO.Srtd ltT (srtT l)
  | [] => List.Pairwise.nil
  | x :: r => insT_srtd x (srtT_srtd r)
theorem srtd_one : ∀ {l m : List (List Str)}, SrtO.Srtd ltT l → SrtO.Srtd ltT m → l.Perm m → l = m
  | [], m, _, _, h => (List.Perm.eq_nil h.symm).symm
  | x :: l, [], _, _, h => absurd h.length_eq (by simp)
  | x :: l, y :: m, hl, hm, h => by
    have O := ltT_swo (id : List Str → List Str)
    have a1 : ltT x y = false := by
      rcases List.mem_cons.mp (h.mem_iff.mp (List.mem_cons_self (a := x) (l := l))) with e | hx
      · rw [e]; exact O.refl y
      · exact SrtO.srtd_head hm x hx
    have a2 : ltT y x = false := by
      rcases List.mem_cons.mp (h.mem_iff.mpr (List.mem_cons_self (a := y) (l := m))) with e | hy
      · rw [e]; exact O.refl x
      · exact SrtO.srtd_head hl y hy
    have e := ltT_total a1 a2
    subst e
    rw [srtd_one (List.pairwise_cons.mp hl).2 (List.pairwise_cons.mp hm).2 h.cons_inv]
/-! ### data -/
def tupsD : List D → Option (List (List Str))
  | [] => some []
  | .tuple ds :: r => match strsD ds, tupsD r with
    | some x, some l => some (x :: l)
    | _, _ => none
  | _ :: _ => none
def tupD (zs : List Str) : D := .tuple (zs.map PyData.str)
theorem tupsD_eq : ∀ {ds : List D} {l : List (List Str)}, tupsD ds = some l → ds = l.map tupD
  | [], l, h => by cases h; rfl
  | d :: r, l, h => by
    unfold tupsD at h
    split at h
    · rename_i e; cases e
    · rename_i ds' r' e
      cases e
      split at h
      · rename_i x l' e1 e2
        cases h
        rw [strsD_eq e1, tupsD_eq e2]
        rfl
      · cases h
    · cases h
def txV : V → Str
  | .str z => z
  | _ => default
def keyV (Z : Hp) (x : V) : List Str := match x with
  | .ref t => match Z t with
    | some (.tup us) => us.map txV
    | _ => []
  | _ => []
theorem txV_strs : ∀ zs : List Str, (zs.map V.str).map txV = zs
  | [] => rfl
  | z :: zs => by
    rw [List.map_cons, List.map_cons, txV_strs zs]
    rfl
theorem keyV_dqs {Z : Hp} : ∀ {ts : List (List Str)} {ws : List V}, Dqs Z ws (ts.map tupD) → ws.map (keyV Z) = ts ∧ ∀ x ∈ ws, ∃ t, x = V.ref t ∧ Z t = some (.tup ((keyV Z x).map V.str)) ∧ Dq Z x (tupD (keyV Z x))
  | [], _, h => by
    cases h
    exact ⟨rfl, fun x hx => nomatch hx⟩
  | t :: ts, _, h => by
    cases h with
    | cons h1 h2 =>
      obtain ⟨i1, i2⟩ := keyV_dqs h2
      have h1' := h1
      cases (show Dq Z _ (.tuple (t.map PyData.str)) from h1) with
      | @tup a va _ ha hv =>
      have ev := dps_strs' t hv
      subst ev
      have ek : keyV Z (.ref a) = t := by
        unfold keyV
        simp only [ha]
        exact txV_strs t
      refine ⟨by rw [List.map_cons, i1, ek], fun x hx => ?_⟩
      rcases List.mem_cons.mp hx with rfl | hx
      · exact ⟨a, rfl, by rw [ek]; exact ha, by rw [ek]; exact h1'⟩
      · exact i2 x hx
theorem dqs_keyV {Z : Hp} : ∀ {ws : List V}, (∀ x ∈ ws, Dq Z x (tupD (keyV Z x))) → Dqs Z ws ((ws.map (keyV Z)).map tupD)
  | [], _ => .nil
  | x :: ws, h => .cons (h x (.head _)) (dqs_keyV fun y hy => h y (.tail _ hy))
section
variable {C : Cp}
def xSrtTT (x : X) : X := fun ρ => rbind (x ρ) fun s => match s.lst with
  | some ds => match tupsD ds with
    | some ts => ok (.dat (.list ((srtT ts).map tupD)))
    | none => none
  | none => none
theorem x_srtTT {a : Expr} {x : X} {p1 c1 : Pos} (hu : C.X.A.units + 64 < cLine) (hg : Gl C.X "sorted") (hm : C.X.mg "sorted" = none) (ha : E C a (ofX x))
    (hs : starEach [a] C.X.env = (false, eval a C.X.env) :: starEach [] C.X.env := by rfl) (hp : (backTo c1 (starEach [] C.X.env)).any (·.1) = false := by rfl) :
    E C (.Call (.Name "sorted" p1) [a] [] c1) (ofX (xSrtTT x)) :=
  weakE (pe_callB (cr_sortedT (by omega)) hg hm (by decide +kernel) (pa_cons ha pa_nil hs) (by decide) (by decide) hs hp) fun σ H Q ⟨Z, ρ, q, ex, st, hw, kt, ke⟩ => by
    refine ⟨Z, ρ, _, ex, st, ofR_bind hw, fun s v H1 Z1 f1 fd1 sv q1 => ?_, ke⟩
    dsimp only at q1
    split at q1
    · rename_i ds e1
      split at q1
      · rename_i ts e2
        obtain ⟨b, ws, rfl, h1, h2⟩ := sv.lst f1.zh fd1 e1
        have ed := tupsD_eq e2
        subst ed
        obtain ⟨i1, i2⟩ := keyV_dqs h2
        refine ⟨b, ws, keyV Z1, rfl, SqL.of h1, fun x hx => ?_, fun ys p srt stb np => ?_⟩
        · obtain ⟨t, e, ht, _⟩ := i2 x hx
          exact ⟨t, e, f1.zh _ _ ht⟩
        · have dv : Dqs Z1 ys ((ys.map (keyV Z1)).map tupD) := dqs_keyV fun x hx => by
            obtain ⟨t, e, _, hd⟩ := i2 x (stb.perm.mem_iff.mp hx)
            exact hd
          have eq : ys.map (keyV Z1) = srtT ts := by
            refine srtd_one (SrtO.srtd_map srt) (srtT_srtd ts) ?_
            have pm := (stb.perm.map (keyV Z1)).trans (List.Perm.of_eq i1)
            exact pm.trans (srtT_perm ts).symm
          rw [eq] at dv
          exact (kt.next f1).lst (Fr.refl f1.zh f1.notF) fd1 np dv q1
      · exact q1.elim
    · exact q1.elim
end
/-! ### sorted(set(texts)) -/
def insS (x : Str) : List Str → List Str
  | [] => [x]
  | y :: r => if x = y then y :: r else if strLt x y then x :: y :: r else y :: insS x r
def srtS : List Str → List Str
  | [] => []
  | x :: r => insS x (srtS r)
theorem strLt_trans {a b c : Str} (h1 : strLt a b = true) (h2 : strLt b c = true) : strLt a c = true := by
  unfold strLt at *
  exact decide_eq_true (List.lt_trans (of_decide_eq_true h1) (of_decide_eq_true h2))
theorem strLt_irr (a : Str) : strLt a a = false := by
  unfold strLt
  exact decide_eq_false (List.lt_irrefl _)
theorem strLt_or {a b : Str} (ne : a ≠ b) (h : strLt a b = false) : strLt b a = true := by
  unfold strLt at *
  have g := List.not_lt.mp (of_decide_eq_false h)
  rcases List.le_iff_lt_or_eq.mp g with g | g
  · exact decide_eq_true g
  · exact absurd (PySem.W.str_of_cps g).symm ne
theorem insS_mem (x : Str) : ∀ l y, y ∈ insS x l ↔ y = x ∨ y ∈ l
  | [], y => by simp [insS]
  | z :: r, y => by
    unfold insS
    split
    · rename_i e; subst e; simp
    · split
      · simp
      · rw [List.mem_cons, insS_mem x r, List.mem_cons]
        constructor
        · rintro (h | h | h) <;> simp [h]
        · rintro (h | h | h) <;> simp [h]
theorem srtS_mem : ∀ l y, y ∈ srtS l ↔ y ∈ l
  | [], y => Iff.rfl
  | x :: r, y => by
    show y ∈ insS x (srtS r) ↔ _
    rw [insS_mem, srtS_mem r, List.mem_cons]
abbrev upS (l : List Str) : Prop := l.Pairwise fun a b => strLt a b = true
theorem insS_up (x : Str) : ∀ {l}, upS l → upS (insS x l)
  | [], _ => List.pairwise_singleton _ _
  | y :: r, h => by
    obtain ⟨h1, h2⟩ := List.pairwise_cons.mp h
    unfold insS
    split
    · exact h
    · rename_i ne
      split
      · rename_i q
        refine List.pairwise_cons.mpr ⟨fun z hz => ?_, h⟩
        rcases List.mem_cons.mp hz with rfl | hz
        · exact q
        · exact strLt_trans q (h1 z hz)
      · rename_i q
        refine List.pairwise_cons.mpr ⟨fun z hz => ?_, insS_up x h2⟩
        rcases (insS_mem x r z).mp hz with rfl | hz
        · exact strLt_or ne (by simpa using q)
        · exact h1 z hz
theorem srtS_up : ∀ l, upS (srtS l)
  | [] => List.Pairwise.nil
  | x :: r => insS_up x (srtS_up r)
theorem up_one : ∀ {l m : List Str}, upS l → upS m → (∀ y, y ∈ l ↔ y ∈ m) → l = m
  | [], [], _, _, _ => rfl
  | [], y :: m, _, _, h => absurd ((h y).mpr (.head _)) (by simp)
  | x :: l, [], _, _, h => absurd ((h x).mp (.head _)) (by simp)
  | x :: l, y :: m, hl, hm, h => by
    obtain ⟨l1, l2⟩ := List.pairwise_cons.mp hl
    obtain ⟨m1, m2⟩ := List.pairwise_cons.mp hm
    have e : x = y := by
      rcases List.mem_cons.mp ((h x).mp (.head _)) with e | hx
      · exact e
      · rcases List.mem_cons.mp ((h y).mpr (.head _)) with e | hy
        · exact e.symm
        · have t := strLt_trans (l1 y hy) (m1 x hx)
          rw [strLt_irr] at t
          cases t
    subst e
    have n1 : x ∉ l := fun hx => by
      have t := l1 x hx
      rw [strLt_irr] at t
      cases t
    have n2 : x ∉ m := fun hx => by
      have t := m1 x hx
      rw [strLt_irr] at t
      cases t
    rw [up_one l2 m2 fun y => ⟨fun hy => ?_, fun hy => ?_⟩]
    · rcases List.mem_cons.mp ((h y).mp (.tail _ hy)) with e | z
      · exact absurd (e ▸ hy) n1
      · exact z
    · rcases List.mem_cons.mp ((h y).mpr (.tail _ hy)) with e | z
      · exact absurd (e ▸ hy) n2
      · exact z
theorem up_of_rising : ∀ {a : Str} {r : List Str}, risingS a r = true → (a :: r).Nodup → upS (a :: r)
  | a, [], _, _ => List.pairwise_singleton _ _
  | a, b :: r, h, nd => by
    rw [show risingS a (b :: r) = (!ltCps b.cps.toList a.cps.toList && risingS b r) from rfl, Bool.and_eq_true] at h
    have p := up_of_rising h.2 (List.nodup_cons.mp nd).2
    have ab : strLt a b = true := by
      rcases SrtO.bcase (strLt a b) with q | q
      · exact q
      · refine absurd (strLt_or (fun e => ?_) q) ?_
        · subst e; simp at nd
        · rw [ltCps_eq] at h
          simpa [strLt] using h.1
    refine List.pairwise_cons.mpr ⟨fun x hx => ?_, p⟩
    rcases List.mem_cons.mp hx with rfl | hx
    · exact ab
    · exact strLt_trans ab ((List.pairwise_cons.mp p).1 x hx)
theorem up_of_sorted {zs : List Str} (h : sortedS zs = true) (nd : zs.Nodup) : upS zs := by
  cases zs with
  | nil => exact List.Pairwise.nil
  | cons a r => exact up_of_rising h nd
section
variable {C : Cp}
def xSrtSetT (x : X) : X := fun ρ => rbind (x ρ) fun s => match s.seq with
  | some ds => match strsD ds with
    | some zs => guard' (decide (zs.length + 3 < scanBound)) (ok (.dat (.list ((srtS zs).map PyData.str))))
    | none => none
  | none => none
theorem x_srtSetT {a : Expr} {x : X} {p1 p2 c1 c2 : Pos} (hc : C.X.calm = true) (hu : C.X.A.units + 64 < cLine) (hg1 : Gl C.X "sorted") (hm1 : C.X.mg "sorted" = none) (hg2 : Gl C.X "set") (hm2 : C.X.mg "set" = none) (ha : E C a (ofX x))
    (hs1 : starEach [a] C.X.env = (false, eval a C.X.env) :: starEach [] C.X.env := by rfl) (hp1 : (backTo c2 (starEach [] C.X.env)).any (·.1) = false := by rfl)
    (hs2 : starEach [.Call (.Name "set" p2) [a] [] c2] C.X.env = (false, eval (.Call (.Name "set" p2) [a] [] c2) C.X.env) :: starEach [] C.X.env := by rfl) (hp2 : (backTo c1 (starEach [] C.X.env)).any (·.1) = false := by rfl) :
    E C (.Call (.Name "sorted" p1) [.Call (.Name "set" p2) [a] [] c2] [] c1) (ofX (xSrtSetT x)) :=
  e_weak (e_srtSetT hc hu hg1 hm1 hg2 hm2 ha hs1 hp1 hs2 hp2) fun ρ q ex h => ofR_q (ofR_bind h) fun s h => by
    split at h
    · rename_i ds e1
      split at h
      · rename_i zs e2
        obtain ⟨few, hq⟩ := ofR_guard h
        have ed := strsD_eq e2
        subst ed
        refine ⟨zs, e1, of_decide_eq_true few, fun ys mem nd srt => ?_⟩
        have e : ys = srtS zs := up_one (up_of_sorted srt nd) (srtS_up zs) fun y => (mem y).trans (srtS_mem zs y).symm
        rw [e]
        exact hq
      · exact h.elim
    · exact h.elim
end
end PL

/-! a or b, a and b, of any values -/
namespace PL
open PySem PySem.Spec PyProof.Rows L2
section
variable {C : Cp} {a b : Expr} {rest : List Expr} {pos : Pos} {wa wb : W} {xa xb : X}
def wOrT (x y : W) : W := fun ρ q e => x ρ (fun s => tru s fun b => if b = true then q s else y ρ q e) e
def wAndT (x y : W) : W := fun ρ q e => x ρ (fun s => tru s fun b => if b = true then y ρ q e else q s) e
theorem tru_at {H Z : Hp} {s : S} {v : V} {P : Bool → Prop} (zh : Same Z H) (fd : FeedOk C.F H) {H0 : Hp} (sv : SV C.F H0 H Z v s) (hq : tru s P) : ∃ k, TruV C.X.K v H k ∧ P k := by
  unfold tru at hq
  split at hq
  · cases (show Dq Z v _ from sv); exact ⟨_, rfl, hq⟩
  · cases (show Dq Z v _ from sv); exact ⟨_, rfl, hq⟩
  · cases (show Dq Z v _ from sv); exact ⟨_, rfl, hq⟩
  · cases (show Dq Z v _ from sv); exact ⟨_, ⟨hq.1, rfl⟩, hq.2⟩
  · obtain ⟨b, ws, rfl, h1, h2⟩ := sv.lst zh fd rfl
    exact ⟨_, .inl ⟨_, SqL.of h1, rfl⟩, by rw [emp_eq h2]; exact hq⟩
  · cases (show Dq Z v _ from sv) with
    | tup h1 h2 => exact ⟨_, .inr (.inl ⟨_, SqT.of (zh _ _ h1), rfl⟩), by rw [emp_eq h2]; exact hq⟩
  · obtain ⟨b, ws, rfl, h1, h2⟩ := sv.lst zh fd rfl
    exact ⟨_, .inl ⟨_, SqL.of h1, rfl⟩, by rw [emp_eq h2]; exact hq⟩
  · exact hq.elim
theorem e_orT (ha : E C a wa) (hb : E C (.BoolOp .Or (b :: rest) pos) wb) : E C (.BoolOp .Or (a :: b :: rest) pos) (wOrT wa wb) :=
  weakE (pe_orT ha hb) fun σ H Q ⟨Z, ρ, q, ex, st, hw, k, ke⟩ => ⟨Z, ρ, _, ex, st, hw, fun s v H' Z' f fd sv h => by
    obtain ⟨t, ht, h⟩ := tru_at f.zh fd sv h
    refine ⟨t, ht, ?_⟩
    cases t with
    | true => exact k s v H' Z' f fd sv h
    | false => exact ⟨Z', ρ, q, ex, st.next f fd, h, k.next f, ke.next f⟩, ke⟩
theorem e_andT (ha : E C a wa) (hb : E C (.BoolOp .And (b :: rest) pos) wb) : E C (.BoolOp .And (a :: b :: rest) pos) (wAndT wa wb) :=
  weakE (pe_andT ha hb) fun σ H Q ⟨Z, ρ, q, ex, st, hw, k, ke⟩ => ⟨Z, ρ, _, ex, st, hw, fun s v H' Z' f fd sv h => by
    obtain ⟨t, ht, h⟩ := tru_at f.zh fd sv h
    refine ⟨t, ht, ?_⟩
    cases t with
    | false => exact k s v H' Z' f fd sv h
    | true => exact ⟨Z', ρ, q, ex, st.next f fd, h, k.next f, ke.next f⟩, ke⟩
def xOrT (x y : X) : X := fun ρ => rbind (x ρ) fun s => rbind (opt (pTru s)) fun b => match b with
  | true => ok s
  | false => y ρ
def xAndT (x y : X) : X := fun ρ => rbind (x ρ) fun s => rbind (opt (pTru s)) fun b => match b with
  | true => y ρ
  | false => ok s
theorem tru_of {s : S} {P : Bool → Prop} {e : Xn → Prop} (h : ofR (opt (pTru s)) P e) : tru s P := by
  obtain ⟨b, e1, hq⟩ := ofR_opt h
  unfold pTru at e1
  unfold tru
  split at e1 <;> first | (cases e1; done) | (cases e1; exact hq) | skip
  split at e1
  · rename_i hz; cases e1; exact ⟨hz, hq⟩
  · cases e1
theorem x_orT (ha : E C a (ofX xa)) (hb : E C (.BoolOp .Or (b :: rest) pos) (ofX xb)) : E C (.BoolOp .Or (a :: b :: rest) pos) (ofX (xOrT xa xb)) :=
  e_weak (e_orT ha hb) fun ρ q e h => ofR_q (ofR_bind h) fun s h => by
    refine tru_of (e := e) (s := s) ?_
    refine ofR_q (ofR_bind h) fun b h => ?_
    cases b with
    | true => exact h
    | false => exact h
theorem x_andT (ha : E C a (ofX xa)) (hb : E C (.BoolOp .And (b :: rest) pos) (ofX xb)) : E C (.BoolOp .And (a :: b :: rest) pos) (ofX (xAndT xa xb)) :=
  e_weak (e_andT ha hb) fun ρ q e h => ofR_q (ofR_bind h) fun s h => by
    refine tru_of (e := e) (s := s) ?_
    refine ofR_q (ofR_bind h) fun b h => ?_
    cases b with
    | true => exact h
    | false => exact h
end
end PL

/-! enumerate(a list) -/
namespace PL
open PySem PySem.Spec PyProof.Rows L2
/-- (index, item) of the list at a -/
def IteL (K : PySem.W.Frag) (a : Addr) : It where
  go := fun i H => ∃ (xs : List V) (x : V), SqL K H a xs ∧ xs[i]? = some x
  yld := fun i H v H' => ∃ T x, v = .ref T ∧ H T = none ∧ H' = upd H T (.tup [.int (i : Nat), x]) ∧ ∀ xs, SqL K H a xs → xs[i]? = some x
  stop := fun i H => ∃ xs : List V, SqL K H a xs ∧ xs.length = i
theorem turn_enumL {P : Program} {w : World} {K : PySem.W.Frag} {elts : List Expr} {kk : Nat} {tpos : Pos} (a e it : Addr) :
    Turn P w K (.Tuple elts kk tpos) (IteL K a) [e, it] e (fun i h => (∃ old, IsEnum h e it ((i : Nat) : Int) old) ∧ h.IsListIter it a i ∧ e ≠ it ∧ a ≠ it ∧ e ≠ a) where
  mem := by simp
  obj := fun i h st b hb => by
    obtain ⟨⟨old, he⟩, ⟨o, ho, hc, hd⟩, _⟩ := st
    have e' : b = e ∨ b = it := by simpa using hb
    rcases e' with rfl | rfl
    · exact ⟨_, he, fun v q => nomatch q⟩
    · exact ⟨o, ho, fun v q => by rw [hd] at q; cases q⟩
  keep := fun i h h' st k => by
    obtain ⟨⟨old, he⟩, hi, r⟩ := st
    exact ⟨⟨old, k e (by simp) _ he⟩, hi.at fun o q => k it (by simp) o q, r⟩
  item := by
    intro X hP hw hK hc i pins s σ H E I hf st hg
    subst hP hw hK
    obtain ⟨⟨old, he⟩, hit, hne, hai, hea⟩ := st
    obtain ⟨xs, x, hq, hx⟩ := hg
    obtain ⟨its, rv, p, hz⟩ := I.list hq
    obtain ⟨u, hu, ru⟩ := rv.get hx
    have hel : e < s.heap.objs.size := Heap.lt_size he
    have hil : it < s.heap.objs.size := by
      obtain ⟨_, q, _⟩ := hit
      exact Heap.lt_size q
    have D := Draws.list (prog := X.prog) (w := X.w) (A := X.A.in1) (show X.A.in1.handled = none from I.ok.hd hc) it a hai its.toArray
    have hlt : i < its.toArray.size := by
      have := (List.getElem?_eq_some_iff.mp hu).1
      simpa using this
    refine wpAny_pyNext_enum_itemD D he ⟨hit, p.isList⟩ hlt hne (by simp [hne, hea]) fun x' h' tk px ho st' hT hsz hk => ?_
    have ex : x' = u := by
      have : its[i]? = some x' := by simpa using px
      rw [hu] at this
      cases this; rfl
    subst ex
    refine ⟨_, rfl, wpAny_letOwnedTupleGo_enum (s := { s with heap := h', toks := tk + 1 }) ho fun h'' he' sb => ?_⟩
    have hT2 : h''.get? s.heap.objs.size = some { cls := .type "tuple", data := .seq #[.int i tk, x'] } := (sb.2 _ (Nat.ne_of_gt hel)).trans hT
    have new : ObjOk X.prog X.w (upd H s.heap.objs.size (.tup [.int (i : Nat), x])) h'' s.heap.objs.size (.tup [.int (i : Nat), x]) :=
      ⟨by show 2 ≤ sizeLine; decide, [.int i tk, x'], .cons ⟨_, rfl⟩ (.cons ru .nil), ⟨_, hT2, rfl, _, rfl⟩⟩
    have I1 : Inv X pins σ (upd H s.heap.objs.size (.tup [.int (i : Nat), x])) { s with heap := h'', toks := tk + 1 } :=
      I.turnedNew (ch := [e, it]) (fun b ob hb q => (sb.2 b (fun z => hb (by simp [z]))).trans (hk b ob (fun z => hb (by simp [z])) (fun z => hb (by simp [z])) q)) hf (Nat.le_refl _) new
    refine ⟨.ref s.heap.objs.size, _, I1, rfl, ⟨_, x, rfl, I.hok.fresh (Nat.le_refl _), rfl, fun ys hy => ?_⟩, ⟨⟨x', ?_⟩, st'.1.at fun o q => (sb.2 it (Ne.symm hne)).trans q, hne, hai, hea⟩, fun b hb => ?_⟩
    · rw [I.list_inj hy hq]; exact hx
    · have e1 : ((i + 1 : Nat) : Int) = (i : Int) + 1 := by omega
      rw [e1]; exact he'
    · have hb' : b < s.heap.objs.size := by
        have e' : b = e ∨ b = it := by simpa using hb
        rcases e' with rfl | rfl
        · exact hel
        · exact hil
      rw [upd_ne (Nat.ne_of_lt hb')]
      exact (hf b hb).1
  done := by
    intro X hP hw hK hc i pins s σ H E I hf st hg
    subst hP hw hK
    obtain ⟨⟨old, he⟩, hit, hne, hai, hea⟩ := st
    obtain ⟨xs, hq, hx⟩ := hg
    obtain ⟨its, rv, p, hz⟩ := I.list hq
    obtain ⟨f0, f1, f2, f3, f4, f5⟩ := hf it (by simp)
    have hl := rv.length
    have D := Draws.list (prog := X.prog) (w := X.w) (A := X.A.in1) (show X.A.in1.handled = none from I.ok.hd hc) it a hai its.toArray
    have en : i = its.toArray.size := by rw [List.size_toArray]; omega
    subst en
    exact wpAny_pyNext_enum_endD D he ⟨hit, p.isList⟩ fun h' eb => ⟨rfl, I.turned (t' := s.toks) (fun b o hb q => eb b o hb q) f0 f1 f3 f4 f5⟩
  self := fun A i s Q E st h => by
    obtain ⟨⟨_, he⟩, _⟩ := st
    exact wpAny_pyIter_enum he h
theorem yields_enumL {K : PySem.W.Frag} {Z : Hp} {a : Addr} {vs : List V} {ds : List D} (h : Z a = some (.lst vs)) (dv : Dqs Z vs ds) : Yields K (IteL K a) Z (pairsD ds) := by
  have l := dps_len dv
  have ln : (pairsD ds).length = ds.length := by simp [pairsD]
  refine ⟨fun i H zh hi => ⟨vs, vs[i]'(by omega), SqL.of (zh _ _ h), List.getElem?_eq_getElem _⟩, fun H zh => ⟨vs, SqL.of (zh _ _ h), by omega⟩, fun F i x H H' Zc hi zz f fd ⟨T, y, e1, nT, e2, hy⟩ => ?_⟩
  subst e1
  subst e2
  have hz : (Zc a) = some (.lst vs) := zz _ _ h
  have gy := hy vs (SqL.of (f.zh _ _ hz))
  have hi' : i < ds.length := by omega
  obtain ⟨d, hd, dq⟩ : ∃ d, ds[i]? = some d ∧ Dq Zc y d := by
    obtain ⟨v, e, q⟩ := dps_get (dps_mono zz _ _ dv) (List.getElem?_eq_getElem hi')
    rw [gy] at e
    cases e
    exact ⟨_, List.getElem?_eq_getElem hi', q⟩
  refine ⟨upd Zc T (.tup [.int (i : Nat), y]), .tuple [.int (i : Int), d], Fr.made f fd nT, fd.made nT, ?_, Dq.tup upd_same (.cons (Dq.int _) (.cons (dp_mono (Same.made ?_) _ _ dq) .nil))⟩
  · unfold pairsD
    rw [List.getElem?_map, List.getElem?_range hi', Option.map_some]
    rw [List.getD_eq_getElem?_getD, hd]
    rfl
  · cases q : Zc T with
    | none => rfl
    | some o => rw [f.zh _ _ q] at nT; cases nT
section
variable {C : Cp}
/-- over enumerate(a tuple or a list) -/
def wEnumS (w : W) : WI := fun ρ q e => w ρ (fun s => ∃ ds, (s = .dat (.tuple ds) ∨ s = .dat (.list ds)) ∧ q (pairsD ds)) e
theorem i_enumS {elts : List Expr} {kk : Nat} {tpos p pos : Pos} {a : Expr} {w : W} (hg : Gl C.X "enumerate") (hm : C.X.mg "enumerate" = none) (ha : E C a w) (hs : starEach [a] C.X.env = (false, eval a C.X.env) :: starEach [] C.X.env := by rfl)
    (hs1 : starEach [a] C.X.env = [(false, eval a C.X.env)] := by rfl) : Iter C (.Tuple elts kk tpos) (.Call (.Name "enumerate" p) [a] [] pos) (wEnumS w) := by
  constructor
  intro pins s σ H R I ⟨Z, ρ, q, ex, st, hw, k, ke⟩
  refine Call_ (ld_blt I hg hm boot_enumerate (PyProof.Rows.callWith_type1 (thn ((pa_cons ha pa_nil hs).run pos pins s σ H (fun vs H1 => ∃ x Z1 ds, vs = [x] ∧ Fr C.F H Z H1 Z1 ∧ FeedOk C.F H1 ∧ (Dq Z1 x (.tuple ds) ∨ Dq Z1 x (.list ds)) ∧ q (pairsD ds)) I ?_) fun us s1 ⟨vs, H1, I1, r1, q1⟩ => ?_) hs1 rfl))
  · exact ⟨Z, ρ, _, ex, st, hw, fun s x H1 Z1 f fd sv ⟨ds, e, hq⟩ => by
      rcases e with e | e
      · subst e; exact ⟨x, Z1, ds, rfl, f, fd, .inl sv, hq⟩
      · subst e; exact ⟨x, Z1, ds, rfl, f, fd, .inr sv, hq⟩, ke⟩
  · obtain ⟨x, Z1, ds, ev, f, fd, dq, hq⟩ := q1
    subst ev
    rcases dq with dq | dq
    · cases dq with
      | @tup b vs _ h1 h2 =>
      cases r1 with
      | cons r rr =>
        cases rr
        cases r
        obtain ⟨its, rv, p', lim⟩ := I1.tuple (SqT.of (f.zh _ _ h1))
        refine call_enum1 (begins_tuple b its.toArray) p' fun g he hit hk => wpAny_pyIter_enum he ?_
        have bl : b < s1.heap.objs.size := by
          obtain ⟨o, ho, _⟩ := p'
          exact Heap.lt_size ho
        refine ⟨s1.heap.objs.size + 1, [s1.heap.objs.size + 1, s1.heap.objs.size], _, _, H1, rfl, I1.kept (t' := s1.toks) hk, turn_enumT b (s1.heap.objs.size + 1) s1.heap.objs.size, ⟨⟨.none, he⟩, ⟨_, hit, rfl, rfl⟩, Nat.succ_ne_self _, Nat.ne_of_lt bl, Nat.ne_of_gt (Nat.lt_succ_of_lt bl)⟩, fun c hc => ?_, k _ _ H1 Z1 f fd (yields_enumT h1 h2) hq⟩
        have c2 : c = s1.heap.objs.size + 1 ∨ c = s1.heap.objs.size := by simpa using hc
        have c3 : s1.heap.objs.size ≤ c := c2.elim (fun z => by rw [z]; exact Nat.le_succ _) (fun z => by rw [z]; exact Nat.le_refl _)
        exact I1.fpOk c3 (I1.hok.fresh c3)
    · cases dq with
      | @lst b vs _ h1 h2 =>
      cases r1 with
      | cons r rr =>
        cases rr
        cases r
        obtain ⟨its, rv, p', lim⟩ := I1.list (SqL.of (f.zh _ _ h1))
        refine call_enum1 (begins_list b its.toArray) p'.isList fun g he hit hk => wpAny_pyIter_enum he ?_
        have bl : b < s1.heap.objs.size := by
          obtain ⟨o, ho, _⟩ := p'.isList
          exact Heap.lt_size ho
        refine ⟨s1.heap.objs.size + 1, [s1.heap.objs.size + 1, s1.heap.objs.size], _, _, H1, rfl, I1.kept (t' := s1.toks) hk, turn_enumL b (s1.heap.objs.size + 1) s1.heap.objs.size, ⟨⟨.none, he⟩, ⟨_, hit, rfl, rfl⟩, Nat.succ_ne_self _, Nat.ne_of_lt bl, Nat.ne_of_gt (Nat.lt_succ_of_lt bl)⟩, fun c hc => ?_, k _ _ H1 Z1 f fd (yields_enumL h1 h2) hq⟩
        have c2 : c = s1.heap.objs.size + 1 ∨ c = s1.heap.objs.size := by simpa using hc
        have c3 : s1.heap.objs.size ≤ c := c2.elim (fun z => by rw [z]; exact Nat.le_succ _) (fun z => by rw [z]; exact Nat.le_refl _)
        exact I1.fpOk c3 (I1.hok.fresh c3)
def xEnumS (x : X) : XI := fun ρ => rbind (x ρ) fun s => match s with
  | .dat (.tuple ds) => ok (pairsD ds)
  | .dat (.list ds) => ok (pairsD ds)
  | _ => none
theorem xi_enumS {xa : X} {a : Expr} {elts : List Expr} {kk : Nat} {tpos p pos : Pos} (hg : Gl C.X "enumerate") (hm : C.X.mg "enumerate" = none) (ha : E C a (ofX xa)) (hs : starEach [a] C.X.env = (false, eval a C.X.env) :: starEach [] C.X.env := by rfl)
    (hs1 : starEach [a] C.X.env = [(false, eval a C.X.env)] := by rfl) : Iter C (.Tuple elts kk tpos) (.Call (.Name "enumerate" p) [a] [] pos) (ofI (xEnumS xa)) :=
  i_weak (i_enumS hg hm ha hs hs1) fun ρ q e h => ofR_q (ofR_bind h) fun s h => by
    split at h
    · exact ⟨_, .inl rfl, h⟩
    · exact ⟨_, .inr rfl, h⟩
    · exact h.elim
end
end PL

/-! max and min of two ints -/
namespace PL
open PySem PySem.Spec PyProof.Rows L2
section
variable {C : Cp}
def pMax2 : List S → Option S
  | [.dat (.int i), .dat (.int j)] => some (.dat (.int (if j > i then j else i)))
  | _ => none
def pMin2 : List S → Option S
  | [.dat (.int i), .dat (.int j)] => some (.dat (.int (if j < i then j else i)))
  | _ => none
theorem b_max2 (hc : C.X.calm = true) : Bi C (.builtin "max") (oOf pMax2) := by
  intro pins s σ H vs us Q I r ⟨Z, ss, q, a, sv, t, e, hq⟩
  unfold pMax2 at e
  split at e
  · obtain ⟨u, v, rfl, h1, h2⟩ := svs2 sv
    cases (show Dq Z u (.int _) from h1)
    cases (show Dq Z v (.int _) from h2)
    cases e
    exact call_max2 hc pins s σ H _ us Q I r ⟨_, _, rfl, a.ret (s := .dat (.int _)) (Dq.int _) hq⟩
  · cases e
theorem b_min2 (hc : C.X.calm = true) : Bi C (.builtin "min") (oOf pMin2) := by
  intro pins s σ H vs us Q I r ⟨Z, ss, q, a, sv, t, e, hq⟩
  unfold pMin2 at e
  split at e
  · obtain ⟨u, v, rfl, h1, h2⟩ := svs2 sv
    cases (show Dq Z u (.int _) from h1)
    cases (show Dq Z v (.int _) from h2)
    cases e
    exact call_min2 hc pins s σ H _ us Q I r ⟨_, _, rfl, a.ret (s := .dat (.int _)) (Dq.int _) hq⟩
  · cases e
end
end PL

namespace K33
open PySem PySem.Spec PyProof.Rows L2 PL
def topS (i : Nat) : Stmt := PySem.Challenge.pw_nearhours_k33_ring_papers_by_hand.main.body.getD i (.Pass ⟨0, 0, 0, 0⟩)
structure Bis (mg : Str → Option Value) : Prop where
  abs : mg "abs" = none
  all : mg "all" = none
  any : mg "any" = none
  bool : mg "bool" = none
  dict : mg "dict" = none
  enumerate : mg "enumerate" = none
  gcd : mg "gcd" = some (.builtin "math.gcd")
  int : mg "int" = none
  isinstance : mg "isinstance" = none
  len : mg "len" = none
  list : mg "list" = none
  max : mg "max" = none
  range : mg "range" = none
  repr : mg "repr" = none
  set : mg "set" = none
  sorted : mg "sorted" = none
  str : mg "str" = none
  sum : mg "sum" = none
  tuple : mg "tuple" = none
  zip : mg "zip" = none
abbrev fam (tabs : List (Addr × Str)) : Fd → Prop := FamT tabs
def initS (i : Nat) : Stmt := match topS i with | .ClassDef _ _ _ body .. => body.getD 0 (.Pass ⟨0, 0, 0, 0⟩) | s => s
abbrev s_bounds_by_ends : Stmt := topS 2
abbrev N_bounds_by_ends : List Str := ["town", "wires", "one", "other", "low", "high", "ends"]
abbrev ps_bounds_by_ends : List Str := ["town"]
abbrev s_outside_of : Stmt := topS 3
abbrev N_outside_of : List Str := ["town", "lot", "tower"]
abbrev ps_outside_of : List Str := ["town", "lot"]
abbrev s_is_outside : Stmt := topS 4
abbrev N_is_outside : List Str := ["letter", "lot"]
abbrev ps_is_outside : List Str := ["letter", "lot"]
abbrev s_is_part : Stmt := topS 5
abbrev N_is_part : List Str := ["lot", "whole", "tower"]
abbrev ps_is_part : List Str := ["lot", "whole"]
abbrev s_ties_between : Stmt := topS 7
abbrev N_ties_between : List Str := ["town", "run", "lot", "bounds", "ties", "index", "letter", "one", "other", "sent", "heard", "low", "high"]
abbrev ps_ties_between : List Str := ["town", "run", "lot"]
abbrev s_least_sums : Stmt := topS 8
abbrev N_least_sums : List Str := ["ties", "starts", "many", "sums", "tower", "last", "fallen", "_", "tie", "one", "other", "most"]
abbrev ps_least_sums : List Str := ["ties", "starts", "many"]
abbrev s_steps_back : Stmt := topS 9
abbrev N_steps_back : List Str := ["last", "tower", "start", "steps", "one", "other", "_", "index"]
abbrev ps_steps_back : List Str := ["last", "tower", "start"]
abbrev s_ring_by : Stmt := topS 10
abbrev N_ring_by : List Str := ["ties", "towers", "_", "last", "fallen", "tower"]
abbrev ps_ring_by : List Str := ["ties", "towers"]
abbrev s_ring_outside : Stmt := topS 11
abbrev N_ring_outside : List Str := ["town", "run", "lot"]
abbrev ps_ring_outside : List Str := ["town", "run", "lot"]
abbrev s_explains : Stmt := topS 12
abbrev N_explains : List Str := ["town", "run", "lot"]
abbrev ps_explains : List Str := ["town", "run", "lot"]
abbrev s_first_misfit : Stmt := topS 13
abbrev N_first_misfit : List Str := ["ties", "towers", "gains", "gain_of", "one", "other", "most", "index"]
abbrev ps_first_misfit : List Str := ["ties", "towers", "gains"]
abbrev s_least_terms : Stmt := topS 15
abbrev N_least_terms : List Str := ["top", "bottom", "shared"]
abbrev ps_least_terms : List Str := ["top", "bottom"]
abbrev s_is_more : Stmt := topS 16
abbrev N_is_more : List Str := ["one", "other"]
abbrev ps_is_more : List Str := ["one", "other"]
abbrev s_greatest_of : Stmt := topS 17
abbrev N_greatest_of : List Str := ["fractions", "greatest", "one"]
abbrev ps_greatest_of : List Str := ["fractions"]
abbrev s_is_under : Stmt := topS 19
abbrev N_is_under : List Str := ["fears", "lot", "told"]
abbrev ps_is_under : List Str := ["fears", "lot"]
abbrev s_has_any : Stmt := topS 20
abbrev N_has_any : List Str := ["lot", "towers", "tower"]
abbrev ps_has_any : List Str := ["lot", "towers"]
abbrev s_is_explained : Stmt := topS 21
abbrev N_is_explained : List Str := ["town", "fears", "run", "lot"]
abbrev ps_is_explained : List Str := ["town", "fears", "run"]
abbrev s_is_integer : Stmt := topS 23
abbrev N_is_integer : List Str := ["thing"]
abbrev ps_is_integer : List Str := ["thing"]
abbrev s_is_name : Stmt := topS 24
abbrev N_is_name : List Str := ["thing"]
abbrev ps_is_name : List Str := ["thing"]
abbrev s_is_ascending : Stmt := topS 28
abbrev N_is_ascending : List Str := ["row", "k"]
abbrev ps_is_ascending : List Str := ["row"]
abbrev s_is_towers : Stmt := topS 25
abbrev N_is_towers : List Str := ["thing", "name"]
abbrev ps_is_towers : List Str := ["thing"]
abbrev s_is_tuple : Stmt := topS 26
abbrev N_is_tuple : List Str := ["thing", "many"]
abbrev ps_is_tuple : List Str := ["thing", "many"]
abbrev s_are_integers : Stmt := topS 27
abbrev N_are_integers : List Str := ["thing", "many", "number"]
abbrev ps_are_integers : List Str := ["thing", "many"]
abbrev s_is_wire_form : Stmt := topS 30
abbrev N_is_wire_form : List Str := ["towers", "thing", "one", "other"]
abbrev ps_is_wire_form : List Str := ["towers", "thing"]
abbrev s_is_lot : Stmt := topS 31
abbrev N_is_lot : List Str := ["town", "thing", "tower"]
abbrev ps_is_lot : List Str := ["town", "thing"]
abbrev s_town_fault : Stmt := topS 32
abbrev N_town_fault : List Str := ["thing", "towers", "wires", "k", "wire"]
abbrev ps_town_fault : List Str := ["thing"]
abbrev s_run_fault : Stmt := topS 33
abbrev N_run_fault : List Str := ["town", "thing", "bounds", "k", "letter"]
abbrev ps_run_fault : List Str := ["town", "thing"]
abbrev s_fears_fault : Stmt := topS 34
abbrev N_fears_fault : List Str := ["town", "thing", "k", "lot"]
abbrev ps_fears_fault : List Str := ["town", "thing"]
abbrev s_gains_fault : Stmt := topS 36
abbrev N_gains_fault : List Str := ["town", "run", "lot", "thing", "towers", "index"]
abbrev ps_gains_fault : List Str := ["town", "run", "lot", "thing"]
abbrev s_refuse_paper : Stmt := topS 44
abbrev N_refuse_paper : List Str := ["fault", "word", "at"]
abbrev ps_refuse_paper : List Str := ["fault"]
abbrev s_refuse_town : Stmt := topS 45
abbrev N_refuse_town : List Str := ["town"]
abbrev ps_refuse_town : List Str := ["town"]
abbrev s_refuse_run : Stmt := topS 46
abbrev N_refuse_run : List Str := ["town", "run"]
abbrev ps_refuse_run : List Str := ["town", "run"]
abbrev s_refuse_fears : Stmt := topS 47
abbrev N_refuse_fears : List Str := ["town", "fears"]
abbrev ps_refuse_fears : List Str := ["town", "fears"]
abbrev s_refuse_asked : Stmt := topS 48
abbrev N_refuse_asked : List Str := ["town", "fears", "run"]
abbrev ps_refuse_asked : List Str := ["town", "fears", "run"]
abbrev s_refuse_quarrel : Stmt := topS 49
abbrev N_refuse_quarrel : List Str := ["town", "fears", "run"]
abbrev ps_refuse_quarrel : List Str := ["town", "fears", "run"]
abbrev s_is_told : Stmt := topS 54
abbrev N_is_told : List Str := ["town", "thing"]
abbrev ps_is_told : List Str := ["town", "thing"]
abbrev s_circle_fault : Stmt := topS 53
abbrev N_circle_fault : List Str := ["town", "steps", "k", "step", "ahead"]
abbrev ps_circle_fault : List Str := ["town", "steps"]
abbrev s_crossing_fault : Stmt := topS 57
abbrev N_crossing_fault : List Str := ["run", "part", "rest", "index", "one", "other", "_"]
abbrev ps_crossing_fault : List Str := ["run", "part", "rest"]
abbrev s_far_fault : Stmt := topS 56
abbrev N_far_fault : List Str := ["town", "fears", "run", "told", "one", "other", "lot", "gains", "part", "tower"]
abbrev ps_far_fault : List Str := ["town", "fears", "run", "told"]
abbrev s_steps_fault : Stmt := topS 55
abbrev N_steps_fault : List Str := ["town", "fears", "run", "steps", "k", "tower", "lot", "gains", "following"]
abbrev ps_steps_fault : List Str := ["town", "fears", "run", "steps"]
abbrev s_bound_fault : Stmt := topS 52
abbrev N_bound_fault : List Str := ["town", "fears", "run", "thing"]
abbrev ps_bound_fault : List Str := ["town", "fears", "run", "thing"]
abbrev s_mean_of : Stmt := topS 58
abbrev N_mean_of : List Str := ["town", "steps", "told", "k", "tower", "lot", "gains", "gain_of"]
abbrev ps_mean_of : List Str := ["town", "steps"]
abbrev s_lets_ring : Stmt := topS 51
abbrev N_lets_ring : List Str := ["town", "fears", "run", "thing"]
abbrev ps_lets_ring : List Str := ["town", "fears", "run", "thing"]
abbrev s__law_same : Stmt := topS 60
abbrev N__law_same : List Str := ["_law_told", "_law_due"]
abbrev ps__law_same : List Str := ["_law_told", "_law_due"]
abbrev s__law_frac : Stmt := topS 62
abbrev N__law_frac : List Str := ["_law_top", "_law_bottom", "_law_one", "_law_two"]
abbrev ps__law_frac : List Str := ["_law_top", "_law_bottom"]
abbrev s__law_feared : Stmt := topS 63
abbrev N__law_feared : List Str := ["_law_lots", "_law_found", "_law_lot", "_law_parts", "_law_name", "_law_early", "_law_part"]
abbrev ps__law_feared : List Str := ["_law_lots"]
abbrev s__law_wires : Stmt := topS 64
abbrev N__law_wires : List Str := ["_law_site", "_law_found", "_law_one", "_law_other", "_law_low", "_law_high"]
abbrev ps__law_wires : List Str := ["_law_site"]
abbrev s__law_is_integer : Stmt := topS 65
abbrev N__law_is_integer : List Str := ["_law_item"]
abbrev ps__law_is_integer : List Str := ["_law_item"]
abbrev s__law_is_lot : Stmt := topS 66
abbrev N__law_is_lot : List Str := ["_law_site", "_law_item", "_law_odd", "_law_name"]
abbrev ps__law_is_lot : List Str := ["_law_site", "_law_item"]
abbrev s__law_do_fit : Stmt := topS 67
abbrev N__law_do_fit : List Str := ["_law_site", "_law_news", "_law_lot", "_law_gains", "_law_names", "_law_wires_here", "_law_name", "_law_much", "_law_by", "_law_k", "_law_one", "_law_other", "_law_sent", "_law_heard", "_law_low", "_law_high", "_law_late"]
abbrev ps__law_do_fit : List Str := ["_law_site", "_law_news", "_law_lot", "_law_gains"]
abbrev s__law_told_by : Stmt := topS 68
abbrev N__law_told_by : List Str := ["_law_site", "_law_lot", "_law_gains", "_law_one", "_law_other", "_law_names", "_law_name"]
abbrev ps__law_told_by : List Str := ["_law_site", "_law_lot", "_law_gains", "_law_one", "_law_other"]
abbrev s__law_is_good_lot : Stmt := topS 69
abbrev N__law_is_good_lot : List Str := ["_law_lots", "_law_lot", "_law_one", "_law_other"]
abbrev ps__law_is_good_lot : List Str := ["_law_lots", "_law_lot", "_law_one", "_law_other"]
abbrev s__law_circle_due : Stmt := topS 70
abbrev N__law_circle_due : List Str := ["_law_site", "_law_lots", "_law_news", "_law_moves", "_law_k", "_law_move", "_law_early", "_law_total", "_law_one", "_law_lot", "_law_gains", "_law_goal"]
abbrev ps__law_circle_due : List Str := ["_law_site", "_law_lots", "_law_news", "_law_moves"]
abbrev s__law_far_due : Stmt := topS 71
abbrev N__law_far_due : List Str := ["_law_site", "_law_lots", "_law_news", "_law_note", "_law_one", "_law_other", "_law_lot", "_law_gains", "_law_part", "_law_name", "_law_k", "_law_note_of", "_law_sides"]
abbrev ps__law_far_due : List Str := ["_law_site", "_law_lots", "_law_news", "_law_note"]
abbrev s__law_ring_due : Stmt := topS 72
abbrev N__law_ring_due : List Str := ["_law_site", "_law_lots", "_law_news", "_law_note"]
abbrev ps__law_ring_due : List Str := ["_law_site", "_law_lots", "_law_news", "_law_note"]
abbrev s__law_worlds_told : Stmt := topS 73
abbrev N__law_worlds_told : List Str := ["_law_two", "_law_ring", "_law_odd"]
abbrev ps__law_worlds_told : List Str := []
abbrev s__law_right_rows : Stmt := topS 74
abbrev N__law_right_rows : List Str := ["_law_two", "_law_ring", "_law_each", "_law_odd", "_law_once", "_law_split", "_law_rows"]
abbrev ps__law_right_rows : List Str := []
abbrev s__law_circle_rows : Stmt := topS 75
abbrev N__law_circle_rows : List Str := ["_law_two", "_law_ring", "_law_each", "_law_odd", "_law_good", "_law_rows", "_law_odd_thing", "_law_move", "_law_lot", "_law_gains"]
abbrev ps__law_circle_rows : List Str := []
abbrev s__law_far_rows : Stmt := topS 76
abbrev N__law_far_rows : List Str := ["_law_two", "_law_ring", "_law_each", "_law_odd", "_law_split", "_law_news", "_law_rows", "_law_odd_thing", "_law_bad", "_law_lot", "_law_gains", "_law_part"]
abbrev ps__law_far_rows : List Str := []
abbrev s__law_are_refused : Stmt := topS 77
abbrev N__law_are_refused : List Str := ["_law_two", "_law_ring", "_law_each", "_law_odd", "_law_lies", "_law_told", "_law_due"]
abbrev ps__law_are_refused : List Str := []
abbrev s_law : Stmt := topS 78
abbrev N_law : List Str := ["_law_script", "_law_rows", "_law_site", "_law_lots", "_law_news", "_law_note", "_law_due", "_law_told"]
abbrev ps_law : List Str := ["_law_script"]
abbrev s__law_judged : Stmt := topS 61
abbrev N__law_judged : List Str := ["_law_call", "error"]
abbrev s_InvalidPaper : Stmt := initS 41
abbrev s_NotUsable : Stmt := initS 42
def subT : List ((Str × Str) × Bool) := [(("InvalidPaper", "InvalidPaper"), true), (("InvalidPaper", "NotUsable"), false), (("NotUsable", "InvalidPaper"), false), (("NotUsable", "NotUsable"), true)]
abbrev sub : Str → Str → Option Bool := tblB subT
def m__law_judged_0 (a : Addr) (xn : Xn) : XS := (xRet (xTup (xCons (xD (.str (Str.ofString "use"))) (xCons (xExF 1 a xn.fs "word") (xCons (xExF 1 a xn.fs "at") xNil)))))
def g__law_judged_0 : Xn → Option S
  | ⟨cl, [(f2, d2), (f1, d1)]⟩ => if f2 = "at" ∧ f1 = "word" then (if cl = "NotUsable" then some (.dat (.tuple [.str "use", d1, d2])) else none) else none
  | _ => none
def m__law_judged_1 (a : Addr) (xn : Xn) : XS := (xRet (xTup (xCons (xD (.str (Str.ofString "paper"))) (xCons (xExF 1 a xn.fs "word") (xCons (xExF 1 a xn.fs "at") xNil)))))
def g__law_judged_1 : Xn → Option S
  | ⟨cl, [(f2, d2), (f1, d1)]⟩ => if f2 = "at" ∧ f1 = "word" then (if cl = "InvalidPaper" then some (.dat (.tuple [.str "paper", d1, d2])) else none) else none
  | _ => none
def cs__law_judged : List Cw := [⟨"NotUsable", 1, m__law_judged_0, g__law_judged_0⟩, ⟨"InvalidPaper", 1, m__law_judged_1, g__law_judged_1⟩]
def G__law_judged : R S → R S := toldBy sub "told" cs__law_judged
def XF_bounds_by_ends : XS := (xSeq (xSet 1 (xBin pIx (xVar 0) (xD (.int 1))))
    (xRet (xDc kiT (xIt (xVar 1)) (selT 4) [2, 3, 4, 5, 6] [2, 3, 4, 5] (clIn (xIt (xTup (xCons (xTup (xCons (xVar 2) (xCons (xVar 3) xNil))) (xCons (xTup (xCons (xVar 3) (xCons (xVar 2) xNil))) xNil)))) sel1 [6] [6] (dcElt kiT.as (xVar 6) (xTup (xCons (xVar 4) (xCons (xVar 5) xNil))))))))
def F_bounds_by_ends : List S → R S := runF 7 XF_bounds_by_ends
def XF_outside_of : XS := (xRet (xBi pTuple (xCons (xNew (xLc [2] [2] sel1 (xIt (xBin pIx (xVar 0) (xD (.int 0)))) (xT (xBin (pIn true) (xVar 2) (xVar 1))) (xVar 2))) xNil)))
def F_outside_of : List S → R S := runF 3 XF_outside_of
def XF_is_outside : XS := (xRet (xAnd (xBin (pIn true) (xBin pIx (xVar 0) (xD (.int 0))) (xVar 1)) (xBin (pIn true) (xBin pIx (xVar 0) (xD (.int 1))) (xVar 1))))
def F_is_outside : List S → R S := runF 2 XF_is_outside
def XF_is_part : XS := (xRet (xBi (pAll fun bs => bs.all id) (xCons (xNew (xLc [2] [2] sel1 (xIt (xVar 0)) xYes (xBin (pIn false) (xVar 2) (xVar 1)))) xNil)))
def F_is_part : List S → R S := runF 3 XF_is_part
def XF_ties_between : XS := (xSeq (xSet 3 (xCall F_bounds_by_ends (xCons (xVar 0) xNil)))
    (xSeq (xOwn 4 (xLst xNil))
    (xSeq (xFor (xEnumS (xVar 1)) (xgTp 2 (xgCons (xgNm 5) (xgCons (xgNm 6) xgNil))) (xIf (xTru (xCall F_is_outside (xCons (xVar 6) (xCons (xVar 2) xNil)))) (xSeq (xAsg (xVar 6) (xgTp 4 (xgCons (xgNm 7) (xgCons (xgNm 8) (xgCons (xgNm 9) (xgCons (xgNm 10) xgNil))))))
    (xSeq (xAsg (xGet (xVar 3) (xTup (xCons (xVar 7) (xCons (xVar 8) xNil)))) (xgTp 2 (xgCons (xgNm 11) (xgCons (xgNm 12) xgNil))))
    (xSeq (xApp 4 (xTup (xCons (xVar 7) (xCons (xVar 8) (xCons (xBin pSub (xBin pSub (xVar 10) (xVar 9)) (xVar 11)) (xCons (xVar 5) xNil))))))
    (xApp 4 (xTup (xCons (xVar 8) (xCons (xVar 7) (xCons (xBin pAdd (xBin pSub (xVar 12) (xVar 10)) (xVar 9)) (xCons (xVar 5) xNil))))))))) xNx))
    (xRet (xBi pTuple (xCons (xVar 4) xNil))))))
def F_ties_between : List S → R S := runF 13 XF_ties_between
def XF_least_sums : XS := (xSeq (xOwnD 3 (xNew (xLc [4] [4] sel1 (xIt (xVar 1)) xYes (xTup (xCons (xVar 4) (xCons (xD (.int 0)) xNil))))))
    (xSeq (xNewK 5)
    (xSeq (xSet 6 (xD .none))
    (xSeq (xFor (xRng1 (xCons (xVar 2) xNil)) (xgNm 7) (xSeq (xSet 6 (xD .none))
    (xSeq (xFor (xIt (xVar 0)) (xgNm 8) (xSeq (xAsg (xVar 8) (xgTp 4 (xgCons (xgNm 9) (xgCons (xgNm 10) (xgCons (xgNm 11) (xgCons (xgNm 7) xgNil))))))
    (xIf (xAndB (xT (xBin (pInD false) (xVar 9) (xVar 3))) (xOrB (xT (xBin (pInD true) (xVar 10) (xVar 3))) (xT (xBin pLt (xBin pAdd (xGet (xVar 3) (xVar 9)) (xVar 11)) (xGet (xVar 3) (xVar 10)))))) (xSeq (xPut 3 (xVar 10) (xBin pAdd (xGet (xVar 3) (xVar 9)) (xVar 11)))
    (xSeq (xPut 5 (xVar 10) (xVar 8))
    (xSet 6 (xVar 10)))) xNx)))
    (xIf (xT (xBin (pIsN false) (xVar 6) (xD .none))) xBk xNx))))
    (xFrz 5 (xFrz 3 (xRet (xTup (xCons (xVar 3) (xCons (xVar 5) (xCons (xVar 6) xNil)))))))))))
def F_least_sums : List S → R S := runF 12 XF_least_sums
def XF_steps_back : XS := (xSeq (xOwn 3 (xLst xNil))
    (xSeq (xWhile (xOrB (xT (xBin (pEq true) (xVar 1) (xVar 2))) (xT (xBin (pEq false) (xBi pLen (xCons (xVar 3) xNil)) (xD (.int 0))))) (xSeq (xAsg (xGet (xVar 0) (xVar 1)) (xgTp 4 (xgCons (xgNm 4) (xgCons (xgNm 5) (xgCons (xgNm 6) (xgCons (xgNm 7) xgNil))))))
    (xSeq (xApp 3 (xTup (xCons (xVar 7) (xCons (xVar 5) xNil))))
    (xSet 1 (xVar 4)))) 1000)
    (xRet (xBi pTuple (xCons (xRev (xVar 3)) xNil)))))
def F_steps_back : List S → R S := runF 8 XF_steps_back
def XF_ring_by : XS := (xSeq (xAsg (xCall F_least_sums (xCons (xVar 0) (xCons (xVar 1) (xCons (xBi pLen (xCons (xVar 1) xNil)) xNil)))) (xgTp 3 (xgCons (xgNm 2) (xgCons (xgNm 3) (xgCons (xgNm 4) xgNil)))))
    (xSeq (xIf (xT (xBin (pIsN false) (xVar 4) (xD .none))) (xRet (xD .none)) xNx)
    (xSeq (xSet 5 (xVar 4))
    (xSeq (xFor (xIt (xVar 1)) (xgNm 2) (xSet 5 (xBin pIx (xGet (xVar 3) (xVar 5)) (xD (.int 0)))))
    (xRet (xCall F_steps_back (xCons (xVar 3) (xCons (xVar 5) (xCons (xVar 5) xNil)))))))))
def F_ring_by : List S → R S := runF 6 XF_ring_by
def XF_ring_outside : XS := (xRet (xCall F_ring_by (xCons (xCall F_ties_between (xCons (xVar 0) (xCons (xVar 1) (xCons (xVar 2) xNil)))) (xCons (xCall F_outside_of (xCons (xVar 0) (xCons (xVar 2) xNil))) xNil))))
def F_ring_outside : List S → R S := runF 3 XF_ring_outside
def XF_explains : XS := (xRet (xBin (pIsN false) (xCall F_ring_outside (xCons (xVar 0) (xCons (xVar 1) (xCons (xVar 2) xNil)))) (xD .none)))
def F_explains : List S → R S := runF 3 XF_explains
def XF_first_misfit : XS := (xSeq (xSet 3 (xDictZ (xCons (xVar 1) (xCons (xVar 2) xNil))))
    (xSeq (xFor (xIt (xVar 0)) (xgTp 4 (xgCons (xgNm 4) (xgCons (xgNm 5) (xgCons (xgNm 6) (xgCons (xgNm 7) xgNil))))) (xIf (xT (xBin pGt (xBin pSub (xGet (xVar 3) (xVar 5)) (xGet (xVar 3) (xVar 4))) (xVar 6))) (xRet (xVar 7)) xNx))
    (xRet (xD .none))))
def F_first_misfit : List S → R S := runF 8 XF_first_misfit
def XF_least_terms : XS := (xSeq (xSet 2 (xBi pGcd (xCons (xVar 0) (xCons (xVar 1) xNil))))
    (xRet (xTup (xCons (xBin pDiv (xVar 0) (xVar 2)) (xCons (xBin pDiv (xVar 1) (xVar 2)) xNil)))))
def F_least_terms : List S → R S := runF 3 XF_least_terms
def XF_is_more : XS := (xRet (xBin pGt (xBin pMul (xBin pIx (xVar 0) (xD (.int 0))) (xBin pIx (xVar 1) (xD (.int 1)))) (xBin pMul (xBin pIx (xVar 1) (xD (.int 0))) (xBin pIx (xVar 0) (xD (.int 1))))))
def F_is_more : List S → R S := runF 2 XF_is_more
def XF_greatest_of : XS := (xSeq (xSet 1 (xTup (xCons (xD (.int 0)) (xCons (xD (.int 1)) xNil))))
    (xSeq (xFor (xIt (xVar 0)) (xgNm 2) (xIf (xTru (xCall F_is_more (xCons (xVar 2) (xCons (xVar 1) xNil)))) (xSet 1 (xVar 2)) xNx))
    (xRet (xVar 1))))
def F_greatest_of : List S → R S := runF 3 XF_greatest_of
def XF_is_under : XS := (xRet (xBi (pAll fun bs => bs.any id) (xCons (xNew (xLc [2] [2] sel1 (xIt (xVar 0)) xYes (xCall F_is_part (xCons (xVar 1) (xCons (xVar 2) xNil))))) xNil)))
def F_is_under : List S → R S := runF 3 XF_is_under
def XF_has_any : XS := (xRet (xBi (pAll fun bs => bs.any id) (xCons (xNew (xLc [2] [2] sel1 (xIt (xVar 1)) xYes (xBin (pIn false) (xVar 2) (xVar 0)))) xNil)))
def F_has_any : List S → R S := runF 3 XF_has_any
def XF_is_explained : XS := (xRet (xBi (pAll fun bs => bs.any id) (xCons (xNew (xLc [3] [3] sel1 (xIt (xVar 1)) xYes (xCall F_explains (xCons (xVar 0) (xCons (xVar 2) (xCons (xVar 3) xNil)))))) xNil)))
def F_is_explained : List S → R S := runF 4 XF_is_explained
def XF_is_integer : XS := (xRet (xAnd (xIs "int" (xVar 0)) (xNot (xIs "bool" (xVar 0)))))
def F_is_integer : List S → R S := runF 1 XF_is_integer
def XF_is_name : XS := (xSeq (xIf (xOrB (xNotB (xTru (xIs "str" (xVar 0)))) (xNotB (xChain pLe pLe (xD (.int 1)) (xBi pLen (xCons (xVar 0) xNil)) (xD (.int 8))))) (xRet (xD (.bool false))) xNx)
    (xRet (xAnd (xM0 (fun z => .bool (Txt.isascii z)) (xVar 0)) (xAnd (xM0 (fun z => .bool (Txt.isalpha z)) (xVar 0)) (xM0 (fun z => .bool (Txt.islower z)) (xVar 0))))))
def F_is_name : List S → R S := runF 1 XF_is_name
def XF_is_ascending : XS := (xRet (xBi (pAll fun bs => bs.all id) (xCons (xNew (xLc [1] [1] sel1 (xRng2 (xCons (xD (.int 1)) (xCons (xBi pLen (xCons (xVar 0) xNil)) xNil))) xYes (xBin pLt (xBin pIx (xVar 0) (xBin pSub (xVar 1) (xD (.int 1)))) (xBin pIx (xVar 0) (xVar 1))))) xNil)))
def F_is_ascending : List S → R S := runF 2 XF_is_ascending
def XF_is_towers : XS := (xSeq (xIf (xOrB (xNotB (xTru (xIs "tuple" (xVar 0)))) (xT (xBin (pEq false) (xBi pLen (xCons (xVar 0) xNil)) (xD (.int 0))))) (xRet (xD (.bool false))) xNx)
    (xRet (xAnd (xBi (pAll fun bs => bs.all id) (xCons (xNew (xLc [1] [1] sel1 (xIt (xVar 0)) xYes (xCall F_is_name (xCons (xVar 1) xNil)))) xNil)) (xCall F_is_ascending (xCons (xVar 0) xNil)))))
def F_is_towers : List S → R S := runF 2 XF_is_towers
def XF_is_tuple : XS := (xRet (xAnd (xIs "tuple" (xVar 0)) (xBin (pEq false) (xBi pLen (xCons (xVar 0) xNil)) (xVar 1))))
def F_is_tuple : List S → R S := runF 2 XF_is_tuple
def XF_are_integers : XS := (xRet (xAnd (xCall F_is_tuple (xCons (xVar 0) (xCons (xVar 1) xNil))) (xBi (pAll fun bs => bs.all id) (xCons (xNew (xLc [2] [2] sel1 (xIt (xVar 0)) xYes (xCall F_is_integer (xCons (xVar 2) xNil)))) xNil))))
def F_are_integers : List S → R S := runF 3 XF_are_integers
def XF_is_wire_form : XS := (xSeq (xIf (xOrB (xNotB (xTru (xCall F_is_tuple (xCons (xVar 1) (xCons (xD (.int 4)) xNil))))) (xNotB (xTru (xCall F_are_integers (xCons (xSl (xVar 1) (xPart (xD (.int 2))) xNoPart) (xCons (xD (.int 2)) xNil)))))) (xRet (xD (.bool false))) xNx)
    (xSeq (xAsg (xSl (xVar 1) xNoPart (xPart (xD (.int 2)))) (xgTp 2 (xgCons (xgNm 2) (xgCons (xgNm 3) xgNil))))
    (xRet (xAnd (xBin (pIn false) (xVar 2) (xVar 0)) (xAnd (xBin (pIn false) (xVar 3) (xVar 0)) (xBin pLt (xVar 2) (xVar 3)))))))
def F_is_wire_form : List S → R S := runF 4 XF_is_wire_form
def XF_is_lot : XS := (xSeq (xIf (xNotB (xTru (xIs "tuple" (xVar 1)))) (xRet (xD (.bool false))) xNx)
    (xRet (xAnd (xBi (pAll fun bs => bs.all id) (xCons (xNew (xLc [2] [2] sel1 (xIt (xVar 1)) xYes (xBin (pIn false) (xVar 2) (xBin pIx (xVar 0) (xD (.int 0)))))) xNil)) (xCall F_is_ascending (xCons (xVar 1) xNil)))))
def F_is_lot : List S → R S := runF 3 XF_is_lot
def XF_town_fault : XS := (xSeq (xIf (xNotB (xTru (xCall F_is_tuple (xCons (xVar 0) (xCons (xD (.int 2)) xNil))))) (xRet (xTup (xCons (xD (.str (Str.ofString "shape"))) (xCons (xUn pNeg (xD (.int 1))) xNil)))) xNx)
    (xSeq (xAsg (xVar 0) (xgTp 2 (xgCons (xgNm 1) (xgCons (xgNm 2) xgNil))))
    (xSeq (xIf (xNotB (xTru (xCall F_is_towers (xCons (xVar 1) xNil)))) (xRet (xTup (xCons (xD (.str (Str.ofString "towers"))) (xCons (xUn pNeg (xD (.int 1))) xNil)))) xNx)
    (xSeq (xIf (xNotB (xTru (xIs "tuple" (xVar 2)))) (xRet (xTup (xCons (xD (.str (Str.ofString "wires"))) (xCons (xUn pNeg (xD (.int 1))) xNil)))) xNx)
    (xSeq (xFor (xEnumS (xVar 2)) (xgTp 2 (xgCons (xgNm 3) (xgCons (xgNm 4) xgNil))) (xSeq (xIf (xNotB (xTru (xCall F_is_wire_form (xCons (xVar 1) (xCons (xVar 4) xNil))))) (xRet (xTup (xCons (xD (.str (Str.ofString "wire"))) (xCons (xVar 3) xNil)))) xNx)
    (xSeq (xIf (xT (xBin pGt (xBin pIx (xVar 4) (xD (.int 2))) (xBin pIx (xVar 4) (xD (.int 3))))) (xRet (xTup (xCons (xD (.str (Str.ofString "width"))) (xCons (xVar 3) xNil)))) xNx)
    (xIf (xAndB (xT (xBin pGt (xVar 3) (xD (.int 0)))) (xT (xBin pLe2 (xSl (xVar 4) xNoPart (xPart (xD (.int 2)))) (xSl (xBin pIx (xVar 2) (xBin pSub (xVar 3) (xD (.int 1)))) xNoPart (xPart (xD (.int 2))))))) (xRet (xTup (xCons (xD (.str (Str.ofString "order"))) (xCons (xVar 3) xNil)))) xNx))))
    (xRet (xD .none)))))))
def F_town_fault : List S → R S := runF 5 XF_town_fault
def XF_run_fault : XS := (xSeq (xIf (xNotB (xTru (xIs "tuple" (xVar 1)))) (xRet (xTup (xCons (xD (.str (Str.ofString "shape"))) (xCons (xUn pNeg (xD (.int 1))) xNil)))) xNx)
    (xSeq (xSet 2 (xCall F_bounds_by_ends (xCons (xVar 0) xNil)))
    (xSeq (xFor (xEnumS (xVar 1)) (xgTp 2 (xgCons (xgNm 3) (xgCons (xgNm 4) xgNil))) (xSeq (xIf (xNotB (xTru (xCall F_is_tuple (xCons (xVar 4) (xCons (xD (.int 4)) xNil))))) (xRet (xTup (xCons (xD (.str (Str.ofString "letter"))) (xCons (xVar 3) xNil)))) xNx)
    (xSeq (xIf (xOrB (xT (xBin (pIn true) (xBin pIx (xVar 4) (xD (.int 0))) (xBin pIx (xVar 0) (xD (.int 0))))) (xT (xBin (pIn true) (xBin pIx (xVar 4) (xD (.int 1))) (xBin pIx (xVar 0) (xD (.int 0)))))) (xRet (xTup (xCons (xD (.str (Str.ofString "towers"))) (xCons (xVar 3) xNil)))) xNx)
    (xSeq (xIf (xT (xBin (pInD true) (xSl (xVar 4) xNoPart (xPart (xD (.int 2)))) (xVar 2))) (xRet (xTup (xCons (xD (.str (Str.ofString "wire"))) (xCons (xVar 3) xNil)))) xNx)
    (xIf (xNotB (xTru (xCall F_are_integers (xCons (xSl (xVar 4) (xPart (xD (.int 2))) xNoPart) (xCons (xD (.int 2)) xNil))))) (xRet (xTup (xCons (xD (.str (Str.ofString "hours"))) (xCons (xVar 3) xNil)))) xNx)))))
    (xRet (xD .none)))))
def F_run_fault : List S → R S := runF 5 XF_run_fault
def XF_fears_fault : XS := (xSeq (xIf (xOrB (xNotB (xTru (xIs "tuple" (xVar 1)))) (xT (xBin (pEq false) (xBi pLen (xCons (xVar 1) xNil)) (xD (.int 0))))) (xRet (xTup (xCons (xD (.str (Str.ofString "shape"))) (xCons (xUn pNeg (xD (.int 1))) xNil)))) xNx)
    (xSeq (xFor (xEnumS (xVar 1)) (xgTp 2 (xgCons (xgNm 2) (xgCons (xgNm 3) xgNil))) (xSeq (xIf (xNotB (xTru (xCall F_is_lot (xCons (xVar 0) (xCons (xVar 3) xNil))))) (xRet (xTup (xCons (xD (.str (Str.ofString "lot"))) (xCons (xVar 2) xNil)))) xNx)
    (xIf (xAndB (xT (xBin pGt (xVar 2) (xD (.int 0)))) (xT (xBin pLeT (xVar 3) (xBin pIx (xVar 1) (xBin pSub (xVar 2) (xD (.int 1))))))) (xRet (xTup (xCons (xD (.str (Str.ofString "order"))) (xCons (xVar 2) xNil)))) xNx)))
    (xRet (xD .none))))
def F_fears_fault : List S → R S := runF 4 XF_fears_fault
def XF_gains_fault : XS := (xSeq (xSet 4 (xCall F_outside_of (xCons (xVar 0) (xCons (xVar 2) xNil))))
    (xSeq (xIf (xNotB (xTru (xCall F_are_integers (xCons (xVar 3) (xCons (xBi pLen (xCons (xVar 4) xNil)) xNil))))) (xRet (xTup (xCons (xD (.str (Str.ofString "gains"))) (xCons (xUn pNeg (xD (.int 1))) xNil)))) xNx)
    (xSeq (xSet 5 (xCall F_first_misfit (xCons (xCall F_ties_between (xCons (xVar 0) (xCons (xVar 1) (xCons (xVar 2) xNil)))) (xCons (xVar 4) (xCons (xVar 3) xNil)))))
    (xRet (xIfE (xT (xBin (pIsN false) (xVar 5) (xD .none))) (xD .none) (xTup (xCons (xD (.str (Str.ofString "letter"))) (xCons (xVar 5) xNil))))))))
def F_gains_fault : List S → R S := runF 6 XF_gains_fault
def XF_refuse_paper : XS := (xIf (xT (xBin (pIsN true) (xVar 0) (xD .none))) (xSeq (xAsg (xVar 0) (xgTp 2 (xgCons (xgNm 1) (xgCons (xgNm 2) xgNil))))
    (xRaise "InvalidPaper" "word" "at" (xCons (xVar 1) (xCons (xVar 2) xNil)))) xNx)
def F_refuse_paper : List S → R S := runF 3 XF_refuse_paper
def XF_refuse_town : XS := (xIf (xT (xBin (pIsN true) (xCall F_town_fault (xCons (xVar 0) xNil)) (xD .none))) (xRaise "NotUsable" "word" "at" (xCons (xD (.str (Str.ofString "town"))) (xCons (xUn pNeg (xD (.int 1))) xNil))) xNx)
def F_refuse_town : List S → R S := runF 1 XF_refuse_town
def XF_refuse_run : XS := (xIf (xT (xBin (pIsN true) (xCall F_run_fault (xCons (xVar 0) (xCons (xVar 1) xNil))) (xD .none))) (xRaise "NotUsable" "word" "at" (xCons (xD (.str (Str.ofString "run"))) (xCons (xUn pNeg (xD (.int 1))) xNil))) xNx)
def F_refuse_run : List S → R S := runF 2 XF_refuse_run
def XF_refuse_fears : XS := (xIf (xT (xBin (pIsN true) (xCall F_fears_fault (xCons (xVar 0) (xCons (xVar 1) xNil))) (xD .none))) (xRaise "NotUsable" "word" "at" (xCons (xD (.str (Str.ofString "fears"))) (xCons (xUn pNeg (xD (.int 1))) xNil))) xNx)
def F_refuse_fears : List S → R S := runF 2 XF_refuse_fears
def XF_refuse_asked : XS := (xSeq (xDrop (xCall F_refuse_town (xCons (xVar 0) xNil)))
    (xSeq (xDrop (xCall F_refuse_fears (xCons (xVar 0) (xCons (xVar 1) xNil))))
    (xDrop (xCall F_refuse_run (xCons (xVar 0) (xCons (xVar 2) xNil))))))
def F_refuse_asked : List S → R S := runF 3 XF_refuse_asked
def XF_refuse_quarrel : XS := (xIf (xNotB (xTru (xCall F_is_explained (xCons (xVar 0) (xCons (xVar 1) (xCons (xVar 2) xNil)))))) (xRaise "NotUsable" "word" "at" (xCons (xD (.str (Str.ofString "run"))) (xCons (xUn pNeg (xD (.int 1))) xNil))) xNx)
def F_refuse_quarrel : List S → R S := runF 3 XF_refuse_quarrel
def XF_is_told : XS := (xSeq (xIf (xOrB (xNotB (xTru (xCall F_is_tuple (xCons (xVar 1) (xCons (xD (.int 3)) xNil))))) (xT (xBin (pIn true) (xBin pIx (xVar 1) (xD (.int 0))) (xBin pIx (xVar 0) (xD (.int 0)))))) (xRet (xD (.bool false))) xNx)
    (xRet (xAnd (xCall F_is_lot (xCons (xVar 0) (xCons (xBin pIx (xVar 1) (xD (.int 1))) xNil))) (xIs "tuple" (xBin pIx (xVar 1) (xD (.int 2)))))))
def F_is_told : List S → R S := runF 2 XF_is_told
def XF_circle_fault : XS := (xSeq (xIf (xT (xBin (pEq false) (xBi pLen (xCons (xVar 1) xNil)) (xD (.int 1)))) (xRet (xTup (xCons (xD (.str (Str.ofString "many"))) (xCons (xUn pNeg (xD (.int 1))) xNil)))) xNx)
    (xSeq (xFor (xEnumS (xVar 1)) (xgTp 2 (xgCons (xgNm 2) (xgCons (xgNm 3) xgNil))) (xSeq (xIf (xNotB (xTru (xCall F_is_told (xCons (xVar 0) (xCons (xVar 3) xNil))))) (xRet (xTup (xCons (xD (.str (Str.ofString "step"))) (xCons (xVar 2) xNil)))) xNx)
    (xIf (xT (xBin (pIn false) (xBin pIx (xVar 3) (xD (.int 0))) (xNew (xLc [4] [4] sel1 (xIt (xSl (xVar 1) xNoPart (xPart (xVar 2)))) xYes (xBin pIx (xVar 4) (xD (.int 0))))))) (xRet (xTup (xCons (xD (.str (Str.ofString "twice"))) (xCons (xVar 2) xNil)))) xNx)))
    (xRet (xD .none))))
def F_circle_fault : List S → R S := runF 5 XF_circle_fault
def XF_crossing_fault : XS := (xSeq (xFor (xEnumS (xVar 0)) (xgTp 2 (xgCons (xgNm 3) (xgCons (xgTp 4 (xgCons (xgNm 4) (xgCons (xgNm 5) (xgCons (xgNm 6) (xgCons (xgNm 6) xgNil))))) xgNil))) (xIf (xOrB (xAndB (xT (xBin (pIn false) (xVar 4) (xVar 1))) (xT (xBin (pIn false) (xVar 5) (xVar 2)))) (xAndB (xT (xBin (pIn false) (xVar 4) (xVar 2))) (xT (xBin (pIn false) (xVar 5) (xVar 1))))) (xRet (xTup (xCons (xD (.str (Str.ofString "letter"))) (xCons (xVar 3) xNil)))) xNx))
    (xRet (xD .none)))
def F_crossing_fault : List S → R S := runF 7 XF_crossing_fault
def XF_far_fault : XS := (xSeq (xAsg (xVar 3) (xgTp 5 (xgCons (xgNm 4) (xgCons (xgNm 5) (xgCons (xgNm 6) (xgCons (xgNm 7) (xgCons (xgNm 8) xgNil)))))))
    (xSeq (xIf (xT (xBin (pIn true) (xVar 4) (xBin pIx (xVar 0) (xD (.int 0))))) (xRet (xTup (xCons (xD (.str (Str.ofString "one"))) (xCons (xUn pNeg (xD (.int 1))) xNil)))) xNx)
    (xSeq (xIf (xOrB (xT (xBin (pIn true) (xVar 5) (xBin pIx (xVar 0) (xD (.int 0))))) (xT (xBin (pEq false) (xVar 5) (xVar 4)))) (xRet (xTup (xCons (xD (.str (Str.ofString "other"))) (xCons (xUn pNeg (xD (.int 1))) xNil)))) xNx)
    (xSeq (xIf (xOrB (xNotB (xTru (xCall F_is_lot (xCons (xVar 0) (xCons (xVar 6) xNil))))) (xOrB (xNotB (xTru (xCall F_is_under (xCons (xVar 1) (xCons (xVar 6) xNil))))) (xTru (xCall F_has_any (xCons (xVar 6) (xCons (xTup (xCons (xVar 4) (xCons (xVar 5) xNil))) xNil)))))) (xRet (xTup (xCons (xD (.str (Str.ofString "lot"))) (xCons (xUn pNeg (xD (.int 1))) xNil)))) xNx)
    (xSeq (xIf (xT (xBin (pIsN true) (xCall F_gains_fault (xCons (xVar 0) (xCons (xVar 2) (xCons (xVar 6) (xCons (xVar 7) xNil))))) (xD .none))) (xRet (xTup (xCons (xD (.str (Str.ofString "gains"))) (xCons (xUn pNeg (xD (.int 1))) xNil)))) xNx)
    (xSeq (xIf (xOrB (xNotB (xTru (xCall F_is_lot (xCons (xVar 0) (xCons (xVar 8) xNil))))) (xOrB (xTru (xCall F_has_any (xCons (xVar 8) (xCons (xVar 6) xNil)))) (xOrB (xT (xBin (pIn true) (xVar 5) (xVar 8))) (xT (xBin (pIn false) (xVar 4) (xVar 8)))))) (xRet (xTup (xCons (xD (.str (Str.ofString "part"))) (xCons (xUn pNeg (xD (.int 1))) xNil)))) xNx)
    (xRet (xCall F_crossing_fault (xCons (xVar 2) (xCons (xVar 8) (xCons (xNew (xLc [9] [9] sel1 (xIt (xCall F_outside_of (xCons (xVar 0) (xCons (xVar 6) xNil)))) (xT (xBin (pIn true) (xVar 9) (xVar 8))) (xVar 9))) xNil)))))))))))
def F_far_fault : List S → R S := runF 10 XF_far_fault
def XF_steps_fault : XS := (xSeq (xFor (xEnumS (xVar 3)) (xgTp 2 (xgCons (xgNm 4) (xgCons (xgTp 3 (xgCons (xgNm 5) (xgCons (xgNm 6) (xgCons (xgNm 7) xgNil)))) xgNil))) (xSeq (xSet 8 (xBin pIx (xBin pIx (xVar 3) (xBin pMod (xBin pAdd (xVar 4) (xD (.int 1))) (xBi pLen (xCons (xVar 3) xNil)))) (xD (.int 0))))
    (xSeq (xIf (xOrB (xNotB (xTru (xCall F_is_under (xCons (xVar 1) (xCons (xVar 6) xNil))))) (xTru (xCall F_has_any (xCons (xVar 6) (xCons (xTup (xCons (xVar 5) (xCons (xVar 8) xNil))) xNil))))) (xRet (xTup (xCons (xD (.str (Str.ofString "lot"))) (xCons (xVar 4) xNil)))) xNx)
    (xIf (xT (xBin (pIsN true) (xCall F_gains_fault (xCons (xVar 0) (xCons (xVar 2) (xCons (xVar 6) (xCons (xVar 7) xNil))))) (xD .none))) (xRet (xTup (xCons (xD (.str (Str.ofString "gains"))) (xCons (xVar 4) xNil)))) xNx))))
    (xRet (xD .none)))
def F_steps_fault : List S → R S := runF 9 XF_steps_fault
def XF_bound_fault : XS := (xSeq (xIf (xAndB (xTru (xCall F_is_tuple (xCons (xVar 3) (xCons (xD (.int 2)) xNil)))) (xAndB (xT (xBin (pEq false) (xBin pIx (xVar 3) (xD (.int 0))) (xD (.str (Str.ofString "circle"))))) (xTru (xIs "tuple" (xBin pIx (xVar 3) (xD (.int 1))))))) (xRet (xOrT (xCall F_circle_fault (xCons (xVar 0) (xCons (xBin pIx (xVar 3) (xD (.int 1))) xNil))) (xCall F_steps_fault (xCons (xVar 0) (xCons (xVar 1) (xCons (xVar 2) (xCons (xBin pIx (xVar 3) (xD (.int 1))) xNil))))))) xNx)
    (xSeq (xIf (xAndB (xTru (xCall F_is_tuple (xCons (xVar 3) (xCons (xD (.int 6)) xNil)))) (xT (xBin (pEq false) (xBin pIx (xVar 3) (xD (.int 0))) (xD (.str (Str.ofString "far")))))) (xRet (xCall F_far_fault (xCons (xVar 0) (xCons (xVar 1) (xCons (xVar 2) (xCons (xSl (xVar 3) (xPart (xD (.int 1))) xNoPart) xNil)))))) xNx)
    (xRet (xTup (xCons (xD (.str (Str.ofString "shape"))) (xCons (xUn pNeg (xD (.int 1))) xNil))))))
def F_bound_fault : List S → R S := runF 4 XF_bound_fault
def XF_mean_of : XS := (xSeq (xOwn 2 (xLst xNil))
    (xSeq (xFor (xEnumS (xVar 1)) (xgTp 2 (xgCons (xgNm 3) (xgCons (xgTp 3 (xgCons (xgNm 4) (xgCons (xgNm 5) (xgCons (xgNm 6) xgNil)))) xgNil))) (xSeq (xSet 7 (xDictZ (xCons (xCall F_outside_of (xCons (xVar 0) (xCons (xVar 5) xNil))) (xCons (xVar 6) xNil))))
    (xApp 2 (xBin pSub (xGet (xVar 7) (xBin pIx (xBin pIx (xVar 1) (xBin pMod (xBin pAdd (xVar 3) (xD (.int 1))) (xBi pLen (xCons (xVar 1) xNil)))) (xD (.int 0)))) (xGet (xVar 7) (xVar 4))))))
    (xFrz 2 (xRet (xCall F_greatest_of (xCons (xIfE (xTru (xVar 2)) (xNew (xLst (xCons (xCall F_least_terms (xCons (xBi pSum (xCons (xVar 2) xNil)) (xCons (xBi pLen (xCons (xVar 2) xNil)) xNil))) xNil))) (xNew (xLst xNil))) xNil))))))
def F_mean_of : List S → R S := runF 8 XF_mean_of
def XF_lets_ring : XS := (xSeq (xDrop (xCall F_refuse_asked (xCons (xVar 0) (xCons (xVar 1) (xCons (xVar 2) xNil)))))
    (xSeq (xDrop (xCall F_refuse_quarrel (xCons (xVar 0) (xCons (xVar 1) (xCons (xVar 2) xNil)))))
    (xSeq (xDrop (xCall F_refuse_paper (xCons (xCall F_bound_fault (xCons (xVar 0) (xCons (xVar 1) (xCons (xVar 2) (xCons (xVar 3) xNil))))) xNil)))
    (xRet (xIfE (xT (xBin (pEq false) (xBin pIx (xVar 3) (xD (.int 0))) (xD (.str (Str.ofString "far"))))) (xD .none) (xCall F_mean_of (xCons (xVar 0) (xCons (xBin pIx (xVar 3) (xD (.int 1))) xNil))))))))
def F_lets_ring : List S → R S := runF 4 XF_lets_ring
def XF__law_same : XS := (xRet (xBin (pEq false) (xBi pRepr (xCons (xVar 0) xNil)) (xBi pRepr (xCons (xVar 1) xNil))))
def F__law_same : List S → R S := runF 2 XF__law_same
def XF__law_frac : XS := (xSeq (xPar2 2 3 (xLent (xBi pAbs (xCons (xVar 0) xNil))) (xLent (xVar 1)))
    (xSeq (xWhile (xT (xBin pGt (xVar 3) (xD (.int 0)))) (xPar2 2 3 (xLent (xVar 3)) (xLent (xBin pMod (xBi pInt1 (xCons (xVar 2) xNil)) (xVar 3)))) 1000)
    (xRet (xTup (xCons (xBin pDiv (xVar 0) (xVar 2)) (xCons (xBin pDiv (xVar 1) (xVar 2)) xNil))))))
def F__law_frac : List S → R S := runF 4 XF__law_frac
def XF__law_feared : XS := (xSeq (xSet 1 (xNew (xLst (xCons (xTup xNil) xNil))))
    (xSeq (xFor (xIt (xVar 0)) (xgNm 2) (xSeq (xSet 3 (xNew (xLst (xCons (xTup xNil) xNil))))
    (xSeq (xFor (xIt (xVar 2)) (xgNm 4) (xSet 3 (xBin pAdd (xVar 3) (xNew (xLc [5] [5] sel1 (xIt (xVar 3)) xYes (xBin pAdd (xVar 5) (xTup (xCons (xVar 4) xNil))))))))
    (xSet 1 (xBin pAdd (xVar 1) (xNew (xLc [6] [6] sel1 (xIt (xVar 3)) (xT (xBin (pIn true) (xVar 6) (xVar 1))) (xVar 6))))))))
    (xRet (xSrtTT (xVar 1)))))
def F__law_feared : List S → R S := runF 7 XF__law_feared
def XF__law_wires : XS := (xSeq (xNewT 1)
    (xSeq (xFor (xIt (xBin pIx (xVar 0) (xD (.int 1)))) (xgTp 4 (xgCons (xgNm 2) (xgCons (xgNm 3) (xgCons (xgNm 4) (xgCons (xgNm 5) xgNil))))) (xSeq (xPut 1 (xTup (xCons (xVar 2) (xCons (xVar 3) xNil))) (xTup (xCons (xVar 4) (xCons (xVar 5) xNil))))
    (xPut 1 (xTup (xCons (xVar 3) (xCons (xVar 2) xNil))) (xTup (xCons (xVar 4) (xCons (xVar 5) xNil))))))
    (xRet (xVar 1))))
def F__law_wires : List S → R S := runF 6 XF__law_wires
def XF__law_is_integer : XS := (xRet (xAnd (xIs "int" (xVar 0)) (xNot (xIs "bool" (xVar 0)))))
def F__law_is_integer : List S → R S := runF 1 XF__law_is_integer
def XF__law_is_lot : XS := (xSeq (xIf (xNotB (xTru (xIs "tuple" (xVar 1)))) (xRet (xD (.bool false))) xNx)
    (xSeq (xSet 2 (xNew (xLc [3] [3] sel1 (xIt (xVar 1)) (xOrB (xNotB (xTru (xIs "str" (xVar 3)))) (xT (xBin (pIn true) (xVar 3) (xBin pIx (xVar 0) (xD (.int 0)))))) (xVar 3))))
    (xRet (xAnd (xBin (pEq false) (xVar 2) (xNew (xLst xNil))) (xBin (pEq false) (xBi pList (xCons (xVar 1) xNil)) (xSrtSetT (xVar 1)))))))
def F__law_is_lot : List S → R S := runF 4 XF__law_is_lot
def XF__law_do_fit : XS := (xSeq (xPar2 4 5 (xLent (xNew (xLc [6] [6] sel1 (xIt (xBin pIx (xVar 0) (xD (.int 0)))) (xT (xBin (pIn true) (xVar 6) (xVar 2))) (xVar 6)))) (xLent (xCall F__law_wires (xCons (xVar 0) xNil))))
    (xSeq (xIf (xOrB (xNotB (xTru (xIs "tuple" (xVar 3)))) (xT (xBin (pEq true) (xBi pLen (xCons (xVar 3) xNil)) (xBi pLen (xCons (xVar 4) xNil))))) (xRet (xD (.bool false))) xNx)
    (xSeq (xIf (xT (xBin (pEq true) (xNew (xLc [7] [7] sel1 (xIt (xVar 3)) (xNotB (xTru (xCall F__law_is_integer (xCons (xVar 7) xNil)))) (xVar 7))) (xNew (xLst xNil)))) (xRet (xD (.bool false))) xNx)
    (xSeq (xSet 8 (xBi pDictP (xCons (xNew (xLc [9, 6] [9, 6] (selT 2) (xEnumS (xVar 4)) xYes (xTup (xCons (xVar 6) (xCons (xBin pIx (xVar 3) (xVar 9)) xNil))))) xNil)))
    (xSeq (xFor (xIt (xVar 1)) (xgTp 4 (xgCons (xgNm 10) (xgCons (xgNm 11) (xgCons (xgNm 12) (xgCons (xgNm 13) xgNil))))) (xIf (xAndB (xT (xBin (pInD false) (xVar 10) (xVar 8))) (xT (xBin (pInD false) (xVar 11) (xVar 8)))) (xSeq (xAsg (xGet (xVar 5) (xTup (xCons (xVar 10) (xCons (xVar 11) xNil)))) (xgTp 2 (xgCons (xgNm 14) (xgCons (xgNm 15) xgNil))))
    (xSeq (xSet 16 (xBin pSub (xBin pAdd (xBin pSub (xVar 13) (xVar 12)) (xGet (xVar 8) (xVar 10))) (xGet (xVar 8) (xVar 11))))
    (xIf (xOrB (xT (xBin pLt (xVar 16) (xVar 14))) (xT (xBin pGt (xVar 16) (xVar 15)))) (xRet (xD (.bool false))) xNx))) xNx))
    (xRet (xD (.bool true))))))))
def F__law_do_fit : List S → R S := runF 17 XF__law_do_fit
def XF__law_told_by : XS := (xSeq (xSet 5 (xNew (xLc [6] [6] sel1 (xIt (xBin pIx (xVar 0) (xD (.int 0)))) (xT (xBin (pIn true) (xVar 6) (xVar 1))) (xVar 6))))
    (xRet (xBin pSub (xBin pIx (xVar 2) (xIdx (xVar 5) (xVar 4))) (xBin pIx (xVar 2) (xIdx (xVar 5) (xVar 3))))))
def F__law_told_by : List S → R S := runF 7 XF__law_told_by
def XF__law_is_good_lot : XS := (xRet (xAnd (xBin (pIn false) (xVar 1) (xCall F__law_feared (xCons (xVar 0) xNil))) (xAnd (xBin (pIn true) (xVar 2) (xVar 1)) (xBin (pIn true) (xVar 3) (xVar 1)))))
def F__law_is_good_lot : List S → R S := runF 4 XF__law_is_good_lot
def XF__law_circle_due : XS := (xSeq (xIf (xT (xBin (pEq false) (xBi pLen (xCons (xVar 3) xNil)) (xD (.int 1)))) (xRet (xTup (xCons (xD (.str (Str.ofString "paper"))) (xCons (xD (.str (Str.ofString "many"))) (xCons (xUn pNeg (xD (.int 1))) xNil))))) xNx)
    (xSeq (xFor (xEnumS (xVar 3)) (xgTp 2 (xgCons (xgNm 4) (xgCons (xgNm 5) xgNil))) (xSeq (xIf (xOrB (xNotB (xTru (xIs "tuple" (xVar 5)))) (xOrB (xT (xBin (pEq true) (xBi pLen (xCons (xVar 5) xNil)) (xD (.int 3)))) (xOrB (xNotB (xTru (xIs "str" (xBin pIx (xVar 5) (xD (.int 0)))))) (xT (xBin (pIn true) (xBin pIx (xVar 5) (xD (.int 0))) (xBin pIx (xVar 0) (xD (.int 0)))))))) (xRet (xTup (xCons (xD (.str (Str.ofString "paper"))) (xCons (xD (.str (Str.ofString "step"))) (xCons (xVar 4) xNil))))) xNx)
    (xSeq (xIf (xOrB (xNotB (xTru (xCall F__law_is_lot (xCons (xVar 0) (xCons (xBin pIx (xVar 5) (xD (.int 1))) xNil))))) (xNotB (xTru (xIs "tuple" (xBin pIx (xVar 5) (xD (.int 2))))))) (xRet (xTup (xCons (xD (.str (Str.ofString "paper"))) (xCons (xD (.str (Str.ofString "step"))) (xCons (xVar 4) xNil))))) xNx)
    (xIf (xT (xBin (pIn false) (xBin pIx (xVar 5) (xD (.int 0))) (xNew (xLc [6] [6] sel1 (xIt (xSl (xVar 3) xNoPart (xPart (xVar 4)))) xYes (xBin pIx (xVar 6) (xD (.int 0))))))) (xRet (xTup (xCons (xD (.str (Str.ofString "paper"))) (xCons (xD (.str (Str.ofString "twice"))) (xCons (xVar 4) xNil))))) xNx))))
    (xSeq (xSet 7 (xD (.int 0)))
    (xSeq (xFor (xEnumS (xVar 3)) (xgTp 2 (xgCons (xgNm 4) (xgCons (xgTp 3 (xgCons (xgNm 8) (xgCons (xgNm 9) (xgCons (xgNm 10) xgNil)))) xgNil))) (xSeq (xSet 11 (xBin pIx (xBin pIx (xVar 3) (xBin pMod (xBi pInt1 (xCons (xBin pAdd (xVar 4) (xD (.int 1))) xNil)) (xBi pLen (xCons (xVar 3) xNil)))) (xD (.int 0))))
    (xSeq (xIf (xNotB (xTru (xCall F__law_is_good_lot (xCons (xVar 1) (xCons (xVar 9) (xCons (xVar 8) (xCons (xVar 11) xNil))))))) (xRet (xTup (xCons (xD (.str (Str.ofString "paper"))) (xCons (xD (.str (Str.ofString "lot"))) (xCons (xVar 4) xNil))))) xNx)
    (xSeq (xIf (xNotB (xTru (xCall F__law_do_fit (xCons (xVar 0) (xCons (xVar 2) (xCons (xVar 9) (xCons (xVar 10) xNil))))))) (xRet (xTup (xCons (xD (.str (Str.ofString "paper"))) (xCons (xD (.str (Str.ofString "gains"))) (xCons (xVar 4) xNil))))) xNx)
    (xSet 7 (xBin pAdd (xVar 7) (xCall F__law_told_by (xCons (xVar 0) (xCons (xVar 9) (xCons (xVar 10) (xCons (xVar 8) (xCons (xVar 11) xNil))))))))))))
    (xRet (xTup (xCons (xD (.str (Str.ofString "told"))) (xCons (xCall F__law_frac (xCons (xBi pMax2 (xCons (xVar 7) (xCons (xD (.int 0)) xNil))) (xCons (xBi pMax2 (xCons (xBi pLen (xCons (xVar 3) xNil)) (xCons (xD (.int 1)) xNil))) xNil))) xNil))))))))
def F__law_circle_due : List S → R S := runF 12 XF__law_circle_due
def XF__law_far_due : XS := (xSeq (xAsg (xSl (xVar 3) (xPart (xD (.int 1))) xNoPart) (xgTp 5 (xgCons (xgNm 4) (xgCons (xgNm 5) (xgCons (xgNm 6) (xgCons (xgNm 7) (xgCons (xgNm 8) xgNil)))))))
    (xSeq (xIf (xOrB (xNotB (xTru (xIs "str" (xVar 4)))) (xT (xBin (pIn true) (xVar 4) (xBin pIx (xVar 0) (xD (.int 0)))))) (xRet (xTup (xCons (xD (.str (Str.ofString "paper"))) (xCons (xD (.str (Str.ofString "one"))) (xCons (xUn pNeg (xD (.int 1))) xNil))))) xNx)
    (xSeq (xIf (xOrB (xNotB (xTru (xIs "str" (xVar 5)))) (xOrB (xT (xBin (pIn true) (xVar 5) (xBin pIx (xVar 0) (xD (.int 0))))) (xT (xBin (pEq false) (xVar 5) (xVar 4))))) (xRet (xTup (xCons (xD (.str (Str.ofString "paper"))) (xCons (xD (.str (Str.ofString "other"))) (xCons (xUn pNeg (xD (.int 1))) xNil))))) xNx)
    (xSeq (xIf (xOrB (xNotB (xTru (xCall F__law_is_lot (xCons (xVar 0) (xCons (xVar 6) xNil))))) (xNotB (xTru (xCall F__law_is_good_lot (xCons (xVar 1) (xCons (xVar 6) (xCons (xVar 4) (xCons (xVar 5) xNil)))))))) (xRet (xTup (xCons (xD (.str (Str.ofString "paper"))) (xCons (xD (.str (Str.ofString "lot"))) (xCons (xUn pNeg (xD (.int 1))) xNil))))) xNx)
    (xSeq (xIf (xNotB (xTru (xCall F__law_do_fit (xCons (xVar 0) (xCons (xVar 2) (xCons (xVar 6) (xCons (xVar 7) xNil))))))) (xRet (xTup (xCons (xD (.str (Str.ofString "paper"))) (xCons (xD (.str (Str.ofString "gains"))) (xCons (xUn pNeg (xD (.int 1))) xNil))))) xNx)
    (xSeq (xIf (xOrB (xNotB (xTru (xCall F__law_is_lot (xCons (xVar 0) (xCons (xVar 8) xNil))))) (xOrB (xT (xBin (pEq true) (xNew (xLc [9] [9] sel1 (xIt (xVar 8)) (xT (xBin (pIn false) (xVar 9) (xVar 6))) (xVar 9))) (xNew (xLst xNil)))) (xOrB (xT (xBin (pIn true) (xVar 5) (xVar 8))) (xT (xBin (pIn false) (xVar 4) (xVar 8)))))) (xRet (xTup (xCons (xD (.str (Str.ofString "paper"))) (xCons (xD (.str (Str.ofString "part"))) (xCons (xUn pNeg (xD (.int 1))) xNil))))) xNx)
    (xSeq (xFor (xEnumS (xVar 2)) (xgTp 2 (xgCons (xgNm 10) (xgCons (xgNm 11) xgNil))) (xSeq (xSet 12 (xNew (xLc [9] [9] sel1 (xIt (xSl (xVar 11) xNoPart (xPart (xD (.int 2))))) (xT (xBin (pIn true) (xVar 9) (xVar 6))) (xBin (pIn false) (xVar 9) (xVar 8)))))
    (xIf (xAndB (xT (xBin (pEq false) (xBi pLen (xCons (xVar 12) xNil)) (xD (.int 2)))) (xT (xBin (pEq true) (xBin pIx (xVar 12) (xD (.int 0))) (xBin pIx (xVar 12) (xD (.int 1)))))) (xRet (xTup (xCons (xD (.str (Str.ofString "paper"))) (xCons (xD (.str (Str.ofString "letter"))) (xCons (xVar 10) xNil))))) xNx)))
    (xRet (xTup (xCons (xD (.str (Str.ofString "told"))) (xCons (xD .none) xNil)))))))))))
def F__law_far_due : List S → R S := runF 13 XF__law_far_due
def XF__law_ring_due : XS := (xSeq (xIf (xOrB (xNotB (xTru (xIs "tuple" (xVar 3)))) (xOrB (xT (xBin (pEq false) (xVar 3) (xTup xNil))) (xNotB (xTru (xIs "str" (xBin pIx (xVar 3) (xD (.int 0)))))))) (xRet (xTup (xCons (xD (.str (Str.ofString "paper"))) (xCons (xD (.str (Str.ofString "shape"))) (xCons (xUn pNeg (xD (.int 1))) xNil))))) xNx)
    (xSeq (xIf (xAndB (xT (xBin (pEq false) (xBin pIx (xVar 3) (xD (.int 0))) (xD (.str (Str.ofString "circle"))))) (xAndB (xT (xBin (pEq false) (xBi pLen (xCons (xVar 3) xNil)) (xD (.int 2)))) (xTru (xIs "tuple" (xBin pIx (xVar 3) (xD (.int 1))))))) (xRet (xCall F__law_circle_due (xCons (xVar 0) (xCons (xVar 1) (xCons (xVar 2) (xCons (xBin pIx (xVar 3) (xD (.int 1))) xNil)))))) xNx)
    (xSeq (xIf (xAndB (xT (xBin (pEq false) (xBin pIx (xVar 3) (xD (.int 0))) (xD (.str (Str.ofString "far"))))) (xT (xBin (pEq false) (xBi pLen (xCons (xVar 3) xNil)) (xD (.int 6))))) (xRet (xCall F__law_far_due (xCons (xVar 0) (xCons (xVar 1) (xCons (xVar 2) (xCons (xVar 3) xNil)))))) xNx)
    (xRet (xTup (xCons (xD (.str (Str.ofString "paper"))) (xCons (xD (.str (Str.ofString "shape"))) (xCons (xUn pNeg (xD (.int 1))) xNil))))))))
def F__law_ring_due : List S → R S := runF 4 XF__law_ring_due
def XF__law_worlds_told : XS := (xSeq (xSet 0 (xTup (xCons (xTup (xCons (xD (.str (Str.ofString "a"))) (xCons (xD (.str (Str.ofString "b"))) xNil))) (xCons (xTup (xCons (xTup (xCons (xD (.str (Str.ofString "a"))) (xCons (xD (.str (Str.ofString "b"))) (xCons (xD (.int 0)) (xCons (xD (.int 2)) xNil))))) xNil)) xNil))))
    (xSeq (xSet 1 (xTup (xCons (xTup (xCons (xD (.str (Str.ofString "a"))) (xCons (xD (.str (Str.ofString "b"))) (xCons (xD (.str (Str.ofString "c"))) xNil)))) (xCons (xTup (xCons (xTup (xCons (xD (.str (Str.ofString "a"))) (xCons (xD (.str (Str.ofString "b"))) (xCons (xD (.int 0)) (xCons (xD (.int 2)) xNil))))) (xCons (xTup (xCons (xD (.str (Str.ofString "a"))) (xCons (xD (.str (Str.ofString "c"))) (xCons (xD (.int 0)) (xCons (xD (.int 2)) xNil))))) (xCons (xTup (xCons (xD (.str (Str.ofString "b"))) (xCons (xD (.str (Str.ofString "c"))) (xCons (xD (.int 0)) (xCons (xD (.int 2)) xNil))))) xNil)))) xNil))))
    (xSeq (xSet 2 (xTup (xCons (xTup (xCons (xD (.str (Str.ofString "a"))) (xCons (xD (.str (Str.ofString "b"))) (xCons (xD (.int 0)) (xCons (xD (.int 1)) xNil))))) (xCons (xTup (xCons (xD (.str (Str.ofString "b"))) (xCons (xD (.str (Str.ofString "c"))) (xCons (xD (.int 0)) (xCons (xD (.int 1)) xNil))))) (xCons (xTup (xCons (xD (.str (Str.ofString "c"))) (xCons (xD (.str (Str.ofString "a"))) (xCons (xD (.int 0)) (xCons (xUn pNeg (xD (.int 5))) xNil))))) xNil)))))
    (xRet (xTup (xCons (xVar 0) (xCons (xVar 1) (xCons (xTup (xCons (xTup (xCons (xD (.str (Str.ofString "a"))) xNil)) (xCons (xTup (xCons (xD (.str (Str.ofString "b"))) xNil)) (xCons (xTup (xCons (xD (.str (Str.ofString "c"))) xNil)) xNil)))) (xCons (xVar 2) xNil)))))))))
def F__law_worlds_told : List S → R S := runF 3 XF__law_worlds_told
def XF__law_right_rows : XS := (xSeq (xAsg (xCall F__law_worlds_told xNil) (xgTp 4 (xgCons (xgNm 0) (xgCons (xgNm 1) (xgCons (xgNm 2) (xgCons (xgNm 3) xgNil))))))
    (xSeq (xAsg (xTup (xCons (xTup (xCons (xTup (xCons (xD (.str (Str.ofString "a"))) (xCons (xD (.str (Str.ofString "b"))) (xCons (xD (.int 5)) (xCons (xD (.int 6)) xNil))))) xNil)) (xCons (xTup (xCons (xTup (xCons (xD (.str (Str.ofString "a"))) (xCons (xD (.str (Str.ofString "b"))) (xCons (xD (.str (Str.ofString "c"))) xNil)))) (xCons (xTup (xCons (xTup (xCons (xD (.str (Str.ofString "a"))) (xCons (xD (.str (Str.ofString "b"))) (xCons (xD (.int 0)) (xCons (xD (.int 2)) xNil))))) (xCons (xTup (xCons (xD (.str (Str.ofString "a"))) (xCons (xD (.str (Str.ofString "c"))) (xCons (xD (.int 0)) (xCons (xD (.int 2)) xNil))))) xNil))) xNil))) xNil))) (xgTp 2 (xgCons (xgNm 4) (xgCons (xgNm 5) xgNil))))
    (xSeq (xOwn 6 (xLst (xCons (xTup (xCons (xVar 0) (xCons (xTup (xCons (xTup xNil) xNil)) (xCons (xVar 4) (xCons (xTup (xCons (xD (.str (Str.ofString "circle"))) (xCons (xTup (xCons (xTup (xCons (xD (.str (Str.ofString "a"))) (xCons (xTup xNil) (xCons (xTup (xCons (xD (.int 0)) (xCons (xD (.int 1)) xNil))) xNil)))) (xCons (xTup (xCons (xD (.str (Str.ofString "b"))) (xCons (xTup xNil) (xCons (xTup (xCons (xD (.int 0)) (xCons (xD (.int 0)) xNil))) xNil)))) xNil))) xNil))) (xCons (xTup (xCons (xD (.str (Str.ofString "told"))) (xCons (xTup (xCons (xD (.int 1)) (xCons (xD (.int 2)) xNil))) xNil))) xNil)))))) xNil)))
    (xSeq (xApp 6 (xTup (xCons (xVar 1) (xCons (xVar 2) (xCons (xVar 3) (xCons (xTup (xCons (xD (.str (Str.ofString "circle"))) (xCons (xTup xNil) xNil))) (xCons (xTup (xCons (xD (.str (Str.ofString "told"))) (xCons (xTup (xCons (xD (.int 0)) (xCons (xD (.int 1)) xNil))) xNil))) xNil)))))))
    (xSeq (xApp 6 (xTup (xCons (xVar 1) (xCons (xVar 2) (xCons (xVar 3) (xCons (xTup (xCons (xD (.str (Str.ofString "circle"))) (xCons (xTup (xCons (xTup (xCons (xD (.str (Str.ofString "a"))) (xCons (xTup (xCons (xD (.str (Str.ofString "b"))) xNil)) (xCons (xTup (xCons (xD (.int 0)) (xCons (xD (.int 7)) xNil))) xNil)))) (xCons (xTup (xCons (xD (.str (Str.ofString "c"))) (xCons (xTup (xCons (xD (.str (Str.ofString "a"))) xNil)) (xCons (xTup (xCons (xD (.int 1)) (xCons (xD (.int 0)) xNil))) xNil)))) (xCons (xTup (xCons (xD (.str (Str.ofString "b"))) (xCons (xTup (xCons (xD (.str (Str.ofString "c"))) xNil)) (xCons (xTup (xCons (xD (.int 0)) (xCons (xD (.int 1)) xNil))) xNil)))) xNil)))) xNil))) (xCons (xTup (xCons (xD (.str (Str.ofString "told"))) (xCons (xTup (xCons (xD (.int 7)) (xCons (xD (.int 3)) xNil))) xNil))) xNil)))))))
    (xSeq (xApp 6 (xTup (xCons (xVar 1) (xCons (xVar 2) (xCons (xVar 3) (xCons (xTup (xCons (xD (.str (Str.ofString "circle"))) (xCons (xTup (xCons (xTup (xCons (xD (.str (Str.ofString "a"))) (xCons (xTup (xCons (xD (.str (Str.ofString "b"))) xNil)) (xCons (xTup (xCons (xD (.int 0)) (xCons (xD (.int 7)) xNil))) xNil)))) (xCons (xTup (xCons (xD (.str (Str.ofString "c"))) (xCons (xTup (xCons (xD (.str (Str.ofString "a"))) xNil)) (xCons (xTup (xCons (xD (.int 1)) (xCons (xD (.int 0)) xNil))) xNil)))) (xCons (xTup (xCons (xD (.str (Str.ofString "b"))) (xCons (xTup (xCons (xD (.str (Str.ofString "c"))) xNil)) (xCons (xTup (xCons (xD (.int 1)) (xCons (xD (.int 0)) xNil))) xNil)))) xNil)))) xNil))) (xCons (xTup (xCons (xD (.str (Str.ofString "told"))) (xCons (xTup (xCons (xD (.int 3)) (xCons (xD (.int 1)) xNil))) xNil))) xNil)))))))
    (xSeq (xApp 6 (xTup (xCons (xVar 1) (xCons (xVar 2) (xCons (xVar 3) (xCons (xTup (xCons (xD (.str (Str.ofString "circle"))) (xCons (xTup (xCons (xTup (xCons (xD (.str (Str.ofString "a"))) (xCons (xTup (xCons (xD (.str (Str.ofString "b"))) xNil)) (xCons (xTup (xCons (xD (.int 2)) (xCons (xD (.int 9)) xNil))) xNil)))) (xCons (xTup (xCons (xD (.str (Str.ofString "c"))) (xCons (xTup (xCons (xD (.str (Str.ofString "b"))) xNil)) (xCons (xTup (xCons (xD (.int 0)) (xCons (xD (.int 5)) xNil))) xNil)))) xNil))) xNil))) (xCons (xTup (xCons (xD (.str (Str.ofString "told"))) (xCons (xTup (xCons (xD (.int 1)) (xCons (xD (.int 1)) xNil))) xNil))) xNil)))))))
    (xSeq (xApp 6 (xTup (xCons (xVar 0) (xCons (xTup (xCons (xTup xNil) xNil)) (xCons (xTup xNil) (xCons (xTup (xCons (xD (.str (Str.ofString "far"))) (xCons (xD (.str (Str.ofString "a"))) (xCons (xD (.str (Str.ofString "b"))) (xCons (xTup xNil) (xCons (xTup (xCons (xD (.int 0)) (xCons (xD (.int 0)) xNil))) (xCons (xTup (xCons (xD (.str (Str.ofString "b"))) xNil)) xNil))))))) (xCons (xTup (xCons (xD (.str (Str.ofString "told"))) (xCons (xD .none) xNil))) xNil)))))))
    (xSeq (xApp 6 (xTup (xCons (xVar 5) (xCons (xTup (xCons (xTup xNil) xNil)) (xCons (xTup (xCons (xTup (xCons (xD (.str (Str.ofString "a"))) (xCons (xD (.str (Str.ofString "b"))) (xCons (xD (.int 0)) (xCons (xD (.int 1)) xNil))))) xNil)) (xCons (xTup (xCons (xD (.str (Str.ofString "far"))) (xCons (xD (.str (Str.ofString "a"))) (xCons (xD (.str (Str.ofString "c"))) (xCons (xTup xNil) (xCons (xTup (xCons (xD (.int 0)) (xCons (xD (.int 0)) (xCons (xD (.int 5)) xNil)))) (xCons (xTup (xCons (xD (.str (Str.ofString "c"))) xNil)) xNil))))))) (xCons (xTup (xCons (xD (.str (Str.ofString "told"))) (xCons (xD .none) xNil))) xNil)))))))
    (xSeq (xApp 6 (xTup (xCons (xVar 5) (xCons (xTup (xCons (xTup (xCons (xD (.str (Str.ofString "a"))) xNil)) xNil)) (xCons (xTup (xCons (xTup (xCons (xD (.str (Str.ofString "a"))) (xCons (xD (.str (Str.ofString "b"))) (xCons (xD (.int 0)) (xCons (xD (.int 1)) xNil))))) (xCons (xTup (xCons (xD (.str (Str.ofString "a"))) (xCons (xD (.str (Str.ofString "c"))) (xCons (xD (.int 0)) (xCons (xD (.int 9)) xNil))))) xNil))) (xCons (xTup (xCons (xD (.str (Str.ofString "far"))) (xCons (xD (.str (Str.ofString "b"))) (xCons (xD (.str (Str.ofString "c"))) (xCons (xTup (xCons (xD (.str (Str.ofString "a"))) xNil)) (xCons (xTup (xCons (xD (.int 3)) (xCons (xUn pNeg (xD (.int 3))) xNil))) (xCons (xTup (xCons (xD (.str (Str.ofString "c"))) xNil)) xNil))))))) (xCons (xTup (xCons (xD (.str (Str.ofString "told"))) (xCons (xD .none) xNil))) xNil)))))))
    (xRet (xBin pAdd (xVar 6) (xNew (xLst (xCons (xTup (xCons (xVar 1) (xCons (xVar 2) (xCons (xVar 3) (xCons (xTup (xCons (xD (.str (Str.ofString "circle"))) (xCons (xTup (xCons (xTup (xCons (xD (.str (Str.ofString "c"))) (xCons (xTup (xCons (xD (.str (Str.ofString "b"))) xNil)) (xCons (xTup (xCons (xD (.int 0)) (xCons (xD (.int 5)) xNil))) xNil)))) (xCons (xTup (xCons (xD (.str (Str.ofString "a"))) (xCons (xTup (xCons (xD (.str (Str.ofString "c"))) xNil)) (xCons (xTup (xCons (xD (.int 0)) (xCons (xD (.int 0)) xNil))) xNil)))) (xCons (xTup (xCons (xD (.str (Str.ofString "b"))) (xCons (xTup (xCons (xD (.str (Str.ofString "a"))) xNil)) (xCons (xTup (xCons (xD (.int 0)) (xCons (xD (.int 1)) xNil))) xNil)))) xNil)))) xNil))) (xCons (xTup (xCons (xD (.str (Str.ofString "told"))) (xCons (xTup (xCons (xD (.int 0)) (xCons (xD (.int 1)) xNil))) xNil))) xNil)))))) xNil)))))))))))))))
def F__law_right_rows : List S → R S := runF 7 XF__law_right_rows
def XF__law_circle_rows : XS := (xSeq (xAsg (xCall F__law_worlds_told xNil) (xgTp 4 (xgCons (xgNm 0) (xgCons (xgNm 1) (xgCons (xgNm 2) (xgCons (xgNm 3) xgNil))))))
    (xSeq (xPar2 4 5 (xLent (xTup (xCons (xD (.str (Str.ofString "c"))) (xCons (xTup (xCons (xD (.str (Str.ofString "b"))) xNil)) (xCons (xTup (xCons (xD (.int 0)) (xCons (xD (.int 5)) xNil))) xNil))))) (xOwnE (xLst xNil)))
    (xSeq (xFor (xIt (xNew (xLst (xCons (xD .none) (xCons (xD (.int 0)) (xCons (xTup xNil) (xCons (xD (.str (Str.ofString "circle"))) (xCons (xTup (xCons (xD (.str (Str.ofString "circle"))) xNil)) (xCons (xNew (xLst (xCons (xD (.str (Str.ofString "circle"))) (xCons (xTup xNil) xNil)))) (xCons (xTup (xCons (xD (.str (Str.ofString "circle"))) (xCons (xNew (xLst xNil)) xNil))) (xCons (xTup (xCons (xD (.str (Str.ofString "circle"))) (xCons (xTup xNil) (xCons (xTup xNil) xNil)))) (xCons (xTup (xCons (xD (.str (Str.ofString "Circle"))) (xCons (xTup xNil) xNil))) (xCons (xTup (xCons (xTup xNil) (xCons (xD (.str (Str.ofString "circle"))) xNil))) xNil))))))))))))) (xgNm 6) (xApp 5 (xTup (xCons (xVar 1) (xCons (xVar 2) (xCons (xVar 3) (xCons (xVar 6) (xCons (xTup (xCons (xD (.str (Str.ofString "paper"))) (xCons (xD (.str (Str.ofString "shape"))) (xCons (xUn pNeg (xD (.int 1))) xNil)))) xNil))))))))
    (xSeq (xApp 5 (xTup (xCons (xVar 1) (xCons (xVar 2) (xCons (xVar 3) (xCons (xTup (xCons (xD (.str (Str.ofString "circle"))) (xCons (xTup (xCons (xVar 4) xNil)) xNil))) (xCons (xTup (xCons (xD (.str (Str.ofString "paper"))) (xCons (xD (.str (Str.ofString "many"))) (xCons (xUn pNeg (xD (.int 1))) xNil)))) xNil)))))))
    (xSeq (xApp 5 (xTup (xCons (xVar 1) (xCons (xVar 2) (xCons (xVar 3) (xCons (xTup (xCons (xD (.str (Str.ofString "circle"))) (xCons (xTup (xCons (xD .none) xNil)) xNil))) (xCons (xTup (xCons (xD (.str (Str.ofString "paper"))) (xCons (xD (.str (Str.ofString "many"))) (xCons (xUn pNeg (xD (.int 1))) xNil)))) xNil)))))))
    (xSeq (xFor (xIt (xNew (xLst (xCons (xD .none) (xCons (xTup xNil) (xCons (xTup (xCons (xD (.str (Str.ofString "a"))) (xCons (xTup xNil) xNil))) (xCons (xNew (xLst (xCons (xD (.str (Str.ofString "a"))) (xCons (xTup xNil) (xCons (xTup xNil) xNil))))) (xCons (xTup (xCons (xD (.str (Str.ofString "d"))) (xCons (xTup xNil) (xCons (xTup xNil) xNil)))) (xCons (xTup (xCons (xD (.str (Str.ofString "a"))) (xCons (xTup (xCons (xD (.str (Str.ofString "d"))) xNil)) (xCons (xTup xNil) xNil)))) (xCons (xTup (xCons (xD (.str (Str.ofString "a"))) (xCons (xTup (xCons (xD (.str (Str.ofString "c"))) (xCons (xD (.str (Str.ofString "b"))) xNil))) (xCons (xTup xNil) xNil)))) (xCons (xTup (xCons (xD (.str (Str.ofString "a"))) (xCons (xNew (xLst xNil)) (xCons (xTup xNil) xNil)))) (xCons (xTup (xCons (xD (.str (Str.ofString "a"))) (xCons (xTup xNil) (xCons (xNew (xLst (xCons (xD (.int 0)) xNil))) xNil)))) (xCons (xTup (xCons (xD (.int 0)) (xCons (xTup xNil) (xCons (xTup xNil) xNil)))) xNil))))))))))))) (xgNm 7) (xSeq (xApp 5 (xTup (xCons (xVar 1) (xCons (xVar 2) (xCons (xVar 3) (xCons (xTup (xCons (xD (.str (Str.ofString "circle"))) (xCons (xTup (xCons (xVar 4) (xCons (xVar 7) xNil))) xNil))) (xCons (xTup (xCons (xD (.str (Str.ofString "paper"))) (xCons (xD (.str (Str.ofString "step"))) (xCons (xD (.int 1)) xNil)))) xNil)))))))
    (xApp 5 (xTup (xCons (xVar 1) (xCons (xVar 2) (xCons (xVar 3) (xCons (xTup (xCons (xD (.str (Str.ofString "circle"))) (xCons (xTup (xCons (xVar 7) (xCons (xD .none) xNil))) xNil))) (xCons (xTup (xCons (xD (.str (Str.ofString "paper"))) (xCons (xD (.str (Str.ofString "step"))) (xCons (xD (.int 0)) xNil)))) xNil)))))))))
    (xSeq (xApp 5 (xTup (xCons (xVar 1) (xCons (xVar 2) (xCons (xVar 3) (xCons (xTup (xCons (xD (.str (Str.ofString "circle"))) (xCons (xTup (xCons (xVar 4) (xCons (xTup (xCons (xD (.str (Str.ofString "a"))) (xCons (xTup (xCons (xD (.str (Str.ofString "b"))) xNil)) (xCons (xTup (xCons (xD (.int 0)) (xCons (xD (.int 5)) xNil))) xNil)))) (xCons (xTup (xCons (xD (.str (Str.ofString "c"))) (xCons (xTup xNil) (xCons (xTup xNil) xNil)))) xNil)))) xNil))) (xCons (xTup (xCons (xD (.str (Str.ofString "paper"))) (xCons (xD (.str (Str.ofString "twice"))) (xCons (xD (.int 2)) xNil)))) xNil)))))))
    (xSeq (xApp 5 (xTup (xCons (xVar 1) (xCons (xVar 2) (xCons (xVar 3) (xCons (xTup (xCons (xD (.str (Str.ofString "circle"))) (xCons (xTup (xCons (xVar 4) (xCons (xVar 4) (xCons (xD .none) xNil)))) xNil))) (xCons (xTup (xCons (xD (.str (Str.ofString "paper"))) (xCons (xD (.str (Str.ofString "twice"))) (xCons (xD (.int 1)) xNil)))) xNil)))))))
    (xSeq (xFor (xIt (xNew (xLst (xCons (xTup (xCons (xD (.str (Str.ofString "a"))) xNil)) (xCons (xTup (xCons (xD (.str (Str.ofString "c"))) xNil)) (xCons (xTup (xCons (xD (.str (Str.ofString "a"))) (xCons (xD (.str (Str.ofString "b"))) xNil))) (xCons (xTup (xCons (xD (.str (Str.ofString "b"))) (xCons (xD (.str (Str.ofString "c"))) xNil))) xNil))))))) (xgNm 8) (xApp 5 (xTup (xCons (xVar 1) (xCons (xVar 2) (xCons (xVar 3) (xCons (xTup (xCons (xD (.str (Str.ofString "circle"))) (xCons (xTup (xCons (xTup (xCons (xD (.str (Str.ofString "a"))) (xCons (xVar 8) (xCons (xTup (xCons (xD (.int 0)) (xCons (xD (.int 5)) xNil))) xNil)))) (xCons (xVar 4) xNil))) xNil))) (xCons (xTup (xCons (xD (.str (Str.ofString "paper"))) (xCons (xD (.str (Str.ofString "lot"))) (xCons (xD (.int 0)) xNil)))) xNil))))))))
    (xSeq (xApp 5 (xTup (xCons (xVar 1) (xCons (xVar 2) (xCons (xVar 3) (xCons (xTup (xCons (xD (.str (Str.ofString "circle"))) (xCons (xTup (xCons (xTup (xCons (xD (.str (Str.ofString "a"))) (xCons (xTup (xCons (xD (.str (Str.ofString "b"))) xNil)) (xCons (xTup (xCons (xD (.int 0)) (xCons (xD (.int 5)) xNil))) xNil)))) (xCons (xTup (xCons (xD (.str (Str.ofString "c"))) (xCons (xTup (xCons (xD (.str (Str.ofString "a"))) xNil)) (xCons (xTup xNil) xNil)))) xNil))) xNil))) (xCons (xTup (xCons (xD (.str (Str.ofString "paper"))) (xCons (xD (.str (Str.ofString "lot"))) (xCons (xD (.int 1)) xNil)))) xNil)))))))
    (xSeq (xFor (xIt (xNew (xLst (xCons (xTup xNil) (xCons (xTup (xCons (xD (.int 0)) xNil)) (xCons (xTup (xCons (xD (.int 0)) (xCons (xD (.int 4)) xNil))) (xCons (xTup (xCons (xD (.int 0)) (xCons (xD (.int 8)) xNil))) (xCons (xTup (xCons (xD (.int 0)) (xCons (xD (.bool true)) xNil))) (xCons (xTup (xCons (xD (.int 0)) (xCons (xD (.int 5)) (xCons (xD (.int 0)) xNil)))) (xCons (xTup (xCons (xD (.int 0)) (xCons (xD .none) xNil))) (xCons (xTup (xCons (xD (.str (Str.ofString "0"))) (xCons (xD (.int 5)) xNil))) xNil))))))))))) (xgNm 9) (xApp 5 (xTup (xCons (xVar 1) (xCons (xVar 2) (xCons (xVar 3) (xCons (xTup (xCons (xD (.str (Str.ofString "circle"))) (xCons (xTup (xCons (xTup (xCons (xD (.str (Str.ofString "a"))) (xCons (xTup (xCons (xD (.str (Str.ofString "b"))) xNil)) (xCons (xVar 9) xNil)))) (xCons (xTup (xCons (xD (.str (Str.ofString "c"))) (xCons (xTup (xCons (xD (.str (Str.ofString "a"))) xNil)) (xCons (xVar 9) xNil)))) xNil))) xNil))) (xCons (xTup (xCons (xD (.str (Str.ofString "paper"))) (xCons (xD (.str (Str.ofString "gains"))) (xCons (xD (.int 0)) xNil)))) xNil))))))))
    (xSeq (xApp 5 (xTup (xCons (xVar 1) (xCons (xVar 2) (xCons (xVar 3) (xCons (xTup (xCons (xD (.str (Str.ofString "circle"))) (xCons (xTup (xCons (xVar 4) (xCons (xTup (xCons (xD (.str (Str.ofString "a"))) (xCons (xTup (xCons (xD (.str (Str.ofString "b"))) xNil)) (xCons (xTup (xCons (xD (.int 0)) (xCons (xD (.int 4)) xNil))) xNil)))) xNil))) xNil))) (xCons (xTup (xCons (xD (.str (Str.ofString "paper"))) (xCons (xD (.str (Str.ofString "gains"))) (xCons (xD (.int 1)) xNil)))) xNil)))))))
    (xRet (xBin pAdd (xVar 5) (xNew (xLst (xCons (xTup (xCons (xVar 1) (xCons (xVar 2) (xCons (xVar 3) (xCons (xTup (xCons (xD (.str (Str.ofString "circle"))) (xCons (xTup (xCons (xTup (xCons (xD (.str (Str.ofString "a"))) (xCons (xTup xNil) (xCons (xTup (xCons (xD (.int 0)) (xCons (xD (.int 0)) (xCons (xD (.int 5)) xNil)))) xNil)))) (xCons (xVar 4) xNil))) xNil))) (xCons (xTup (xCons (xD (.str (Str.ofString "paper"))) (xCons (xD (.str (Str.ofString "gains"))) (xCons (xD (.int 0)) xNil)))) xNil)))))) xNil)))))))))))))))))
def F__law_circle_rows : List S → R S := runF 10 XF__law_circle_rows
def XF__law_far_rows : XS := (xSeq (xAsg (xCall F__law_worlds_told xNil) (xgTp 4 (xgCons (xgNm 0) (xgCons (xgNm 1) (xgCons (xgNm 2) (xgCons (xgNm 3) xgNil))))))
    (xSeq (xAsg (xTup (xCons (xTup (xCons (xTup (xCons (xD (.str (Str.ofString "a"))) (xCons (xD (.str (Str.ofString "b"))) (xCons (xD (.str (Str.ofString "c"))) xNil)))) (xCons (xTup (xCons (xTup (xCons (xD (.str (Str.ofString "a"))) (xCons (xD (.str (Str.ofString "b"))) (xCons (xD (.int 0)) (xCons (xD (.int 2)) xNil))))) (xCons (xTup (xCons (xD (.str (Str.ofString "a"))) (xCons (xD (.str (Str.ofString "c"))) (xCons (xD (.int 0)) (xCons (xD (.int 2)) xNil))))) xNil))) xNil))) (xCons (xTup (xCons (xTup (xCons (xD (.str (Str.ofString "a"))) (xCons (xD (.str (Str.ofString "b"))) (xCons (xD (.int 0)) (xCons (xD (.int 1)) xNil))))) (xCons (xTup (xCons (xD (.str (Str.ofString "a"))) (xCons (xD (.str (Str.ofString "b"))) (xCons (xD (.int 0)) (xCons (xD (.int 2)) xNil))))) xNil))) xNil))) (xgTp 2 (xgCons (xgNm 4) (xgCons (xgNm 5) xgNil))))
    (xSeq (xOwn 6 (xLst xNil))
    (xSeq (xFor (xIt (xNew (xLst (xCons (xTup (xCons (xD (.str (Str.ofString "far"))) (xCons (xD (.str (Str.ofString "a"))) (xCons (xD (.str (Str.ofString "c"))) (xCons (xTup xNil) (xCons (xTup (xCons (xD (.int 0)) (xCons (xD (.int 0)) (xCons (xD (.int 0)) xNil)))) xNil)))))) (xCons (xTup (xCons (xD (.str (Str.ofString "far"))) (xCons (xD (.str (Str.ofString "a"))) (xCons (xD (.str (Str.ofString "c"))) (xCons (xTup xNil) (xCons (xTup (xCons (xD (.int 0)) (xCons (xD (.int 0)) (xCons (xD (.int 0)) xNil)))) (xCons (xTup (xCons (xD (.str (Str.ofString "c"))) xNil)) (xCons (xD (.int 0)) xNil)))))))) (xCons (xNew (xLst (xCons (xD (.str (Str.ofString "far"))) (xCons (xD (.str (Str.ofString "a"))) (xCons (xD (.str (Str.ofString "c"))) (xCons (xTup xNil) (xCons (xTup (xCons (xD (.int 0)) (xCons (xD (.int 0)) (xCons (xD (.int 0)) xNil)))) (xCons (xTup (xCons (xD (.str (Str.ofString "c"))) xNil)) xNil)))))))) xNil)))))) (xgNm 7) (xApp 6 (xTup (xCons (xVar 4) (xCons (xTup (xCons (xTup xNil) xNil)) (xCons (xVar 5) (xCons (xVar 7) (xCons (xTup (xCons (xD (.str (Str.ofString "paper"))) (xCons (xD (.str (Str.ofString "shape"))) (xCons (xUn pNeg (xD (.int 1))) xNil)))) xNil))))))))
    (xSeq (xFor (xIt (xNew (xLst (xCons (xD .none) (xCons (xD (.str (Str.ofString "d"))) (xCons (xD (.int 0)) (xCons (xTup (xCons (xD (.str (Str.ofString "a"))) xNil)) (xCons (xD (.str (Str.ofString ""))) xNil)))))))) (xgNm 8) (xSeq (xApp 6 (xTup (xCons (xVar 4) (xCons (xTup (xCons (xTup xNil) xNil)) (xCons (xVar 5) (xCons (xTup (xCons (xD (.str (Str.ofString "far"))) (xCons (xVar 8) (xCons (xVar 8) (xCons (xVar 8) (xCons (xVar 8) (xCons (xVar 8) xNil))))))) (xCons (xTup (xCons (xD (.str (Str.ofString "paper"))) (xCons (xD (.str (Str.ofString "one"))) (xCons (xUn pNeg (xD (.int 1))) xNil)))) xNil)))))))
    (xApp 6 (xTup (xCons (xVar 4) (xCons (xTup (xCons (xTup xNil) xNil)) (xCons (xVar 5) (xCons (xTup (xCons (xD (.str (Str.ofString "far"))) (xCons (xD (.str (Str.ofString "a"))) (xCons (xVar 8) (xCons (xVar 8) (xCons (xVar 8) (xCons (xVar 8) xNil))))))) (xCons (xTup (xCons (xD (.str (Str.ofString "paper"))) (xCons (xD (.str (Str.ofString "other"))) (xCons (xUn pNeg (xD (.int 1))) xNil)))) xNil)))))))))
    (xSeq (xApp 6 (xTup (xCons (xVar 4) (xCons (xTup (xCons (xTup xNil) xNil)) (xCons (xVar 5) (xCons (xTup (xCons (xD (.str (Str.ofString "far"))) (xCons (xD (.str (Str.ofString "a"))) (xCons (xD (.str (Str.ofString "a"))) (xCons (xTup xNil) (xCons (xTup xNil) (xCons (xTup xNil) xNil))))))) (xCons (xTup (xCons (xD (.str (Str.ofString "paper"))) (xCons (xD (.str (Str.ofString "other"))) (xCons (xUn pNeg (xD (.int 1))) xNil)))) xNil)))))))
    (xSeq (xFor (xIt (xNew (xLst (xCons (xD .none) (xCons (xTup (xCons (xD (.str (Str.ofString "a"))) xNil)) (xCons (xTup (xCons (xD (.str (Str.ofString "c"))) xNil)) (xCons (xTup (xCons (xD (.str (Str.ofString "b"))) xNil)) (xCons (xTup (xCons (xD (.str (Str.ofString "d"))) xNil)) (xCons (xNew (xLst (xCons (xD (.str (Str.ofString "b"))) xNil))) (xCons (xTup (xCons (xD (.str (Str.ofString "c"))) (xCons (xD (.str (Str.ofString "b"))) xNil))) (xCons (xD (.str (Str.ofString "b"))) xNil))))))))))) (xgNm 9) (xApp 6 (xTup (xCons (xVar 4) (xCons (xTup (xCons (xTup xNil) xNil)) (xCons (xVar 5) (xCons (xTup (xCons (xD (.str (Str.ofString "far"))) (xCons (xD (.str (Str.ofString "a"))) (xCons (xD (.str (Str.ofString "c"))) (xCons (xVar 9) (xCons (xTup xNil) (xCons (xTup xNil) xNil))))))) (xCons (xTup (xCons (xD (.str (Str.ofString "paper"))) (xCons (xD (.str (Str.ofString "lot"))) (xCons (xUn pNeg (xD (.int 1))) xNil)))) xNil))))))))
    (xSeq (xFor (xIt (xNew (xLst (xCons (xD .none) (xCons (xTup xNil) (xCons (xTup (xCons (xD (.int 0)) (xCons (xD (.int 0)) xNil))) (xCons (xNew (xLst (xCons (xD (.int 0)) (xCons (xD (.int 0)) (xCons (xD (.int 0)) xNil))))) (xCons (xTup (xCons (xD (.int 0)) (xCons (xD (.int 2)) (xCons (xD (.int 0)) xNil)))) (xCons (xTup (xCons (xD (.int 0)) (xCons (xUn pNeg (xD (.int 3))) (xCons (xD (.int 0)) xNil)))) (xCons (xTup (xCons (xD (.int 0)) (xCons (xD (.int 0)) (xCons (xD (.bool true)) xNil)))) xNil)))))))))) (xgNm 10) (xApp 6 (xTup (xCons (xVar 4) (xCons (xTup (xCons (xTup xNil) xNil)) (xCons (xVar 5) (xCons (xTup (xCons (xD (.str (Str.ofString "far"))) (xCons (xD (.str (Str.ofString "a"))) (xCons (xD (.str (Str.ofString "c"))) (xCons (xTup xNil) (xCons (xVar 10) (xCons (xTup xNil) xNil))))))) (xCons (xTup (xCons (xD (.str (Str.ofString "paper"))) (xCons (xD (.str (Str.ofString "gains"))) (xCons (xUn pNeg (xD (.int 1))) xNil)))) xNil))))))))
    (xSeq (xFor (xIt (xNew (xLst (xCons (xD .none) (xCons (xTup xNil) (xCons (xTup (xCons (xD (.str (Str.ofString "a"))) (xCons (xD (.str (Str.ofString "c"))) xNil))) (xCons (xTup (xCons (xD (.str (Str.ofString "b"))) xNil)) (xCons (xNew (xLst (xCons (xD (.str (Str.ofString "c"))) xNil))) (xCons (xTup (xCons (xD (.str (Str.ofString "c"))) (xCons (xD (.str (Str.ofString "b"))) xNil))) (xCons (xTup (xCons (xD (.str (Str.ofString "c"))) (xCons (xD (.str (Str.ofString "c"))) xNil))) (xCons (xTup (xCons (xD (.str (Str.ofString "c"))) (xCons (xD (.str (Str.ofString "d"))) xNil))) (xCons (xD (.str (Str.ofString "c"))) (xCons (xTup (xCons (xD (.str (Str.ofString "a"))) xNil)) xNil))))))))))))) (xgNm 11) (xApp 6 (xTup (xCons (xVar 4) (xCons (xTup (xCons (xTup xNil) xNil)) (xCons (xVar 5) (xCons (xTup (xCons (xD (.str (Str.ofString "far"))) (xCons (xD (.str (Str.ofString "a"))) (xCons (xD (.str (Str.ofString "c"))) (xCons (xTup xNil) (xCons (xTup (xCons (xD (.int 0)) (xCons (xD (.int 0)) (xCons (xD (.int 0)) xNil)))) (xCons (xVar 11) xNil))))))) (xCons (xTup (xCons (xD (.str (Str.ofString "paper"))) (xCons (xD (.str (Str.ofString "part"))) (xCons (xUn pNeg (xD (.int 1))) xNil)))) xNil))))))))
    (xSeq (xApp 6 (xTup (xCons (xVar 4) (xCons (xTup (xCons (xTup (xCons (xD (.str (Str.ofString "b"))) xNil)) xNil)) (xCons (xVar 5) (xCons (xTup (xCons (xD (.str (Str.ofString "far"))) (xCons (xD (.str (Str.ofString "a"))) (xCons (xD (.str (Str.ofString "c"))) (xCons (xTup (xCons (xD (.str (Str.ofString "b"))) xNil)) (xCons (xTup (xCons (xD (.int 0)) (xCons (xD (.int 0)) xNil))) (xCons (xTup (xCons (xD (.str (Str.ofString "b"))) (xCons (xD (.str (Str.ofString "c"))) xNil))) xNil))))))) (xCons (xTup (xCons (xD (.str (Str.ofString "paper"))) (xCons (xD (.str (Str.ofString "part"))) (xCons (xUn pNeg (xD (.int 1))) xNil)))) xNil)))))))
    (xSeq (xApp 6 (xTup (xCons (xVar 4) (xCons (xTup (xCons (xTup xNil) xNil)) (xCons (xBin pAdd (xVar 5) (xTup (xCons (xTup (xCons (xD (.str (Str.ofString "a"))) (xCons (xD (.str (Str.ofString "c"))) (xCons (xD (.int 0)) (xCons (xD (.int 1)) xNil))))) xNil))) (xCons (xTup (xCons (xD (.str (Str.ofString "far"))) (xCons (xD (.str (Str.ofString "a"))) (xCons (xD (.str (Str.ofString "c"))) (xCons (xTup xNil) (xCons (xTup (xCons (xD (.int 0)) (xCons (xD (.int 0)) (xCons (xD (.int 0)) xNil)))) (xCons (xTup (xCons (xD (.str (Str.ofString "c"))) xNil)) xNil))))))) (xCons (xTup (xCons (xD (.str (Str.ofString "paper"))) (xCons (xD (.str (Str.ofString "letter"))) (xCons (xD (.int 2)) xNil)))) xNil)))))))
    (xSeq (xApp 6 (xTup (xCons (xVar 4) (xCons (xTup (xCons (xTup xNil) xNil)) (xCons (xVar 5) (xCons (xTup (xCons (xD (.str (Str.ofString "far"))) (xCons (xD (.str (Str.ofString "a"))) (xCons (xD (.str (Str.ofString "c"))) (xCons (xTup xNil) (xCons (xTup (xCons (xD (.int 0)) (xCons (xD (.int 0)) (xCons (xD (.int 0)) xNil)))) (xCons (xTup (xCons (xD (.str (Str.ofString "b"))) (xCons (xD (.str (Str.ofString "c"))) xNil))) xNil))))))) (xCons (xTup (xCons (xD (.str (Str.ofString "paper"))) (xCons (xD (.str (Str.ofString "letter"))) (xCons (xD (.int 0)) xNil)))) xNil)))))))
    (xRet (xBin pAdd (xVar 6) (xNew (xLst (xCons (xTup (xCons (xVar 0) (xCons (xTup (xCons (xTup xNil) xNil)) (xCons (xTup (xCons (xTup (xCons (xD (.str (Str.ofString "a"))) (xCons (xD (.str (Str.ofString "b"))) (xCons (xD (.int 5)) (xCons (xD (.int 6)) xNil))))) xNil)) (xCons (xTup (xCons (xD (.str (Str.ofString "far"))) (xCons (xD (.str (Str.ofString "a"))) (xCons (xD (.str (Str.ofString "b"))) (xCons (xTup xNil) (xCons (xTup (xCons (xD (.int 0)) (xCons (xD (.int 0)) xNil))) (xCons (xTup (xCons (xD (.str (Str.ofString "b"))) xNil)) xNil))))))) (xCons (xTup (xCons (xD (.str (Str.ofString "paper"))) (xCons (xD (.str (Str.ofString "letter"))) (xCons (xD (.int 0)) xNil)))) xNil)))))) xNil)))))))))))))))))
def F__law_far_rows : List S → R S := runF 12 XF__law_far_rows
def XF__law_are_refused : XS := (xSeq (xAsg (xCall F__law_worlds_told xNil) (xgTp 4 (xgCons (xgNm 0) (xgCons (xgNm 1) (xgCons (xgNm 2) (xgCons (xgNm 3) xgNil))))))
    (xSeq (xSet 4 (xTup (xCons (xTup (xCons (xD (.str (Str.ofString "a"))) (xCons (xD (.str (Str.ofString "b"))) (xCons (xD (.int 0)) (xCons (xD (.int 1)) xNil))))) (xCons (xTup (xCons (xD (.str (Str.ofString "a"))) (xCons (xD (.str (Str.ofString "b"))) (xCons (xD (.int 0)) (xCons (xD (.int 4)) xNil))))) xNil))))
    (xSeq (xOwn 5 (xLst (xCons (xHear G__law_judged (xCall F_lets_ring (xCons (xD .none) (xCons (xD .none) (xCons (xD .none) (xCons (xD .none) xNil)))))) xNil)))
    (xSeq (xApp 5 (xHear G__law_judged (xCall F_lets_ring (xCons (xVar 1) (xCons (xD .none) (xCons (xD .none) (xCons (xD .none) xNil)))))))
    (xSeq (xApp 5 (xHear G__law_judged (xCall F_lets_ring (xCons (xVar 1) (xCons (xVar 2) (xCons (xD .none) (xCons (xD .none) xNil)))))))
    (xSeq (xApp 5 (xHear G__law_judged (xCall F_lets_ring (xCons (xVar 0) (xCons (xTup (xCons (xTup xNil) xNil)) (xCons (xVar 4) (xCons (xD .none) xNil)))))))
    (xSeq (xApp 5 (xHear G__law_judged (xCallK [3, 2, 1, 0] F_lets_ring (xCons (xD .none) (xCons (xVar 3) (xCons (xVar 2) (xCons (xVar 1) xNil)))))))
    (xSeq (xSet 6 (xNew (xLst (xCons (xTup (xCons (xD (.str (Str.ofString "use"))) (xCons (xD (.str (Str.ofString "town"))) (xCons (xUn pNeg (xD (.int 1))) xNil)))) (xCons (xTup (xCons (xD (.str (Str.ofString "use"))) (xCons (xD (.str (Str.ofString "fears"))) (xCons (xUn pNeg (xD (.int 1))) xNil)))) (xCons (xTup (xCons (xD (.str (Str.ofString "use"))) (xCons (xD (.str (Str.ofString "run"))) (xCons (xUn pNeg (xD (.int 1))) xNil)))) (xCons (xTup (xCons (xD (.str (Str.ofString "use"))) (xCons (xD (.str (Str.ofString "run"))) (xCons (xUn pNeg (xD (.int 1))) xNil)))) (xCons (xTup (xCons (xD (.str (Str.ofString "paper"))) (xCons (xD (.str (Str.ofString "shape"))) (xCons (xUn pNeg (xD (.int 1))) xNil)))) xNil))))))))
    (xFrz 5 (xRet (xCall F__law_same (xCons (xVar 5) (xCons (xVar 6) xNil)))))))))))))
def F__law_are_refused : List S → R S := runF 7 XF__law_are_refused
def XF_law : XS := (xSeq (xSet 1 (xBin pAdd (xBin pAdd (xCall F__law_right_rows xNil) (xCall F__law_circle_rows xNil)) (xCall F__law_far_rows xNil)))
    (xSeq (xFor (xIt (xVar 1)) (xgTp 5 (xgCons (xgNm 2) (xgCons (xgNm 3) (xgCons (xgNm 4) (xgCons (xgNm 5) (xgCons (xgNm 6) xgNil)))))) (xSeq (xOwn 7 (xLst (xCons (xHear G__law_judged (xCall F_lets_ring (xCons (xVar 2) (xCons (xVar 3) (xCons (xVar 4) (xCons (xVar 5) xNil)))))) xNil)))
    (xSeq (xApp 7 (xCall F__law_ring_due (xCons (xVar 2) (xCons (xVar 3) (xCons (xVar 4) (xCons (xVar 5) xNil))))))
    (xFrz 7 (xIf (xNotB (xTru (xCall F__law_same (xCons (xVar 7) (xCons (xNew (xLst (xCons (xVar 6) (xCons (xVar 6) xNil)))) xNil))))) (xRet (xD (.bool false))) xNx)))))
    (xRet (xCall F__law_are_refused xNil))))
def F_law : List S → R S := runF 8 XF_law
theorem sc_bounds_by_ends : FnScope N_bounds_by_ends ps_bounds_by_ends (defScope s_bounds_by_ends) := ⟨rfl, rfl, rfl, by decide +kernel, rfl, by decide +kernel, by decide +kernel⟩
theorem sc_outside_of : FnScope N_outside_of ps_outside_of (defScope s_outside_of) := ⟨rfl, rfl, rfl, by decide +kernel, rfl, by decide +kernel, by decide +kernel⟩
theorem sc_is_outside : FnScope N_is_outside ps_is_outside (defScope s_is_outside) := ⟨rfl, rfl, rfl, by decide +kernel, rfl, by decide +kernel, by decide +kernel⟩
theorem sc_is_part : FnScope N_is_part ps_is_part (defScope s_is_part) := ⟨rfl, rfl, rfl, by decide +kernel, rfl, by decide +kernel, by decide +kernel⟩
theorem sc_ties_between : FnScope N_ties_between ps_ties_between (defScope s_ties_between) := ⟨rfl, rfl, rfl, by decide +kernel, rfl, by decide +kernel, by decide +kernel⟩
theorem sc_least_sums : FnScope N_least_sums ps_least_sums (defScope s_least_sums) := ⟨rfl, rfl, rfl, by decide +kernel, rfl, by decide +kernel, by decide +kernel⟩
theorem sc_steps_back : FnScope N_steps_back ps_steps_back (defScope s_steps_back) := ⟨rfl, rfl, rfl, by decide +kernel, rfl, by decide +kernel, by decide +kernel⟩
theorem sc_ring_by : FnScope N_ring_by ps_ring_by (defScope s_ring_by) := ⟨rfl, rfl, rfl, by decide +kernel, rfl, by decide +kernel, by decide +kernel⟩
theorem sc_ring_outside : FnScope N_ring_outside ps_ring_outside (defScope s_ring_outside) := ⟨rfl, rfl, rfl, by decide +kernel, rfl, by decide +kernel, by decide +kernel⟩
theorem sc_explains : FnScope N_explains ps_explains (defScope s_explains) := ⟨rfl, rfl, rfl, by decide +kernel, rfl, by decide +kernel, by decide +kernel⟩
theorem sc_first_misfit : FnScope N_first_misfit ps_first_misfit (defScope s_first_misfit) := ⟨rfl, rfl, rfl, by decide +kernel, rfl, by decide +kernel, by decide +kernel⟩
theorem sc_least_terms : FnScope N_least_terms ps_least_terms (defScope s_least_terms) := ⟨rfl, rfl, rfl, by decide +kernel, rfl, by decide +kernel, by decide +kernel⟩
theorem sc_is_more : FnScope N_is_more ps_is_more (defScope s_is_more) := ⟨rfl, rfl, rfl, by decide +kernel, rfl, by decide +kernel, by decide +kernel⟩
theorem sc_greatest_of : FnScope N_greatest_of ps_greatest_of (defScope s_greatest_of) := ⟨rfl, rfl, rfl, by decide +kernel, rfl, by decide +kernel, by decide +kernel⟩
theorem sc_is_under : FnScope N_is_under ps_is_under (defScope s_is_under) := ⟨rfl, rfl, rfl, by decide +kernel, rfl, by decide +kernel, by decide +kernel⟩
theorem sc_has_any : FnScope N_has_any ps_has_any (defScope s_has_any) := ⟨rfl, rfl, rfl, by decide +kernel, rfl, by decide +kernel, by decide +kernel⟩
theorem sc_is_explained : FnScope N_is_explained ps_is_explained (defScope s_is_explained) := ⟨rfl, rfl, rfl, by decide +kernel, rfl, by decide +kernel, by decide +kernel⟩
theorem sc_is_integer : FnScope N_is_integer ps_is_integer (defScope s_is_integer) := ⟨rfl, rfl, rfl, by decide +kernel, rfl, by decide +kernel, by decide +kernel⟩
theorem sc_is_name : FnScope N_is_name ps_is_name (defScope s_is_name) := ⟨rfl, rfl, rfl, by decide +kernel, rfl, by decide +kernel, by decide +kernel⟩
theorem sc_is_ascending : FnScope N_is_ascending ps_is_ascending (defScope s_is_ascending) := ⟨rfl, rfl, rfl, by decide +kernel, rfl, by decide +kernel, by decide +kernel⟩
theorem sc_is_towers : FnScope N_is_towers ps_is_towers (defScope s_is_towers) := ⟨rfl, rfl, rfl, by decide +kernel, rfl, by decide +kernel, by decide +kernel⟩
theorem sc_is_tuple : FnScope N_is_tuple ps_is_tuple (defScope s_is_tuple) := ⟨rfl, rfl, rfl, by decide +kernel, rfl, by decide +kernel, by decide +kernel⟩
theorem sc_are_integers : FnScope N_are_integers ps_are_integers (defScope s_are_integers) := ⟨rfl, rfl, rfl, by decide +kernel, rfl, by decide +kernel, by decide +kernel⟩
theorem sc_is_wire_form : FnScope N_is_wire_form ps_is_wire_form (defScope s_is_wire_form) := ⟨rfl, rfl, rfl, by decide +kernel, rfl, by decide +kernel, by decide +kernel⟩
theorem sc_is_lot : FnScope N_is_lot ps_is_lot (defScope s_is_lot) := ⟨rfl, rfl, rfl, by decide +kernel, rfl, by decide +kernel, by decide +kernel⟩
theorem sc_town_fault : FnScope N_town_fault ps_town_fault (defScope s_town_fault) := ⟨rfl, rfl, rfl, by decide +kernel, rfl, by decide +kernel, by decide +kernel⟩
theorem sc_run_fault : FnScope N_run_fault ps_run_fault (defScope s_run_fault) := ⟨rfl, rfl, rfl, by decide +kernel, rfl, by decide +kernel, by decide +kernel⟩
theorem sc_fears_fault : FnScope N_fears_fault ps_fears_fault (defScope s_fears_fault) := ⟨rfl, rfl, rfl, by decide +kernel, rfl, by decide +kernel, by decide +kernel⟩
theorem sc_gains_fault : FnScope N_gains_fault ps_gains_fault (defScope s_gains_fault) := ⟨rfl, rfl, rfl, by decide +kernel, rfl, by decide +kernel, by decide +kernel⟩
theorem sc_refuse_paper : FnScope N_refuse_paper ps_refuse_paper (defScope s_refuse_paper) := ⟨rfl, rfl, rfl, by decide +kernel, rfl, by decide +kernel, by decide +kernel⟩
theorem sc_refuse_town : FnScope N_refuse_town ps_refuse_town (defScope s_refuse_town) := ⟨rfl, rfl, rfl, by decide +kernel, rfl, by decide +kernel, by decide +kernel⟩
theorem sc_refuse_run : FnScope N_refuse_run ps_refuse_run (defScope s_refuse_run) := ⟨rfl, rfl, rfl, by decide +kernel, rfl, by decide +kernel, by decide +kernel⟩
theorem sc_refuse_fears : FnScope N_refuse_fears ps_refuse_fears (defScope s_refuse_fears) := ⟨rfl, rfl, rfl, by decide +kernel, rfl, by decide +kernel, by decide +kernel⟩
theorem sc_refuse_asked : FnScope N_refuse_asked ps_refuse_asked (defScope s_refuse_asked) := ⟨rfl, rfl, rfl, by decide +kernel, rfl, by decide +kernel, by decide +kernel⟩
theorem sc_refuse_quarrel : FnScope N_refuse_quarrel ps_refuse_quarrel (defScope s_refuse_quarrel) := ⟨rfl, rfl, rfl, by decide +kernel, rfl, by decide +kernel, by decide +kernel⟩
theorem sc_is_told : FnScope N_is_told ps_is_told (defScope s_is_told) := ⟨rfl, rfl, rfl, by decide +kernel, rfl, by decide +kernel, by decide +kernel⟩
theorem sc_circle_fault : FnScope N_circle_fault ps_circle_fault (defScope s_circle_fault) := ⟨rfl, rfl, rfl, by decide +kernel, rfl, by decide +kernel, by decide +kernel⟩
theorem sc_crossing_fault : FnScope N_crossing_fault ps_crossing_fault (defScope s_crossing_fault) := ⟨rfl, rfl, rfl, by decide +kernel, rfl, by decide +kernel, by decide +kernel⟩
theorem sc_far_fault : FnScope N_far_fault ps_far_fault (defScope s_far_fault) := ⟨rfl, rfl, rfl, by decide +kernel, rfl, by decide +kernel, by decide +kernel⟩
theorem sc_steps_fault : FnScope N_steps_fault ps_steps_fault (defScope s_steps_fault) := ⟨rfl, rfl, rfl, by decide +kernel, rfl, by decide +kernel, by decide +kernel⟩
theorem sc_bound_fault : FnScope N_bound_fault ps_bound_fault (defScope s_bound_fault) := ⟨rfl, rfl, rfl, by decide +kernel, rfl, by decide +kernel, by decide +kernel⟩
theorem sc_mean_of : FnScope N_mean_of ps_mean_of (defScope s_mean_of) := ⟨rfl, rfl, rfl, by decide +kernel, rfl, by decide +kernel, by decide +kernel⟩
theorem sc_lets_ring : FnScope N_lets_ring ps_lets_ring (defScope s_lets_ring) := ⟨rfl, rfl, rfl, by decide +kernel, rfl, by decide +kernel, by decide +kernel⟩
theorem sc__law_same : FnScope N__law_same ps__law_same (defScope s__law_same) := ⟨rfl, rfl, rfl, by decide +kernel, rfl, by decide +kernel, by decide +kernel⟩
theorem sc__law_frac : FnScope N__law_frac ps__law_frac (defScope s__law_frac) := ⟨rfl, rfl, rfl, by decide +kernel, rfl, by decide +kernel, by decide +kernel⟩
theorem sc__law_feared : FnScope N__law_feared ps__law_feared (defScope s__law_feared) := ⟨rfl, rfl, rfl, by decide +kernel, rfl, by decide +kernel, by decide +kernel⟩
theorem sc__law_wires : FnScope N__law_wires ps__law_wires (defScope s__law_wires) := ⟨rfl, rfl, rfl, by decide +kernel, rfl, by decide +kernel, by decide +kernel⟩
theorem sc__law_is_integer : FnScope N__law_is_integer ps__law_is_integer (defScope s__law_is_integer) := ⟨rfl, rfl, rfl, by decide +kernel, rfl, by decide +kernel, by decide +kernel⟩
theorem sc__law_is_lot : FnScope N__law_is_lot ps__law_is_lot (defScope s__law_is_lot) := ⟨rfl, rfl, rfl, by decide +kernel, rfl, by decide +kernel, by decide +kernel⟩
theorem sc__law_do_fit : FnScope N__law_do_fit ps__law_do_fit (defScope s__law_do_fit) := ⟨rfl, rfl, rfl, by decide +kernel, rfl, by decide +kernel, by decide +kernel⟩
theorem sc__law_told_by : FnScope N__law_told_by ps__law_told_by (defScope s__law_told_by) := ⟨rfl, rfl, rfl, by decide +kernel, rfl, by decide +kernel, by decide +kernel⟩
theorem sc__law_is_good_lot : FnScope N__law_is_good_lot ps__law_is_good_lot (defScope s__law_is_good_lot) := ⟨rfl, rfl, rfl, by decide +kernel, rfl, by decide +kernel, by decide +kernel⟩
theorem sc__law_circle_due : FnScope N__law_circle_due ps__law_circle_due (defScope s__law_circle_due) := ⟨rfl, rfl, rfl, by decide +kernel, rfl, by decide +kernel, by decide +kernel⟩
theorem sc__law_far_due : FnScope N__law_far_due ps__law_far_due (defScope s__law_far_due) := ⟨rfl, rfl, rfl, by decide +kernel, rfl, by decide +kernel, by decide +kernel⟩
theorem sc__law_ring_due : FnScope N__law_ring_due ps__law_ring_due (defScope s__law_ring_due) := ⟨rfl, rfl, rfl, by decide +kernel, rfl, by decide +kernel, by decide +kernel⟩
theorem sc__law_worlds_told : FnScope N__law_worlds_told ps__law_worlds_told (defScope s__law_worlds_told) := ⟨rfl, rfl, rfl, by decide +kernel, rfl, by decide +kernel, by decide +kernel⟩
theorem sc__law_right_rows : FnScope N__law_right_rows ps__law_right_rows (defScope s__law_right_rows) := ⟨rfl, rfl, rfl, by decide +kernel, rfl, by decide +kernel, by decide +kernel⟩
theorem sc__law_circle_rows : FnScope N__law_circle_rows ps__law_circle_rows (defScope s__law_circle_rows) := ⟨rfl, rfl, rfl, by decide +kernel, rfl, by decide +kernel, by decide +kernel⟩
theorem sc__law_far_rows : FnScope N__law_far_rows ps__law_far_rows (defScope s__law_far_rows) := ⟨rfl, rfl, rfl, by decide +kernel, rfl, by decide +kernel, by decide +kernel⟩
theorem sc__law_are_refused : FnScope N__law_are_refused ps__law_are_refused (defScope s__law_are_refused) := ⟨rfl, rfl, rfl, by decide +kernel, rfl, by decide +kernel, by decide +kernel⟩
theorem sc_law : FnScope N_law ps_law (defScope s_law) := ⟨rfl, rfl, rfl, by decide +kernel, rfl, by decide +kernel, by decide +kernel⟩
end K33

namespace K33
open PySem PySem.Spec PyProof.Rows L2 PL
theorem b_law {P : Program} {w : World} {K : PySem.W.Frag} {mg : Str → Option Value} {base : Heap} {tabs : List (Addr × Str)} (M : Bis mg) (D__law_are_refused : DefX P w K mg base (fam tabs) (XVm mg) "_law_are_refused" s__law_are_refused 10 ps__law_are_refused (ofF 0 F__law_are_refused)) (D__law_circle_rows : DefX P w K mg base (fam tabs) (XVm mg) "_law_circle_rows" s__law_circle_rows 2 ps__law_circle_rows (ofF 0 F__law_circle_rows)) (D__law_far_rows : DefX P w K mg base (fam tabs) (XVm mg) "_law_far_rows" s__law_far_rows 2 ps__law_far_rows (ofF 0 F__law_far_rows)) (D__law_right_rows : DefX P w K mg base (fam tabs) (XVm mg) "_law_right_rows" s__law_right_rows 2 ps__law_right_rows (ofF 0 F__law_right_rows)) (D__law_ring_due : DefX P w K mg base (fam tabs) (XVm mg) "_law_ring_due" s__law_ring_due 4 ps__law_ring_due (ofF 4 F__law_ring_due)) (D__law_same : DefX P w K mg base (fam tabs) (XVm mg) "_law_same" s__law_same 1 ps__law_same (ofF 2 F__law_same)) (D_lets_ring : DefX P w K mg base (fam tabs) (XVm mg) "lets_ring" s_lets_ring 7 ps_lets_ring (ofF 4 F_lets_ring)) (H__law_judged : HearX P w K mg base (fam tabs) (XVm mg) "_law_judged" s__law_judged N__law_judged "_law_call" G__law_judged) {c T : Addr} (B_law : LamX.TabB base mg c T) (m_law : (T, ("law.<locals>.<lambda>" : Str)) ∈ tabs)
    {f : Addr} {A : Around} {outer : List Env} {s : Shared} {H Z : Hp} {H0 : Hp} {E : XK} {Fo : Option Fd} (hr : Room 10 (A.deeper (envOfC "law" (defScope s_law) s.heap.objs.size f (.ref c)))) (hgd : A.guards = some []) (hF : HasF (fam tabs) Fo) :
    Sts (cpOf (cxOf CX0 P w K mg base N_law "law" (defScope s_law) f (.ref c) A outer s H E).nox Fo H0 Z (fun _ _ _ => False) (XVm mg)) (defBody s_law) (ofS XF_law) :=
  (show Sts _ _ (ofS ((xSeq (xSet 1 (xBin pAdd (xBin pAdd (xCall F__law_right_rows xNil) (xCall F__law_circle_rows xNil)) (xCall F__law_far_rows xNil)))
    (xSeq (xFor (xIt (xVar 1)) (xgTp 5 (xgCons (xgNm 2) (xgCons (xgNm 3) (xgCons (xgNm 4) (xgCons (xgNm 5) (xgCons (xgNm 6) xgNil)))))) (xSeq (xOwn 7 (xLst (xCons (xHear G__law_judged (xCall F_lets_ring (xCons (xVar 2) (xCons (xVar 3) (xCons (xVar 4) (xCons (xVar 5) xNil)))))) xNil)))
    (xSeq (xApp 7 (xCall F__law_ring_due (xCons (xVar 2) (xCons (xVar 3) (xCons (xVar 4) (xCons (xVar 5) xNil))))))
    (xFrz 7 (xIf (xNotB (xTru (xCall F__law_same (xCons (xVar 7) (xCons (xNew (xLst (xCons (xVar 6) (xCons (xVar 6) xNil)))) xNil))))) (xRet (xD (.bool false))) xNx)))))
    (xRet (xCall F__law_are_refused xNil)))))) from (xs_cons (xs_set (i := 1) sc_law.nd rfl (.inl rfl) (x_bin o_add fits_add (x_bin o_add fits_add (x_call0 D__law_right_rows rfl hF (hr.mono (by decide)) hgd (by rfl) passL) (x_call0 D__law_circle_rows rfl hF (hr.mono (by decide)) hgd (by rfl) passL)) (x_call0 D__law_far_rows rfl hF (hr.mono (by decide)) hgd (by rfl) passL)))
    (xs_cons (xs_for PassesOwn.never rfl (xi_any (x_var 1 (pv 1))) (fun _ => (xg_tup rfl (xgs_cons (xg_nm (i := 2) sc_law.nd rfl (.inr rfl)) (xgs_cons (xg_nm (i := 3) sc_law.nd rfl (.inr rfl)) (xgs_cons (xg_nm (i := 4) sc_law.nd rfl (.inr rfl)) (xgs_cons (xg_nm (i := 5) sc_law.nd rfl (.inr rfl)) (xgs_cons (xg_nm (i := 6) sc_law.nd rfl (.inl rfl)) xgs_nil))))))) (fun _ => (xs_cons (xs_own (i := 7) sc_law.nd rfl (.inl rfl) (xn_lst (xa_cons (x_lamX (k := 7) H__law_judged hF (by rfl) B_law rfl (lamP_T hF m_law) passL (hr.mono (by decide)) hgd (LamX.lamS_by (by rfl)) rfl (fun _ _ _ _ _ => rfl) (fun hr hgd => (x_call D_lets_ring hF (hr.mono (by decide)) hgd (by rfl) lets_lam (xa_cons (x_var 2 (pv 2)) (xa_cons (x_var 3 (pv 3)) (xa_cons (x_var 4 (pv 4)) (xa_cons (x_var 5 (pv 5)) xa_nil)))) (cnt_cons (cnt_cons (cnt_cons (cnt_cons cnt_nil))))))) xa_nil)))
    (xs_cons (xs_app (pv 7) (x_call D__law_ring_due hF (hr.mono (by decide)) hgd (by rfl) passL (xa_cons (x_var 2 (pv 2)) (xa_cons (x_var 3 (pv 3)) (xa_cons (x_var 4 (pv 4)) (xa_cons (x_var 5 (pv 5)) xa_nil)))) (cnt_cons (cnt_cons (cnt_cons (cnt_cons cnt_nil))))))
    (xs_frz 7 (xs_one (xs_if (xt_not (xt_tru (x_call D__law_same hF (hr.mono (by decide)) hgd (by rfl) passL (xa_cons (x_var 7 (pv 7)) (xa_cons (x_new (xn_lst (xa_cons (x_var 6 (pv 6)) (xa_cons (x_var 6 (pv 6)) xa_nil)))) xa_nil)) (cnt_cons (cnt_cons cnt_nil))))) (xs_one (xs_ret x_bl)) xs_nil)))))))
    (xs_one (xs_ret (x_call0 D__law_are_refused rfl hF (hr.mono (by decide)) hgd (by rfl) passL))))))
end K33

namespace K33
open PySem PySem.Spec PyProof.Rows L2 PL
theorem t_InvalidPaper {P : Program} {w : World} {K : PySem.W.Frag} {mg : Str → Option Value} {base h : Heap} (X : K.In h) (G : h.Ns mainGlobals mg) (has : HasX K "InvalidPaper" "InvalidPaper.__init__" s_InvalidPaper "word" "at") : ExcOk P w K mg base "InvalidPaper" "word" "at" :=
  excOk_of X G has ⟨rfl, rfl, rfl, by decide +kernel, rfl, by decide +kernel, by decide +kernel⟩ (by rfl) (.inl rfl) (.inl rfl) (.inl rfl)
theorem t_NotUsable {P : Program} {w : World} {K : PySem.W.Frag} {mg : Str → Option Value} {base h : Heap} (X : K.In h) (G : h.Ns mainGlobals mg) (has : HasX K "NotUsable" "NotUsable.__init__" s_NotUsable "word" "at") : ExcOk P w K mg base "NotUsable" "word" "at" :=
  excOk_of X G has ⟨rfl, rfl, rfl, by decide +kernel, rfl, by decide +kernel, by decide +kernel⟩ (by rfl) (.inl rfl) (.inl rfl) (.inl rfl)
end K33

namespace K33
open PySem PySem.Spec PyProof.Rows L2 PL
theorem tell__law_judged_0 (a : Addr) (xn : Xn) (s : S) (e : g__law_judged_0 xn = some s) : rtOf (m__law_judged_0 a xn ((List.replicate 2 none).set 1 (some (.raw (.ref a))))) = ok s := by
  obtain ⟨cl, fs⟩ := xn
  unfold g__law_judged_0 at e
  split at e
  · rename_i q1
    cases q1
    split at e
    · rename_i hh
      obtain ⟨h2, h3⟩ := hh
      subst h2 h3
      have hne : (("word" : Str) == "at") = false := by decide +kernel
      have hz3 : szOk 3 = true := by rfl
      split at e
      · rename_i h1
        subst h1
        cases e
        simp -implicitDefEqProofs [m__law_judged_0, xRet, xTup, xCons, xNil, xD, xExF, rbind, rtOf, ok, opt, xVar, S.lent, S.frz, allDat, guard_true, opt_some, List.lookup, hne, hz3]
      · skip
        cases e
    · cases e
  · cases e
theorem tell__law_judged_1 (a : Addr) (xn : Xn) (s : S) (e : g__law_judged_1 xn = some s) : rtOf (m__law_judged_1 a xn ((List.replicate 2 none).set 1 (some (.raw (.ref a))))) = ok s := by
  obtain ⟨cl, fs⟩ := xn
  unfold g__law_judged_1 at e
  split at e
  · rename_i q1
    cases q1
    split at e
    · rename_i hh
      obtain ⟨h2, h3⟩ := hh
      subst h2 h3
      have hne : (("word" : Str) == "at") = false := by decide +kernel
      have hz3 : szOk 3 = true := by rfl
      split at e
      · rename_i h1
        subst h1
        cases e
        simp -implicitDefEqProofs [m__law_judged_1, xRet, xTup, xCons, xNil, xD, xExF, rbind, rtOf, ok, opt, xVar, S.lent, S.frz, allDat, guard_true, opt_some, List.lookup, hne, hz3]
      · skip
        cases e
    · cases e
  · cases e
theorem h__law_judged {P : Program} {w : World} {K : PySem.W.Frag} {mg : Str → Option Value} {base : Heap} {tabs : List (Addr × Str)} {h : Heap} (X : K.In h) (G : h.Ns mainGlobals mg) (has : Has K "_law_judged" s__law_judged) (hsub : SubOk K mg sub) (hXf : XfOk K mg ["InvalidPaper", "NotUsable"] "word" "at") (at_NotUsable : ∃ D, mg "NotUsable" = some (.ref D)) (at_InvalidPaper : ∃ D, mg "InvalidPaper" = some (.ref D)) : HearX P w K mg base (fam tabs) (XVm mg) "_law_judged" s__law_judged N__law_judged "_law_call" G__law_judged :=
  hearX_of X G has ⟨rfl, rfl, rfl, by decide +kernel, rfl, by decide +kernel, by decide +kernel⟩ rfl (.inl rfl) (fun F hF k => hears_try rfl (by decide) (by rfl) hsub fun A outer s H g cdg E room hgd => (.cons at_NotUsable (by rfl) (by decide) (by rfl) (by decide) (by rfl)
      (fun a oe cls d pn G Z xn sb hz hf xv => have hX : ∀ f ∈ (["word", "at"] : List Str), ∀ C0, mg xn.cls = some (.ref C0) → XfC K C0 ∧ PySem.W.findIn K (.ref C0) f = some none := hXf xn.cls (tblB_in sb (by decide +kernel)); (xs_one (xs_ret (x_tup (xa_cons x_str (xa_cons (x_exf hz hf xv (hX _ (by decide)) (pv 1)) (xa_cons (x_exf hz hf xv (hX _ (by decide)) (pv 1)) xa_nil)))))))
      tell__law_judged_0
      (.cons at_InvalidPaper (by rfl) (by decide) (by rfl) (by decide) (by rfl)
      (fun a oe cls d pn G Z xn sb hz hf xv => have hX : ∀ f ∈ (["word", "at"] : List Str), ∀ C0, mg xn.cls = some (.ref C0) → XfC K C0 ∧ PySem.W.findIn K (.ref C0) f = some none := hXf xn.cls (tblB_in sb (by decide +kernel)); (xs_one (xs_ret (x_tup (xa_cons x_str (xa_cons (x_exf hz hf xv (hX _ (by decide)) (pv 1)) (xa_cons (x_exf hz hf xv (hX _ (by decide)) (pv 1)) xa_nil)))))))
      tell__law_judged_1
      .nil))) (fun _ _ _ _ _ _ us hl => match us, hl with | [_], _ => rfl)
end K33

namespace K33
open PySem PySem.Spec PyProof.Rows L2 PL
set_option maxRecDepth 1000000 in
set_option maxHeartbeats 0 in
theorem e_law : isT (rtOf (XF_law (List.replicate N_law.length none))) = true := by decide +kernel
end K33

namespace K33
open PySem PySem.Spec PyProof.Rows L2 PL
theorem b_bounds_by_ends {P : Program} {w : World} {K : PySem.W.Frag} {mg : Str → Option Value} {base : Heap} {tabs : List (Addr × Str)} (M : Bis mg)
    {f : Addr} {cdv : Value} {A : Around} {outer : List Env} {s : Shared} {H Z : Hp} {E : XK} {Fo : Option Fd} (hr : Room 0 (A.deeper (envOfC "bounds_by_ends" (defScope s_bounds_by_ends) s.heap.objs.size f cdv))) (hgd : A.guards = some []) (hF : HasF (fam tabs) Fo) :
    Sts (bodyC P w K mg base (XVm mg) N_bounds_by_ends "bounds_by_ends" s_bounds_by_ends f cdv A outer s H Z E Fo) (defBody s_bounds_by_ends) (ofS XF_bounds_by_ends) :=
  (show Sts _ _ (ofS ((xSeq (xSet 1 (xBin pIx (xVar 0) (xD (.int 1))))
    (xRet (xDc kiT (xIt (xVar 1)) (selT 4) [2, 3, 4, 5, 6] [2, 3, 4, 5] (clIn (xIt (xTup (xCons (xTup (xCons (xVar 2) (xCons (xVar 3) xNil))) (xCons (xTup (xCons (xVar 3) (xCons (xVar 2) xNil))) xNil)))) sel1 [6] [6] (dcElt kiT.as (xVar 6) (xTup (xCons (xVar 4) (xCons (xVar 5) xNil)))))))))) from (xs_cons (xs_set (i := 1) sc_bounds_by_ends.nd rfl (.inl rfl) (x_ix (x_var 0 (pv 0)) x_int (fun _ _ => rfl)))
    (xs_one (xs_ret (x_dc2 (ki := kiT) (us1 := [6]) beginT (hu_of hr) rfl sc_bounds_by_ends.nd (xi_any (x_var 1 (pv 1))) (blkOk_by (own := [("one", 2), ("other", 3), ("low", 4), ("high", 5), ("ends", 6)]) (N := N_bounds_by_ends) (sc := defScope s_bounds_by_ends) (by decide +kernel)) (tg_tup [2, 3, 4, 5] 4 rfl) (by decide) (tg_name 6) (by decide) (by decide) (fun _ _ _ _ _ => (pg_tup rfl (pgs_cons (pg_name (i := 2) sc_bounds_by_ends.nd rfl (Or.inl rfl)) (pgs_cons (pg_name (i := 3) sc_bounds_by_ends.nd rfl (Or.inl rfl)) (pgs_cons (pg_name (i := 4) sc_bounds_by_ends.nd rfl (Or.inl rfl)) (pgs_cons (pg_name (i := 5) sc_bounds_by_ends.nd rfl (Or.inl rfl)) pgs_nil)))))) (fun _ _ _ _ _ => (xi_any (x_tup (xa_cons (x_tup (xa_cons (x_var 2 (pv 2)) (xa_cons (x_var 3 (pv 3)) xa_nil))) (xa_cons (x_tup (xa_cons (x_var 3 (pv 3)) (xa_cons (x_var 2 (pv 2)) xa_nil))) xa_nil))))) (fun _ _ _ _ _ => (pg_name (i := 6) sc_bounds_by_ends.nd rfl (Or.inl rfl))) (fun _ _ _ _ _ => (x_var 6 (pv 6))) (fun _ _ _ _ _ => (x_tup (xa_cons (x_var 4 (pv 4)) (xa_cons (x_var 5 (pv 5)) xa_nil)))))))))
theorem d_bounds_by_ends {P : Program} {w : World} {K : PySem.W.Frag} {mg : Str → Option Value} {base : Heap} {tabs : List (Addr × Str)} {h : Heap} (M : Bis mg) (X : K.In h) (G : h.Ns mainGlobals mg) (has : Has K "bounds_by_ends" s_bounds_by_ends) : DefX P w K mg base (fam tabs) (XVm mg) "bounds_by_ends" s_bounds_by_ends 1 ps_bounds_by_ends (ofF 1 F_bounds_by_ends) :=
  defX_of X G has sc_bounds_by_ends (fun hr hg hF => b_bounds_by_ends M hr hg hF) (fun _ _ _ _ _ _ us hl => match us, hl with | [_], _ => rfl)
end K33

namespace K33
open PySem PySem.Spec PyProof.Rows L2 PL
theorem b_outside_of {P : Program} {w : World} {K : PySem.W.Frag} {mg : Str → Option Value} {base : Heap} {tabs : List (Addr × Str)} (M : Bis mg)
    {f : Addr} {cdv : Value} {A : Around} {outer : List Env} {s : Shared} {H Z : Hp} {E : XK} {Fo : Option Fd} (hr : Room 0 (A.deeper (envOfC "outside_of" (defScope s_outside_of) s.heap.objs.size f cdv))) (hgd : A.guards = some []) (hF : HasF (fam tabs) Fo) :
    Sts (bodyC P w K mg base (XVm mg) N_outside_of "outside_of" s_outside_of f cdv A outer s H Z E Fo) (defBody s_outside_of) (ofS XF_outside_of) :=
  (show Sts _ _ (ofS ((xRet (xBi pTuple (xCons (xNew (xLc [2] [2] sel1 (xIt (xBin pIx (xVar 0) (xD (.int 0)))) (xT (xBin (pIn true) (xVar 2) (xVar 1))) (xVar 2))) xNil))))) from (xs_one (xs_ret (x_ty b_tuple fits_tuple (by rfl) M.tuple (by decide +kernel) (xa_cons (x_new (n_weak (n_lc rfl sc_outside_of.nd (xi_any (x_ix (x_var 0 (pv 0)) x_int (fun _ _ => rfl))) (blkOk_by (own := [("tower", 2)]) (N := N_outside_of) (sc := defScope s_outside_of) (by decide +kernel)) (tg_name 2) (by decide) (fun _ _ _ _ _ => (pg_name (i := 2) sc_outside_of.nd rfl (Or.inl rfl))) (fun _ _ _ _ _ => (ts_one (xt_cmp (o_notIn (Nat.lt_of_succ_lt (u66 hr))) fits_in (x_var 2 (pv 2)) (x_var 1 (pv 1)) rfl))) (fun _ _ _ _ _ => (x_var 2 (pv 2)))) xLc_of)) xa_nil)))))
theorem d_outside_of {P : Program} {w : World} {K : PySem.W.Frag} {mg : Str → Option Value} {base : Heap} {tabs : List (Addr × Str)} {h : Heap} (M : Bis mg) (X : K.In h) (G : h.Ns mainGlobals mg) (has : Has K "outside_of" s_outside_of) : DefX P w K mg base (fam tabs) (XVm mg) "outside_of" s_outside_of 1 ps_outside_of (ofF 2 F_outside_of) :=
  defX_of X G has sc_outside_of (fun hr hg hF => b_outside_of M hr hg hF) (fun _ _ _ _ _ _ us hl => match us, hl with | [_, _], _ => rfl)
end K33

namespace K33
open PySem PySem.Spec PyProof.Rows L2 PL
theorem b_is_outside {P : Program} {w : World} {K : PySem.W.Frag} {mg : Str → Option Value} {base : Heap} {tabs : List (Addr × Str)} (M : Bis mg)
    {f : Addr} {cdv : Value} {A : Around} {outer : List Env} {s : Shared} {H Z : Hp} {E : XK} {Fo : Option Fd} (hr : Room 0 (A.deeper (envOfC "is_outside" (defScope s_is_outside) s.heap.objs.size f cdv))) (hgd : A.guards = some []) (hF : HasF (fam tabs) Fo) :
    Sts (bodyC P w K mg base (XVm mg) N_is_outside "is_outside" s_is_outside f cdv A outer s H Z E Fo) (defBody s_is_outside) (ofS XF_is_outside) :=
  (show Sts _ _ (ofS ((xRet (xAnd (xBin (pIn true) (xBin pIx (xVar 0) (xD (.int 0))) (xVar 1)) (xBin (pIn true) (xBin pIx (xVar 0) (xD (.int 1))) (xVar 1)))))) from (xs_one (xs_ret (x_and (x_cmp (o_notIn (Nat.lt_of_succ_lt (u66 hr))) fits_in (x_ix (x_var 0 (pv 0)) x_int (fun _ _ => rfl)) (x_var 1 (pv 1)) rfl) (x_one (x_cmp (o_notIn (Nat.lt_of_succ_lt (u66 hr))) fits_in (x_ix (x_var 0 (pv 0)) x_int (fun _ _ => rfl)) (x_var 1 (pv 1)) rfl))))))
theorem d_is_outside {P : Program} {w : World} {K : PySem.W.Frag} {mg : Str → Option Value} {base : Heap} {tabs : List (Addr × Str)} {h : Heap} (M : Bis mg) (X : K.In h) (G : h.Ns mainGlobals mg) (has : Has K "is_outside" s_is_outside) : DefX P w K mg base (fam tabs) (XVm mg) "is_outside" s_is_outside 1 ps_is_outside (ofF 2 F_is_outside) :=
  defX_of X G has sc_is_outside (fun hr hg hF => b_is_outside M hr hg hF) (fun _ _ _ _ _ _ us hl => match us, hl with | [_, _], _ => rfl)
end K33

namespace K33
open PySem PySem.Spec PyProof.Rows L2 PL
theorem b_is_part {P : Program} {w : World} {K : PySem.W.Frag} {mg : Str → Option Value} {base : Heap} {tabs : List (Addr × Str)} (M : Bis mg)
    {f : Addr} {cdv : Value} {A : Around} {outer : List Env} {s : Shared} {H Z : Hp} {E : XK} {Fo : Option Fd} (hr : Room 0 (A.deeper (envOfC "is_part" (defScope s_is_part) s.heap.objs.size f cdv))) (hgd : A.guards = some []) (hF : HasF (fam tabs) Fo) :
    Sts (bodyC P w K mg base (XVm mg) N_is_part "is_part" s_is_part f cdv A outer s H Z E Fo) (defBody s_is_part) (ofS XF_is_part) :=
  (show Sts _ _ (ofS ((xRet (xBi (pAll fun bs => bs.all id) (xCons (xNew (xLc [2] [2] sel1 (xIt (xVar 0)) xYes (xBin (pIn false) (xVar 2) (xVar 1)))) xNil))))) from (xs_one (xs_ret (x_bi (b_all rfl) fits_all (by rfl) M.all (by decide +kernel) (xa_cons (x_new (n_weak (n_lc rfl sc_is_part.nd (xi_any (x_var 0 (pv 0))) (blkOk_by (own := [("tower", 2)]) (N := N_is_part) (sc := defScope s_is_part) (by decide +kernel)) (tg_name 2) (by decide) (fun _ _ _ _ _ => (pg_name (i := 2) sc_is_part.nd rfl (Or.inl rfl))) (fun _ _ _ _ _ => (xts_nil)) (fun _ _ _ _ _ => (x_cmp (o_in (Nat.lt_of_succ_lt (u66 hr))) fits_in (x_var 2 (pv 2)) (x_var 1 (pv 1)) rfl))) xLc_of)) xa_nil)))))
theorem d_is_part {P : Program} {w : World} {K : PySem.W.Frag} {mg : Str → Option Value} {base : Heap} {tabs : List (Addr × Str)} {h : Heap} (M : Bis mg) (X : K.In h) (G : h.Ns mainGlobals mg) (has : Has K "is_part" s_is_part) : DefX P w K mg base (fam tabs) (XVm mg) "is_part" s_is_part 1 ps_is_part (ofF 2 F_is_part) :=
  defX_of X G has sc_is_part (fun hr hg hF => b_is_part M hr hg hF) (fun _ _ _ _ _ _ us hl => match us, hl with | [_, _], _ => rfl)
end K33

namespace K33
open PySem PySem.Spec PyProof.Rows L2 PL
theorem b_ties_between {P : Program} {w : World} {K : PySem.W.Frag} {mg : Str → Option Value} {base : Heap} {tabs : List (Addr × Str)} (M : Bis mg) (D_bounds_by_ends : DefX P w K mg base (fam tabs) (XVm mg) "bounds_by_ends" s_bounds_by_ends 1 ps_bounds_by_ends (ofF 1 F_bounds_by_ends)) (D_is_outside : DefX P w K mg base (fam tabs) (XVm mg) "is_outside" s_is_outside 1 ps_is_outside (ofF 2 F_is_outside))
    {f : Addr} {cdv : Value} {A : Around} {outer : List Env} {s : Shared} {H Z : Hp} {E : XK} {Fo : Option Fd} (hr : Room 1 (A.deeper (envOfC "ties_between" (defScope s_ties_between) s.heap.objs.size f cdv))) (hgd : A.guards = some []) (hF : HasF (fam tabs) Fo) :
    Sts (bodyC P w K mg base (XVm mg) N_ties_between "ties_between" s_ties_between f cdv A outer s H Z E Fo) (defBody s_ties_between) (ofS XF_ties_between) :=
  (show Sts _ _ (ofS ((xSeq (xSet 3 (xCall F_bounds_by_ends (xCons (xVar 0) xNil)))
    (xSeq (xOwn 4 (xLst xNil))
    (xSeq (xFor (xEnumS (xVar 1)) (xgTp 2 (xgCons (xgNm 5) (xgCons (xgNm 6) xgNil))) (xIf (xTru (xCall F_is_outside (xCons (xVar 6) (xCons (xVar 2) xNil)))) (xSeq (xAsg (xVar 6) (xgTp 4 (xgCons (xgNm 7) (xgCons (xgNm 8) (xgCons (xgNm 9) (xgCons (xgNm 10) xgNil))))))
    (xSeq (xAsg (xGet (xVar 3) (xTup (xCons (xVar 7) (xCons (xVar 8) xNil)))) (xgTp 2 (xgCons (xgNm 11) (xgCons (xgNm 12) xgNil))))
    (xSeq (xApp 4 (xTup (xCons (xVar 7) (xCons (xVar 8) (xCons (xBin pSub (xBin pSub (xVar 10) (xVar 9)) (xVar 11)) (xCons (xVar 5) xNil))))))
    (xApp 4 (xTup (xCons (xVar 8) (xCons (xVar 7) (xCons (xBin pAdd (xBin pSub (xVar 12) (xVar 10)) (xVar 9)) (xCons (xVar 5) xNil))))))))) xNx))
    (xRet (xBi pTuple (xCons (xVar 4) xNil)))))))) from (xs_cons (xs_set (i := 3) sc_ties_between.nd rfl (.inl rfl) (x_call D_bounds_by_ends hF (hr.mono (by decide)) hgd (by rfl) lets_body (xa_cons (x_var 0 (pv 0)) xa_nil) (cnt_cons cnt_nil)))
    (xs_cons (xs_own (i := 4) sc_ties_between.nd rfl (.inl rfl) (xn_lst xa_nil))
    (xs_cons (xs_for (passes_of rfl) rfl (xi_enumS (by rfl) M.enumerate (x_var 1 (pv 1))) (fun _ => (xg_tup rfl (xgs_cons (xg_nm (i := 5) sc_ties_between.nd rfl (.inl rfl)) (xgs_cons (xg_nm (i := 6) sc_ties_between.nd rfl (.inl rfl)) xgs_nil)))) (fun _ => (xs_one (xs_if (xt_tru (x_call D_is_outside hF (hr.mono (by decide)) hgd (by rfl) lets_body (xa_cons (x_var 6 (pv 6)) (xa_cons (x_var 2 (pv 2)) xa_nil)) (cnt_cons (cnt_cons cnt_nil)))) (xs_cons (xs_asg (x_var 6 (pv 6)) (xg_tup rfl (xgs_cons (xg_nm (i := 7) sc_ties_between.nd rfl (.inl rfl)) (xgs_cons (xg_nm (i := 8) sc_ties_between.nd rfl (.inl rfl)) (xgs_cons (xg_nm (i := 9) sc_ties_between.nd rfl (.inl rfl)) (xgs_cons (xg_nm (i := 10) sc_ties_between.nd rfl (.inl rfl)) xgs_nil))))))
    (xs_cons (xs_asg (x_get (hu_of hr) (x_var 3 (pv 3)) (x_tup (xa_cons (x_var 7 (pv 7)) (xa_cons (x_var 8 (pv 8)) xa_nil))) (fun _ _ => rfl)) (xg_tup rfl (xgs_cons (xg_nm (i := 11) sc_ties_between.nd rfl (.inl rfl)) (xgs_cons (xg_nm (i := 12) sc_ties_between.nd rfl (.inl rfl)) xgs_nil))))
    (xs_cons (xs_app (pv 4) (x_tup (xa_cons (x_var 7 (pv 7)) (xa_cons (x_var 8 (pv 8)) (xa_cons (x_bin o_sub fits_sub (x_bin o_sub fits_sub (x_var 10 (pv 10)) (x_var 9 (pv 9))) (x_var 11 (pv 11))) (xa_cons (x_var 5 (pv 5)) xa_nil))))))
    (xs_one (xs_app (pv 4) (x_tup (xa_cons (x_var 8 (pv 8)) (xa_cons (x_var 7 (pv 7)) (xa_cons (x_bin o_add fits_add (x_bin o_sub fits_sub (x_var 12 (pv 12)) (x_var 10 (pv 10))) (x_var 9 (pv 9))) (xa_cons (x_var 5 (pv 5)) xa_nil)))))))))) xs_nil))))
    (xs_one (xs_ret (x_ty b_tuple fits_tuple (by rfl) M.tuple (by decide +kernel) (xa_cons (x_var 4 (pv 4)) xa_nil))))))))
theorem d_ties_between {P : Program} {w : World} {K : PySem.W.Frag} {mg : Str → Option Value} {base : Heap} {tabs : List (Addr × Str)} {h : Heap} (M : Bis mg) (X : K.In h) (G : h.Ns mainGlobals mg) (has : Has K "ties_between" s_ties_between) (D_bounds_by_ends : DefX P w K mg base (fam tabs) (XVm mg) "bounds_by_ends" s_bounds_by_ends 1 ps_bounds_by_ends (ofF 1 F_bounds_by_ends)) (D_is_outside : DefX P w K mg base (fam tabs) (XVm mg) "is_outside" s_is_outside 1 ps_is_outside (ofF 2 F_is_outside)) : DefX P w K mg base (fam tabs) (XVm mg) "ties_between" s_ties_between 2 ps_ties_between (ofF 3 F_ties_between) :=
  defX_of X G has sc_ties_between (fun hr hg hF => b_ties_between M D_bounds_by_ends D_is_outside hr hg hF) (fun _ _ _ _ _ _ us hl => match us, hl with | [_, _, _], _ => rfl)
end K33

namespace K33
open PySem PySem.Spec PyProof.Rows L2 PL
theorem b_least_sums {P : Program} {w : World} {K : PySem.W.Frag} {mg : Str → Option Value} {base : Heap} {tabs : List (Addr × Str)} (M : Bis mg)
    {f : Addr} {cdv : Value} {A : Around} {outer : List Env} {s : Shared} {H Z : Hp} {E : XK} {Fo : Option Fd} (hr : Room 0 (A.deeper (envOfC "least_sums" (defScope s_least_sums) s.heap.objs.size f cdv))) (hgd : A.guards = some []) (hF : HasF (fam tabs) Fo) :
    Sts (bodyC P w K mg base (XVm mg) N_least_sums "least_sums" s_least_sums f cdv A outer s H Z E Fo) (defBody s_least_sums) (ofS XF_least_sums) :=
  (show Sts _ _ (ofS ((xSeq (xOwnD 3 (xNew (xLc [4] [4] sel1 (xIt (xVar 1)) xYes (xTup (xCons (xVar 4) (xCons (xD (.int 0)) xNil))))))
    (xSeq (xNewK 5)
    (xSeq (xSet 6 (xD .none))
    (xSeq (xFor (xRng1 (xCons (xVar 2) xNil)) (xgNm 7) (xSeq (xSet 6 (xD .none))
    (xSeq (xFor (xIt (xVar 0)) (xgNm 8) (xSeq (xAsg (xVar 8) (xgTp 4 (xgCons (xgNm 9) (xgCons (xgNm 10) (xgCons (xgNm 11) (xgCons (xgNm 7) xgNil))))))
    (xIf (xAndB (xT (xBin (pInD false) (xVar 9) (xVar 3))) (xOrB (xT (xBin (pInD true) (xVar 10) (xVar 3))) (xT (xBin pLt (xBin pAdd (xGet (xVar 3) (xVar 9)) (xVar 11)) (xGet (xVar 3) (xVar 10)))))) (xSeq (xPut 3 (xVar 10) (xBin pAdd (xGet (xVar 3) (xVar 9)) (xVar 11)))
    (xSeq (xPut 5 (xVar 10) (xVar 8))
    (xSet 6 (xVar 10)))) xNx)))
    (xIf (xT (xBin (pIsN false) (xVar 6) (xD .none))) xBk xNx))))
    (xFrz 5 (xFrz 3 (xRet (xTup (xCons (xVar 3) (xCons (xVar 5) (xCons (xVar 6) xNil))))))))))))) from (xs_cons (xs_ownD (i := 3) rfl sc_least_sums.nd rfl (.inl rfl) (by rfl) M.dict (x_new (n_weak (n_lc rfl sc_least_sums.nd (xi_any (x_var 1 (pv 1))) (blkOk_by (own := [("tower", 4)]) (N := N_least_sums) (sc := defScope s_least_sums) (by decide +kernel)) (tg_name 4) (by decide) (fun _ _ _ _ _ => (pg_name (i := 4) sc_least_sums.nd rfl (Or.inl rfl))) (fun _ _ _ _ _ => (xts_nil)) (fun _ _ _ _ _ => (x_tup (xa_cons (x_var 4 (pv 4)) (xa_cons x_int xa_nil))))) xLc_of)))
    (xs_cons (xs_newK (i := 5) sc_least_sums.nd rfl (.inl rfl))
    (xs_cons (xs_set (i := 6) sc_least_sums.nd rfl (.inl rfl) x_non)
    (xs_cons (xs_for (passes_of rfl) rfl (xi_rng1 (by rfl) M.range (xa_cons (x_var 2 (pv 2)) xa_nil)) (fun _ => (xg_nm (i := 7) sc_least_sums.nd rfl (.inl rfl))) (fun _ => (xs_cons (xs_set (i := 6) sc_least_sums.nd rfl (.inl rfl) x_non)
    (xs_cons (xs_for (passes_of rfl) rfl (xi_any (x_var 0 (pv 0))) (fun _ => (xg_nm (i := 8) sc_least_sums.nd rfl (.inl rfl))) (fun _ => (xs_cons (xs_asg (x_var 8 (pv 8)) (xg_tup rfl (xgs_cons (xg_nm (i := 9) sc_least_sums.nd rfl (.inl rfl)) (xgs_cons (xg_nm (i := 10) sc_least_sums.nd rfl (.inl rfl)) (xgs_cons (xg_nm (i := 11) sc_least_sums.nd rfl (.inl rfl)) (xgs_cons (xg_nm (i := 7) sc_least_sums.nd rfl (.inl rfl)) xgs_nil))))))
    (xs_one (xs_if (TW.t (xw_and (xt_inD (hu_of hr) (x_var 9 (pv 9)) (x_var 3 (pv 3)) rfl) (xw_and1 (TW.t (xw_or (xt_ninD (hu_of hr) (x_var 10 (pv 10)) (x_var 3 (pv 3)) rfl) (xw_or1 (xt_cmp o_lt fits_lt (x_bin o_add fits_add (x_get (hu_of hr) (x_var 3 (pv 3)) (x_var 9 (pv 9)) (fun _ _ => rfl)) (x_var 11 (pv 11))) (x_get (hu_of hr) (x_var 3 (pv 3)) (x_var 10 (pv 10)) (fun _ _ => rfl)) rfl))))))) (xs_cons (xs_put (hu_of hr) (pv 3) (x_var 10 (pv 10)) (x_bin o_add fits_add (x_get (hu_of hr) (x_var 3 (pv 3)) (x_var 9 (pv 9)) (fun _ _ => rfl)) (x_var 11 (pv 11))))
    (xs_cons (xs_put (hu_of hr) (pv 5) (x_var 10 (pv 10)) (x_var 8 (pv 8)))
    (xs_one (xs_set (i := 6) sc_least_sums.nd rfl (.inl rfl) (x_var 10 (pv 10)))))) xs_nil)))))
    (xs_one (xs_if (xt_cmp o_isN fits_isN (x_var 6 (pv 6)) x_non rfl) (xs_one xs_brk) xs_nil))))))
    (xs_frz 5 (xs_frz 3 (xs_one (xs_ret (x_tup (xa_cons (x_var 3 (pv 3)) (xa_cons (x_var 5 (pv 5)) (xa_cons (x_var 6 (pv 6)) xa_nil)))))))))))))
theorem d_least_sums {P : Program} {w : World} {K : PySem.W.Frag} {mg : Str → Option Value} {base : Heap} {tabs : List (Addr × Str)} {h : Heap} (M : Bis mg) (X : K.In h) (G : h.Ns mainGlobals mg) (has : Has K "least_sums" s_least_sums) : DefX P w K mg base (fam tabs) (XVm mg) "least_sums" s_least_sums 1 ps_least_sums (ofF 3 F_least_sums) :=
  defX_of X G has sc_least_sums (fun hr hg hF => b_least_sums M hr hg hF) (fun _ _ _ _ _ _ us hl => match us, hl with | [_, _, _], _ => rfl)
end K33

namespace K33
open PySem PySem.Spec PyProof.Rows L2 PL
theorem b_steps_back {P : Program} {w : World} {K : PySem.W.Frag} {mg : Str → Option Value} {base : Heap} {tabs : List (Addr × Str)} (M : Bis mg)
    {f : Addr} {cdv : Value} {A : Around} {outer : List Env} {s : Shared} {H Z : Hp} {E : XK} {Fo : Option Fd} (hr : Room 0 (A.deeper (envOfC "steps_back" (defScope s_steps_back) s.heap.objs.size f cdv))) (hgd : A.guards = some []) (hF : HasF (fam tabs) Fo) :
    Sts (bodyC P w K mg base (XVm mg) N_steps_back "steps_back" s_steps_back f cdv A outer s H Z E Fo) (defBody s_steps_back) (ofS XF_steps_back) :=
  (show Sts _ _ (ofS ((xSeq (xOwn 3 (xLst xNil))
    (xSeq (xWhile (xOrB (xT (xBin (pEq true) (xVar 1) (xVar 2))) (xT (xBin (pEq false) (xBi pLen (xCons (xVar 3) xNil)) (xD (.int 0))))) (xSeq (xAsg (xGet (xVar 0) (xVar 1)) (xgTp 4 (xgCons (xgNm 4) (xgCons (xgNm 5) (xgCons (xgNm 6) (xgCons (xgNm 7) xgNil))))))
    (xSeq (xApp 3 (xTup (xCons (xVar 7) (xCons (xVar 5) xNil))))
    (xSet 1 (xVar 4)))) 1000)
    (xRet (xBi pTuple (xCons (xRev (xVar 3)) xNil))))))) from (xs_cons (xs_own (i := 3) sc_steps_back.nd rfl (.inl rfl) (xn_lst xa_nil))
    (xs_cons (xs_while 1000 (passes_of rfl) (TW.t (xw_or (xt_cmp (o_ne hr.units) fits_eq (x_var 1 (pv 1)) (x_var 2 (pv 2)) rfl) (xw_or1 (xt_cmp (o_eq hr.units) fits_eq (x_bi b_len fits_len (by rfl) M.len (by decide +kernel) (xa_cons (x_var 3 (pv 3)) xa_nil)) x_int rfl)))) (xs_cons (xs_asg (x_get (hu_of hr) (x_var 0 (pv 0)) (x_var 1 (pv 1)) (fun _ _ => rfl)) (xg_tup rfl (xgs_cons (xg_nm (i := 4) sc_steps_back.nd rfl (.inl rfl)) (xgs_cons (xg_nm (i := 5) sc_steps_back.nd rfl (.inl rfl)) (xgs_cons (xg_nm (i := 6) sc_steps_back.nd rfl (.inl rfl)) (xgs_cons (xg_nm (i := 7) sc_steps_back.nd rfl (.inl rfl)) xgs_nil))))))
    (xs_cons (xs_app (pv 3) (x_tup (xa_cons (x_var 7 (pv 7)) (xa_cons (x_var 5 (pv 5)) xa_nil))))
    (xs_one (xs_set (i := 1) sc_steps_back.nd rfl (.inl rfl) (x_var 4 (pv 4)))))))
    (xs_one (xs_ret (x_ty b_tuple fits_tuple (by rfl) M.tuple (by decide +kernel) (xa_cons (x_rev (x_var 3 (pv 3))) xa_nil)))))))
theorem d_steps_back {P : Program} {w : World} {K : PySem.W.Frag} {mg : Str → Option Value} {base : Heap} {tabs : List (Addr × Str)} {h : Heap} (M : Bis mg) (X : K.In h) (G : h.Ns mainGlobals mg) (has : Has K "steps_back" s_steps_back) : DefX P w K mg base (fam tabs) (XVm mg) "steps_back" s_steps_back 1 ps_steps_back (ofF 3 F_steps_back) :=
  defX_of X G has sc_steps_back (fun hr hg hF => b_steps_back M hr hg hF) (fun _ _ _ _ _ _ us hl => match us, hl with | [_, _, _], _ => rfl)
end K33

namespace K33
open PySem PySem.Spec PyProof.Rows L2 PL
theorem b_ring_by {P : Program} {w : World} {K : PySem.W.Frag} {mg : Str → Option Value} {base : Heap} {tabs : List (Addr × Str)} (M : Bis mg) (D_least_sums : DefX P w K mg base (fam tabs) (XVm mg) "least_sums" s_least_sums 1 ps_least_sums (ofF 3 F_least_sums)) (D_steps_back : DefX P w K mg base (fam tabs) (XVm mg) "steps_back" s_steps_back 1 ps_steps_back (ofF 3 F_steps_back))
    {f : Addr} {cdv : Value} {A : Around} {outer : List Env} {s : Shared} {H Z : Hp} {E : XK} {Fo : Option Fd} (hr : Room 1 (A.deeper (envOfC "ring_by" (defScope s_ring_by) s.heap.objs.size f cdv))) (hgd : A.guards = some []) (hF : HasF (fam tabs) Fo) :
    Sts (bodyC P w K mg base (XVm mg) N_ring_by "ring_by" s_ring_by f cdv A outer s H Z E Fo) (defBody s_ring_by) (ofS XF_ring_by) :=
  (show Sts _ _ (ofS ((xSeq (xAsg (xCall F_least_sums (xCons (xVar 0) (xCons (xVar 1) (xCons (xBi pLen (xCons (xVar 1) xNil)) xNil)))) (xgTp 3 (xgCons (xgNm 2) (xgCons (xgNm 3) (xgCons (xgNm 4) xgNil)))))
    (xSeq (xIf (xT (xBin (pIsN false) (xVar 4) (xD .none))) (xRet (xD .none)) xNx)
    (xSeq (xSet 5 (xVar 4))
    (xSeq (xFor (xIt (xVar 1)) (xgNm 2) (xSet 5 (xBin pIx (xGet (xVar 3) (xVar 5)) (xD (.int 0)))))
    (xRet (xCall F_steps_back (xCons (xVar 3) (xCons (xVar 5) (xCons (xVar 5) xNil))))))))))) from (xs_cons (xs_asg (x_call D_least_sums hF (hr.mono (by decide)) hgd (by rfl) lets_body (xa_cons (x_var 0 (pv 0)) (xa_cons (x_var 1 (pv 1)) (xa_cons (x_bi b_len fits_len (by rfl) M.len (by decide +kernel) (xa_cons (x_var 1 (pv 1)) xa_nil)) xa_nil))) (cnt_cons (cnt_cons (cnt_cons cnt_nil)))) (xg_tup rfl (xgs_cons (xg_nm (i := 2) sc_ring_by.nd rfl (.inl rfl)) (xgs_cons (xg_nm (i := 3) sc_ring_by.nd rfl (.inl rfl)) (xgs_cons (xg_nm (i := 4) sc_ring_by.nd rfl (.inl rfl)) xgs_nil)))))
    (xs_cons (xs_if (xt_cmp o_isN fits_isN (x_var 4 (pv 4)) x_non rfl) (xs_one (xs_ret x_non)) xs_nil)
    (xs_cons (xs_set (i := 5) sc_ring_by.nd rfl (.inl rfl) (x_var 4 (pv 4)))
    (xs_cons (xs_for (passes_of rfl) rfl (xi_any (x_var 1 (pv 1))) (fun _ => (xg_nm (i := 2) sc_ring_by.nd rfl (.inl rfl))) (fun _ => (xs_one (xs_set (i := 5) sc_ring_by.nd rfl (.inl rfl) (x_ix (x_get (hu_of hr) (x_var 3 (pv 3)) (x_var 5 (pv 5)) (fun _ _ => rfl)) x_int (fun _ _ => rfl))))))
    (xs_one (xs_ret (x_call D_steps_back hF (hr.mono (by decide)) hgd (by rfl) lets_body (xa_cons (x_var 3 (pv 3)) (xa_cons (x_var 5 (pv 5)) (xa_cons (x_var 5 (pv 5)) xa_nil))) (cnt_cons (cnt_cons (cnt_cons cnt_nil)))))))))))
theorem d_ring_by {P : Program} {w : World} {K : PySem.W.Frag} {mg : Str → Option Value} {base : Heap} {tabs : List (Addr × Str)} {h : Heap} (M : Bis mg) (X : K.In h) (G : h.Ns mainGlobals mg) (has : Has K "ring_by" s_ring_by) (D_least_sums : DefX P w K mg base (fam tabs) (XVm mg) "least_sums" s_least_sums 1 ps_least_sums (ofF 3 F_least_sums)) (D_steps_back : DefX P w K mg base (fam tabs) (XVm mg) "steps_back" s_steps_back 1 ps_steps_back (ofF 3 F_steps_back)) : DefX P w K mg base (fam tabs) (XVm mg) "ring_by" s_ring_by 2 ps_ring_by (ofF 2 F_ring_by) :=
  defX_of X G has sc_ring_by (fun hr hg hF => b_ring_by M D_least_sums D_steps_back hr hg hF) (fun _ _ _ _ _ _ us hl => match us, hl with | [_, _], _ => rfl)
end K33

namespace K33
open PySem PySem.Spec PyProof.Rows L2 PL
theorem b_ring_outside {P : Program} {w : World} {K : PySem.W.Frag} {mg : Str → Option Value} {base : Heap} {tabs : List (Addr × Str)} (M : Bis mg) (D_outside_of : DefX P w K mg base (fam tabs) (XVm mg) "outside_of" s_outside_of 1 ps_outside_of (ofF 2 F_outside_of)) (D_ring_by : DefX P w K mg base (fam tabs) (XVm mg) "ring_by" s_ring_by 2 ps_ring_by (ofF 2 F_ring_by)) (D_ties_between : DefX P w K mg base (fam tabs) (XVm mg) "ties_between" s_ties_between 2 ps_ties_between (ofF 3 F_ties_between))
    {f : Addr} {cdv : Value} {A : Around} {outer : List Env} {s : Shared} {H Z : Hp} {E : XK} {Fo : Option Fd} (hr : Room 2 (A.deeper (envOfC "ring_outside" (defScope s_ring_outside) s.heap.objs.size f cdv))) (hgd : A.guards = some []) (hF : HasF (fam tabs) Fo) :
    Sts (bodyC P w K mg base (XVm mg) N_ring_outside "ring_outside" s_ring_outside f cdv A outer s H Z E Fo) (defBody s_ring_outside) (ofS XF_ring_outside) :=
  (show Sts _ _ (ofS ((xRet (xCall F_ring_by (xCons (xCall F_ties_between (xCons (xVar 0) (xCons (xVar 1) (xCons (xVar 2) xNil)))) (xCons (xCall F_outside_of (xCons (xVar 0) (xCons (xVar 2) xNil))) xNil)))))) from (xs_one (xs_ret (x_call D_ring_by hF (hr.mono (by decide)) hgd (by rfl) lets_body (xa_cons (x_call D_ties_between hF (hr.mono (by decide)) hgd (by rfl) lets_body (xa_cons (x_var 0 (pv 0)) (xa_cons (x_var 1 (pv 1)) (xa_cons (x_var 2 (pv 2)) xa_nil))) (cnt_cons (cnt_cons (cnt_cons cnt_nil)))) (xa_cons (x_call D_outside_of hF (hr.mono (by decide)) hgd (by rfl) lets_body (xa_cons (x_var 0 (pv 0)) (xa_cons (x_var 2 (pv 2)) xa_nil)) (cnt_cons (cnt_cons cnt_nil))) xa_nil)) (cnt_cons (cnt_cons cnt_nil))))))
theorem d_ring_outside {P : Program} {w : World} {K : PySem.W.Frag} {mg : Str → Option Value} {base : Heap} {tabs : List (Addr × Str)} {h : Heap} (M : Bis mg) (X : K.In h) (G : h.Ns mainGlobals mg) (has : Has K "ring_outside" s_ring_outside) (D_outside_of : DefX P w K mg base (fam tabs) (XVm mg) "outside_of" s_outside_of 1 ps_outside_of (ofF 2 F_outside_of)) (D_ring_by : DefX P w K mg base (fam tabs) (XVm mg) "ring_by" s_ring_by 2 ps_ring_by (ofF 2 F_ring_by)) (D_ties_between : DefX P w K mg base (fam tabs) (XVm mg) "ties_between" s_ties_between 2 ps_ties_between (ofF 3 F_ties_between)) : DefX P w K mg base (fam tabs) (XVm mg) "ring_outside" s_ring_outside 3 ps_ring_outside (ofF 3 F_ring_outside) :=
  defX_of X G has sc_ring_outside (fun hr hg hF => b_ring_outside M D_outside_of D_ring_by D_ties_between hr hg hF) (fun _ _ _ _ _ _ us hl => match us, hl with | [_, _, _], _ => rfl)
end K33

namespace K33
open PySem PySem.Spec PyProof.Rows L2 PL
theorem b_explains {P : Program} {w : World} {K : PySem.W.Frag} {mg : Str → Option Value} {base : Heap} {tabs : List (Addr × Str)} (M : Bis mg) (D_ring_outside : DefX P w K mg base (fam tabs) (XVm mg) "ring_outside" s_ring_outside 3 ps_ring_outside (ofF 3 F_ring_outside))
    {f : Addr} {cdv : Value} {A : Around} {outer : List Env} {s : Shared} {H Z : Hp} {E : XK} {Fo : Option Fd} (hr : Room 3 (A.deeper (envOfC "explains" (defScope s_explains) s.heap.objs.size f cdv))) (hgd : A.guards = some []) (hF : HasF (fam tabs) Fo) :
    Sts (bodyC P w K mg base (XVm mg) N_explains "explains" s_explains f cdv A outer s H Z E Fo) (defBody s_explains) (ofS XF_explains) :=
  (show Sts _ _ (ofS ((xRet (xBin (pIsN false) (xCall F_ring_outside (xCons (xVar 0) (xCons (xVar 1) (xCons (xVar 2) xNil)))) (xD .none))))) from (xs_one (xs_ret (x_cmp o_isN fits_isN (x_call D_ring_outside hF (hr.mono (by decide)) hgd (by rfl) lets_body (xa_cons (x_var 0 (pv 0)) (xa_cons (x_var 1 (pv 1)) (xa_cons (x_var 2 (pv 2)) xa_nil))) (cnt_cons (cnt_cons (cnt_cons cnt_nil)))) x_non rfl))))
theorem d_explains {P : Program} {w : World} {K : PySem.W.Frag} {mg : Str → Option Value} {base : Heap} {tabs : List (Addr × Str)} {h : Heap} (M : Bis mg) (X : K.In h) (G : h.Ns mainGlobals mg) (has : Has K "explains" s_explains) (D_ring_outside : DefX P w K mg base (fam tabs) (XVm mg) "ring_outside" s_ring_outside 3 ps_ring_outside (ofF 3 F_ring_outside)) : DefX P w K mg base (fam tabs) (XVm mg) "explains" s_explains 4 ps_explains (ofF 3 F_explains) :=
  defX_of X G has sc_explains (fun hr hg hF => b_explains M D_ring_outside hr hg hF) (fun _ _ _ _ _ _ us hl => match us, hl with | [_, _, _], _ => rfl)
end K33

namespace K33
open PySem PySem.Spec PyProof.Rows L2 PL
theorem b_first_misfit {P : Program} {w : World} {K : PySem.W.Frag} {mg : Str → Option Value} {base : Heap} {tabs : List (Addr × Str)} (M : Bis mg)
    {f : Addr} {cdv : Value} {A : Around} {outer : List Env} {s : Shared} {H Z : Hp} {E : XK} {Fo : Option Fd} (hr : Room 0 (A.deeper (envOfC "first_misfit" (defScope s_first_misfit) s.heap.objs.size f cdv))) (hgd : A.guards = some []) (hF : HasF (fam tabs) Fo) :
    Sts (bodyC P w K mg base (XVm mg) N_first_misfit "first_misfit" s_first_misfit f cdv A outer s H Z E Fo) (defBody s_first_misfit) (ofS XF_first_misfit) :=
  (show Sts _ _ (ofS ((xSeq (xSet 3 (xDictZ (xCons (xVar 1) (xCons (xVar 2) xNil))))
    (xSeq (xFor (xIt (xVar 0)) (xgTp 4 (xgCons (xgNm 4) (xgCons (xgNm 5) (xgCons (xgNm 6) (xgCons (xgNm 7) xgNil))))) (xIf (xT (xBin pGt (xBin pSub (xGet (xVar 3) (xVar 5)) (xGet (xVar 3) (xVar 4))) (xVar 6))) (xRet (xVar 7)) xNx))
    (xRet (xD .none)))))) from (xs_cons (xs_set (i := 3) sc_first_misfit.nd rfl (.inl rfl) (x_dictZ rfl (by rfl) M.dict (by rfl) M.zip (xa_cons (x_var 1 (pv 1)) (xa_cons (x_var 2 (pv 2)) xa_nil))))
    (xs_cons (xs_for (passes_of rfl) rfl (xi_any (x_var 0 (pv 0))) (fun _ => (xg_tup rfl (xgs_cons (xg_nm (i := 4) sc_first_misfit.nd rfl (.inl rfl)) (xgs_cons (xg_nm (i := 5) sc_first_misfit.nd rfl (.inl rfl)) (xgs_cons (xg_nm (i := 6) sc_first_misfit.nd rfl (.inl rfl)) (xgs_cons (xg_nm (i := 7) sc_first_misfit.nd rfl (.inl rfl)) xgs_nil)))))) (fun _ => (xs_one (xs_if (xt_cmp o_gt fits_gt (x_bin o_sub fits_sub (x_get (hu_of hr) (x_var 3 (pv 3)) (x_var 5 (pv 5)) (fun _ _ => rfl)) (x_get (hu_of hr) (x_var 3 (pv 3)) (x_var 4 (pv 4)) (fun _ _ => rfl))) (x_var 6 (pv 6)) rfl) (xs_one (xs_ret (x_var 7 (pv 7)))) xs_nil))))
    (xs_one (xs_ret x_non)))))
theorem d_first_misfit {P : Program} {w : World} {K : PySem.W.Frag} {mg : Str → Option Value} {base : Heap} {tabs : List (Addr × Str)} {h : Heap} (M : Bis mg) (X : K.In h) (G : h.Ns mainGlobals mg) (has : Has K "first_misfit" s_first_misfit) : DefX P w K mg base (fam tabs) (XVm mg) "first_misfit" s_first_misfit 1 ps_first_misfit (ofF 3 F_first_misfit) :=
  defX_of X G has sc_first_misfit (fun hr hg hF => b_first_misfit M hr hg hF) (fun _ _ _ _ _ _ us hl => match us, hl with | [_, _, _], _ => rfl)
end K33

namespace K33
open PySem PySem.Spec PyProof.Rows L2 PL
theorem b_least_terms {P : Program} {w : World} {K : PySem.W.Frag} {mg : Str → Option Value} {base : Heap} {tabs : List (Addr × Str)} (M : Bis mg)
    {f : Addr} {cdv : Value} {A : Around} {outer : List Env} {s : Shared} {H Z : Hp} {E : XK} {Fo : Option Fd} (hr : Room 0 (A.deeper (envOfC "least_terms" (defScope s_least_terms) s.heap.objs.size f cdv))) (hgd : A.guards = some []) (hF : HasF (fam tabs) Fo) :
    Sts (bodyC P w K mg base (XVm mg) N_least_terms "least_terms" s_least_terms f cdv A outer s H Z E Fo) (defBody s_least_terms) (ofS XF_least_terms) :=
  (show Sts _ _ (ofS ((xSeq (xSet 2 (xBi pGcd (xCons (xVar 0) (xCons (xVar 1) xNil))))
    (xRet (xTup (xCons (xBin pDiv (xVar 0) (xVar 2)) (xCons (xBin pDiv (xVar 1) (xVar 2)) xNil))))))) from (xs_cons (xs_set (i := 2) sc_least_terms.nd rfl (.inl rfl) (x_bf b_gcd fits_gcd (by rfl) M.gcd (xa_cons (x_var 0 (pv 0)) (xa_cons (x_var 1 (pv 1)) xa_nil))))
    (xs_one (xs_ret (x_tup (xa_cons (x_bin o_divW fits_div (x_var 0 (pv 0)) (x_var 2 (pv 2))) (xa_cons (x_bin o_divW fits_div (x_var 1 (pv 1)) (x_var 2 (pv 2))) xa_nil)))))))
theorem d_least_terms {P : Program} {w : World} {K : PySem.W.Frag} {mg : Str → Option Value} {base : Heap} {tabs : List (Addr × Str)} {h : Heap} (M : Bis mg) (X : K.In h) (G : h.Ns mainGlobals mg) (has : Has K "least_terms" s_least_terms) : DefX P w K mg base (fam tabs) (XVm mg) "least_terms" s_least_terms 1 ps_least_terms (ofF 2 F_least_terms) :=
  defX_of X G has sc_least_terms (fun hr hg hF => b_least_terms M hr hg hF) (fun _ _ _ _ _ _ us hl => match us, hl with | [_, _], _ => rfl)
end K33

namespace K33
open PySem PySem.Spec PyProof.Rows L2 PL
theorem b_is_more {P : Program} {w : World} {K : PySem.W.Frag} {mg : Str → Option Value} {base : Heap} {tabs : List (Addr × Str)} (M : Bis mg)
    {f : Addr} {cdv : Value} {A : Around} {outer : List Env} {s : Shared} {H Z : Hp} {E : XK} {Fo : Option Fd} (hr : Room 0 (A.deeper (envOfC "is_more" (defScope s_is_more) s.heap.objs.size f cdv))) (hgd : A.guards = some []) (hF : HasF (fam tabs) Fo) :
    Sts (bodyC P w K mg base (XVm mg) N_is_more "is_more" s_is_more f cdv A outer s H Z E Fo) (defBody s_is_more) (ofS XF_is_more) :=
  (show Sts _ _ (ofS ((xRet (xBin pGt (xBin pMul (xBin pIx (xVar 0) (xD (.int 0))) (xBin pIx (xVar 1) (xD (.int 1)))) (xBin pMul (xBin pIx (xVar 1) (xD (.int 0))) (xBin pIx (xVar 0) (xD (.int 1)))))))) from (xs_one (xs_ret (x_cmp o_gt fits_gt (x_bin o_mulW fits_mul (x_ix (x_var 0 (pv 0)) x_int (fun _ _ => rfl)) (x_ix (x_var 1 (pv 1)) x_int (fun _ _ => rfl))) (x_bin o_mulW fits_mul (x_ix (x_var 1 (pv 1)) x_int (fun _ _ => rfl)) (x_ix (x_var 0 (pv 0)) x_int (fun _ _ => rfl))) rfl))))
theorem d_is_more {P : Program} {w : World} {K : PySem.W.Frag} {mg : Str → Option Value} {base : Heap} {tabs : List (Addr × Str)} {h : Heap} (M : Bis mg) (X : K.In h) (G : h.Ns mainGlobals mg) (has : Has K "is_more" s_is_more) : DefX P w K mg base (fam tabs) (XVm mg) "is_more" s_is_more 1 ps_is_more (ofF 2 F_is_more) :=
  defX_of X G has sc_is_more (fun hr hg hF => b_is_more M hr hg hF) (fun _ _ _ _ _ _ us hl => match us, hl with | [_, _], _ => rfl)
end K33

namespace K33
open PySem PySem.Spec PyProof.Rows L2 PL
theorem b_greatest_of {P : Program} {w : World} {K : PySem.W.Frag} {mg : Str → Option Value} {base : Heap} {tabs : List (Addr × Str)} (M : Bis mg) (D_is_more : DefX P w K mg base (fam tabs) (XVm mg) "is_more" s_is_more 1 ps_is_more (ofF 2 F_is_more))
    {f : Addr} {cdv : Value} {A : Around} {outer : List Env} {s : Shared} {H Z : Hp} {E : XK} {Fo : Option Fd} (hr : Room 1 (A.deeper (envOfC "greatest_of" (defScope s_greatest_of) s.heap.objs.size f cdv))) (hgd : A.guards = some []) (hF : HasF (fam tabs) Fo) :
    Sts (bodyC P w K mg base (XVm mg) N_greatest_of "greatest_of" s_greatest_of f cdv A outer s H Z E Fo) (defBody s_greatest_of) (ofS XF_greatest_of) :=
  (show Sts _ _ (ofS ((xSeq (xSet 1 (xTup (xCons (xD (.int 0)) (xCons (xD (.int 1)) xNil))))
    (xSeq (xFor (xIt (xVar 0)) (xgNm 2) (xIf (xTru (xCall F_is_more (xCons (xVar 2) (xCons (xVar 1) xNil)))) (xSet 1 (xVar 2)) xNx))
    (xRet (xVar 1)))))) from (xs_cons (xs_set (i := 1) sc_greatest_of.nd rfl (.inl rfl) (x_tup (xa_cons x_int (xa_cons x_int xa_nil))))
    (xs_cons (xs_for (passes_of rfl) rfl (xi_any (x_var 0 (pv 0))) (fun _ => (xg_nm (i := 2) sc_greatest_of.nd rfl (.inl rfl))) (fun _ => (xs_one (xs_if (xt_tru (x_call D_is_more hF (hr.mono (by decide)) hgd (by rfl) lets_body (xa_cons (x_var 2 (pv 2)) (xa_cons (x_var 1 (pv 1)) xa_nil)) (cnt_cons (cnt_cons cnt_nil)))) (xs_one (xs_set (i := 1) sc_greatest_of.nd rfl (.inl rfl) (x_var 2 (pv 2)))) xs_nil))))
    (xs_one (xs_ret (x_var 1 (pv 1)))))))
theorem d_greatest_of {P : Program} {w : World} {K : PySem.W.Frag} {mg : Str → Option Value} {base : Heap} {tabs : List (Addr × Str)} {h : Heap} (M : Bis mg) (X : K.In h) (G : h.Ns mainGlobals mg) (has : Has K "greatest_of" s_greatest_of) (D_is_more : DefX P w K mg base (fam tabs) (XVm mg) "is_more" s_is_more 1 ps_is_more (ofF 2 F_is_more)) : DefX P w K mg base (fam tabs) (XVm mg) "greatest_of" s_greatest_of 2 ps_greatest_of (ofF 1 F_greatest_of) :=
  defX_of X G has sc_greatest_of (fun hr hg hF => b_greatest_of M D_is_more hr hg hF) (fun _ _ _ _ _ _ us hl => match us, hl with | [_], _ => rfl)
end K33

namespace K33
open PySem PySem.Spec PyProof.Rows L2 PL
theorem b_is_under {P : Program} {w : World} {K : PySem.W.Frag} {mg : Str → Option Value} {base : Heap} {tabs : List (Addr × Str)} (M : Bis mg) (D_is_part : DefX P w K mg base (fam tabs) (XVm mg) "is_part" s_is_part 1 ps_is_part (ofF 2 F_is_part))
    {f : Addr} {cdv : Value} {A : Around} {outer : List Env} {s : Shared} {H Z : Hp} {E : XK} {Fo : Option Fd} (hr : Room 1 (A.deeper (envOfC "is_under" (defScope s_is_under) s.heap.objs.size f cdv))) (hgd : A.guards = some []) (hF : HasF (fam tabs) Fo) :
    Sts (bodyC P w K mg base (XVm mg) N_is_under "is_under" s_is_under f cdv A outer s H Z E Fo) (defBody s_is_under) (ofS XF_is_under) :=
  (show Sts _ _ (ofS ((xRet (xBi (pAll fun bs => bs.any id) (xCons (xNew (xLc [2] [2] sel1 (xIt (xVar 0)) xYes (xCall F_is_part (xCons (xVar 1) (xCons (xVar 2) xNil))))) xNil))))) from (xs_one (xs_ret (x_bi (b_any rfl) fits_all (by rfl) M.any (by decide +kernel) (xa_cons (x_new (n_weak (n_lc rfl sc_is_under.nd (xi_any (x_var 0 (pv 0))) (blkOk_by (own := [("told", 2)]) (N := N_is_under) (sc := defScope s_is_under) (by decide +kernel)) (tg_name 2) (by decide) (fun _ _ _ _ _ => (pg_name (i := 2) sc_is_under.nd rfl (Or.inl rfl))) (fun _ _ _ _ _ => (xts_nil)) (fun _ _ _ _ _ => (x_call D_is_part hF (hr.mono (by decide)) hgd (by rfl) lets_blk (xa_cons (x_var 1 (pv 1)) (xa_cons (x_var 2 (pv 2)) xa_nil)) (cnt_cons (cnt_cons cnt_nil))))) xLc_of)) xa_nil)))))
theorem d_is_under {P : Program} {w : World} {K : PySem.W.Frag} {mg : Str → Option Value} {base : Heap} {tabs : List (Addr × Str)} {h : Heap} (M : Bis mg) (X : K.In h) (G : h.Ns mainGlobals mg) (has : Has K "is_under" s_is_under) (D_is_part : DefX P w K mg base (fam tabs) (XVm mg) "is_part" s_is_part 1 ps_is_part (ofF 2 F_is_part)) : DefX P w K mg base (fam tabs) (XVm mg) "is_under" s_is_under 2 ps_is_under (ofF 2 F_is_under) :=
  defX_of X G has sc_is_under (fun hr hg hF => b_is_under M D_is_part hr hg hF) (fun _ _ _ _ _ _ us hl => match us, hl with | [_, _], _ => rfl)
end K33

namespace K33
open PySem PySem.Spec PyProof.Rows L2 PL
theorem b_has_any {P : Program} {w : World} {K : PySem.W.Frag} {mg : Str → Option Value} {base : Heap} {tabs : List (Addr × Str)} (M : Bis mg)
    {f : Addr} {cdv : Value} {A : Around} {outer : List Env} {s : Shared} {H Z : Hp} {E : XK} {Fo : Option Fd} (hr : Room 0 (A.deeper (envOfC "has_any" (defScope s_has_any) s.heap.objs.size f cdv))) (hgd : A.guards = some []) (hF : HasF (fam tabs) Fo) :
    Sts (bodyC P w K mg base (XVm mg) N_has_any "has_any" s_has_any f cdv A outer s H Z E Fo) (defBody s_has_any) (ofS XF_has_any) :=
  (show Sts _ _ (ofS ((xRet (xBi (pAll fun bs => bs.any id) (xCons (xNew (xLc [2] [2] sel1 (xIt (xVar 1)) xYes (xBin (pIn false) (xVar 2) (xVar 0)))) xNil))))) from (xs_one (xs_ret (x_bi (b_any rfl) fits_all (by rfl) M.any (by decide +kernel) (xa_cons (x_new (n_weak (n_lc rfl sc_has_any.nd (xi_any (x_var 1 (pv 1))) (blkOk_by (own := [("tower", 2)]) (N := N_has_any) (sc := defScope s_has_any) (by decide +kernel)) (tg_name 2) (by decide) (fun _ _ _ _ _ => (pg_name (i := 2) sc_has_any.nd rfl (Or.inl rfl))) (fun _ _ _ _ _ => (xts_nil)) (fun _ _ _ _ _ => (x_cmp (o_in (Nat.lt_of_succ_lt (u66 hr))) fits_in (x_var 2 (pv 2)) (x_var 0 (pv 0)) rfl))) xLc_of)) xa_nil)))))
theorem d_has_any {P : Program} {w : World} {K : PySem.W.Frag} {mg : Str → Option Value} {base : Heap} {tabs : List (Addr × Str)} {h : Heap} (M : Bis mg) (X : K.In h) (G : h.Ns mainGlobals mg) (has : Has K "has_any" s_has_any) : DefX P w K mg base (fam tabs) (XVm mg) "has_any" s_has_any 1 ps_has_any (ofF 2 F_has_any) :=
  defX_of X G has sc_has_any (fun hr hg hF => b_has_any M hr hg hF) (fun _ _ _ _ _ _ us hl => match us, hl with | [_, _], _ => rfl)
end K33

namespace K33
open PySem PySem.Spec PyProof.Rows L2 PL
theorem b_is_explained {P : Program} {w : World} {K : PySem.W.Frag} {mg : Str → Option Value} {base : Heap} {tabs : List (Addr × Str)} (M : Bis mg) (D_explains : DefX P w K mg base (fam tabs) (XVm mg) "explains" s_explains 4 ps_explains (ofF 3 F_explains))
    {f : Addr} {cdv : Value} {A : Around} {outer : List Env} {s : Shared} {H Z : Hp} {E : XK} {Fo : Option Fd} (hr : Room 4 (A.deeper (envOfC "is_explained" (defScope s_is_explained) s.heap.objs.size f cdv))) (hgd : A.guards = some []) (hF : HasF (fam tabs) Fo) :
    Sts (bodyC P w K mg base (XVm mg) N_is_explained "is_explained" s_is_explained f cdv A outer s H Z E Fo) (defBody s_is_explained) (ofS XF_is_explained) :=
  (show Sts _ _ (ofS ((xRet (xBi (pAll fun bs => bs.any id) (xCons (xNew (xLc [3] [3] sel1 (xIt (xVar 1)) xYes (xCall F_explains (xCons (xVar 0) (xCons (xVar 2) (xCons (xVar 3) xNil)))))) xNil))))) from (xs_one (xs_ret (x_bi (b_any rfl) fits_all (by rfl) M.any (by decide +kernel) (xa_cons (x_new (n_weak (n_lc rfl sc_is_explained.nd (xi_any (x_var 1 (pv 1))) (blkOk_by (own := [("lot", 3)]) (N := N_is_explained) (sc := defScope s_is_explained) (by decide +kernel)) (tg_name 3) (by decide) (fun _ _ _ _ _ => (pg_name (i := 3) sc_is_explained.nd rfl (Or.inl rfl))) (fun _ _ _ _ _ => (xts_nil)) (fun _ _ _ _ _ => (x_call D_explains hF (hr.mono (by decide)) hgd (by rfl) lets_blk (xa_cons (x_var 0 (pv 0)) (xa_cons (x_var 2 (pv 2)) (xa_cons (x_var 3 (pv 3)) xa_nil))) (cnt_cons (cnt_cons (cnt_cons cnt_nil)))))) xLc_of)) xa_nil)))))
theorem d_is_explained {P : Program} {w : World} {K : PySem.W.Frag} {mg : Str → Option Value} {base : Heap} {tabs : List (Addr × Str)} {h : Heap} (M : Bis mg) (X : K.In h) (G : h.Ns mainGlobals mg) (has : Has K "is_explained" s_is_explained) (D_explains : DefX P w K mg base (fam tabs) (XVm mg) "explains" s_explains 4 ps_explains (ofF 3 F_explains)) : DefX P w K mg base (fam tabs) (XVm mg) "is_explained" s_is_explained 5 ps_is_explained (ofF 3 F_is_explained) :=
  defX_of X G has sc_is_explained (fun hr hg hF => b_is_explained M D_explains hr hg hF) (fun _ _ _ _ _ _ us hl => match us, hl with | [_, _, _], _ => rfl)
end K33

namespace K33
open PySem PySem.Spec PyProof.Rows L2 PL
theorem b_is_integer {P : Program} {w : World} {K : PySem.W.Frag} {mg : Str → Option Value} {base : Heap} {tabs : List (Addr × Str)} (M : Bis mg)
    {f : Addr} {cdv : Value} {A : Around} {outer : List Env} {s : Shared} {H Z : Hp} {E : XK} {Fo : Option Fd} (hr : Room 0 (A.deeper (envOfC "is_integer" (defScope s_is_integer) s.heap.objs.size f cdv))) (hgd : A.guards = some []) (hF : HasF (fam tabs) Fo) :
    Sts (bodyC P w K mg base (XVm mg) N_is_integer "is_integer" s_is_integer f cdv A outer s H Z E Fo) (defBody s_is_integer) (ofS XF_is_integer) :=
  (show Sts _ _ (ofS ((xRet (xAnd (xIs "int" (xVar 0)) (xNot (xIs "bool" (xVar 0))))))) from (xs_one (xs_ret (x_and (x_is (T := "int") (x_var 0 (pv 0)) (by decide +kernel) (by rfl) M.isinstance (by rfl) M.int (by decide +kernel)) (x_one (x_not (x_is (T := "bool") (x_var 0 (pv 0)) (by decide +kernel) (by rfl) M.isinstance (by rfl) M.bool (by decide +kernel))))))))
theorem d_is_integer {P : Program} {w : World} {K : PySem.W.Frag} {mg : Str → Option Value} {base : Heap} {tabs : List (Addr × Str)} {h : Heap} (M : Bis mg) (X : K.In h) (G : h.Ns mainGlobals mg) (has : Has K "is_integer" s_is_integer) : DefX P w K mg base (fam tabs) (XVm mg) "is_integer" s_is_integer 1 ps_is_integer (ofF 1 F_is_integer) :=
  defX_of X G has sc_is_integer (fun hr hg hF => b_is_integer M hr hg hF) (fun _ _ _ _ _ _ us hl => match us, hl with | [_], _ => rfl)
end K33

namespace K33
open PySem PySem.Spec PyProof.Rows L2 PL
theorem b_is_name {P : Program} {w : World} {K : PySem.W.Frag} {mg : Str → Option Value} {base : Heap} {tabs : List (Addr × Str)} (M : Bis mg)
    {f : Addr} {cdv : Value} {A : Around} {outer : List Env} {s : Shared} {H Z : Hp} {E : XK} {Fo : Option Fd} (hr : Room 0 (A.deeper (envOfC "is_name" (defScope s_is_name) s.heap.objs.size f cdv))) (hgd : A.guards = some []) (hF : HasF (fam tabs) Fo) :
    Sts (bodyC P w K mg base (XVm mg) N_is_name "is_name" s_is_name f cdv A outer s H Z E Fo) (defBody s_is_name) (ofS XF_is_name) :=
  (show Sts _ _ (ofS ((xSeq (xIf (xOrB (xNotB (xTru (xIs "str" (xVar 0)))) (xNotB (xChain pLe pLe (xD (.int 1)) (xBi pLen (xCons (xVar 0) xNil)) (xD (.int 8))))) (xRet (xD (.bool false))) xNx)
    (xRet (xAnd (xM0 (fun z => .bool (Txt.isascii z)) (xVar 0)) (xAnd (xM0 (fun z => .bool (Txt.isalpha z)) (xVar 0)) (xM0 (fun z => .bool (Txt.islower z)) (xVar 0)))))))) from (xs_cons (xs_if (TW.t (xw_or (xt_not (xt_tru (x_is (T := "str") (x_var 0 (pv 0)) (by decide +kernel) (by rfl) M.isinstance (by rfl) M.str (by decide +kernel)))) (xw_or1 (xt_not (xt_chain o_le fits_le o_le fits_le x_int (x_bi b_len fits_len (by rfl) M.len (by decide +kernel) (xa_cons (x_var 0 (pv 0)) xa_nil)) x_int))))) (xs_one (xs_ret x_bl)) xs_nil)
    (xs_one (xs_ret (x_and (x_m0 (e_isascii (x_var 0 (pv 0)))) (x_and (x_m0 (e_isalpha (x_var 0 (pv 0)))) (x_one (x_m0 (e_islower (x_var 0 (pv 0)))))))))))
theorem d_is_name {P : Program} {w : World} {K : PySem.W.Frag} {mg : Str → Option Value} {base : Heap} {tabs : List (Addr × Str)} {h : Heap} (M : Bis mg) (X : K.In h) (G : h.Ns mainGlobals mg) (has : Has K "is_name" s_is_name) : DefX P w K mg base (fam tabs) (XVm mg) "is_name" s_is_name 1 ps_is_name (ofF 1 F_is_name) :=
  defX_of X G has sc_is_name (fun hr hg hF => b_is_name M hr hg hF) (fun _ _ _ _ _ _ us hl => match us, hl with | [_], _ => rfl)
end K33

namespace K33
open PySem PySem.Spec PyProof.Rows L2 PL
theorem b_is_ascending {P : Program} {w : World} {K : PySem.W.Frag} {mg : Str → Option Value} {base : Heap} {tabs : List (Addr × Str)} (M : Bis mg)
    {f : Addr} {cdv : Value} {A : Around} {outer : List Env} {s : Shared} {H Z : Hp} {E : XK} {Fo : Option Fd} (hr : Room 0 (A.deeper (envOfC "is_ascending" (defScope s_is_ascending) s.heap.objs.size f cdv))) (hgd : A.guards = some []) (hF : HasF (fam tabs) Fo) :
    Sts (bodyC P w K mg base (XVm mg) N_is_ascending "is_ascending" s_is_ascending f cdv A outer s H Z E Fo) (defBody s_is_ascending) (ofS XF_is_ascending) :=
  (show Sts _ _ (ofS ((xRet (xBi (pAll fun bs => bs.all id) (xCons (xNew (xLc [1] [1] sel1 (xRng2 (xCons (xD (.int 1)) (xCons (xBi pLen (xCons (xVar 0) xNil)) xNil))) xYes (xBin pLt (xBin pIx (xVar 0) (xBin pSub (xVar 1) (xD (.int 1)))) (xBin pIx (xVar 0) (xVar 1))))) xNil))))) from (xs_one (xs_ret (x_bi (b_all rfl) fits_all (by rfl) M.all (by decide +kernel) (xa_cons (x_new (n_weak (n_lc rfl sc_is_ascending.nd (xi_rng2 (by rfl) M.range (xa_cons x_int (xa_cons (x_bi b_len fits_len (by rfl) M.len (by decide +kernel) (xa_cons (x_var 0 (pv 0)) xa_nil)) xa_nil))) (blkOk_by (own := [("k", 1)]) (N := N_is_ascending) (sc := defScope s_is_ascending) (by decide +kernel)) (tg_name 1) (by decide) (fun _ _ _ _ _ => (pg_name (i := 1) sc_is_ascending.nd rfl (Or.inl rfl))) (fun _ _ _ _ _ => (xts_nil)) (fun _ _ _ _ _ => (x_cmp o_lt fits_lt (x_ix (x_var 0 (pv 0)) (x_bin o_sub fits_sub (x_var 1 (pv 1)) x_int) (fun _ _ => rfl)) (x_ix (x_var 0 (pv 0)) (x_var 1 (pv 1)) (fun _ _ => rfl)) rfl))) xLc_of)) xa_nil)))))
theorem d_is_ascending {P : Program} {w : World} {K : PySem.W.Frag} {mg : Str → Option Value} {base : Heap} {tabs : List (Addr × Str)} {h : Heap} (M : Bis mg) (X : K.In h) (G : h.Ns mainGlobals mg) (has : Has K "is_ascending" s_is_ascending) : DefX P w K mg base (fam tabs) (XVm mg) "is_ascending" s_is_ascending 1 ps_is_ascending (ofF 1 F_is_ascending) :=
  defX_of X G has sc_is_ascending (fun hr hg hF => b_is_ascending M hr hg hF) (fun _ _ _ _ _ _ us hl => match us, hl with | [_], _ => rfl)
end K33

namespace K33
open PySem PySem.Spec PyProof.Rows L2 PL
theorem b_is_towers {P : Program} {w : World} {K : PySem.W.Frag} {mg : Str → Option Value} {base : Heap} {tabs : List (Addr × Str)} (M : Bis mg) (D_is_ascending : DefX P w K mg base (fam tabs) (XVm mg) "is_ascending" s_is_ascending 1 ps_is_ascending (ofF 1 F_is_ascending)) (D_is_name : DefX P w K mg base (fam tabs) (XVm mg) "is_name" s_is_name 1 ps_is_name (ofF 1 F_is_name))
    {f : Addr} {cdv : Value} {A : Around} {outer : List Env} {s : Shared} {H Z : Hp} {E : XK} {Fo : Option Fd} (hr : Room 1 (A.deeper (envOfC "is_towers" (defScope s_is_towers) s.heap.objs.size f cdv))) (hgd : A.guards = some []) (hF : HasF (fam tabs) Fo) :
    Sts (bodyC P w K mg base (XVm mg) N_is_towers "is_towers" s_is_towers f cdv A outer s H Z E Fo) (defBody s_is_towers) (ofS XF_is_towers) :=
  (show Sts _ _ (ofS ((xSeq (xIf (xOrB (xNotB (xTru (xIs "tuple" (xVar 0)))) (xT (xBin (pEq false) (xBi pLen (xCons (xVar 0) xNil)) (xD (.int 0))))) (xRet (xD (.bool false))) xNx)
    (xRet (xAnd (xBi (pAll fun bs => bs.all id) (xCons (xNew (xLc [1] [1] sel1 (xIt (xVar 0)) xYes (xCall F_is_name (xCons (xVar 1) xNil)))) xNil)) (xCall F_is_ascending (xCons (xVar 0) xNil))))))) from (xs_cons (xs_if (TW.t (xw_or (xt_not (xt_tru (x_is (T := "tuple") (x_var 0 (pv 0)) (by decide +kernel) (by rfl) M.isinstance (by rfl) M.tuple (by decide +kernel)))) (xw_or1 (xt_cmp (o_eq hr.units) fits_eq (x_bi b_len fits_len (by rfl) M.len (by decide +kernel) (xa_cons (x_var 0 (pv 0)) xa_nil)) x_int rfl)))) (xs_one (xs_ret x_bl)) xs_nil)
    (xs_one (xs_ret (x_and (x_bi (b_all rfl) fits_all (by rfl) M.all (by decide +kernel) (xa_cons (x_new (n_weak (n_lc rfl sc_is_towers.nd (xi_any (x_var 0 (pv 0))) (blkOk_by (own := [("name", 1)]) (N := N_is_towers) (sc := defScope s_is_towers) (by decide +kernel)) (tg_name 1) (by decide) (fun _ _ _ _ _ => (pg_name (i := 1) sc_is_towers.nd rfl (Or.inl rfl))) (fun _ _ _ _ _ => (xts_nil)) (fun _ _ _ _ _ => (x_call D_is_name hF (hr.mono (by decide)) hgd (by rfl) lets_blk (xa_cons (x_var 1 (pv 1)) xa_nil) (cnt_cons cnt_nil)))) xLc_of)) xa_nil)) (x_one (x_call D_is_ascending hF (hr.mono (by decide)) hgd (by rfl) lets_body (xa_cons (x_var 0 (pv 0)) xa_nil) (cnt_cons cnt_nil))))))))
theorem d_is_towers {P : Program} {w : World} {K : PySem.W.Frag} {mg : Str → Option Value} {base : Heap} {tabs : List (Addr × Str)} {h : Heap} (M : Bis mg) (X : K.In h) (G : h.Ns mainGlobals mg) (has : Has K "is_towers" s_is_towers) (D_is_ascending : DefX P w K mg base (fam tabs) (XVm mg) "is_ascending" s_is_ascending 1 ps_is_ascending (ofF 1 F_is_ascending)) (D_is_name : DefX P w K mg base (fam tabs) (XVm mg) "is_name" s_is_name 1 ps_is_name (ofF 1 F_is_name)) : DefX P w K mg base (fam tabs) (XVm mg) "is_towers" s_is_towers 2 ps_is_towers (ofF 1 F_is_towers) :=
  defX_of X G has sc_is_towers (fun hr hg hF => b_is_towers M D_is_ascending D_is_name hr hg hF) (fun _ _ _ _ _ _ us hl => match us, hl with | [_], _ => rfl)
end K33

namespace K33
open PySem PySem.Spec PyProof.Rows L2 PL
theorem b_is_tuple {P : Program} {w : World} {K : PySem.W.Frag} {mg : Str → Option Value} {base : Heap} {tabs : List (Addr × Str)} (M : Bis mg)
    {f : Addr} {cdv : Value} {A : Around} {outer : List Env} {s : Shared} {H Z : Hp} {E : XK} {Fo : Option Fd} (hr : Room 0 (A.deeper (envOfC "is_tuple" (defScope s_is_tuple) s.heap.objs.size f cdv))) (hgd : A.guards = some []) (hF : HasF (fam tabs) Fo) :
    Sts (bodyC P w K mg base (XVm mg) N_is_tuple "is_tuple" s_is_tuple f cdv A outer s H Z E Fo) (defBody s_is_tuple) (ofS XF_is_tuple) :=
  (show Sts _ _ (ofS ((xRet (xAnd (xIs "tuple" (xVar 0)) (xBin (pEq false) (xBi pLen (xCons (xVar 0) xNil)) (xVar 1)))))) from (xs_one (xs_ret (x_and (x_is (T := "tuple") (x_var 0 (pv 0)) (by decide +kernel) (by rfl) M.isinstance (by rfl) M.tuple (by decide +kernel)) (x_one (x_cmp (o_eq hr.units) fits_eq (x_bi b_len fits_len (by rfl) M.len (by decide +kernel) (xa_cons (x_var 0 (pv 0)) xa_nil)) (x_var 1 (pv 1)) rfl))))))
theorem d_is_tuple {P : Program} {w : World} {K : PySem.W.Frag} {mg : Str → Option Value} {base : Heap} {tabs : List (Addr × Str)} {h : Heap} (M : Bis mg) (X : K.In h) (G : h.Ns mainGlobals mg) (has : Has K "is_tuple" s_is_tuple) : DefX P w K mg base (fam tabs) (XVm mg) "is_tuple" s_is_tuple 1 ps_is_tuple (ofF 2 F_is_tuple) :=
  defX_of X G has sc_is_tuple (fun hr hg hF => b_is_tuple M hr hg hF) (fun _ _ _ _ _ _ us hl => match us, hl with | [_, _], _ => rfl)
end K33

namespace K33
open PySem PySem.Spec PyProof.Rows L2 PL
theorem b_are_integers {P : Program} {w : World} {K : PySem.W.Frag} {mg : Str → Option Value} {base : Heap} {tabs : List (Addr × Str)} (M : Bis mg) (D_is_integer : DefX P w K mg base (fam tabs) (XVm mg) "is_integer" s_is_integer 1 ps_is_integer (ofF 1 F_is_integer)) (D_is_tuple : DefX P w K mg base (fam tabs) (XVm mg) "is_tuple" s_is_tuple 1 ps_is_tuple (ofF 2 F_is_tuple))
    {f : Addr} {cdv : Value} {A : Around} {outer : List Env} {s : Shared} {H Z : Hp} {E : XK} {Fo : Option Fd} (hr : Room 1 (A.deeper (envOfC "are_integers" (defScope s_are_integers) s.heap.objs.size f cdv))) (hgd : A.guards = some []) (hF : HasF (fam tabs) Fo) :
    Sts (bodyC P w K mg base (XVm mg) N_are_integers "are_integers" s_are_integers f cdv A outer s H Z E Fo) (defBody s_are_integers) (ofS XF_are_integers) :=
  (show Sts _ _ (ofS ((xRet (xAnd (xCall F_is_tuple (xCons (xVar 0) (xCons (xVar 1) xNil))) (xBi (pAll fun bs => bs.all id) (xCons (xNew (xLc [2] [2] sel1 (xIt (xVar 0)) xYes (xCall F_is_integer (xCons (xVar 2) xNil)))) xNil)))))) from (xs_one (xs_ret (x_and (x_call D_is_tuple hF (hr.mono (by decide)) hgd (by rfl) lets_body (xa_cons (x_var 0 (pv 0)) (xa_cons (x_var 1 (pv 1)) xa_nil)) (cnt_cons (cnt_cons cnt_nil))) (x_one (x_bi (b_all rfl) fits_all (by rfl) M.all (by decide +kernel) (xa_cons (x_new (n_weak (n_lc rfl sc_are_integers.nd (xi_any (x_var 0 (pv 0))) (blkOk_by (own := [("number", 2)]) (N := N_are_integers) (sc := defScope s_are_integers) (by decide +kernel)) (tg_name 2) (by decide) (fun _ _ _ _ _ => (pg_name (i := 2) sc_are_integers.nd rfl (Or.inl rfl))) (fun _ _ _ _ _ => (xts_nil)) (fun _ _ _ _ _ => (x_call D_is_integer hF (hr.mono (by decide)) hgd (by rfl) lets_blk (xa_cons (x_var 2 (pv 2)) xa_nil) (cnt_cons cnt_nil)))) xLc_of)) xa_nil)))))))
theorem d_are_integers {P : Program} {w : World} {K : PySem.W.Frag} {mg : Str → Option Value} {base : Heap} {tabs : List (Addr × Str)} {h : Heap} (M : Bis mg) (X : K.In h) (G : h.Ns mainGlobals mg) (has : Has K "are_integers" s_are_integers) (D_is_integer : DefX P w K mg base (fam tabs) (XVm mg) "is_integer" s_is_integer 1 ps_is_integer (ofF 1 F_is_integer)) (D_is_tuple : DefX P w K mg base (fam tabs) (XVm mg) "is_tuple" s_is_tuple 1 ps_is_tuple (ofF 2 F_is_tuple)) : DefX P w K mg base (fam tabs) (XVm mg) "are_integers" s_are_integers 2 ps_are_integers (ofF 2 F_are_integers) :=
  defX_of X G has sc_are_integers (fun hr hg hF => b_are_integers M D_is_integer D_is_tuple hr hg hF) (fun _ _ _ _ _ _ us hl => match us, hl with | [_, _], _ => rfl)
end K33

namespace K33
open PySem PySem.Spec PyProof.Rows L2 PL
theorem b_is_wire_form {P : Program} {w : World} {K : PySem.W.Frag} {mg : Str → Option Value} {base : Heap} {tabs : List (Addr × Str)} (M : Bis mg) (D_are_integers : DefX P w K mg base (fam tabs) (XVm mg) "are_integers" s_are_integers 2 ps_are_integers (ofF 2 F_are_integers)) (D_is_tuple : DefX P w K mg base (fam tabs) (XVm mg) "is_tuple" s_is_tuple 1 ps_is_tuple (ofF 2 F_is_tuple))
    {f : Addr} {cdv : Value} {A : Around} {outer : List Env} {s : Shared} {H Z : Hp} {E : XK} {Fo : Option Fd} (hr : Room 2 (A.deeper (envOfC "is_wire_form" (defScope s_is_wire_form) s.heap.objs.size f cdv))) (hgd : A.guards = some []) (hF : HasF (fam tabs) Fo) :
    Sts (bodyC P w K mg base (XVm mg) N_is_wire_form "is_wire_form" s_is_wire_form f cdv A outer s H Z E Fo) (defBody s_is_wire_form) (ofS XF_is_wire_form) :=
  (show Sts _ _ (ofS ((xSeq (xIf (xOrB (xNotB (xTru (xCall F_is_tuple (xCons (xVar 1) (xCons (xD (.int 4)) xNil))))) (xNotB (xTru (xCall F_are_integers (xCons (xSl (xVar 1) (xPart (xD (.int 2))) xNoPart) (xCons (xD (.int 2)) xNil)))))) (xRet (xD (.bool false))) xNx)
    (xSeq (xAsg (xSl (xVar 1) xNoPart (xPart (xD (.int 2)))) (xgTp 2 (xgCons (xgNm 2) (xgCons (xgNm 3) xgNil))))
    (xRet (xAnd (xBin (pIn false) (xVar 2) (xVar 0)) (xAnd (xBin (pIn false) (xVar 3) (xVar 0)) (xBin pLt (xVar 2) (xVar 3))))))))) from (xs_cons (xs_if (TW.t (xw_or (xt_not (xt_tru (x_call D_is_tuple hF (hr.mono (by decide)) hgd (by rfl) lets_body (xa_cons (x_var 1 (pv 1)) (xa_cons x_int xa_nil)) (cnt_cons (cnt_cons cnt_nil))))) (xw_or1 (xt_not (xt_tru (x_call D_are_integers hF (hr.mono (by decide)) hgd (by rfl) lets_body (xa_cons (x_sl (x_var 1 (pv 1)) (xo_some x_int) xo_none) (xa_cons x_int xa_nil)) (cnt_cons (cnt_cons cnt_nil)))))))) (xs_one (xs_ret x_bl)) xs_nil)
    (xs_cons (xs_asg (x_sl (x_var 1 (pv 1)) xo_none (xo_some x_int)) (xg_tup rfl (xgs_cons (xg_nm (i := 2) sc_is_wire_form.nd rfl (.inl rfl)) (xgs_cons (xg_nm (i := 3) sc_is_wire_form.nd rfl (.inl rfl)) xgs_nil))))
    (xs_one (xs_ret (x_and (x_cmp (o_in (Nat.lt_of_succ_lt (u66 hr))) fits_in (x_var 2 (pv 2)) (x_var 0 (pv 0)) rfl) (x_and (x_cmp (o_in (Nat.lt_of_succ_lt (u66 hr))) fits_in (x_var 3 (pv 3)) (x_var 0 (pv 0)) rfl) (x_one (x_cmp o_lt fits_lt (x_var 2 (pv 2)) (x_var 3 (pv 3)) rfl)))))))))
theorem d_is_wire_form {P : Program} {w : World} {K : PySem.W.Frag} {mg : Str → Option Value} {base : Heap} {tabs : List (Addr × Str)} {h : Heap} (M : Bis mg) (X : K.In h) (G : h.Ns mainGlobals mg) (has : Has K "is_wire_form" s_is_wire_form) (D_are_integers : DefX P w K mg base (fam tabs) (XVm mg) "are_integers" s_are_integers 2 ps_are_integers (ofF 2 F_are_integers)) (D_is_tuple : DefX P w K mg base (fam tabs) (XVm mg) "is_tuple" s_is_tuple 1 ps_is_tuple (ofF 2 F_is_tuple)) : DefX P w K mg base (fam tabs) (XVm mg) "is_wire_form" s_is_wire_form 3 ps_is_wire_form (ofF 2 F_is_wire_form) :=
  defX_of X G has sc_is_wire_form (fun hr hg hF => b_is_wire_form M D_are_integers D_is_tuple hr hg hF) (fun _ _ _ _ _ _ us hl => match us, hl with | [_, _], _ => rfl)
end K33

namespace K33
open PySem PySem.Spec PyProof.Rows L2 PL
theorem b_is_lot {P : Program} {w : World} {K : PySem.W.Frag} {mg : Str → Option Value} {base : Heap} {tabs : List (Addr × Str)} (M : Bis mg) (D_is_ascending : DefX P w K mg base (fam tabs) (XVm mg) "is_ascending" s_is_ascending 1 ps_is_ascending (ofF 1 F_is_ascending))
    {f : Addr} {cdv : Value} {A : Around} {outer : List Env} {s : Shared} {H Z : Hp} {E : XK} {Fo : Option Fd} (hr : Room 1 (A.deeper (envOfC "is_lot" (defScope s_is_lot) s.heap.objs.size f cdv))) (hgd : A.guards = some []) (hF : HasF (fam tabs) Fo) :
    Sts (bodyC P w K mg base (XVm mg) N_is_lot "is_lot" s_is_lot f cdv A outer s H Z E Fo) (defBody s_is_lot) (ofS XF_is_lot) :=
  (show Sts _ _ (ofS ((xSeq (xIf (xNotB (xTru (xIs "tuple" (xVar 1)))) (xRet (xD (.bool false))) xNx)
    (xRet (xAnd (xBi (pAll fun bs => bs.all id) (xCons (xNew (xLc [2] [2] sel1 (xIt (xVar 1)) xYes (xBin (pIn false) (xVar 2) (xBin pIx (xVar 0) (xD (.int 0)))))) xNil)) (xCall F_is_ascending (xCons (xVar 1) xNil))))))) from (xs_cons (xs_if (xt_not (xt_tru (x_is (T := "tuple") (x_var 1 (pv 1)) (by decide +kernel) (by rfl) M.isinstance (by rfl) M.tuple (by decide +kernel)))) (xs_one (xs_ret x_bl)) xs_nil)
    (xs_one (xs_ret (x_and (x_bi (b_all rfl) fits_all (by rfl) M.all (by decide +kernel) (xa_cons (x_new (n_weak (n_lc rfl sc_is_lot.nd (xi_any (x_var 1 (pv 1))) (blkOk_by (own := [("tower", 2)]) (N := N_is_lot) (sc := defScope s_is_lot) (by decide +kernel)) (tg_name 2) (by decide) (fun _ _ _ _ _ => (pg_name (i := 2) sc_is_lot.nd rfl (Or.inl rfl))) (fun _ _ _ _ _ => (xts_nil)) (fun _ _ _ _ _ => (x_cmp (o_in (Nat.lt_of_succ_lt (u66 hr))) fits_in (x_var 2 (pv 2)) (x_ix (x_var 0 (pv 0)) x_int (fun _ _ => rfl)) rfl))) xLc_of)) xa_nil)) (x_one (x_call D_is_ascending hF (hr.mono (by decide)) hgd (by rfl) lets_body (xa_cons (x_var 1 (pv 1)) xa_nil) (cnt_cons cnt_nil))))))))
theorem d_is_lot {P : Program} {w : World} {K : PySem.W.Frag} {mg : Str → Option Value} {base : Heap} {tabs : List (Addr × Str)} {h : Heap} (M : Bis mg) (X : K.In h) (G : h.Ns mainGlobals mg) (has : Has K "is_lot" s_is_lot) (D_is_ascending : DefX P w K mg base (fam tabs) (XVm mg) "is_ascending" s_is_ascending 1 ps_is_ascending (ofF 1 F_is_ascending)) : DefX P w K mg base (fam tabs) (XVm mg) "is_lot" s_is_lot 2 ps_is_lot (ofF 2 F_is_lot) :=
  defX_of X G has sc_is_lot (fun hr hg hF => b_is_lot M D_is_ascending hr hg hF) (fun _ _ _ _ _ _ us hl => match us, hl with | [_, _], _ => rfl)
end K33

namespace K33
open PySem PySem.Spec PyProof.Rows L2 PL
theorem b_town_fault {P : Program} {w : World} {K : PySem.W.Frag} {mg : Str → Option Value} {base : Heap} {tabs : List (Addr × Str)} (M : Bis mg) (D_is_towers : DefX P w K mg base (fam tabs) (XVm mg) "is_towers" s_is_towers 2 ps_is_towers (ofF 1 F_is_towers)) (D_is_tuple : DefX P w K mg base (fam tabs) (XVm mg) "is_tuple" s_is_tuple 1 ps_is_tuple (ofF 2 F_is_tuple)) (D_is_wire_form : DefX P w K mg base (fam tabs) (XVm mg) "is_wire_form" s_is_wire_form 3 ps_is_wire_form (ofF 2 F_is_wire_form))
    {f : Addr} {cdv : Value} {A : Around} {outer : List Env} {s : Shared} {H Z : Hp} {E : XK} {Fo : Option Fd} (hr : Room 3 (A.deeper (envOfC "town_fault" (defScope s_town_fault) s.heap.objs.size f cdv))) (hgd : A.guards = some []) (hF : HasF (fam tabs) Fo) :
    Sts (bodyC P w K mg base (XVm mg) N_town_fault "town_fault" s_town_fault f cdv A outer s H Z E Fo) (defBody s_town_fault) (ofS XF_town_fault) :=
  (show Sts _ _ (ofS ((xSeq (xIf (xNotB (xTru (xCall F_is_tuple (xCons (xVar 0) (xCons (xD (.int 2)) xNil))))) (xRet (xTup (xCons (xD (.str (Str.ofString "shape"))) (xCons (xUn pNeg (xD (.int 1))) xNil)))) xNx)
    (xSeq (xAsg (xVar 0) (xgTp 2 (xgCons (xgNm 1) (xgCons (xgNm 2) xgNil))))
    (xSeq (xIf (xNotB (xTru (xCall F_is_towers (xCons (xVar 1) xNil)))) (xRet (xTup (xCons (xD (.str (Str.ofString "towers"))) (xCons (xUn pNeg (xD (.int 1))) xNil)))) xNx)
    (xSeq (xIf (xNotB (xTru (xIs "tuple" (xVar 2)))) (xRet (xTup (xCons (xD (.str (Str.ofString "wires"))) (xCons (xUn pNeg (xD (.int 1))) xNil)))) xNx)
    (xSeq (xFor (xEnumS (xVar 2)) (xgTp 2 (xgCons (xgNm 3) (xgCons (xgNm 4) xgNil))) (xSeq (xIf (xNotB (xTru (xCall F_is_wire_form (xCons (xVar 1) (xCons (xVar 4) xNil))))) (xRet (xTup (xCons (xD (.str (Str.ofString "wire"))) (xCons (xVar 3) xNil)))) xNx)
    (xSeq (xIf (xT (xBin pGt (xBin pIx (xVar 4) (xD (.int 2))) (xBin pIx (xVar 4) (xD (.int 3))))) (xRet (xTup (xCons (xD (.str (Str.ofString "width"))) (xCons (xVar 3) xNil)))) xNx)
    (xIf (xAndB (xT (xBin pGt (xVar 3) (xD (.int 0)))) (xT (xBin pLe2 (xSl (xVar 4) xNoPart (xPart (xD (.int 2)))) (xSl (xBin pIx (xVar 2) (xBin pSub (xVar 3) (xD (.int 1)))) xNoPart (xPart (xD (.int 2))))))) (xRet (xTup (xCons (xD (.str (Str.ofString "order"))) (xCons (xVar 3) xNil)))) xNx))))
    (xRet (xD .none))))))))) from (xs_cons (xs_if (xt_not (xt_tru (x_call D_is_tuple hF (hr.mono (by decide)) hgd (by rfl) lets_body (xa_cons (x_var 0 (pv 0)) (xa_cons x_int xa_nil)) (cnt_cons (cnt_cons cnt_nil))))) (xs_one (xs_ret (x_tup (xa_cons x_str (xa_cons (x_neg x_int) xa_nil))))) xs_nil)
    (xs_cons (xs_asg (x_var 0 (pv 0)) (xg_tup rfl (xgs_cons (xg_nm (i := 1) sc_town_fault.nd rfl (.inl rfl)) (xgs_cons (xg_nm (i := 2) sc_town_fault.nd rfl (.inl rfl)) xgs_nil))))
    (xs_cons (xs_if (xt_not (xt_tru (x_call D_is_towers hF (hr.mono (by decide)) hgd (by rfl) lets_body (xa_cons (x_var 1 (pv 1)) xa_nil) (cnt_cons cnt_nil)))) (xs_one (xs_ret (x_tup (xa_cons x_str (xa_cons (x_neg x_int) xa_nil))))) xs_nil)
    (xs_cons (xs_if (xt_not (xt_tru (x_is (T := "tuple") (x_var 2 (pv 2)) (by decide +kernel) (by rfl) M.isinstance (by rfl) M.tuple (by decide +kernel)))) (xs_one (xs_ret (x_tup (xa_cons x_str (xa_cons (x_neg x_int) xa_nil))))) xs_nil)
    (xs_cons (xs_for (passes_of rfl) rfl (xi_enumS (by rfl) M.enumerate (x_var 2 (pv 2))) (fun _ => (xg_tup rfl (xgs_cons (xg_nm (i := 3) sc_town_fault.nd rfl (.inl rfl)) (xgs_cons (xg_nm (i := 4) sc_town_fault.nd rfl (.inl rfl)) xgs_nil)))) (fun _ => (xs_cons (xs_if (xt_not (xt_tru (x_call D_is_wire_form hF (hr.mono (by decide)) hgd (by rfl) lets_body (xa_cons (x_var 1 (pv 1)) (xa_cons (x_var 4 (pv 4)) xa_nil)) (cnt_cons (cnt_cons cnt_nil))))) (xs_one (xs_ret (x_tup (xa_cons x_str (xa_cons (x_var 3 (pv 3)) xa_nil))))) xs_nil)
    (xs_cons (xs_if (xt_cmp o_gt fits_gt (x_ix (x_var 4 (pv 4)) x_int (fun _ _ => rfl)) (x_ix (x_var 4 (pv 4)) x_int (fun _ _ => rfl)) rfl) (xs_one (xs_ret (x_tup (xa_cons x_str (xa_cons (x_var 3 (pv 3)) xa_nil))))) xs_nil)
    (xs_one (xs_if (TW.t (xw_and (xt_cmp o_gt fits_gt (x_var 3 (pv 3)) x_int rfl) (xw_and1 (xt_cmp (o_le2 (Nat.lt_trans (Nat.lt_succ_self _) (hu_of hr))) fits_le2 (x_sl (x_var 4 (pv 4)) xo_none (xo_some x_int)) (x_sl (x_ix (x_var 2 (pv 2)) (x_bin o_sub fits_sub (x_var 3 (pv 3)) x_int) (fun _ _ => rfl)) xo_none (xo_some x_int)) rfl)))) (xs_one (xs_ret (x_tup (xa_cons x_str (xa_cons (x_var 3 (pv 3)) xa_nil))))) xs_nil))))))
    (xs_one (xs_ret x_non))))))))
theorem d_town_fault {P : Program} {w : World} {K : PySem.W.Frag} {mg : Str → Option Value} {base : Heap} {tabs : List (Addr × Str)} {h : Heap} (M : Bis mg) (X : K.In h) (G : h.Ns mainGlobals mg) (has : Has K "town_fault" s_town_fault) (D_is_towers : DefX P w K mg base (fam tabs) (XVm mg) "is_towers" s_is_towers 2 ps_is_towers (ofF 1 F_is_towers)) (D_is_tuple : DefX P w K mg base (fam tabs) (XVm mg) "is_tuple" s_is_tuple 1 ps_is_tuple (ofF 2 F_is_tuple)) (D_is_wire_form : DefX P w K mg base (fam tabs) (XVm mg) "is_wire_form" s_is_wire_form 3 ps_is_wire_form (ofF 2 F_is_wire_form)) : DefX P w K mg base (fam tabs) (XVm mg) "town_fault" s_town_fault 4 ps_town_fault (ofF 1 F_town_fault) :=
  defX_of X G has sc_town_fault (fun hr hg hF => b_town_fault M D_is_towers D_is_tuple D_is_wire_form hr hg hF) (fun _ _ _ _ _ _ us hl => match us, hl with | [_], _ => rfl)
end K33

namespace K33
open PySem PySem.Spec PyProof.Rows L2 PL
theorem b_run_fault {P : Program} {w : World} {K : PySem.W.Frag} {mg : Str → Option Value} {base : Heap} {tabs : List (Addr × Str)} (M : Bis mg) (D_are_integers : DefX P w K mg base (fam tabs) (XVm mg) "are_integers" s_are_integers 2 ps_are_integers (ofF 2 F_are_integers)) (D_bounds_by_ends : DefX P w K mg base (fam tabs) (XVm mg) "bounds_by_ends" s_bounds_by_ends 1 ps_bounds_by_ends (ofF 1 F_bounds_by_ends)) (D_is_tuple : DefX P w K mg base (fam tabs) (XVm mg) "is_tuple" s_is_tuple 1 ps_is_tuple (ofF 2 F_is_tuple))
    {f : Addr} {cdv : Value} {A : Around} {outer : List Env} {s : Shared} {H Z : Hp} {E : XK} {Fo : Option Fd} (hr : Room 2 (A.deeper (envOfC "run_fault" (defScope s_run_fault) s.heap.objs.size f cdv))) (hgd : A.guards = some []) (hF : HasF (fam tabs) Fo) :
    Sts (bodyC P w K mg base (XVm mg) N_run_fault "run_fault" s_run_fault f cdv A outer s H Z E Fo) (defBody s_run_fault) (ofS XF_run_fault) :=
  (show Sts _ _ (ofS ((xSeq (xIf (xNotB (xTru (xIs "tuple" (xVar 1)))) (xRet (xTup (xCons (xD (.str (Str.ofString "shape"))) (xCons (xUn pNeg (xD (.int 1))) xNil)))) xNx)
    (xSeq (xSet 2 (xCall F_bounds_by_ends (xCons (xVar 0) xNil)))
    (xSeq (xFor (xEnumS (xVar 1)) (xgTp 2 (xgCons (xgNm 3) (xgCons (xgNm 4) xgNil))) (xSeq (xIf (xNotB (xTru (xCall F_is_tuple (xCons (xVar 4) (xCons (xD (.int 4)) xNil))))) (xRet (xTup (xCons (xD (.str (Str.ofString "letter"))) (xCons (xVar 3) xNil)))) xNx)
    (xSeq (xIf (xOrB (xT (xBin (pIn true) (xBin pIx (xVar 4) (xD (.int 0))) (xBin pIx (xVar 0) (xD (.int 0))))) (xT (xBin (pIn true) (xBin pIx (xVar 4) (xD (.int 1))) (xBin pIx (xVar 0) (xD (.int 0)))))) (xRet (xTup (xCons (xD (.str (Str.ofString "towers"))) (xCons (xVar 3) xNil)))) xNx)
    (xSeq (xIf (xT (xBin (pInD true) (xSl (xVar 4) xNoPart (xPart (xD (.int 2)))) (xVar 2))) (xRet (xTup (xCons (xD (.str (Str.ofString "wire"))) (xCons (xVar 3) xNil)))) xNx)
    (xIf (xNotB (xTru (xCall F_are_integers (xCons (xSl (xVar 4) (xPart (xD (.int 2))) xNoPart) (xCons (xD (.int 2)) xNil))))) (xRet (xTup (xCons (xD (.str (Str.ofString "hours"))) (xCons (xVar 3) xNil)))) xNx)))))
    (xRet (xD .none))))))) from (xs_cons (xs_if (xt_not (xt_tru (x_is (T := "tuple") (x_var 1 (pv 1)) (by decide +kernel) (by rfl) M.isinstance (by rfl) M.tuple (by decide +kernel)))) (xs_one (xs_ret (x_tup (xa_cons x_str (xa_cons (x_neg x_int) xa_nil))))) xs_nil)
    (xs_cons (xs_set (i := 2) sc_run_fault.nd rfl (.inl rfl) (x_call D_bounds_by_ends hF (hr.mono (by decide)) hgd (by rfl) lets_body (xa_cons (x_var 0 (pv 0)) xa_nil) (cnt_cons cnt_nil)))
    (xs_cons (xs_for (passes_of rfl) rfl (xi_enumS (by rfl) M.enumerate (x_var 1 (pv 1))) (fun _ => (xg_tup rfl (xgs_cons (xg_nm (i := 3) sc_run_fault.nd rfl (.inl rfl)) (xgs_cons (xg_nm (i := 4) sc_run_fault.nd rfl (.inl rfl)) xgs_nil)))) (fun _ => (xs_cons (xs_if (xt_not (xt_tru (x_call D_is_tuple hF (hr.mono (by decide)) hgd (by rfl) lets_body (xa_cons (x_var 4 (pv 4)) (xa_cons x_int xa_nil)) (cnt_cons (cnt_cons cnt_nil))))) (xs_one (xs_ret (x_tup (xa_cons x_str (xa_cons (x_var 3 (pv 3)) xa_nil))))) xs_nil)
    (xs_cons (xs_if (TW.t (xw_or (xt_cmp (o_notIn (Nat.lt_of_succ_lt (u66 hr))) fits_in (x_ix (x_var 4 (pv 4)) x_int (fun _ _ => rfl)) (x_ix (x_var 0 (pv 0)) x_int (fun _ _ => rfl)) rfl) (xw_or1 (xt_cmp (o_notIn (Nat.lt_of_succ_lt (u66 hr))) fits_in (x_ix (x_var 4 (pv 4)) x_int (fun _ _ => rfl)) (x_ix (x_var 0 (pv 0)) x_int (fun _ _ => rfl)) rfl)))) (xs_one (xs_ret (x_tup (xa_cons x_str (xa_cons (x_var 3 (pv 3)) xa_nil))))) xs_nil)
    (xs_cons (xs_if (xt_ninD (hu_of hr) (x_sl (x_var 4 (pv 4)) xo_none (xo_some x_int)) (x_var 2 (pv 2)) rfl) (xs_one (xs_ret (x_tup (xa_cons x_str (xa_cons (x_var 3 (pv 3)) xa_nil))))) xs_nil)
    (xs_one (xs_if (xt_not (xt_tru (x_call D_are_integers hF (hr.mono (by decide)) hgd (by rfl) lets_body (xa_cons (x_sl (x_var 4 (pv 4)) (xo_some x_int) xo_none) (xa_cons x_int xa_nil)) (cnt_cons (cnt_cons cnt_nil))))) (xs_one (xs_ret (x_tup (xa_cons x_str (xa_cons (x_var 3 (pv 3)) xa_nil))))) xs_nil)))))))
    (xs_one (xs_ret x_non))))))
theorem d_run_fault {P : Program} {w : World} {K : PySem.W.Frag} {mg : Str → Option Value} {base : Heap} {tabs : List (Addr × Str)} {h : Heap} (M : Bis mg) (X : K.In h) (G : h.Ns mainGlobals mg) (has : Has K "run_fault" s_run_fault) (D_are_integers : DefX P w K mg base (fam tabs) (XVm mg) "are_integers" s_are_integers 2 ps_are_integers (ofF 2 F_are_integers)) (D_bounds_by_ends : DefX P w K mg base (fam tabs) (XVm mg) "bounds_by_ends" s_bounds_by_ends 1 ps_bounds_by_ends (ofF 1 F_bounds_by_ends)) (D_is_tuple : DefX P w K mg base (fam tabs) (XVm mg) "is_tuple" s_is_tuple 1 ps_is_tuple (ofF 2 F_is_tuple)) : DefX P w K mg base (fam tabs) (XVm mg) "run_fault" s_run_fault 3 ps_run_fault (ofF 2 F_run_fault) :=
  defX_of X G has sc_run_fault (fun hr hg hF => b_run_fault M D_are_integers D_bounds_by_ends D_is_tuple hr hg hF) (fun _ _ _ _ _ _ us hl => match us, hl with | [_, _], _ => rfl)
end K33

namespace K33
open PySem PySem.Spec PyProof.Rows L2 PL
theorem b_fears_fault {P : Program} {w : World} {K : PySem.W.Frag} {mg : Str → Option Value} {base : Heap} {tabs : List (Addr × Str)} (M : Bis mg) (D_is_lot : DefX P w K mg base (fam tabs) (XVm mg) "is_lot" s_is_lot 2 ps_is_lot (ofF 2 F_is_lot))
    {f : Addr} {cdv : Value} {A : Around} {outer : List Env} {s : Shared} {H Z : Hp} {E : XK} {Fo : Option Fd} (hr : Room 2 (A.deeper (envOfC "fears_fault" (defScope s_fears_fault) s.heap.objs.size f cdv))) (hgd : A.guards = some []) (hF : HasF (fam tabs) Fo) :
    Sts (bodyC P w K mg base (XVm mg) N_fears_fault "fears_fault" s_fears_fault f cdv A outer s H Z E Fo) (defBody s_fears_fault) (ofS XF_fears_fault) :=
  (show Sts _ _ (ofS ((xSeq (xIf (xOrB (xNotB (xTru (xIs "tuple" (xVar 1)))) (xT (xBin (pEq false) (xBi pLen (xCons (xVar 1) xNil)) (xD (.int 0))))) (xRet (xTup (xCons (xD (.str (Str.ofString "shape"))) (xCons (xUn pNeg (xD (.int 1))) xNil)))) xNx)
    (xSeq (xFor (xEnumS (xVar 1)) (xgTp 2 (xgCons (xgNm 2) (xgCons (xgNm 3) xgNil))) (xSeq (xIf (xNotB (xTru (xCall F_is_lot (xCons (xVar 0) (xCons (xVar 3) xNil))))) (xRet (xTup (xCons (xD (.str (Str.ofString "lot"))) (xCons (xVar 2) xNil)))) xNx)
    (xIf (xAndB (xT (xBin pGt (xVar 2) (xD (.int 0)))) (xT (xBin pLeT (xVar 3) (xBin pIx (xVar 1) (xBin pSub (xVar 2) (xD (.int 1))))))) (xRet (xTup (xCons (xD (.str (Str.ofString "order"))) (xCons (xVar 2) xNil)))) xNx)))
    (xRet (xD .none)))))) from (xs_cons (xs_if (TW.t (xw_or (xt_not (xt_tru (x_is (T := "tuple") (x_var 1 (pv 1)) (by decide +kernel) (by rfl) M.isinstance (by rfl) M.tuple (by decide +kernel)))) (xw_or1 (xt_cmp (o_eq hr.units) fits_eq (x_bi b_len fits_len (by rfl) M.len (by decide +kernel) (xa_cons (x_var 1 (pv 1)) xa_nil)) x_int rfl)))) (xs_one (xs_ret (x_tup (xa_cons x_str (xa_cons (x_neg x_int) xa_nil))))) xs_nil)
    (xs_cons (xs_for (passes_of rfl) rfl (xi_enumS (by rfl) M.enumerate (x_var 1 (pv 1))) (fun _ => (xg_tup rfl (xgs_cons (xg_nm (i := 2) sc_fears_fault.nd rfl (.inl rfl)) (xgs_cons (xg_nm (i := 3) sc_fears_fault.nd rfl (.inl rfl)) xgs_nil)))) (fun _ => (xs_cons (xs_if (xt_not (xt_tru (x_call D_is_lot hF (hr.mono (by decide)) hgd (by rfl) lets_body (xa_cons (x_var 0 (pv 0)) (xa_cons (x_var 3 (pv 3)) xa_nil)) (cnt_cons (cnt_cons cnt_nil))))) (xs_one (xs_ret (x_tup (xa_cons x_str (xa_cons (x_var 2 (pv 2)) xa_nil))))) xs_nil)
    (xs_one (xs_if (TW.t (xw_and (xt_cmp o_gt fits_gt (x_var 2 (pv 2)) x_int rfl) (xw_and1 (xt_cmp (o_leT (Nat.lt_trans (Nat.lt_succ_self _) (hu_of hr))) fits_leT (x_var 3 (pv 3)) (x_ix (x_var 1 (pv 1)) (x_bin o_sub fits_sub (x_var 2 (pv 2)) x_int) (fun _ _ => rfl)) rfl)))) (xs_one (xs_ret (x_tup (xa_cons x_str (xa_cons (x_var 2 (pv 2)) xa_nil))))) xs_nil)))))
    (xs_one (xs_ret x_non)))))
theorem d_fears_fault {P : Program} {w : World} {K : PySem.W.Frag} {mg : Str → Option Value} {base : Heap} {tabs : List (Addr × Str)} {h : Heap} (M : Bis mg) (X : K.In h) (G : h.Ns mainGlobals mg) (has : Has K "fears_fault" s_fears_fault) (D_is_lot : DefX P w K mg base (fam tabs) (XVm mg) "is_lot" s_is_lot 2 ps_is_lot (ofF 2 F_is_lot)) : DefX P w K mg base (fam tabs) (XVm mg) "fears_fault" s_fears_fault 3 ps_fears_fault (ofF 2 F_fears_fault) :=
  defX_of X G has sc_fears_fault (fun hr hg hF => b_fears_fault M D_is_lot hr hg hF) (fun _ _ _ _ _ _ us hl => match us, hl with | [_, _], _ => rfl)
end K33

namespace K33
open PySem PySem.Spec PyProof.Rows L2 PL
theorem b_gains_fault {P : Program} {w : World} {K : PySem.W.Frag} {mg : Str → Option Value} {base : Heap} {tabs : List (Addr × Str)} (M : Bis mg) (D_are_integers : DefX P w K mg base (fam tabs) (XVm mg) "are_integers" s_are_integers 2 ps_are_integers (ofF 2 F_are_integers)) (D_first_misfit : DefX P w K mg base (fam tabs) (XVm mg) "first_misfit" s_first_misfit 1 ps_first_misfit (ofF 3 F_first_misfit)) (D_outside_of : DefX P w K mg base (fam tabs) (XVm mg) "outside_of" s_outside_of 1 ps_outside_of (ofF 2 F_outside_of)) (D_ties_between : DefX P w K mg base (fam tabs) (XVm mg) "ties_between" s_ties_between 2 ps_ties_between (ofF 3 F_ties_between))
    {f : Addr} {cdv : Value} {A : Around} {outer : List Env} {s : Shared} {H Z : Hp} {E : XK} {Fo : Option Fd} (hr : Room 2 (A.deeper (envOfC "gains_fault" (defScope s_gains_fault) s.heap.objs.size f cdv))) (hgd : A.guards = some []) (hF : HasF (fam tabs) Fo) :
    Sts (bodyC P w K mg base (XVm mg) N_gains_fault "gains_fault" s_gains_fault f cdv A outer s H Z E Fo) (defBody s_gains_fault) (ofS XF_gains_fault) :=
  (show Sts _ _ (ofS ((xSeq (xSet 4 (xCall F_outside_of (xCons (xVar 0) (xCons (xVar 2) xNil))))
    (xSeq (xIf (xNotB (xTru (xCall F_are_integers (xCons (xVar 3) (xCons (xBi pLen (xCons (xVar 4) xNil)) xNil))))) (xRet (xTup (xCons (xD (.str (Str.ofString "gains"))) (xCons (xUn pNeg (xD (.int 1))) xNil)))) xNx)
    (xSeq (xSet 5 (xCall F_first_misfit (xCons (xCall F_ties_between (xCons (xVar 0) (xCons (xVar 1) (xCons (xVar 2) xNil)))) (xCons (xVar 4) (xCons (xVar 3) xNil)))))
    (xRet (xIfE (xT (xBin (pIsN false) (xVar 5) (xD .none))) (xD .none) (xTup (xCons (xD (.str (Str.ofString "letter"))) (xCons (xVar 5) xNil)))))))))) from (xs_cons (xs_set (i := 4) sc_gains_fault.nd rfl (.inl rfl) (x_call D_outside_of hF (hr.mono (by decide)) hgd (by rfl) lets_body (xa_cons (x_var 0 (pv 0)) (xa_cons (x_var 2 (pv 2)) xa_nil)) (cnt_cons (cnt_cons cnt_nil))))
    (xs_cons (xs_if (xt_not (xt_tru (x_call D_are_integers hF (hr.mono (by decide)) hgd (by rfl) lets_body (xa_cons (x_var 3 (pv 3)) (xa_cons (x_bi b_len fits_len (by rfl) M.len (by decide +kernel) (xa_cons (x_var 4 (pv 4)) xa_nil)) xa_nil)) (cnt_cons (cnt_cons cnt_nil))))) (xs_one (xs_ret (x_tup (xa_cons x_str (xa_cons (x_neg x_int) xa_nil))))) xs_nil)
    (xs_cons (xs_set (i := 5) sc_gains_fault.nd rfl (.inl rfl) (x_call D_first_misfit hF (hr.mono (by decide)) hgd (by rfl) lets_body (xa_cons (x_call D_ties_between hF (hr.mono (by decide)) hgd (by rfl) lets_body (xa_cons (x_var 0 (pv 0)) (xa_cons (x_var 1 (pv 1)) (xa_cons (x_var 2 (pv 2)) xa_nil))) (cnt_cons (cnt_cons (cnt_cons cnt_nil)))) (xa_cons (x_var 4 (pv 4)) (xa_cons (x_var 3 (pv 3)) xa_nil))) (cnt_cons (cnt_cons (cnt_cons cnt_nil)))))
    (xs_one (xs_ret (x_if (xt_cmp o_isN fits_isN (x_var 5 (pv 5)) x_non rfl) x_non (x_tup (xa_cons x_str (xa_cons (x_var 5 (pv 5)) xa_nil))))))))))
theorem d_gains_fault {P : Program} {w : World} {K : PySem.W.Frag} {mg : Str → Option Value} {base : Heap} {tabs : List (Addr × Str)} {h : Heap} (M : Bis mg) (X : K.In h) (G : h.Ns mainGlobals mg) (has : Has K "gains_fault" s_gains_fault) (D_are_integers : DefX P w K mg base (fam tabs) (XVm mg) "are_integers" s_are_integers 2 ps_are_integers (ofF 2 F_are_integers)) (D_first_misfit : DefX P w K mg base (fam tabs) (XVm mg) "first_misfit" s_first_misfit 1 ps_first_misfit (ofF 3 F_first_misfit)) (D_outside_of : DefX P w K mg base (fam tabs) (XVm mg) "outside_of" s_outside_of 1 ps_outside_of (ofF 2 F_outside_of)) (D_ties_between : DefX P w K mg base (fam tabs) (XVm mg) "ties_between" s_ties_between 2 ps_ties_between (ofF 3 F_ties_between)) : DefX P w K mg base (fam tabs) (XVm mg) "gains_fault" s_gains_fault 3 ps_gains_fault (ofF 4 F_gains_fault) :=
  defX_of X G has sc_gains_fault (fun hr hg hF => b_gains_fault M D_are_integers D_first_misfit D_outside_of D_ties_between hr hg hF) (fun _ _ _ _ _ _ us hl => match us, hl with | [_, _, _, _], _ => rfl)
end K33

namespace K33
open PySem PySem.Spec PyProof.Rows L2 PL
theorem b_refuse_paper {P : Program} {w : World} {K : PySem.W.Frag} {mg : Str → Option Value} {base : Heap} {tabs : List (Addr × Str)} (M : Bis mg) (T_InvalidPaper : ExcOk P w K mg base "InvalidPaper" "word" "at")
    {f : Addr} {cdv : Value} {A : Around} {outer : List Env} {s : Shared} {H Z : Hp} {E : XK} {Fo : Option Fd} (hr : Room 2 (A.deeper (envOfC "refuse_paper" (defScope s_refuse_paper) s.heap.objs.size f cdv))) (hgd : A.guards = some []) (hF : HasF (fam tabs) Fo) :
    Sts (bodyC P w K mg base (XVm mg) N_refuse_paper "refuse_paper" s_refuse_paper f cdv A outer s H Z E Fo) (defBody s_refuse_paper) (ofS XF_refuse_paper) :=
  (show Sts _ _ (ofS ((xIf (xT (xBin (pIsN true) (xVar 0) (xD .none))) (xSeq (xAsg (xVar 0) (xgTp 2 (xgCons (xgNm 1) (xgCons (xgNm 2) xgNil))))
    (xRaise "InvalidPaper" "word" "at" (xCons (xVar 1) (xCons (xVar 2) xNil)))) xNx))) from (xs_one (xs_if (xt_cmp o_notN fits_isN (x_var 0 (pv 0)) x_non rfl) (xs_cons (xs_asg (x_var 0 (pv 0)) (xg_tup rfl (xgs_cons (xg_nm (i := 1) sc_refuse_paper.nd rfl (.inl rfl)) (xgs_cons (xg_nm (i := 2) sc_refuse_paper.nd rfl (.inl rfl)) xgs_nil))))
    (xs_one (xs_raise T_InvalidPaper rfl (hr.mono (by decide)) rfl (takes_of rfl rfl rfl rfl) (by rfl) (xa_cons (x_var 1 (pv 1)) (xa_cons (x_var 2 (pv 2)) xa_nil))))) xs_nil)))
theorem d_refuse_paper {P : Program} {w : World} {K : PySem.W.Frag} {mg : Str → Option Value} {base : Heap} {tabs : List (Addr × Str)} {h : Heap} (M : Bis mg) (X : K.In h) (G : h.Ns mainGlobals mg) (has : Has K "refuse_paper" s_refuse_paper) (T_InvalidPaper : ExcOk P w K mg base "InvalidPaper" "word" "at") : DefX P w K mg base (fam tabs) (XVm mg) "refuse_paper" s_refuse_paper 3 ps_refuse_paper (ofF 1 F_refuse_paper) :=
  defX_of X G has sc_refuse_paper (fun hr hg hF => b_refuse_paper M T_InvalidPaper hr hg hF) (fun _ _ _ _ _ _ us hl => match us, hl with | [_], _ => rfl)
end K33

namespace K33
open PySem PySem.Spec PyProof.Rows L2 PL
theorem b_refuse_town {P : Program} {w : World} {K : PySem.W.Frag} {mg : Str → Option Value} {base : Heap} {tabs : List (Addr × Str)} (M : Bis mg) (D_town_fault : DefX P w K mg base (fam tabs) (XVm mg) "town_fault" s_town_fault 4 ps_town_fault (ofF 1 F_town_fault)) (T_NotUsable : ExcOk P w K mg base "NotUsable" "word" "at")
    {f : Addr} {cdv : Value} {A : Around} {outer : List Env} {s : Shared} {H Z : Hp} {E : XK} {Fo : Option Fd} (hr : Room 4 (A.deeper (envOfC "refuse_town" (defScope s_refuse_town) s.heap.objs.size f cdv))) (hgd : A.guards = some []) (hF : HasF (fam tabs) Fo) :
    Sts (bodyC P w K mg base (XVm mg) N_refuse_town "refuse_town" s_refuse_town f cdv A outer s H Z E Fo) (defBody s_refuse_town) (ofS XF_refuse_town) :=
  (show Sts _ _ (ofS ((xIf (xT (xBin (pIsN true) (xCall F_town_fault (xCons (xVar 0) xNil)) (xD .none))) (xRaise "NotUsable" "word" "at" (xCons (xD (.str (Str.ofString "town"))) (xCons (xUn pNeg (xD (.int 1))) xNil))) xNx))) from (xs_one (xs_if (xt_cmp o_notN fits_isN (x_call D_town_fault hF (hr.mono (by decide)) hgd (by rfl) lets_body (xa_cons (x_var 0 (pv 0)) xa_nil) (cnt_cons cnt_nil)) x_non rfl) (xs_one (xs_raise T_NotUsable rfl (hr.mono (by decide)) rfl (takes_of rfl rfl rfl rfl) (by rfl) (xa_cons x_str (xa_cons (x_neg x_int) xa_nil)))) xs_nil)))
theorem d_refuse_town {P : Program} {w : World} {K : PySem.W.Frag} {mg : Str → Option Value} {base : Heap} {tabs : List (Addr × Str)} {h : Heap} (M : Bis mg) (X : K.In h) (G : h.Ns mainGlobals mg) (has : Has K "refuse_town" s_refuse_town) (D_town_fault : DefX P w K mg base (fam tabs) (XVm mg) "town_fault" s_town_fault 4 ps_town_fault (ofF 1 F_town_fault)) (T_NotUsable : ExcOk P w K mg base "NotUsable" "word" "at") : DefX P w K mg base (fam tabs) (XVm mg) "refuse_town" s_refuse_town 5 ps_refuse_town (ofF 1 F_refuse_town) :=
  defX_of X G has sc_refuse_town (fun hr hg hF => b_refuse_town M D_town_fault T_NotUsable hr hg hF) (fun _ _ _ _ _ _ us hl => match us, hl with | [_], _ => rfl)
end K33

namespace K33
open PySem PySem.Spec PyProof.Rows L2 PL
theorem b_refuse_run {P : Program} {w : World} {K : PySem.W.Frag} {mg : Str → Option Value} {base : Heap} {tabs : List (Addr × Str)} (M : Bis mg) (D_run_fault : DefX P w K mg base (fam tabs) (XVm mg) "run_fault" s_run_fault 3 ps_run_fault (ofF 2 F_run_fault)) (T_NotUsable : ExcOk P w K mg base "NotUsable" "word" "at")
    {f : Addr} {cdv : Value} {A : Around} {outer : List Env} {s : Shared} {H Z : Hp} {E : XK} {Fo : Option Fd} (hr : Room 3 (A.deeper (envOfC "refuse_run" (defScope s_refuse_run) s.heap.objs.size f cdv))) (hgd : A.guards = some []) (hF : HasF (fam tabs) Fo) :
    Sts (bodyC P w K mg base (XVm mg) N_refuse_run "refuse_run" s_refuse_run f cdv A outer s H Z E Fo) (defBody s_refuse_run) (ofS XF_refuse_run) :=
  (show Sts _ _ (ofS ((xIf (xT (xBin (pIsN true) (xCall F_run_fault (xCons (xVar 0) (xCons (xVar 1) xNil))) (xD .none))) (xRaise "NotUsable" "word" "at" (xCons (xD (.str (Str.ofString "run"))) (xCons (xUn pNeg (xD (.int 1))) xNil))) xNx))) from (xs_one (xs_if (xt_cmp o_notN fits_isN (x_call D_run_fault hF (hr.mono (by decide)) hgd (by rfl) lets_body (xa_cons (x_var 0 (pv 0)) (xa_cons (x_var 1 (pv 1)) xa_nil)) (cnt_cons (cnt_cons cnt_nil))) x_non rfl) (xs_one (xs_raise T_NotUsable rfl (hr.mono (by decide)) rfl (takes_of rfl rfl rfl rfl) (by rfl) (xa_cons x_str (xa_cons (x_neg x_int) xa_nil)))) xs_nil)))
theorem d_refuse_run {P : Program} {w : World} {K : PySem.W.Frag} {mg : Str → Option Value} {base : Heap} {tabs : List (Addr × Str)} {h : Heap} (M : Bis mg) (X : K.In h) (G : h.Ns mainGlobals mg) (has : Has K "refuse_run" s_refuse_run) (D_run_fault : DefX P w K mg base (fam tabs) (XVm mg) "run_fault" s_run_fault 3 ps_run_fault (ofF 2 F_run_fault)) (T_NotUsable : ExcOk P w K mg base "NotUsable" "word" "at") : DefX P w K mg base (fam tabs) (XVm mg) "refuse_run" s_refuse_run 4 ps_refuse_run (ofF 2 F_refuse_run) :=
  defX_of X G has sc_refuse_run (fun hr hg hF => b_refuse_run M D_run_fault T_NotUsable hr hg hF) (fun _ _ _ _ _ _ us hl => match us, hl with | [_, _], _ => rfl)
end K33

namespace K33
open PySem PySem.Spec PyProof.Rows L2 PL
theorem b_refuse_fears {P : Program} {w : World} {K : PySem.W.Frag} {mg : Str → Option Value} {base : Heap} {tabs : List (Addr × Str)} (M : Bis mg) (D_fears_fault : DefX P w K mg base (fam tabs) (XVm mg) "fears_fault" s_fears_fault 3 ps_fears_fault (ofF 2 F_fears_fault)) (T_NotUsable : ExcOk P w K mg base "NotUsable" "word" "at")
    {f : Addr} {cdv : Value} {A : Around} {outer : List Env} {s : Shared} {H Z : Hp} {E : XK} {Fo : Option Fd} (hr : Room 3 (A.deeper (envOfC "refuse_fears" (defScope s_refuse_fears) s.heap.objs.size f cdv))) (hgd : A.guards = some []) (hF : HasF (fam tabs) Fo) :
    Sts (bodyC P w K mg base (XVm mg) N_refuse_fears "refuse_fears" s_refuse_fears f cdv A outer s H Z E Fo) (defBody s_refuse_fears) (ofS XF_refuse_fears) :=
  (show Sts _ _ (ofS ((xIf (xT (xBin (pIsN true) (xCall F_fears_fault (xCons (xVar 0) (xCons (xVar 1) xNil))) (xD .none))) (xRaise "NotUsable" "word" "at" (xCons (xD (.str (Str.ofString "fears"))) (xCons (xUn pNeg (xD (.int 1))) xNil))) xNx))) from (xs_one (xs_if (xt_cmp o_notN fits_isN (x_call D_fears_fault hF (hr.mono (by decide)) hgd (by rfl) lets_body (xa_cons (x_var 0 (pv 0)) (xa_cons (x_var 1 (pv 1)) xa_nil)) (cnt_cons (cnt_cons cnt_nil))) x_non rfl) (xs_one (xs_raise T_NotUsable rfl (hr.mono (by decide)) rfl (takes_of rfl rfl rfl rfl) (by rfl) (xa_cons x_str (xa_cons (x_neg x_int) xa_nil)))) xs_nil)))
theorem d_refuse_fears {P : Program} {w : World} {K : PySem.W.Frag} {mg : Str → Option Value} {base : Heap} {tabs : List (Addr × Str)} {h : Heap} (M : Bis mg) (X : K.In h) (G : h.Ns mainGlobals mg) (has : Has K "refuse_fears" s_refuse_fears) (D_fears_fault : DefX P w K mg base (fam tabs) (XVm mg) "fears_fault" s_fears_fault 3 ps_fears_fault (ofF 2 F_fears_fault)) (T_NotUsable : ExcOk P w K mg base "NotUsable" "word" "at") : DefX P w K mg base (fam tabs) (XVm mg) "refuse_fears" s_refuse_fears 4 ps_refuse_fears (ofF 2 F_refuse_fears) :=
  defX_of X G has sc_refuse_fears (fun hr hg hF => b_refuse_fears M D_fears_fault T_NotUsable hr hg hF) (fun _ _ _ _ _ _ us hl => match us, hl with | [_, _], _ => rfl)
end K33

namespace K33
open PySem PySem.Spec PyProof.Rows L2 PL
theorem b_refuse_asked {P : Program} {w : World} {K : PySem.W.Frag} {mg : Str → Option Value} {base : Heap} {tabs : List (Addr × Str)} (M : Bis mg) (D_refuse_fears : DefX P w K mg base (fam tabs) (XVm mg) "refuse_fears" s_refuse_fears 4 ps_refuse_fears (ofF 2 F_refuse_fears)) (D_refuse_run : DefX P w K mg base (fam tabs) (XVm mg) "refuse_run" s_refuse_run 4 ps_refuse_run (ofF 2 F_refuse_run)) (D_refuse_town : DefX P w K mg base (fam tabs) (XVm mg) "refuse_town" s_refuse_town 5 ps_refuse_town (ofF 1 F_refuse_town))
    {f : Addr} {cdv : Value} {A : Around} {outer : List Env} {s : Shared} {H Z : Hp} {E : XK} {Fo : Option Fd} (hr : Room 5 (A.deeper (envOfC "refuse_asked" (defScope s_refuse_asked) s.heap.objs.size f cdv))) (hgd : A.guards = some []) (hF : HasF (fam tabs) Fo) :
    Sts (bodyC P w K mg base (XVm mg) N_refuse_asked "refuse_asked" s_refuse_asked f cdv A outer s H Z E Fo) (defBody s_refuse_asked) (ofS XF_refuse_asked) :=
  (show Sts _ _ (ofS ((xSeq (xDrop (xCall F_refuse_town (xCons (xVar 0) xNil)))
    (xSeq (xDrop (xCall F_refuse_fears (xCons (xVar 0) (xCons (xVar 1) xNil))))
    (xDrop (xCall F_refuse_run (xCons (xVar 0) (xCons (xVar 2) xNil)))))))) from (xs_cons (xs_expr (x_call D_refuse_town hF (hr.mono (by decide)) hgd (by rfl) lets_body (xa_cons (x_var 0 (pv 0)) xa_nil) (cnt_cons cnt_nil)))
    (xs_cons (xs_expr (x_call D_refuse_fears hF (hr.mono (by decide)) hgd (by rfl) lets_body (xa_cons (x_var 0 (pv 0)) (xa_cons (x_var 1 (pv 1)) xa_nil)) (cnt_cons (cnt_cons cnt_nil))))
    (xs_one (xs_expr (x_call D_refuse_run hF (hr.mono (by decide)) hgd (by rfl) lets_body (xa_cons (x_var 0 (pv 0)) (xa_cons (x_var 2 (pv 2)) xa_nil)) (cnt_cons (cnt_cons cnt_nil))))))))
theorem d_refuse_asked {P : Program} {w : World} {K : PySem.W.Frag} {mg : Str → Option Value} {base : Heap} {tabs : List (Addr × Str)} {h : Heap} (M : Bis mg) (X : K.In h) (G : h.Ns mainGlobals mg) (has : Has K "refuse_asked" s_refuse_asked) (D_refuse_fears : DefX P w K mg base (fam tabs) (XVm mg) "refuse_fears" s_refuse_fears 4 ps_refuse_fears (ofF 2 F_refuse_fears)) (D_refuse_run : DefX P w K mg base (fam tabs) (XVm mg) "refuse_run" s_refuse_run 4 ps_refuse_run (ofF 2 F_refuse_run)) (D_refuse_town : DefX P w K mg base (fam tabs) (XVm mg) "refuse_town" s_refuse_town 5 ps_refuse_town (ofF 1 F_refuse_town)) : DefX P w K mg base (fam tabs) (XVm mg) "refuse_asked" s_refuse_asked 6 ps_refuse_asked (ofF 3 F_refuse_asked) :=
  defX_of X G has sc_refuse_asked (fun hr hg hF => b_refuse_asked M D_refuse_fears D_refuse_run D_refuse_town hr hg hF) (fun _ _ _ _ _ _ us hl => match us, hl with | [_, _, _], _ => rfl)
end K33

namespace K33
open PySem PySem.Spec PyProof.Rows L2 PL
theorem b_refuse_quarrel {P : Program} {w : World} {K : PySem.W.Frag} {mg : Str → Option Value} {base : Heap} {tabs : List (Addr × Str)} (M : Bis mg) (D_is_explained : DefX P w K mg base (fam tabs) (XVm mg) "is_explained" s_is_explained 5 ps_is_explained (ofF 3 F_is_explained)) (T_NotUsable : ExcOk P w K mg base "NotUsable" "word" "at")
    {f : Addr} {cdv : Value} {A : Around} {outer : List Env} {s : Shared} {H Z : Hp} {E : XK} {Fo : Option Fd} (hr : Room 5 (A.deeper (envOfC "refuse_quarrel" (defScope s_refuse_quarrel) s.heap.objs.size f cdv))) (hgd : A.guards = some []) (hF : HasF (fam tabs) Fo) :
    Sts (bodyC P w K mg base (XVm mg) N_refuse_quarrel "refuse_quarrel" s_refuse_quarrel f cdv A outer s H Z E Fo) (defBody s_refuse_quarrel) (ofS XF_refuse_quarrel) :=
  (show Sts _ _ (ofS ((xIf (xNotB (xTru (xCall F_is_explained (xCons (xVar 0) (xCons (xVar 1) (xCons (xVar 2) xNil)))))) (xRaise "NotUsable" "word" "at" (xCons (xD (.str (Str.ofString "run"))) (xCons (xUn pNeg (xD (.int 1))) xNil))) xNx))) from (xs_one (xs_if (xt_not (xt_tru (x_call D_is_explained hF (hr.mono (by decide)) hgd (by rfl) lets_body (xa_cons (x_var 0 (pv 0)) (xa_cons (x_var 1 (pv 1)) (xa_cons (x_var 2 (pv 2)) xa_nil))) (cnt_cons (cnt_cons (cnt_cons cnt_nil)))))) (xs_one (xs_raise T_NotUsable rfl (hr.mono (by decide)) rfl (takes_of rfl rfl rfl rfl) (by rfl) (xa_cons x_str (xa_cons (x_neg x_int) xa_nil)))) xs_nil)))
theorem d_refuse_quarrel {P : Program} {w : World} {K : PySem.W.Frag} {mg : Str → Option Value} {base : Heap} {tabs : List (Addr × Str)} {h : Heap} (M : Bis mg) (X : K.In h) (G : h.Ns mainGlobals mg) (has : Has K "refuse_quarrel" s_refuse_quarrel) (D_is_explained : DefX P w K mg base (fam tabs) (XVm mg) "is_explained" s_is_explained 5 ps_is_explained (ofF 3 F_is_explained)) (T_NotUsable : ExcOk P w K mg base "NotUsable" "word" "at") : DefX P w K mg base (fam tabs) (XVm mg) "refuse_quarrel" s_refuse_quarrel 6 ps_refuse_quarrel (ofF 3 F_refuse_quarrel) :=
  defX_of X G has sc_refuse_quarrel (fun hr hg hF => b_refuse_quarrel M D_is_explained T_NotUsable hr hg hF) (fun _ _ _ _ _ _ us hl => match us, hl with | [_, _, _], _ => rfl)
end K33

namespace K33
open PySem PySem.Spec PyProof.Rows L2 PL
theorem b_is_told {P : Program} {w : World} {K : PySem.W.Frag} {mg : Str → Option Value} {base : Heap} {tabs : List (Addr × Str)} (M : Bis mg) (D_is_lot : DefX P w K mg base (fam tabs) (XVm mg) "is_lot" s_is_lot 2 ps_is_lot (ofF 2 F_is_lot)) (D_is_tuple : DefX P w K mg base (fam tabs) (XVm mg) "is_tuple" s_is_tuple 1 ps_is_tuple (ofF 2 F_is_tuple))
    {f : Addr} {cdv : Value} {A : Around} {outer : List Env} {s : Shared} {H Z : Hp} {E : XK} {Fo : Option Fd} (hr : Room 2 (A.deeper (envOfC "is_told" (defScope s_is_told) s.heap.objs.size f cdv))) (hgd : A.guards = some []) (hF : HasF (fam tabs) Fo) :
    Sts (bodyC P w K mg base (XVm mg) N_is_told "is_told" s_is_told f cdv A outer s H Z E Fo) (defBody s_is_told) (ofS XF_is_told) :=
  (show Sts _ _ (ofS ((xSeq (xIf (xOrB (xNotB (xTru (xCall F_is_tuple (xCons (xVar 1) (xCons (xD (.int 3)) xNil))))) (xT (xBin (pIn true) (xBin pIx (xVar 1) (xD (.int 0))) (xBin pIx (xVar 0) (xD (.int 0)))))) (xRet (xD (.bool false))) xNx)
    (xRet (xAnd (xCall F_is_lot (xCons (xVar 0) (xCons (xBin pIx (xVar 1) (xD (.int 1))) xNil))) (xIs "tuple" (xBin pIx (xVar 1) (xD (.int 2))))))))) from (xs_cons (xs_if (TW.t (xw_or (xt_not (xt_tru (x_call D_is_tuple hF (hr.mono (by decide)) hgd (by rfl) lets_body (xa_cons (x_var 1 (pv 1)) (xa_cons x_int xa_nil)) (cnt_cons (cnt_cons cnt_nil))))) (xw_or1 (xt_cmp (o_notIn (Nat.lt_of_succ_lt (u66 hr))) fits_in (x_ix (x_var 1 (pv 1)) x_int (fun _ _ => rfl)) (x_ix (x_var 0 (pv 0)) x_int (fun _ _ => rfl)) rfl)))) (xs_one (xs_ret x_bl)) xs_nil)
    (xs_one (xs_ret (x_and (x_call D_is_lot hF (hr.mono (by decide)) hgd (by rfl) lets_body (xa_cons (x_var 0 (pv 0)) (xa_cons (x_ix (x_var 1 (pv 1)) x_int (fun _ _ => rfl)) xa_nil)) (cnt_cons (cnt_cons cnt_nil))) (x_one (x_is (T := "tuple") (x_ix (x_var 1 (pv 1)) x_int (fun _ _ => rfl)) (by decide +kernel) (by rfl) M.isinstance (by rfl) M.tuple (by decide +kernel))))))))
theorem d_is_told {P : Program} {w : World} {K : PySem.W.Frag} {mg : Str → Option Value} {base : Heap} {tabs : List (Addr × Str)} {h : Heap} (M : Bis mg) (X : K.In h) (G : h.Ns mainGlobals mg) (has : Has K "is_told" s_is_told) (D_is_lot : DefX P w K mg base (fam tabs) (XVm mg) "is_lot" s_is_lot 2 ps_is_lot (ofF 2 F_is_lot)) (D_is_tuple : DefX P w K mg base (fam tabs) (XVm mg) "is_tuple" s_is_tuple 1 ps_is_tuple (ofF 2 F_is_tuple)) : DefX P w K mg base (fam tabs) (XVm mg) "is_told" s_is_told 3 ps_is_told (ofF 2 F_is_told) :=
  defX_of X G has sc_is_told (fun hr hg hF => b_is_told M D_is_lot D_is_tuple hr hg hF) (fun _ _ _ _ _ _ us hl => match us, hl with | [_, _], _ => rfl)
end K33

namespace K33
open PySem PySem.Spec PyProof.Rows L2 PL
theorem b_circle_fault {P : Program} {w : World} {K : PySem.W.Frag} {mg : Str → Option Value} {base : Heap} {tabs : List (Addr × Str)} (M : Bis mg) (D_is_told : DefX P w K mg base (fam tabs) (XVm mg) "is_told" s_is_told 3 ps_is_told (ofF 2 F_is_told))
    {f : Addr} {cdv : Value} {A : Around} {outer : List Env} {s : Shared} {H Z : Hp} {E : XK} {Fo : Option Fd} (hr : Room 3 (A.deeper (envOfC "circle_fault" (defScope s_circle_fault) s.heap.objs.size f cdv))) (hgd : A.guards = some []) (hF : HasF (fam tabs) Fo) :
    Sts (bodyC P w K mg base (XVm mg) N_circle_fault "circle_fault" s_circle_fault f cdv A outer s H Z E Fo) (defBody s_circle_fault) (ofS XF_circle_fault) :=
  (show Sts _ _ (ofS ((xSeq (xIf (xT (xBin (pEq false) (xBi pLen (xCons (xVar 1) xNil)) (xD (.int 1)))) (xRet (xTup (xCons (xD (.str (Str.ofString "many"))) (xCons (xUn pNeg (xD (.int 1))) xNil)))) xNx)
    (xSeq (xFor (xEnumS (xVar 1)) (xgTp 2 (xgCons (xgNm 2) (xgCons (xgNm 3) xgNil))) (xSeq (xIf (xNotB (xTru (xCall F_is_told (xCons (xVar 0) (xCons (xVar 3) xNil))))) (xRet (xTup (xCons (xD (.str (Str.ofString "step"))) (xCons (xVar 2) xNil)))) xNx)
    (xIf (xT (xBin (pIn false) (xBin pIx (xVar 3) (xD (.int 0))) (xNew (xLc [4] [4] sel1 (xIt (xSl (xVar 1) xNoPart (xPart (xVar 2)))) xYes (xBin pIx (xVar 4) (xD (.int 0))))))) (xRet (xTup (xCons (xD (.str (Str.ofString "twice"))) (xCons (xVar 2) xNil)))) xNx)))
    (xRet (xD .none)))))) from (xs_cons (xs_if (xt_cmp (o_eq hr.units) fits_eq (x_bi b_len fits_len (by rfl) M.len (by decide +kernel) (xa_cons (x_var 1 (pv 1)) xa_nil)) x_int rfl) (xs_one (xs_ret (x_tup (xa_cons x_str (xa_cons (x_neg x_int) xa_nil))))) xs_nil)
    (xs_cons (xs_for (passes_of rfl) rfl (xi_enumS (by rfl) M.enumerate (x_var 1 (pv 1))) (fun _ => (xg_tup rfl (xgs_cons (xg_nm (i := 2) sc_circle_fault.nd rfl (.inl rfl)) (xgs_cons (xg_nm (i := 3) sc_circle_fault.nd rfl (.inl rfl)) xgs_nil)))) (fun _ => (xs_cons (xs_if (xt_not (xt_tru (x_call D_is_told hF (hr.mono (by decide)) hgd (by rfl) lets_body (xa_cons (x_var 0 (pv 0)) (xa_cons (x_var 3 (pv 3)) xa_nil)) (cnt_cons (cnt_cons cnt_nil))))) (xs_one (xs_ret (x_tup (xa_cons x_str (xa_cons (x_var 2 (pv 2)) xa_nil))))) xs_nil)
    (xs_one (xs_if (xt_cmp (o_in (Nat.lt_of_succ_lt (u66 hr))) fits_in (x_ix (x_var 3 (pv 3)) x_int (fun _ _ => rfl)) (x_new (n_weak (n_lc rfl sc_circle_fault.nd (xi_any (x_sl (x_var 1 (pv 1)) xo_none (xo_some (x_var 2 (pv 2))))) (blkOk_by (own := [("ahead", 4)]) (N := N_circle_fault) (sc := defScope s_circle_fault) (by decide +kernel)) (tg_name 4) (by decide) (fun _ _ _ _ _ => (pg_name (i := 4) sc_circle_fault.nd rfl (Or.inl rfl))) (fun _ _ _ _ _ => (xts_nil)) (fun _ _ _ _ _ => (x_ix (x_var 4 (pv 4)) x_int (fun _ _ => rfl)))) xLc_of)) rfl) (xs_one (xs_ret (x_tup (xa_cons x_str (xa_cons (x_var 2 (pv 2)) xa_nil))))) xs_nil)))))
    (xs_one (xs_ret x_non)))))
theorem d_circle_fault {P : Program} {w : World} {K : PySem.W.Frag} {mg : Str → Option Value} {base : Heap} {tabs : List (Addr × Str)} {h : Heap} (M : Bis mg) (X : K.In h) (G : h.Ns mainGlobals mg) (has : Has K "circle_fault" s_circle_fault) (D_is_told : DefX P w K mg base (fam tabs) (XVm mg) "is_told" s_is_told 3 ps_is_told (ofF 2 F_is_told)) : DefX P w K mg base (fam tabs) (XVm mg) "circle_fault" s_circle_fault 4 ps_circle_fault (ofF 2 F_circle_fault) :=
  defX_of X G has sc_circle_fault (fun hr hg hF => b_circle_fault M D_is_told hr hg hF) (fun _ _ _ _ _ _ us hl => match us, hl with | [_, _], _ => rfl)
end K33

namespace K33
open PySem PySem.Spec PyProof.Rows L2 PL
theorem b_crossing_fault {P : Program} {w : World} {K : PySem.W.Frag} {mg : Str → Option Value} {base : Heap} {tabs : List (Addr × Str)} (M : Bis mg)
    {f : Addr} {cdv : Value} {A : Around} {outer : List Env} {s : Shared} {H Z : Hp} {E : XK} {Fo : Option Fd} (hr : Room 0 (A.deeper (envOfC "crossing_fault" (defScope s_crossing_fault) s.heap.objs.size f cdv))) (hgd : A.guards = some []) (hF : HasF (fam tabs) Fo) :
    Sts (bodyC P w K mg base (XVm mg) N_crossing_fault "crossing_fault" s_crossing_fault f cdv A outer s H Z E Fo) (defBody s_crossing_fault) (ofS XF_crossing_fault) :=
  (show Sts _ _ (ofS ((xSeq (xFor (xEnumS (xVar 0)) (xgTp 2 (xgCons (xgNm 3) (xgCons (xgTp 4 (xgCons (xgNm 4) (xgCons (xgNm 5) (xgCons (xgNm 6) (xgCons (xgNm 6) xgNil))))) xgNil))) (xIf (xOrB (xAndB (xT (xBin (pIn false) (xVar 4) (xVar 1))) (xT (xBin (pIn false) (xVar 5) (xVar 2)))) (xAndB (xT (xBin (pIn false) (xVar 4) (xVar 2))) (xT (xBin (pIn false) (xVar 5) (xVar 1))))) (xRet (xTup (xCons (xD (.str (Str.ofString "letter"))) (xCons (xVar 3) xNil)))) xNx))
    (xRet (xD .none))))) from (xs_cons (xs_for (passes_of rfl) rfl (xi_enumS (by rfl) M.enumerate (x_var 0 (pv 0))) (fun _ => (xg_tup rfl (xgs_cons (xg_nm (i := 3) sc_crossing_fault.nd rfl (.inl rfl)) (xgs_cons (xg_tup rfl (xgs_cons (xg_nm (i := 4) sc_crossing_fault.nd rfl (.inl rfl)) (xgs_cons (xg_nm (i := 5) sc_crossing_fault.nd rfl (.inl rfl)) (xgs_cons (xg_nm (i := 6) sc_crossing_fault.nd rfl (.inl rfl)) (xgs_cons (xg_nm (i := 6) sc_crossing_fault.nd rfl (.inl rfl)) xgs_nil))))) xgs_nil)))) (fun _ => (xs_one (xs_if (TW.t (xw_or (TW.t (xw_and (xt_cmp (o_in (Nat.lt_of_succ_lt (u66 hr))) fits_in (x_var 4 (pv 4)) (x_var 1 (pv 1)) rfl) (xw_and1 (xt_cmp (o_in (Nat.lt_of_succ_lt (u66 hr))) fits_in (x_var 5 (pv 5)) (x_var 2 (pv 2)) rfl)))) (xw_or1 (TW.t (xw_and (xt_cmp (o_in (Nat.lt_of_succ_lt (u66 hr))) fits_in (x_var 4 (pv 4)) (x_var 2 (pv 2)) rfl) (xw_and1 (xt_cmp (o_in (Nat.lt_of_succ_lt (u66 hr))) fits_in (x_var 5 (pv 5)) (x_var 1 (pv 1)) rfl))))))) (xs_one (xs_ret (x_tup (xa_cons x_str (xa_cons (x_var 3 (pv 3)) xa_nil))))) xs_nil))))
    (xs_one (xs_ret x_non))))
theorem d_crossing_fault {P : Program} {w : World} {K : PySem.W.Frag} {mg : Str → Option Value} {base : Heap} {tabs : List (Addr × Str)} {h : Heap} (M : Bis mg) (X : K.In h) (G : h.Ns mainGlobals mg) (has : Has K "crossing_fault" s_crossing_fault) : DefX P w K mg base (fam tabs) (XVm mg) "crossing_fault" s_crossing_fault 1 ps_crossing_fault (ofF 3 F_crossing_fault) :=
  defX_of X G has sc_crossing_fault (fun hr hg hF => b_crossing_fault M hr hg hF) (fun _ _ _ _ _ _ us hl => match us, hl with | [_, _, _], _ => rfl)
end K33

namespace K33
open PySem PySem.Spec PyProof.Rows L2 PL
theorem b_far_fault {P : Program} {w : World} {K : PySem.W.Frag} {mg : Str → Option Value} {base : Heap} {tabs : List (Addr × Str)} (M : Bis mg) (D_crossing_fault : DefX P w K mg base (fam tabs) (XVm mg) "crossing_fault" s_crossing_fault 1 ps_crossing_fault (ofF 3 F_crossing_fault)) (D_gains_fault : DefX P w K mg base (fam tabs) (XVm mg) "gains_fault" s_gains_fault 3 ps_gains_fault (ofF 4 F_gains_fault)) (D_has_any : DefX P w K mg base (fam tabs) (XVm mg) "has_any" s_has_any 1 ps_has_any (ofF 2 F_has_any)) (D_is_lot : DefX P w K mg base (fam tabs) (XVm mg) "is_lot" s_is_lot 2 ps_is_lot (ofF 2 F_is_lot)) (D_is_under : DefX P w K mg base (fam tabs) (XVm mg) "is_under" s_is_under 2 ps_is_under (ofF 2 F_is_under)) (D_outside_of : DefX P w K mg base (fam tabs) (XVm mg) "outside_of" s_outside_of 1 ps_outside_of (ofF 2 F_outside_of))
    {f : Addr} {cdv : Value} {A : Around} {outer : List Env} {s : Shared} {H Z : Hp} {E : XK} {Fo : Option Fd} (hr : Room 3 (A.deeper (envOfC "far_fault" (defScope s_far_fault) s.heap.objs.size f cdv))) (hgd : A.guards = some []) (hF : HasF (fam tabs) Fo) :
    Sts (bodyC P w K mg base (XVm mg) N_far_fault "far_fault" s_far_fault f cdv A outer s H Z E Fo) (defBody s_far_fault) (ofS XF_far_fault) :=
  (show Sts _ _ (ofS ((xSeq (xAsg (xVar 3) (xgTp 5 (xgCons (xgNm 4) (xgCons (xgNm 5) (xgCons (xgNm 6) (xgCons (xgNm 7) (xgCons (xgNm 8) xgNil)))))))
    (xSeq (xIf (xT (xBin (pIn true) (xVar 4) (xBin pIx (xVar 0) (xD (.int 0))))) (xRet (xTup (xCons (xD (.str (Str.ofString "one"))) (xCons (xUn pNeg (xD (.int 1))) xNil)))) xNx)
    (xSeq (xIf (xOrB (xT (xBin (pIn true) (xVar 5) (xBin pIx (xVar 0) (xD (.int 0))))) (xT (xBin (pEq false) (xVar 5) (xVar 4)))) (xRet (xTup (xCons (xD (.str (Str.ofString "other"))) (xCons (xUn pNeg (xD (.int 1))) xNil)))) xNx)
    (xSeq (xIf (xOrB (xNotB (xTru (xCall F_is_lot (xCons (xVar 0) (xCons (xVar 6) xNil))))) (xOrB (xNotB (xTru (xCall F_is_under (xCons (xVar 1) (xCons (xVar 6) xNil))))) (xTru (xCall F_has_any (xCons (xVar 6) (xCons (xTup (xCons (xVar 4) (xCons (xVar 5) xNil))) xNil)))))) (xRet (xTup (xCons (xD (.str (Str.ofString "lot"))) (xCons (xUn pNeg (xD (.int 1))) xNil)))) xNx)
    (xSeq (xIf (xT (xBin (pIsN true) (xCall F_gains_fault (xCons (xVar 0) (xCons (xVar 2) (xCons (xVar 6) (xCons (xVar 7) xNil))))) (xD .none))) (xRet (xTup (xCons (xD (.str (Str.ofString "gains"))) (xCons (xUn pNeg (xD (.int 1))) xNil)))) xNx)
    (xSeq (xIf (xOrB (xNotB (xTru (xCall F_is_lot (xCons (xVar 0) (xCons (xVar 8) xNil))))) (xOrB (xTru (xCall F_has_any (xCons (xVar 8) (xCons (xVar 6) xNil)))) (xOrB (xT (xBin (pIn true) (xVar 5) (xVar 8))) (xT (xBin (pIn false) (xVar 4) (xVar 8)))))) (xRet (xTup (xCons (xD (.str (Str.ofString "part"))) (xCons (xUn pNeg (xD (.int 1))) xNil)))) xNx)
    (xRet (xCall F_crossing_fault (xCons (xVar 2) (xCons (xVar 8) (xCons (xNew (xLc [9] [9] sel1 (xIt (xCall F_outside_of (xCons (xVar 0) (xCons (xVar 6) xNil)))) (xT (xBin (pIn true) (xVar 9) (xVar 8))) (xVar 9))) xNil))))))))))))) from (xs_cons (xs_asg (x_var 3 (pv 3)) (xg_tup rfl (xgs_cons (xg_nm (i := 4) sc_far_fault.nd rfl (.inl rfl)) (xgs_cons (xg_nm (i := 5) sc_far_fault.nd rfl (.inl rfl)) (xgs_cons (xg_nm (i := 6) sc_far_fault.nd rfl (.inl rfl)) (xgs_cons (xg_nm (i := 7) sc_far_fault.nd rfl (.inl rfl)) (xgs_cons (xg_nm (i := 8) sc_far_fault.nd rfl (.inr rfl)) xgs_nil)))))))
    (xs_cons (xs_if (xt_cmp (o_notIn (Nat.lt_of_succ_lt (u66 hr))) fits_in (x_var 4 (pv 4)) (x_ix (x_var 0 (pv 0)) x_int (fun _ _ => rfl)) rfl) (xs_one (xs_ret (x_tup (xa_cons x_str (xa_cons (x_neg x_int) xa_nil))))) xs_nil)
    (xs_cons (xs_if (TW.t (xw_or (xt_cmp (o_notIn (Nat.lt_of_succ_lt (u66 hr))) fits_in (x_var 5 (pv 5)) (x_ix (x_var 0 (pv 0)) x_int (fun _ _ => rfl)) rfl) (xw_or1 (xt_cmp (o_eq hr.units) fits_eq (x_var 5 (pv 5)) (x_var 4 (pv 4)) rfl)))) (xs_one (xs_ret (x_tup (xa_cons x_str (xa_cons (x_neg x_int) xa_nil))))) xs_nil)
    (xs_cons (xs_if (TW.t (xw_or (xt_not (xt_tru (x_call D_is_lot hF (hr.mono (by decide)) hgd (by rfl) lets_body (xa_cons (x_var 0 (pv 0)) (xa_cons (x_var 6 (pv 6)) xa_nil)) (cnt_cons (cnt_cons cnt_nil))))) (xw_or (xt_not (xt_tru (x_call D_is_under hF (hr.mono (by decide)) hgd (by rfl) lets_body (xa_cons (x_var 1 (pv 1)) (xa_cons (x_var 6 (pv 6)) xa_nil)) (cnt_cons (cnt_cons cnt_nil))))) (xw_or1 (xt_tru (x_call D_has_any hF (hr.mono (by decide)) hgd (by rfl) lets_body (xa_cons (x_var 6 (pv 6)) (xa_cons (x_tup (xa_cons (x_var 4 (pv 4)) (xa_cons (x_var 5 (pv 5)) xa_nil))) xa_nil)) (cnt_cons (cnt_cons cnt_nil)))))))) (xs_one (xs_ret (x_tup (xa_cons x_str (xa_cons (x_neg x_int) xa_nil))))) xs_nil)
    (xs_cons (xs_if (xt_cmp o_notN fits_isN (x_call D_gains_fault hF (hr.mono (by decide)) hgd (by rfl) lets_body (xa_cons (x_var 0 (pv 0)) (xa_cons (x_var 2 (pv 2)) (xa_cons (x_var 6 (pv 6)) (xa_cons (x_var 7 (pv 7)) xa_nil)))) (cnt_cons (cnt_cons (cnt_cons (cnt_cons cnt_nil))))) x_non rfl) (xs_one (xs_ret (x_tup (xa_cons x_str (xa_cons (x_neg x_int) xa_nil))))) xs_nil)
    (xs_cons (xs_if (TW.t (xw_or (xt_not (xt_tru (x_call D_is_lot hF (hr.mono (by decide)) hgd (by rfl) lets_body (xa_cons (x_var 0 (pv 0)) (xa_cons (x_var 8 (pv 8)) xa_nil)) (cnt_cons (cnt_cons cnt_nil))))) (xw_or (xt_tru (x_call D_has_any hF (hr.mono (by decide)) hgd (by rfl) lets_body (xa_cons (x_var 8 (pv 8)) (xa_cons (x_var 6 (pv 6)) xa_nil)) (cnt_cons (cnt_cons cnt_nil)))) (xw_or (xt_cmp (o_notIn (Nat.lt_of_succ_lt (u66 hr))) fits_in (x_var 5 (pv 5)) (x_var 8 (pv 8)) rfl) (xw_or1 (xt_cmp (o_in (Nat.lt_of_succ_lt (u66 hr))) fits_in (x_var 4 (pv 4)) (x_var 8 (pv 8)) rfl)))))) (xs_one (xs_ret (x_tup (xa_cons x_str (xa_cons (x_neg x_int) xa_nil))))) xs_nil)
    (xs_one (xs_ret (x_call D_crossing_fault hF (hr.mono (by decide)) hgd (by rfl) lets_body (xa_cons (x_var 2 (pv 2)) (xa_cons (x_var 8 (pv 8)) (xa_cons (x_new (n_weak (n_lc rfl sc_far_fault.nd (xi_any (x_call D_outside_of hF (hr.mono (by decide)) hgd (by rfl) lets_body (xa_cons (x_var 0 (pv 0)) (xa_cons (x_var 6 (pv 6)) xa_nil)) (cnt_cons (cnt_cons cnt_nil)))) (blkOk_by (own := [("tower", 9)]) (N := N_far_fault) (sc := defScope s_far_fault) (by decide +kernel)) (tg_name 9) (by decide) (fun _ _ _ _ _ => (pg_name (i := 9) sc_far_fault.nd rfl (Or.inl rfl))) (fun _ _ _ _ _ => (ts_one (xt_cmp (o_notIn (Nat.lt_of_succ_lt (u66 hr))) fits_in (x_var 9 (pv 9)) (x_var 8 (pv 8)) rfl))) (fun _ _ _ _ _ => (x_var 9 (pv 9)))) xLc_of)) xa_nil))) (cnt_cons (cnt_cons (cnt_cons cnt_nil)))))))))))))
theorem d_far_fault {P : Program} {w : World} {K : PySem.W.Frag} {mg : Str → Option Value} {base : Heap} {tabs : List (Addr × Str)} {h : Heap} (M : Bis mg) (X : K.In h) (G : h.Ns mainGlobals mg) (has : Has K "far_fault" s_far_fault) (D_crossing_fault : DefX P w K mg base (fam tabs) (XVm mg) "crossing_fault" s_crossing_fault 1 ps_crossing_fault (ofF 3 F_crossing_fault)) (D_gains_fault : DefX P w K mg base (fam tabs) (XVm mg) "gains_fault" s_gains_fault 3 ps_gains_fault (ofF 4 F_gains_fault)) (D_has_any : DefX P w K mg base (fam tabs) (XVm mg) "has_any" s_has_any 1 ps_has_any (ofF 2 F_has_any)) (D_is_lot : DefX P w K mg base (fam tabs) (XVm mg) "is_lot" s_is_lot 2 ps_is_lot (ofF 2 F_is_lot)) (D_is_under : DefX P w K mg base (fam tabs) (XVm mg) "is_under" s_is_under 2 ps_is_under (ofF 2 F_is_under)) (D_outside_of : DefX P w K mg base (fam tabs) (XVm mg) "outside_of" s_outside_of 1 ps_outside_of (ofF 2 F_outside_of)) : DefX P w K mg base (fam tabs) (XVm mg) "far_fault" s_far_fault 4 ps_far_fault (ofF 4 F_far_fault) :=
  defX_of X G has sc_far_fault (fun hr hg hF => b_far_fault M D_crossing_fault D_gains_fault D_has_any D_is_lot D_is_under D_outside_of hr hg hF) (fun _ _ _ _ _ _ us hl => match us, hl with | [_, _, _, _], _ => rfl)
end K33

namespace K33
open PySem PySem.Spec PyProof.Rows L2 PL
theorem b_steps_fault {P : Program} {w : World} {K : PySem.W.Frag} {mg : Str → Option Value} {base : Heap} {tabs : List (Addr × Str)} (M : Bis mg) (D_gains_fault : DefX P w K mg base (fam tabs) (XVm mg) "gains_fault" s_gains_fault 3 ps_gains_fault (ofF 4 F_gains_fault)) (D_has_any : DefX P w K mg base (fam tabs) (XVm mg) "has_any" s_has_any 1 ps_has_any (ofF 2 F_has_any)) (D_is_under : DefX P w K mg base (fam tabs) (XVm mg) "is_under" s_is_under 2 ps_is_under (ofF 2 F_is_under))
    {f : Addr} {cdv : Value} {A : Around} {outer : List Env} {s : Shared} {H Z : Hp} {E : XK} {Fo : Option Fd} (hr : Room 3 (A.deeper (envOfC "steps_fault" (defScope s_steps_fault) s.heap.objs.size f cdv))) (hgd : A.guards = some []) (hF : HasF (fam tabs) Fo) :
    Sts (bodyC P w K mg base (XVm mg) N_steps_fault "steps_fault" s_steps_fault f cdv A outer s H Z E Fo) (defBody s_steps_fault) (ofS XF_steps_fault) :=
  (show Sts _ _ (ofS ((xSeq (xFor (xEnumS (xVar 3)) (xgTp 2 (xgCons (xgNm 4) (xgCons (xgTp 3 (xgCons (xgNm 5) (xgCons (xgNm 6) (xgCons (xgNm 7) xgNil)))) xgNil))) (xSeq (xSet 8 (xBin pIx (xBin pIx (xVar 3) (xBin pMod (xBin pAdd (xVar 4) (xD (.int 1))) (xBi pLen (xCons (xVar 3) xNil)))) (xD (.int 0))))
    (xSeq (xIf (xOrB (xNotB (xTru (xCall F_is_under (xCons (xVar 1) (xCons (xVar 6) xNil))))) (xTru (xCall F_has_any (xCons (xVar 6) (xCons (xTup (xCons (xVar 5) (xCons (xVar 8) xNil))) xNil))))) (xRet (xTup (xCons (xD (.str (Str.ofString "lot"))) (xCons (xVar 4) xNil)))) xNx)
    (xIf (xT (xBin (pIsN true) (xCall F_gains_fault (xCons (xVar 0) (xCons (xVar 2) (xCons (xVar 6) (xCons (xVar 7) xNil))))) (xD .none))) (xRet (xTup (xCons (xD (.str (Str.ofString "gains"))) (xCons (xVar 4) xNil)))) xNx))))
    (xRet (xD .none))))) from (xs_cons (xs_for (passes_of rfl) rfl (xi_enumS (by rfl) M.enumerate (x_var 3 (pv 3))) (fun _ => (xg_tup rfl (xgs_cons (xg_nm (i := 4) sc_steps_fault.nd rfl (.inl rfl)) (xgs_cons (xg_tup rfl (xgs_cons (xg_nm (i := 5) sc_steps_fault.nd rfl (.inl rfl)) (xgs_cons (xg_nm (i := 6) sc_steps_fault.nd rfl (.inl rfl)) (xgs_cons (xg_nm (i := 7) sc_steps_fault.nd rfl (.inl rfl)) xgs_nil)))) xgs_nil)))) (fun _ => (xs_cons (xs_set (i := 8) sc_steps_fault.nd rfl (.inl rfl) (x_ix (x_ix (x_var 3 (pv 3)) (x_bin o_mod fits_mod (x_bin o_add fits_add (x_var 4 (pv 4)) x_int) (x_bi b_len fits_len (by rfl) M.len (by decide +kernel) (xa_cons (x_var 3 (pv 3)) xa_nil))) (fun _ _ => rfl)) x_int (fun _ _ => rfl)))
    (xs_cons (xs_if (TW.t (xw_or (xt_not (xt_tru (x_call D_is_under hF (hr.mono (by decide)) hgd (by rfl) lets_body (xa_cons (x_var 1 (pv 1)) (xa_cons (x_var 6 (pv 6)) xa_nil)) (cnt_cons (cnt_cons cnt_nil))))) (xw_or1 (xt_tru (x_call D_has_any hF (hr.mono (by decide)) hgd (by rfl) lets_body (xa_cons (x_var 6 (pv 6)) (xa_cons (x_tup (xa_cons (x_var 5 (pv 5)) (xa_cons (x_var 8 (pv 8)) xa_nil))) xa_nil)) (cnt_cons (cnt_cons cnt_nil))))))) (xs_one (xs_ret (x_tup (xa_cons x_str (xa_cons (x_var 4 (pv 4)) xa_nil))))) xs_nil)
    (xs_one (xs_if (xt_cmp o_notN fits_isN (x_call D_gains_fault hF (hr.mono (by decide)) hgd (by rfl) lets_body (xa_cons (x_var 0 (pv 0)) (xa_cons (x_var 2 (pv 2)) (xa_cons (x_var 6 (pv 6)) (xa_cons (x_var 7 (pv 7)) xa_nil)))) (cnt_cons (cnt_cons (cnt_cons (cnt_cons cnt_nil))))) x_non rfl) (xs_one (xs_ret (x_tup (xa_cons x_str (xa_cons (x_var 4 (pv 4)) xa_nil))))) xs_nil))))))
    (xs_one (xs_ret x_non))))
theorem d_steps_fault {P : Program} {w : World} {K : PySem.W.Frag} {mg : Str → Option Value} {base : Heap} {tabs : List (Addr × Str)} {h : Heap} (M : Bis mg) (X : K.In h) (G : h.Ns mainGlobals mg) (has : Has K "steps_fault" s_steps_fault) (D_gains_fault : DefX P w K mg base (fam tabs) (XVm mg) "gains_fault" s_gains_fault 3 ps_gains_fault (ofF 4 F_gains_fault)) (D_has_any : DefX P w K mg base (fam tabs) (XVm mg) "has_any" s_has_any 1 ps_has_any (ofF 2 F_has_any)) (D_is_under : DefX P w K mg base (fam tabs) (XVm mg) "is_under" s_is_under 2 ps_is_under (ofF 2 F_is_under)) : DefX P w K mg base (fam tabs) (XVm mg) "steps_fault" s_steps_fault 4 ps_steps_fault (ofF 4 F_steps_fault) :=
  defX_of X G has sc_steps_fault (fun hr hg hF => b_steps_fault M D_gains_fault D_has_any D_is_under hr hg hF) (fun _ _ _ _ _ _ us hl => match us, hl with | [_, _, _, _], _ => rfl)
end K33

namespace K33
open PySem PySem.Spec PyProof.Rows L2 PL
theorem b_bound_fault {P : Program} {w : World} {K : PySem.W.Frag} {mg : Str → Option Value} {base : Heap} {tabs : List (Addr × Str)} (M : Bis mg) (D_circle_fault : DefX P w K mg base (fam tabs) (XVm mg) "circle_fault" s_circle_fault 4 ps_circle_fault (ofF 2 F_circle_fault)) (D_far_fault : DefX P w K mg base (fam tabs) (XVm mg) "far_fault" s_far_fault 4 ps_far_fault (ofF 4 F_far_fault)) (D_is_tuple : DefX P w K mg base (fam tabs) (XVm mg) "is_tuple" s_is_tuple 1 ps_is_tuple (ofF 2 F_is_tuple)) (D_steps_fault : DefX P w K mg base (fam tabs) (XVm mg) "steps_fault" s_steps_fault 4 ps_steps_fault (ofF 4 F_steps_fault))
    {f : Addr} {cdv : Value} {A : Around} {outer : List Env} {s : Shared} {H Z : Hp} {E : XK} {Fo : Option Fd} (hr : Room 4 (A.deeper (envOfC "bound_fault" (defScope s_bound_fault) s.heap.objs.size f cdv))) (hgd : A.guards = some []) (hF : HasF (fam tabs) Fo) :
    Sts (bodyC P w K mg base (XVm mg) N_bound_fault "bound_fault" s_bound_fault f cdv A outer s H Z E Fo) (defBody s_bound_fault) (ofS XF_bound_fault) :=
  (show Sts _ _ (ofS ((xSeq (xIf (xAndB (xTru (xCall F_is_tuple (xCons (xVar 3) (xCons (xD (.int 2)) xNil)))) (xAndB (xT (xBin (pEq false) (xBin pIx (xVar 3) (xD (.int 0))) (xD (.str (Str.ofString "circle"))))) (xTru (xIs "tuple" (xBin pIx (xVar 3) (xD (.int 1))))))) (xRet (xOrT (xCall F_circle_fault (xCons (xVar 0) (xCons (xBin pIx (xVar 3) (xD (.int 1))) xNil))) (xCall F_steps_fault (xCons (xVar 0) (xCons (xVar 1) (xCons (xVar 2) (xCons (xBin pIx (xVar 3) (xD (.int 1))) xNil))))))) xNx)
    (xSeq (xIf (xAndB (xTru (xCall F_is_tuple (xCons (xVar 3) (xCons (xD (.int 6)) xNil)))) (xT (xBin (pEq false) (xBin pIx (xVar 3) (xD (.int 0))) (xD (.str (Str.ofString "far")))))) (xRet (xCall F_far_fault (xCons (xVar 0) (xCons (xVar 1) (xCons (xVar 2) (xCons (xSl (xVar 3) (xPart (xD (.int 1))) xNoPart) xNil)))))) xNx)
    (xRet (xTup (xCons (xD (.str (Str.ofString "shape"))) (xCons (xUn pNeg (xD (.int 1))) xNil)))))))) from (xs_cons (xs_if (TW.t (xw_and (xt_tru (x_call D_is_tuple hF (hr.mono (by decide)) hgd (by rfl) lets_body (xa_cons (x_var 3 (pv 3)) (xa_cons x_int xa_nil)) (cnt_cons (cnt_cons cnt_nil)))) (xw_and (xt_cmp (o_eq hr.units) fits_eq (x_ix (x_var 3 (pv 3)) x_int (fun _ _ => rfl)) x_str rfl) (xw_and1 (xt_tru (x_is (T := "tuple") (x_ix (x_var 3 (pv 3)) x_int (fun _ _ => rfl)) (by decide +kernel) (by rfl) M.isinstance (by rfl) M.tuple (by decide +kernel))))))) (xs_one (xs_ret (x_orT (x_call D_circle_fault hF (hr.mono (by decide)) hgd (by rfl) lets_body (xa_cons (x_var 0 (pv 0)) (xa_cons (x_ix (x_var 3 (pv 3)) x_int (fun _ _ => rfl)) xa_nil)) (cnt_cons (cnt_cons cnt_nil))) (x_one (x_call D_steps_fault hF (hr.mono (by decide)) hgd (by rfl) lets_body (xa_cons (x_var 0 (pv 0)) (xa_cons (x_var 1 (pv 1)) (xa_cons (x_var 2 (pv 2)) (xa_cons (x_ix (x_var 3 (pv 3)) x_int (fun _ _ => rfl)) xa_nil)))) (cnt_cons (cnt_cons (cnt_cons (cnt_cons cnt_nil))))))))) xs_nil)
    (xs_cons (xs_if (TW.t (xw_and (xt_tru (x_call D_is_tuple hF (hr.mono (by decide)) hgd (by rfl) lets_body (xa_cons (x_var 3 (pv 3)) (xa_cons x_int xa_nil)) (cnt_cons (cnt_cons cnt_nil)))) (xw_and1 (xt_cmp (o_eq hr.units) fits_eq (x_ix (x_var 3 (pv 3)) x_int (fun _ _ => rfl)) x_str rfl)))) (xs_one (xs_ret (x_call D_far_fault hF (hr.mono (by decide)) hgd (by rfl) lets_body (xa_cons (x_var 0 (pv 0)) (xa_cons (x_var 1 (pv 1)) (xa_cons (x_var 2 (pv 2)) (xa_cons (x_sl (x_var 3 (pv 3)) (xo_some x_int) xo_none) xa_nil)))) (cnt_cons (cnt_cons (cnt_cons (cnt_cons cnt_nil))))))) xs_nil)
    (xs_one (xs_ret (x_tup (xa_cons x_str (xa_cons (x_neg x_int) xa_nil))))))))
theorem d_bound_fault {P : Program} {w : World} {K : PySem.W.Frag} {mg : Str → Option Value} {base : Heap} {tabs : List (Addr × Str)} {h : Heap} (M : Bis mg) (X : K.In h) (G : h.Ns mainGlobals mg) (has : Has K "bound_fault" s_bound_fault) (D_circle_fault : DefX P w K mg base (fam tabs) (XVm mg) "circle_fault" s_circle_fault 4 ps_circle_fault (ofF 2 F_circle_fault)) (D_far_fault : DefX P w K mg base (fam tabs) (XVm mg) "far_fault" s_far_fault 4 ps_far_fault (ofF 4 F_far_fault)) (D_is_tuple : DefX P w K mg base (fam tabs) (XVm mg) "is_tuple" s_is_tuple 1 ps_is_tuple (ofF 2 F_is_tuple)) (D_steps_fault : DefX P w K mg base (fam tabs) (XVm mg) "steps_fault" s_steps_fault 4 ps_steps_fault (ofF 4 F_steps_fault)) : DefX P w K mg base (fam tabs) (XVm mg) "bound_fault" s_bound_fault 5 ps_bound_fault (ofF 4 F_bound_fault) :=
  defX_of X G has sc_bound_fault (fun hr hg hF => b_bound_fault M D_circle_fault D_far_fault D_is_tuple D_steps_fault hr hg hF) (fun _ _ _ _ _ _ us hl => match us, hl with | [_, _, _, _], _ => rfl)
end K33

namespace K33
open PySem PySem.Spec PyProof.Rows L2 PL
theorem b_mean_of {P : Program} {w : World} {K : PySem.W.Frag} {mg : Str → Option Value} {base : Heap} {tabs : List (Addr × Str)} (M : Bis mg) (D_greatest_of : DefX P w K mg base (fam tabs) (XVm mg) "greatest_of" s_greatest_of 2 ps_greatest_of (ofF 1 F_greatest_of)) (D_least_terms : DefX P w K mg base (fam tabs) (XVm mg) "least_terms" s_least_terms 1 ps_least_terms (ofF 2 F_least_terms)) (D_outside_of : DefX P w K mg base (fam tabs) (XVm mg) "outside_of" s_outside_of 1 ps_outside_of (ofF 2 F_outside_of))
    {f : Addr} {cdv : Value} {A : Around} {outer : List Env} {s : Shared} {H Z : Hp} {E : XK} {Fo : Option Fd} (hr : Room 2 (A.deeper (envOfC "mean_of" (defScope s_mean_of) s.heap.objs.size f cdv))) (hgd : A.guards = some []) (hF : HasF (fam tabs) Fo) :
    Sts (bodyC P w K mg base (XVm mg) N_mean_of "mean_of" s_mean_of f cdv A outer s H Z E Fo) (defBody s_mean_of) (ofS XF_mean_of) :=
  (show Sts _ _ (ofS ((xSeq (xOwn 2 (xLst xNil))
    (xSeq (xFor (xEnumS (xVar 1)) (xgTp 2 (xgCons (xgNm 3) (xgCons (xgTp 3 (xgCons (xgNm 4) (xgCons (xgNm 5) (xgCons (xgNm 6) xgNil)))) xgNil))) (xSeq (xSet 7 (xDictZ (xCons (xCall F_outside_of (xCons (xVar 0) (xCons (xVar 5) xNil))) (xCons (xVar 6) xNil))))
    (xApp 2 (xBin pSub (xGet (xVar 7) (xBin pIx (xBin pIx (xVar 1) (xBin pMod (xBin pAdd (xVar 3) (xD (.int 1))) (xBi pLen (xCons (xVar 1) xNil)))) (xD (.int 0)))) (xGet (xVar 7) (xVar 4))))))
    (xFrz 2 (xRet (xCall F_greatest_of (xCons (xIfE (xTru (xVar 2)) (xNew (xLst (xCons (xCall F_least_terms (xCons (xBi pSum (xCons (xVar 2) xNil)) (xCons (xBi pLen (xCons (xVar 2) xNil)) xNil))) xNil))) (xNew (xLst xNil))) xNil)))))))) from (xs_cons (xs_own (i := 2) sc_mean_of.nd rfl (.inl rfl) (xn_lst xa_nil))
    (xs_cons (xs_for (passes_of rfl) rfl (xi_enumS (by rfl) M.enumerate (x_var 1 (pv 1))) (fun _ => (xg_tup rfl (xgs_cons (xg_nm (i := 3) sc_mean_of.nd rfl (.inl rfl)) (xgs_cons (xg_tup rfl (xgs_cons (xg_nm (i := 4) sc_mean_of.nd rfl (.inl rfl)) (xgs_cons (xg_nm (i := 5) sc_mean_of.nd rfl (.inl rfl)) (xgs_cons (xg_nm (i := 6) sc_mean_of.nd rfl (.inl rfl)) xgs_nil)))) xgs_nil)))) (fun _ => (xs_cons (xs_set (i := 7) sc_mean_of.nd rfl (.inl rfl) (x_dictZ rfl (by rfl) M.dict (by rfl) M.zip (xa_cons (x_call D_outside_of hF (hr.mono (by decide)) hgd (by rfl) lets_body (xa_cons (x_var 0 (pv 0)) (xa_cons (x_var 5 (pv 5)) xa_nil)) (cnt_cons (cnt_cons cnt_nil))) (xa_cons (x_var 6 (pv 6)) xa_nil))))
    (xs_one (xs_app (pv 2) (x_bin o_sub fits_sub (x_get (hu_of hr) (x_var 7 (pv 7)) (x_ix (x_ix (x_var 1 (pv 1)) (x_bin o_mod fits_mod (x_bin o_add fits_add (x_var 3 (pv 3)) x_int) (x_bi b_len fits_len (by rfl) M.len (by decide +kernel) (xa_cons (x_var 1 (pv 1)) xa_nil))) (fun _ _ => rfl)) x_int (fun _ _ => rfl)) (fun _ _ => rfl)) (x_get (hu_of hr) (x_var 7 (pv 7)) (x_var 4 (pv 4)) (fun _ _ => rfl))))))))
    (xs_frz 2 (xs_one (xs_ret (x_call D_greatest_of hF (hr.mono (by decide)) hgd (by rfl) lets_body (xa_cons (x_if (xt_tru (x_var 2 (pv 2))) (x_new (xn_lst (xa_cons (x_call D_least_terms hF (hr.mono (by decide)) hgd (by rfl) lets_body (xa_cons (x_bi (b_sum rfl) fits_oOf (by rfl) M.sum (by decide +kernel) (xa_cons (x_var 2 (pv 2)) xa_nil)) (xa_cons (x_bi b_len fits_len (by rfl) M.len (by decide +kernel) (xa_cons (x_var 2 (pv 2)) xa_nil)) xa_nil)) (cnt_cons (cnt_cons cnt_nil))) xa_nil))) (x_new (xn_lst xa_nil))) xa_nil) (cnt_cons cnt_nil))))))))
theorem d_mean_of {P : Program} {w : World} {K : PySem.W.Frag} {mg : Str → Option Value} {base : Heap} {tabs : List (Addr × Str)} {h : Heap} (M : Bis mg) (X : K.In h) (G : h.Ns mainGlobals mg) (has : Has K "mean_of" s_mean_of) (D_greatest_of : DefX P w K mg base (fam tabs) (XVm mg) "greatest_of" s_greatest_of 2 ps_greatest_of (ofF 1 F_greatest_of)) (D_least_terms : DefX P w K mg base (fam tabs) (XVm mg) "least_terms" s_least_terms 1 ps_least_terms (ofF 2 F_least_terms)) (D_outside_of : DefX P w K mg base (fam tabs) (XVm mg) "outside_of" s_outside_of 1 ps_outside_of (ofF 2 F_outside_of)) : DefX P w K mg base (fam tabs) (XVm mg) "mean_of" s_mean_of 3 ps_mean_of (ofF 2 F_mean_of) :=
  defX_of X G has sc_mean_of (fun hr hg hF => b_mean_of M D_greatest_of D_least_terms D_outside_of hr hg hF) (fun _ _ _ _ _ _ us hl => match us, hl with | [_, _], _ => rfl)
end K33

namespace K33
open PySem PySem.Spec PyProof.Rows L2 PL
theorem b_lets_ring {P : Program} {w : World} {K : PySem.W.Frag} {mg : Str → Option Value} {base : Heap} {tabs : List (Addr × Str)} (M : Bis mg) (D_bound_fault : DefX P w K mg base (fam tabs) (XVm mg) "bound_fault" s_bound_fault 5 ps_bound_fault (ofF 4 F_bound_fault)) (D_mean_of : DefX P w K mg base (fam tabs) (XVm mg) "mean_of" s_mean_of 3 ps_mean_of (ofF 2 F_mean_of)) (D_refuse_asked : DefX P w K mg base (fam tabs) (XVm mg) "refuse_asked" s_refuse_asked 6 ps_refuse_asked (ofF 3 F_refuse_asked)) (D_refuse_paper : DefX P w K mg base (fam tabs) (XVm mg) "refuse_paper" s_refuse_paper 3 ps_refuse_paper (ofF 1 F_refuse_paper)) (D_refuse_quarrel : DefX P w K mg base (fam tabs) (XVm mg) "refuse_quarrel" s_refuse_quarrel 6 ps_refuse_quarrel (ofF 3 F_refuse_quarrel))
    {f : Addr} {cdv : Value} {A : Around} {outer : List Env} {s : Shared} {H Z : Hp} {E : XK} {Fo : Option Fd} (hr : Room 6 (A.deeper (envOfC "lets_ring" (defScope s_lets_ring) s.heap.objs.size f cdv))) (hgd : A.guards = some []) (hF : HasF (fam tabs) Fo) :
    Sts (bodyC P w K mg base (XVm mg) N_lets_ring "lets_ring" s_lets_ring f cdv A outer s H Z E Fo) (defBody s_lets_ring) (ofS XF_lets_ring) :=
  (show Sts _ _ (ofS ((xSeq (xDrop (xCall F_refuse_asked (xCons (xVar 0) (xCons (xVar 1) (xCons (xVar 2) xNil)))))
    (xSeq (xDrop (xCall F_refuse_quarrel (xCons (xVar 0) (xCons (xVar 1) (xCons (xVar 2) xNil)))))
    (xSeq (xDrop (xCall F_refuse_paper (xCons (xCall F_bound_fault (xCons (xVar 0) (xCons (xVar 1) (xCons (xVar 2) (xCons (xVar 3) xNil))))) xNil)))
    (xRet (xIfE (xT (xBin (pEq false) (xBin pIx (xVar 3) (xD (.int 0))) (xD (.str (Str.ofString "far"))))) (xD .none) (xCall F_mean_of (xCons (xVar 0) (xCons (xBin pIx (xVar 3) (xD (.int 1))) xNil)))))))))) from (xs_cons (xs_expr (x_call D_refuse_asked hF (hr.mono (by decide)) hgd (by rfl) lets_body (xa_cons (x_var 0 (pv 0)) (xa_cons (x_var 1 (pv 1)) (xa_cons (x_var 2 (pv 2)) xa_nil))) (cnt_cons (cnt_cons (cnt_cons cnt_nil)))))
    (xs_cons (xs_expr (x_call D_refuse_quarrel hF (hr.mono (by decide)) hgd (by rfl) lets_body (xa_cons (x_var 0 (pv 0)) (xa_cons (x_var 1 (pv 1)) (xa_cons (x_var 2 (pv 2)) xa_nil))) (cnt_cons (cnt_cons (cnt_cons cnt_nil)))))
    (xs_cons (xs_expr (x_call D_refuse_paper hF (hr.mono (by decide)) hgd (by rfl) lets_body (xa_cons (x_call D_bound_fault hF (hr.mono (by decide)) hgd (by rfl) lets_body (xa_cons (x_var 0 (pv 0)) (xa_cons (x_var 1 (pv 1)) (xa_cons (x_var 2 (pv 2)) (xa_cons (x_var 3 (pv 3)) xa_nil)))) (cnt_cons (cnt_cons (cnt_cons (cnt_cons cnt_nil))))) xa_nil) (cnt_cons cnt_nil)))
    (xs_one (xs_ret (x_if (xt_cmp (o_eq hr.units) fits_eq (x_ix (x_var 3 (pv 3)) x_int (fun _ _ => rfl)) x_str rfl) x_non (x_call D_mean_of hF (hr.mono (by decide)) hgd (by rfl) lets_body (xa_cons (x_var 0 (pv 0)) (xa_cons (x_ix (x_var 3 (pv 3)) x_int (fun _ _ => rfl)) xa_nil)) (cnt_cons (cnt_cons cnt_nil))))))))))
theorem d_lets_ring {P : Program} {w : World} {K : PySem.W.Frag} {mg : Str → Option Value} {base : Heap} {tabs : List (Addr × Str)} {h : Heap} (M : Bis mg) (X : K.In h) (G : h.Ns mainGlobals mg) (has : Has K "lets_ring" s_lets_ring) (D_bound_fault : DefX P w K mg base (fam tabs) (XVm mg) "bound_fault" s_bound_fault 5 ps_bound_fault (ofF 4 F_bound_fault)) (D_mean_of : DefX P w K mg base (fam tabs) (XVm mg) "mean_of" s_mean_of 3 ps_mean_of (ofF 2 F_mean_of)) (D_refuse_asked : DefX P w K mg base (fam tabs) (XVm mg) "refuse_asked" s_refuse_asked 6 ps_refuse_asked (ofF 3 F_refuse_asked)) (D_refuse_paper : DefX P w K mg base (fam tabs) (XVm mg) "refuse_paper" s_refuse_paper 3 ps_refuse_paper (ofF 1 F_refuse_paper)) (D_refuse_quarrel : DefX P w K mg base (fam tabs) (XVm mg) "refuse_quarrel" s_refuse_quarrel 6 ps_refuse_quarrel (ofF 3 F_refuse_quarrel)) : DefX P w K mg base (fam tabs) (XVm mg) "lets_ring" s_lets_ring 7 ps_lets_ring (ofF 4 F_lets_ring) :=
  defX_of X G has sc_lets_ring (fun hr hg hF => b_lets_ring M D_bound_fault D_mean_of D_refuse_asked D_refuse_paper D_refuse_quarrel hr hg hF) (fun _ _ _ _ _ _ us hl => match us, hl with | [_, _, _, _], _ => rfl)
end K33

namespace K33
open PySem PySem.Spec PyProof.Rows L2 PL
theorem b__law_same {P : Program} {w : World} {K : PySem.W.Frag} {mg : Str → Option Value} {base : Heap} {tabs : List (Addr × Str)} (M : Bis mg)
    {f : Addr} {cdv : Value} {A : Around} {outer : List Env} {s : Shared} {H Z : Hp} {E : XK} {Fo : Option Fd} (hr : Room 0 (A.deeper (envOfC "_law_same" (defScope s__law_same) s.heap.objs.size f cdv))) (hgd : A.guards = some []) (hF : HasF (fam tabs) Fo) :
    Sts (bodyC P w K mg base (XVm mg) N__law_same "_law_same" s__law_same f cdv A outer s H Z E Fo) (defBody s__law_same) (ofS XF__law_same) :=
  (show Sts _ _ (ofS ((xRet (xBin (pEq false) (xBi pRepr (xCons (xVar 0) xNil)) (xBi pRepr (xCons (xVar 1) xNil)))))) from (xs_one (xs_ret (x_cmp (o_eq hr.units) fits_eq (x_bi (b_repr hgd (u66 hr)) fits_repr (by rfl) M.repr (by decide +kernel) (xa_cons (x_var 0 (pv 0)) xa_nil)) (x_bi (b_repr hgd (u66 hr)) fits_repr (by rfl) M.repr (by decide +kernel) (xa_cons (x_var 1 (pv 1)) xa_nil)) rfl))))
theorem d__law_same {P : Program} {w : World} {K : PySem.W.Frag} {mg : Str → Option Value} {base : Heap} {tabs : List (Addr × Str)} {h : Heap} (M : Bis mg) (X : K.In h) (G : h.Ns mainGlobals mg) (has : Has K "_law_same" s__law_same) : DefX P w K mg base (fam tabs) (XVm mg) "_law_same" s__law_same 1 ps__law_same (ofF 2 F__law_same) :=
  defX_of X G has sc__law_same (fun hr hg hF => b__law_same M hr hg hF) (fun _ _ _ _ _ _ us hl => match us, hl with | [_, _], _ => rfl)
end K33

namespace K33
open PySem PySem.Spec PyProof.Rows L2 PL
theorem b__law_frac {P : Program} {w : World} {K : PySem.W.Frag} {mg : Str → Option Value} {base : Heap} {tabs : List (Addr × Str)} (M : Bis mg)
    {f : Addr} {cdv : Value} {A : Around} {outer : List Env} {s : Shared} {H Z : Hp} {E : XK} {Fo : Option Fd} (hr : Room 0 (A.deeper (envOfC "_law_frac" (defScope s__law_frac) s.heap.objs.size f cdv))) (hgd : A.guards = some []) (hF : HasF (fam tabs) Fo) :
    Sts (bodyC P w K mg base (XVm mg) N__law_frac "_law_frac" s__law_frac f cdv A outer s H Z E Fo) (defBody s__law_frac) (ofS XF__law_frac) :=
  (show Sts _ _ (ofS ((xSeq (xPar2 2 3 (xLent (xBi pAbs (xCons (xVar 0) xNil))) (xLent (xVar 1)))
    (xSeq (xWhile (xT (xBin pGt (xVar 3) (xD (.int 0)))) (xPar2 2 3 (xLent (xVar 3)) (xLent (xBin pMod (xBi pInt1 (xCons (xVar 2) xNil)) (xVar 3)))) 1000)
    (xRet (xTup (xCons (xBin pDiv (xVar 0) (xVar 2)) (xCons (xBin pDiv (xVar 1) (xVar 2)) xNil)))))))) from (xs_cons (xs_par2 (i := 2) (j := 3) rfl sc__law_frac.nd rfl rfl (by decide) rfl rfl (ef_lent (x_bi b_abs fits_abs (by rfl) M.abs (by decide +kernel) (xa_cons (x_var 0 (pv 0)) xa_nil))) (ef_lent (x_var 1 (pv 1))) (by rfl))
    (xs_cons (xs_while 1000 (passes_of rfl) (xt_cmp o_gt fits_gt (x_var 3 (pv 3)) x_int rfl) (xs_one (xs_par2 (i := 2) (j := 3) rfl sc__law_frac.nd rfl rfl (by decide) rfl rfl (ef_lent (x_var 3 (pv 3))) (ef_lent (x_bin o_mod fits_mod (x_ty b_int fits_int1 (by rfl) M.int (by decide +kernel) (xa_cons (x_var 2 (pv 2)) xa_nil)) (x_var 3 (pv 3)))) (by rfl))))
    (xs_one (xs_ret (x_tup (xa_cons (x_bin o_divW fits_div (x_var 0 (pv 0)) (x_var 2 (pv 2))) (xa_cons (x_bin o_divW fits_div (x_var 1 (pv 1)) (x_var 2 (pv 2))) xa_nil))))))))
theorem d__law_frac {P : Program} {w : World} {K : PySem.W.Frag} {mg : Str → Option Value} {base : Heap} {tabs : List (Addr × Str)} {h : Heap} (M : Bis mg) (X : K.In h) (G : h.Ns mainGlobals mg) (has : Has K "_law_frac" s__law_frac) : DefX P w K mg base (fam tabs) (XVm mg) "_law_frac" s__law_frac 1 ps__law_frac (ofF 2 F__law_frac) :=
  defX_of X G has sc__law_frac (fun hr hg hF => b__law_frac M hr hg hF) (fun _ _ _ _ _ _ us hl => match us, hl with | [_, _], _ => rfl)
end K33

namespace K33
open PySem PySem.Spec PyProof.Rows L2 PL
theorem b__law_feared {P : Program} {w : World} {K : PySem.W.Frag} {mg : Str → Option Value} {base : Heap} {tabs : List (Addr × Str)} (M : Bis mg)
    {f : Addr} {cdv : Value} {A : Around} {outer : List Env} {s : Shared} {H Z : Hp} {E : XK} {Fo : Option Fd} (hr : Room 0 (A.deeper (envOfC "_law_feared" (defScope s__law_feared) s.heap.objs.size f cdv))) (hgd : A.guards = some []) (hF : HasF (fam tabs) Fo) :
    Sts (bodyC P w K mg base (XVm mg) N__law_feared "_law_feared" s__law_feared f cdv A outer s H Z E Fo) (defBody s__law_feared) (ofS XF__law_feared) :=
  (show Sts _ _ (ofS ((xSeq (xSet 1 (xNew (xLst (xCons (xTup xNil) xNil))))
    (xSeq (xFor (xIt (xVar 0)) (xgNm 2) (xSeq (xSet 3 (xNew (xLst (xCons (xTup xNil) xNil))))
    (xSeq (xFor (xIt (xVar 2)) (xgNm 4) (xSet 3 (xBin pAdd (xVar 3) (xNew (xLc [5] [5] sel1 (xIt (xVar 3)) xYes (xBin pAdd (xVar 5) (xTup (xCons (xVar 4) xNil))))))))
    (xSet 1 (xBin pAdd (xVar 1) (xNew (xLc [6] [6] sel1 (xIt (xVar 3)) (xT (xBin (pIn true) (xVar 6) (xVar 1))) (xVar 6))))))))
    (xRet (xSrtTT (xVar 1))))))) from (xs_cons (xs_set (i := 1) sc__law_feared.nd rfl (.inr rfl) (x_new (xn_lst (xa_cons (x_tup xa_nil) xa_nil))))
    (xs_cons (xs_for (passes_of rfl) rfl (xi_any (x_var 0 (pv 0))) (fun _ => (xg_nm (i := 2) sc__law_feared.nd rfl (.inl rfl))) (fun _ => (xs_cons (xs_set (i := 3) sc__law_feared.nd rfl (.inl rfl) (x_new (xn_lst (xa_cons (x_tup xa_nil) xa_nil))))
    (xs_cons (xs_for (passes_of rfl) rfl (xi_any (x_var 2 (pv 2))) (fun _ => (xg_nm (i := 4) sc__law_feared.nd rfl (.inr rfl))) (fun _ => (xs_one (xs_set (i := 3) sc__law_feared.nd rfl (.inl rfl) (x_bin o_add fits_add (x_var 3 (pv 3)) (x_new (n_weak (n_lc rfl sc__law_feared.nd (xi_any (x_var 3 (pv 3))) (blkOk_by (own := [("_law_early", 5)]) (N := N__law_feared) (sc := defScope s__law_feared) (by decide +kernel)) (tg_name 5) (by decide) (fun _ _ _ _ _ => (pg_name (i := 5) sc__law_feared.nd rfl (Or.inl rfl))) (fun _ _ _ _ _ => (xts_nil)) (fun _ _ _ _ _ => (x_bin o_add fits_add (x_var 5 (pv 5)) (x_tup (xa_cons (x_var 4 (pv 4)) xa_nil))))) xLc_of)))))))
    (xs_one (xs_set (i := 1) sc__law_feared.nd rfl (.inr rfl) (x_bin o_add fits_add (x_var 1 (pv 1)) (x_new (n_weak (n_lc rfl sc__law_feared.nd (xi_any (x_var 3 (pv 3))) (blkOk_by (own := [("_law_part", 6)]) (N := N__law_feared) (sc := defScope s__law_feared) (by decide +kernel)) (tg_name 6) (by decide) (fun _ _ _ _ _ => (pg_name (i := 6) sc__law_feared.nd rfl (Or.inl rfl))) (fun _ _ _ _ _ => (ts_one (xt_cmp (o_notIn (Nat.lt_of_succ_lt (u66 hr))) fits_in (x_var 6 (pv 6)) (x_var 1 (pv 1)) rfl))) (fun _ _ _ _ _ => (x_var 6 (pv 6)))) xLc_of)))))))))
    (xs_one (xs_ret (x_srtTT hr.units (by rfl) M.sorted (x_var 1 (pv 1))))))))
theorem d__law_feared {P : Program} {w : World} {K : PySem.W.Frag} {mg : Str → Option Value} {base : Heap} {tabs : List (Addr × Str)} {h : Heap} (M : Bis mg) (X : K.In h) (G : h.Ns mainGlobals mg) (has : Has K "_law_feared" s__law_feared) : DefX P w K mg base (fam tabs) (XVm mg) "_law_feared" s__law_feared 1 ps__law_feared (ofF 1 F__law_feared) :=
  defX_of X G has sc__law_feared (fun hr hg hF => b__law_feared M hr hg hF) (fun _ _ _ _ _ _ us hl => match us, hl with | [_], _ => rfl)
end K33

namespace K33
open PySem PySem.Spec PyProof.Rows L2 PL
theorem b__law_wires {P : Program} {w : World} {K : PySem.W.Frag} {mg : Str → Option Value} {base : Heap} {tabs : List (Addr × Str)} (M : Bis mg)
    {f : Addr} {cdv : Value} {A : Around} {outer : List Env} {s : Shared} {H Z : Hp} {E : XK} {Fo : Option Fd} (hr : Room 0 (A.deeper (envOfC "_law_wires" (defScope s__law_wires) s.heap.objs.size f cdv))) (hgd : A.guards = some []) (hF : HasF (fam tabs) Fo) :
    Sts (bodyC P w K mg base (XVm mg) N__law_wires "_law_wires" s__law_wires f cdv A outer s H Z E Fo) (defBody s__law_wires) (ofS XF__law_wires) :=
  (show Sts _ _ (ofS ((xSeq (xNewT 1)
    (xSeq (xFor (xIt (xBin pIx (xVar 0) (xD (.int 1)))) (xgTp 4 (xgCons (xgNm 2) (xgCons (xgNm 3) (xgCons (xgNm 4) (xgCons (xgNm 5) xgNil))))) (xSeq (xPut 1 (xTup (xCons (xVar 2) (xCons (xVar 3) xNil))) (xTup (xCons (xVar 4) (xCons (xVar 5) xNil))))
    (xPut 1 (xTup (xCons (xVar 3) (xCons (xVar 2) xNil))) (xTup (xCons (xVar 4) (xCons (xVar 5) xNil))))))
    (xRet (xVar 1)))))) from (xs_cons (xs_newT (i := 1) sc__law_wires.nd rfl (.inl rfl))
    (xs_cons (xs_for (passes_of rfl) rfl (xi_any (x_ix (x_var 0 (pv 0)) x_int (fun _ _ => rfl))) (fun _ => (xg_tup rfl (xgs_cons (xg_nm (i := 2) sc__law_wires.nd rfl (.inl rfl)) (xgs_cons (xg_nm (i := 3) sc__law_wires.nd rfl (.inl rfl)) (xgs_cons (xg_nm (i := 4) sc__law_wires.nd rfl (.inl rfl)) (xgs_cons (xg_nm (i := 5) sc__law_wires.nd rfl (.inl rfl)) xgs_nil)))))) (fun _ => (xs_cons (xs_put (hu_of hr) (pv 1) (x_tup (xa_cons (x_var 2 (pv 2)) (xa_cons (x_var 3 (pv 3)) xa_nil))) (x_tup (xa_cons (x_var 4 (pv 4)) (xa_cons (x_var 5 (pv 5)) xa_nil))))
    (xs_one (xs_put (hu_of hr) (pv 1) (x_tup (xa_cons (x_var 3 (pv 3)) (xa_cons (x_var 2 (pv 2)) xa_nil))) (x_tup (xa_cons (x_var 4 (pv 4)) (xa_cons (x_var 5 (pv 5)) xa_nil))))))))
    (xs_one (xs_ret (x_var 1 (pv 1)))))))
theorem d__law_wires {P : Program} {w : World} {K : PySem.W.Frag} {mg : Str → Option Value} {base : Heap} {tabs : List (Addr × Str)} {h : Heap} (M : Bis mg) (X : K.In h) (G : h.Ns mainGlobals mg) (has : Has K "_law_wires" s__law_wires) : DefX P w K mg base (fam tabs) (XVm mg) "_law_wires" s__law_wires 1 ps__law_wires (ofF 1 F__law_wires) :=
  defX_of X G has sc__law_wires (fun hr hg hF => b__law_wires M hr hg hF) (fun _ _ _ _ _ _ us hl => match us, hl with | [_], _ => rfl)
end K33

namespace K33
open PySem PySem.Spec PyProof.Rows L2 PL
theorem b__law_is_integer {P : Program} {w : World} {K : PySem.W.Frag} {mg : Str → Option Value} {base : Heap} {tabs : List (Addr × Str)} (M : Bis mg)
    {f : Addr} {cdv : Value} {A : Around} {outer : List Env} {s : Shared} {H Z : Hp} {E : XK} {Fo : Option Fd} (hr : Room 0 (A.deeper (envOfC "_law_is_integer" (defScope s__law_is_integer) s.heap.objs.size f cdv))) (hgd : A.guards = some []) (hF : HasF (fam tabs) Fo) :
    Sts (bodyC P w K mg base (XVm mg) N__law_is_integer "_law_is_integer" s__law_is_integer f cdv A outer s H Z E Fo) (defBody s__law_is_integer) (ofS XF__law_is_integer) :=
  (show Sts _ _ (ofS ((xRet (xAnd (xIs "int" (xVar 0)) (xNot (xIs "bool" (xVar 0))))))) from (xs_one (xs_ret (x_and (x_is (T := "int") (x_var 0 (pv 0)) (by decide +kernel) (by rfl) M.isinstance (by rfl) M.int (by decide +kernel)) (x_one (x_not (x_is (T := "bool") (x_var 0 (pv 0)) (by decide +kernel) (by rfl) M.isinstance (by rfl) M.bool (by decide +kernel))))))))
theorem d__law_is_integer {P : Program} {w : World} {K : PySem.W.Frag} {mg : Str → Option Value} {base : Heap} {tabs : List (Addr × Str)} {h : Heap} (M : Bis mg) (X : K.In h) (G : h.Ns mainGlobals mg) (has : Has K "_law_is_integer" s__law_is_integer) : DefX P w K mg base (fam tabs) (XVm mg) "_law_is_integer" s__law_is_integer 1 ps__law_is_integer (ofF 1 F__law_is_integer) :=
  defX_of X G has sc__law_is_integer (fun hr hg hF => b__law_is_integer M hr hg hF) (fun _ _ _ _ _ _ us hl => match us, hl with | [_], _ => rfl)
end K33

namespace K33
open PySem PySem.Spec PyProof.Rows L2 PL
theorem b__law_is_lot {P : Program} {w : World} {K : PySem.W.Frag} {mg : Str → Option Value} {base : Heap} {tabs : List (Addr × Str)} (M : Bis mg)
    {f : Addr} {cdv : Value} {A : Around} {outer : List Env} {s : Shared} {H Z : Hp} {E : XK} {Fo : Option Fd} (hr : Room 0 (A.deeper (envOfC "_law_is_lot" (defScope s__law_is_lot) s.heap.objs.size f cdv))) (hgd : A.guards = some []) (hF : HasF (fam tabs) Fo) :
    Sts (bodyC P w K mg base (XVm mg) N__law_is_lot "_law_is_lot" s__law_is_lot f cdv A outer s H Z E Fo) (defBody s__law_is_lot) (ofS XF__law_is_lot) :=
  (show Sts _ _ (ofS ((xSeq (xIf (xNotB (xTru (xIs "tuple" (xVar 1)))) (xRet (xD (.bool false))) xNx)
    (xSeq (xSet 2 (xNew (xLc [3] [3] sel1 (xIt (xVar 1)) (xOrB (xNotB (xTru (xIs "str" (xVar 3)))) (xT (xBin (pIn true) (xVar 3) (xBin pIx (xVar 0) (xD (.int 0)))))) (xVar 3))))
    (xRet (xAnd (xBin (pEq false) (xVar 2) (xNew (xLst xNil))) (xBin (pEq false) (xBi pList (xCons (xVar 1) xNil)) (xSrtSetT (xVar 1))))))))) from (xs_cons (xs_if (xt_not (xt_tru (x_is (T := "tuple") (x_var 1 (pv 1)) (by decide +kernel) (by rfl) M.isinstance (by rfl) M.tuple (by decide +kernel)))) (xs_one (xs_ret x_bl)) xs_nil)
    (xs_cons (s_weak (s_lcSet (i := 2) rfl sc__law_is_lot.nd rfl rfl (sw_true rfl rfl rfl (by decide +kernel)) (xi_any (x_var 1 (pv 1))) (blkOk_by (own := [("_law_name", 3)]) (N := N__law_is_lot) (sc := defScope s__law_is_lot) (by decide +kernel)) (tg_name 3) (by decide) (fun _ _ _ _ _ => (pg_name (i := 3) sc__law_is_lot.nd rfl (Or.inl rfl))) (fun _ _ _ _ _ => (ts_one (TW.t (xw_or (xt_not (xt_tru (x_is (T := "str") (x_var 3 (pv 3)) (by decide +kernel) (by rfl) M.isinstance (by rfl) M.str (by decide +kernel)))) (xw_or1 (xt_cmp (o_notIn (Nat.lt_of_succ_lt (u66 hr))) fits_in (x_var 3 (pv 3)) (x_ix (x_var 0 (pv 0)) x_int (fun _ _ => rfl)) rfl)))))) (fun _ _ _ _ _ => (x_var 3 (pv 3)))) xLcSet_of)
    (xs_one (xs_ret (x_and (x_cmp (o_eq hr.units) fits_eq (x_var 2 (pv 2)) (x_new (xn_lst xa_nil)) rfl) (x_one (x_cmp (o_eq hr.units) fits_eq (x_ty b_list fits_list (by rfl) M.list (by decide +kernel) (xa_cons (x_var 1 (pv 1)) xa_nil)) (x_srtSetT rfl hr.units (by rfl) M.sorted (by rfl) M.set (x_var 1 (pv 1))) rfl))))))))
theorem d__law_is_lot {P : Program} {w : World} {K : PySem.W.Frag} {mg : Str → Option Value} {base : Heap} {tabs : List (Addr × Str)} {h : Heap} (M : Bis mg) (X : K.In h) (G : h.Ns mainGlobals mg) (has : Has K "_law_is_lot" s__law_is_lot) : DefX P w K mg base (fam tabs) (XVm mg) "_law_is_lot" s__law_is_lot 1 ps__law_is_lot (ofF 2 F__law_is_lot) :=
  defX_of X G has sc__law_is_lot (fun hr hg hF => b__law_is_lot M hr hg hF) (fun _ _ _ _ _ _ us hl => match us, hl with | [_, _], _ => rfl)
end K33

namespace K33
open PySem PySem.Spec PyProof.Rows L2 PL
theorem b__law_do_fit {P : Program} {w : World} {K : PySem.W.Frag} {mg : Str → Option Value} {base : Heap} {tabs : List (Addr × Str)} (M : Bis mg) (D__law_is_integer : DefX P w K mg base (fam tabs) (XVm mg) "_law_is_integer" s__law_is_integer 1 ps__law_is_integer (ofF 1 F__law_is_integer)) (D__law_wires : DefX P w K mg base (fam tabs) (XVm mg) "_law_wires" s__law_wires 1 ps__law_wires (ofF 1 F__law_wires))
    {f : Addr} {cdv : Value} {A : Around} {outer : List Env} {s : Shared} {H Z : Hp} {E : XK} {Fo : Option Fd} (hr : Room 1 (A.deeper (envOfC "_law_do_fit" (defScope s__law_do_fit) s.heap.objs.size f cdv))) (hgd : A.guards = some []) (hF : HasF (fam tabs) Fo) :
    Sts (bodyC P w K mg base (XVm mg) N__law_do_fit "_law_do_fit" s__law_do_fit f cdv A outer s H Z E Fo) (defBody s__law_do_fit) (ofS XF__law_do_fit) :=
  (show Sts _ _ (ofS ((xSeq (xPar2 4 5 (xLent (xNew (xLc [6] [6] sel1 (xIt (xBin pIx (xVar 0) (xD (.int 0)))) (xT (xBin (pIn true) (xVar 6) (xVar 2))) (xVar 6)))) (xLent (xCall F__law_wires (xCons (xVar 0) xNil))))
    (xSeq (xIf (xOrB (xNotB (xTru (xIs "tuple" (xVar 3)))) (xT (xBin (pEq true) (xBi pLen (xCons (xVar 3) xNil)) (xBi pLen (xCons (xVar 4) xNil))))) (xRet (xD (.bool false))) xNx)
    (xSeq (xIf (xT (xBin (pEq true) (xNew (xLc [7] [7] sel1 (xIt (xVar 3)) (xNotB (xTru (xCall F__law_is_integer (xCons (xVar 7) xNil)))) (xVar 7))) (xNew (xLst xNil)))) (xRet (xD (.bool false))) xNx)
    (xSeq (xSet 8 (xBi pDictP (xCons (xNew (xLc [9, 6] [9, 6] (selT 2) (xEnumS (xVar 4)) xYes (xTup (xCons (xVar 6) (xCons (xBin pIx (xVar 3) (xVar 9)) xNil))))) xNil)))
    (xSeq (xFor (xIt (xVar 1)) (xgTp 4 (xgCons (xgNm 10) (xgCons (xgNm 11) (xgCons (xgNm 12) (xgCons (xgNm 13) xgNil))))) (xIf (xAndB (xT (xBin (pInD false) (xVar 10) (xVar 8))) (xT (xBin (pInD false) (xVar 11) (xVar 8)))) (xSeq (xAsg (xGet (xVar 5) (xTup (xCons (xVar 10) (xCons (xVar 11) xNil)))) (xgTp 2 (xgCons (xgNm 14) (xgCons (xgNm 15) xgNil))))
    (xSeq (xSet 16 (xBin pSub (xBin pAdd (xBin pSub (xVar 13) (xVar 12)) (xGet (xVar 8) (xVar 10))) (xGet (xVar 8) (xVar 11))))
    (xIf (xOrB (xT (xBin pLt (xVar 16) (xVar 14))) (xT (xBin pGt (xVar 16) (xVar 15)))) (xRet (xD (.bool false))) xNx))) xNx))
    (xRet (xD (.bool true)))))))))) from (xs_cons (xs_par2 (i := 4) (j := 5) rfl sc__law_do_fit.nd rfl rfl (by decide) rfl rfl (ef_lent (x_new (n_weak (n_lc rfl sc__law_do_fit.nd (xi_any (x_ix (x_var 0 (pv 0)) x_int (fun _ _ => rfl))) (blkOk_by (own := [("_law_name", 6)]) (N := N__law_do_fit) (sc := defScope s__law_do_fit) (by decide +kernel)) (tg_name 6) (by decide) (fun _ _ _ _ _ => (pg_name (i := 6) sc__law_do_fit.nd rfl (Or.inl rfl))) (fun _ _ _ _ _ => (ts_one (xt_cmp (o_notIn (Nat.lt_of_succ_lt (u66 hr))) fits_in (x_var 6 (pv 6)) (x_var 2 (pv 2)) rfl))) (fun _ _ _ _ _ => (x_var 6 (pv 6)))) xLc_of))) (ef_lent (x_call D__law_wires hF (hr.mono (by decide)) hgd (by rfl) lets_body (xa_cons (x_var 0 (pv 0)) xa_nil) (cnt_cons cnt_nil))) (by rfl))
    (xs_cons (xs_if (TW.t (xw_or (xt_not (xt_tru (x_is (T := "tuple") (x_var 3 (pv 3)) (by decide +kernel) (by rfl) M.isinstance (by rfl) M.tuple (by decide +kernel)))) (xw_or1 (xt_cmp (o_ne hr.units) fits_eq (x_bi b_len fits_len (by rfl) M.len (by decide +kernel) (xa_cons (x_var 3 (pv 3)) xa_nil)) (x_bi b_len fits_len (by rfl) M.len (by decide +kernel) (xa_cons (x_var 4 (pv 4)) xa_nil)) rfl)))) (xs_one (xs_ret x_bl)) xs_nil)
    (xs_cons (xs_if (xt_cmp (o_ne hr.units) fits_eq (x_new (n_weak (n_lc rfl sc__law_do_fit.nd (xi_any (x_var 3 (pv 3))) (blkOk_by (own := [("_law_much", 7)]) (N := N__law_do_fit) (sc := defScope s__law_do_fit) (by decide +kernel)) (tg_name 7) (by decide) (fun _ _ _ _ _ => (pg_name (i := 7) sc__law_do_fit.nd rfl (Or.inl rfl))) (fun _ _ _ _ _ => (ts_one (xt_not (xt_tru (x_call D__law_is_integer hF (hr.mono (by decide)) hgd (by rfl) lets_blk (xa_cons (x_var 7 (pv 7)) xa_nil) (cnt_cons cnt_nil)))))) (fun _ _ _ _ _ => (x_var 7 (pv 7)))) xLc_of)) (x_new (xn_lst xa_nil)) rfl) (xs_one (xs_ret x_bl)) xs_nil)
    (xs_cons (xs_set (i := 8) sc__law_do_fit.nd rfl (.inl rfl) (x_ty (b_dictP rfl) fits_dictP (by rfl) M.dict (by decide +kernel) (xa_cons (x_new (n_weak (n_lc rfl sc__law_do_fit.nd (xi_enumS (by rfl) M.enumerate (x_var 4 (pv 4))) (blkOk_by (own := [("_law_k", 9), ("_law_name", 6)]) (N := N__law_do_fit) (sc := defScope s__law_do_fit) (by decide +kernel)) (tg_tup [9, 6] 2 rfl) (by decide) (fun _ _ _ _ _ => (pg_tup rfl (pgs_cons (pg_name (i := 9) sc__law_do_fit.nd rfl (Or.inl rfl)) (pgs_cons (pg_name (i := 6) sc__law_do_fit.nd rfl (Or.inl rfl)) pgs_nil)))) (fun _ _ _ _ _ => (xts_nil)) (fun _ _ _ _ _ => (x_tup (xa_cons (x_var 6 (pv 6)) (xa_cons (x_ix (x_var 3 (pv 3)) (x_var 9 (pv 9)) (fun _ _ => rfl)) xa_nil))))) xLc_of)) xa_nil)))
    (xs_cons (xs_for (passes_of rfl) rfl (xi_any (x_var 1 (pv 1))) (fun _ => (xg_tup rfl (xgs_cons (xg_nm (i := 10) sc__law_do_fit.nd rfl (.inl rfl)) (xgs_cons (xg_nm (i := 11) sc__law_do_fit.nd rfl (.inl rfl)) (xgs_cons (xg_nm (i := 12) sc__law_do_fit.nd rfl (.inl rfl)) (xgs_cons (xg_nm (i := 13) sc__law_do_fit.nd rfl (.inl rfl)) xgs_nil)))))) (fun _ => (xs_one (xs_if (TW.t (xw_and (xt_inD (hu_of hr) (x_var 10 (pv 10)) (x_var 8 (pv 8)) rfl) (xw_and1 (xt_inD (hu_of hr) (x_var 11 (pv 11)) (x_var 8 (pv 8)) rfl)))) (xs_cons (xs_asg (x_get (hu_of hr) (x_var 5 (pv 5)) (x_tup (xa_cons (x_var 10 (pv 10)) (xa_cons (x_var 11 (pv 11)) xa_nil))) (fun _ _ => rfl)) (xg_tup rfl (xgs_cons (xg_nm (i := 14) sc__law_do_fit.nd rfl (.inl rfl)) (xgs_cons (xg_nm (i := 15) sc__law_do_fit.nd rfl (.inl rfl)) xgs_nil))))
    (xs_cons (xs_set (i := 16) sc__law_do_fit.nd rfl (.inl rfl) (x_bin o_sub fits_sub (x_bin o_add fits_add (x_bin o_sub fits_sub (x_var 13 (pv 13)) (x_var 12 (pv 12))) (x_get (hu_of hr) (x_var 8 (pv 8)) (x_var 10 (pv 10)) (fun _ _ => rfl))) (x_get (hu_of hr) (x_var 8 (pv 8)) (x_var 11 (pv 11)) (fun _ _ => rfl))))
    (xs_one (xs_if (TW.t (xw_or (xt_cmp o_lt fits_lt (x_var 16 (pv 16)) (x_var 14 (pv 14)) rfl) (xw_or1 (xt_cmp o_gt fits_gt (x_var 16 (pv 16)) (x_var 15 (pv 15)) rfl)))) (xs_one (xs_ret x_bl)) xs_nil)))) xs_nil))))
    (xs_one (xs_ret x_bl))))))))
theorem d__law_do_fit {P : Program} {w : World} {K : PySem.W.Frag} {mg : Str → Option Value} {base : Heap} {tabs : List (Addr × Str)} {h : Heap} (M : Bis mg) (X : K.In h) (G : h.Ns mainGlobals mg) (has : Has K "_law_do_fit" s__law_do_fit) (D__law_is_integer : DefX P w K mg base (fam tabs) (XVm mg) "_law_is_integer" s__law_is_integer 1 ps__law_is_integer (ofF 1 F__law_is_integer)) (D__law_wires : DefX P w K mg base (fam tabs) (XVm mg) "_law_wires" s__law_wires 1 ps__law_wires (ofF 1 F__law_wires)) : DefX P w K mg base (fam tabs) (XVm mg) "_law_do_fit" s__law_do_fit 2 ps__law_do_fit (ofF 4 F__law_do_fit) :=
  defX_of X G has sc__law_do_fit (fun hr hg hF => b__law_do_fit M D__law_is_integer D__law_wires hr hg hF) (fun _ _ _ _ _ _ us hl => match us, hl with | [_, _, _, _], _ => rfl)
end K33

namespace K33
open PySem PySem.Spec PyProof.Rows L2 PL
theorem b__law_told_by {P : Program} {w : World} {K : PySem.W.Frag} {mg : Str → Option Value} {base : Heap} {tabs : List (Addr × Str)} (M : Bis mg)
    {f : Addr} {cdv : Value} {A : Around} {outer : List Env} {s : Shared} {H Z : Hp} {E : XK} {Fo : Option Fd} (hr : Room 0 (A.deeper (envOfC "_law_told_by" (defScope s__law_told_by) s.heap.objs.size f cdv))) (hgd : A.guards = some []) (hF : HasF (fam tabs) Fo) :
    Sts (bodyC P w K mg base (XVm mg) N__law_told_by "_law_told_by" s__law_told_by f cdv A outer s H Z E Fo) (defBody s__law_told_by) (ofS XF__law_told_by) :=
  (show Sts _ _ (ofS ((xSeq (xSet 5 (xNew (xLc [6] [6] sel1 (xIt (xBin pIx (xVar 0) (xD (.int 0)))) (xT (xBin (pIn true) (xVar 6) (xVar 1))) (xVar 6))))
    (xRet (xBin pSub (xBin pIx (xVar 2) (xIdx (xVar 5) (xVar 4))) (xBin pIx (xVar 2) (xIdx (xVar 5) (xVar 3)))))))) from (xs_cons (s_weak (s_lcSet (i := 5) rfl sc__law_told_by.nd rfl rfl (sw_true rfl rfl rfl (by decide +kernel)) (xi_any (x_ix (x_var 0 (pv 0)) x_int (fun _ _ => rfl))) (blkOk_by (own := [("_law_name", 6)]) (N := N__law_told_by) (sc := defScope s__law_told_by) (by decide +kernel)) (tg_name 6) (by decide) (fun _ _ _ _ _ => (pg_name (i := 6) sc__law_told_by.nd rfl (Or.inl rfl))) (fun _ _ _ _ _ => (ts_one (xt_cmp (o_notIn (Nat.lt_of_succ_lt (u66 hr))) fits_in (x_var 6 (pv 6)) (x_var 1 (pv 1)) rfl))) (fun _ _ _ _ _ => (x_var 6 (pv 6)))) xLcSet_of)
    (xs_one (xs_ret (x_bin o_sub fits_sub (x_ix (x_var 2 (pv 2)) (x_idx (Nat.lt_of_succ_lt (u66 hr)) (x_var 5 (pv 5)) (x_var 4 (pv 4))) (fun _ _ => rfl)) (x_ix (x_var 2 (pv 2)) (x_idx (Nat.lt_of_succ_lt (u66 hr)) (x_var 5 (pv 5)) (x_var 3 (pv 3))) (fun _ _ => rfl)))))))
theorem d__law_told_by {P : Program} {w : World} {K : PySem.W.Frag} {mg : Str → Option Value} {base : Heap} {tabs : List (Addr × Str)} {h : Heap} (M : Bis mg) (X : K.In h) (G : h.Ns mainGlobals mg) (has : Has K "_law_told_by" s__law_told_by) : DefX P w K mg base (fam tabs) (XVm mg) "_law_told_by" s__law_told_by 1 ps__law_told_by (ofF 5 F__law_told_by) :=
  defX_of X G has sc__law_told_by (fun hr hg hF => b__law_told_by M hr hg hF) (fun _ _ _ _ _ _ us hl => match us, hl with | [_, _, _, _, _], _ => rfl)
end K33

namespace K33
open PySem PySem.Spec PyProof.Rows L2 PL
theorem b__law_is_good_lot {P : Program} {w : World} {K : PySem.W.Frag} {mg : Str → Option Value} {base : Heap} {tabs : List (Addr × Str)} (M : Bis mg) (D__law_feared : DefX P w K mg base (fam tabs) (XVm mg) "_law_feared" s__law_feared 1 ps__law_feared (ofF 1 F__law_feared))
    {f : Addr} {cdv : Value} {A : Around} {outer : List Env} {s : Shared} {H Z : Hp} {E : XK} {Fo : Option Fd} (hr : Room 1 (A.deeper (envOfC "_law_is_good_lot" (defScope s__law_is_good_lot) s.heap.objs.size f cdv))) (hgd : A.guards = some []) (hF : HasF (fam tabs) Fo) :
    Sts (bodyC P w K mg base (XVm mg) N__law_is_good_lot "_law_is_good_lot" s__law_is_good_lot f cdv A outer s H Z E Fo) (defBody s__law_is_good_lot) (ofS XF__law_is_good_lot) :=
  (show Sts _ _ (ofS ((xRet (xAnd (xBin (pIn false) (xVar 1) (xCall F__law_feared (xCons (xVar 0) xNil))) (xAnd (xBin (pIn true) (xVar 2) (xVar 1)) (xBin (pIn true) (xVar 3) (xVar 1))))))) from (xs_one (xs_ret (x_and (x_cmp (o_in (Nat.lt_of_succ_lt (u66 hr))) fits_in (x_var 1 (pv 1)) (x_call D__law_feared hF (hr.mono (by decide)) hgd (by rfl) lets_body (xa_cons (x_var 0 (pv 0)) xa_nil) (cnt_cons cnt_nil)) rfl) (x_and (x_cmp (o_notIn (Nat.lt_of_succ_lt (u66 hr))) fits_in (x_var 2 (pv 2)) (x_var 1 (pv 1)) rfl) (x_one (x_cmp (o_notIn (Nat.lt_of_succ_lt (u66 hr))) fits_in (x_var 3 (pv 3)) (x_var 1 (pv 1)) rfl)))))))
theorem d__law_is_good_lot {P : Program} {w : World} {K : PySem.W.Frag} {mg : Str → Option Value} {base : Heap} {tabs : List (Addr × Str)} {h : Heap} (M : Bis mg) (X : K.In h) (G : h.Ns mainGlobals mg) (has : Has K "_law_is_good_lot" s__law_is_good_lot) (D__law_feared : DefX P w K mg base (fam tabs) (XVm mg) "_law_feared" s__law_feared 1 ps__law_feared (ofF 1 F__law_feared)) : DefX P w K mg base (fam tabs) (XVm mg) "_law_is_good_lot" s__law_is_good_lot 2 ps__law_is_good_lot (ofF 4 F__law_is_good_lot) :=
  defX_of X G has sc__law_is_good_lot (fun hr hg hF => b__law_is_good_lot M D__law_feared hr hg hF) (fun _ _ _ _ _ _ us hl => match us, hl with | [_, _, _, _], _ => rfl)
end K33

namespace K33
open PySem PySem.Spec PyProof.Rows L2 PL
theorem b__law_circle_due {P : Program} {w : World} {K : PySem.W.Frag} {mg : Str → Option Value} {base : Heap} {tabs : List (Addr × Str)} (M : Bis mg) (D__law_do_fit : DefX P w K mg base (fam tabs) (XVm mg) "_law_do_fit" s__law_do_fit 2 ps__law_do_fit (ofF 4 F__law_do_fit)) (D__law_frac : DefX P w K mg base (fam tabs) (XVm mg) "_law_frac" s__law_frac 1 ps__law_frac (ofF 2 F__law_frac)) (D__law_is_good_lot : DefX P w K mg base (fam tabs) (XVm mg) "_law_is_good_lot" s__law_is_good_lot 2 ps__law_is_good_lot (ofF 4 F__law_is_good_lot)) (D__law_is_lot : DefX P w K mg base (fam tabs) (XVm mg) "_law_is_lot" s__law_is_lot 1 ps__law_is_lot (ofF 2 F__law_is_lot)) (D__law_told_by : DefX P w K mg base (fam tabs) (XVm mg) "_law_told_by" s__law_told_by 1 ps__law_told_by (ofF 5 F__law_told_by))
    {f : Addr} {cdv : Value} {A : Around} {outer : List Env} {s : Shared} {H Z : Hp} {E : XK} {Fo : Option Fd} (hr : Room 2 (A.deeper (envOfC "_law_circle_due" (defScope s__law_circle_due) s.heap.objs.size f cdv))) (hgd : A.guards = some []) (hF : HasF (fam tabs) Fo) :
    Sts (bodyC P w K mg base (XVm mg) N__law_circle_due "_law_circle_due" s__law_circle_due f cdv A outer s H Z E Fo) (defBody s__law_circle_due) (ofS XF__law_circle_due) :=
  (show Sts _ _ (ofS ((xSeq (xIf (xT (xBin (pEq false) (xBi pLen (xCons (xVar 3) xNil)) (xD (.int 1)))) (xRet (xTup (xCons (xD (.str (Str.ofString "paper"))) (xCons (xD (.str (Str.ofString "many"))) (xCons (xUn pNeg (xD (.int 1))) xNil))))) xNx)
    (xSeq (xFor (xEnumS (xVar 3)) (xgTp 2 (xgCons (xgNm 4) (xgCons (xgNm 5) xgNil))) (xSeq (xIf (xOrB (xNotB (xTru (xIs "tuple" (xVar 5)))) (xOrB (xT (xBin (pEq true) (xBi pLen (xCons (xVar 5) xNil)) (xD (.int 3)))) (xOrB (xNotB (xTru (xIs "str" (xBin pIx (xVar 5) (xD (.int 0)))))) (xT (xBin (pIn true) (xBin pIx (xVar 5) (xD (.int 0))) (xBin pIx (xVar 0) (xD (.int 0)))))))) (xRet (xTup (xCons (xD (.str (Str.ofString "paper"))) (xCons (xD (.str (Str.ofString "step"))) (xCons (xVar 4) xNil))))) xNx)
    (xSeq (xIf (xOrB (xNotB (xTru (xCall F__law_is_lot (xCons (xVar 0) (xCons (xBin pIx (xVar 5) (xD (.int 1))) xNil))))) (xNotB (xTru (xIs "tuple" (xBin pIx (xVar 5) (xD (.int 2))))))) (xRet (xTup (xCons (xD (.str (Str.ofString "paper"))) (xCons (xD (.str (Str.ofString "step"))) (xCons (xVar 4) xNil))))) xNx)
    (xIf (xT (xBin (pIn false) (xBin pIx (xVar 5) (xD (.int 0))) (xNew (xLc [6] [6] sel1 (xIt (xSl (xVar 3) xNoPart (xPart (xVar 4)))) xYes (xBin pIx (xVar 6) (xD (.int 0))))))) (xRet (xTup (xCons (xD (.str (Str.ofString "paper"))) (xCons (xD (.str (Str.ofString "twice"))) (xCons (xVar 4) xNil))))) xNx))))
    (xSeq (xSet 7 (xD (.int 0)))
    (xSeq (xFor (xEnumS (xVar 3)) (xgTp 2 (xgCons (xgNm 4) (xgCons (xgTp 3 (xgCons (xgNm 8) (xgCons (xgNm 9) (xgCons (xgNm 10) xgNil)))) xgNil))) (xSeq (xSet 11 (xBin pIx (xBin pIx (xVar 3) (xBin pMod (xBi pInt1 (xCons (xBin pAdd (xVar 4) (xD (.int 1))) xNil)) (xBi pLen (xCons (xVar 3) xNil)))) (xD (.int 0))))
    (xSeq (xIf (xNotB (xTru (xCall F__law_is_good_lot (xCons (xVar 1) (xCons (xVar 9) (xCons (xVar 8) (xCons (xVar 11) xNil))))))) (xRet (xTup (xCons (xD (.str (Str.ofString "paper"))) (xCons (xD (.str (Str.ofString "lot"))) (xCons (xVar 4) xNil))))) xNx)
    (xSeq (xIf (xNotB (xTru (xCall F__law_do_fit (xCons (xVar 0) (xCons (xVar 2) (xCons (xVar 9) (xCons (xVar 10) xNil))))))) (xRet (xTup (xCons (xD (.str (Str.ofString "paper"))) (xCons (xD (.str (Str.ofString "gains"))) (xCons (xVar 4) xNil))))) xNx)
    (xSet 7 (xBin pAdd (xVar 7) (xCall F__law_told_by (xCons (xVar 0) (xCons (xVar 9) (xCons (xVar 10) (xCons (xVar 8) (xCons (xVar 11) xNil))))))))))))
    (xRet (xTup (xCons (xD (.str (Str.ofString "told"))) (xCons (xCall F__law_frac (xCons (xBi pMax2 (xCons (xVar 7) (xCons (xD (.int 0)) xNil))) (xCons (xBi pMax2 (xCons (xBi pLen (xCons (xVar 3) xNil)) (xCons (xD (.int 1)) xNil))) xNil))) xNil)))))))))) from (xs_cons (xs_if (xt_cmp (o_eq hr.units) fits_eq (x_bi b_len fits_len (by rfl) M.len (by decide +kernel) (xa_cons (x_var 3 (pv 3)) xa_nil)) x_int rfl) (xs_one (xs_ret (x_tup (xa_cons x_str (xa_cons x_str (xa_cons (x_neg x_int) xa_nil)))))) xs_nil)
    (xs_cons (xs_for (passes_of rfl) rfl (xi_enumS (by rfl) M.enumerate (x_var 3 (pv 3))) (fun _ => (xg_tup rfl (xgs_cons (xg_nm (i := 4) sc__law_circle_due.nd rfl (.inl rfl)) (xgs_cons (xg_nm (i := 5) sc__law_circle_due.nd rfl (.inl rfl)) xgs_nil)))) (fun _ => (xs_cons (xs_if (TW.t (xw_or (xt_not (xt_tru (x_is (T := "tuple") (x_var 5 (pv 5)) (by decide +kernel) (by rfl) M.isinstance (by rfl) M.tuple (by decide +kernel)))) (xw_or (xt_cmp (o_ne hr.units) fits_eq (x_bi b_len fits_len (by rfl) M.len (by decide +kernel) (xa_cons (x_var 5 (pv 5)) xa_nil)) x_int rfl) (xw_or (xt_not (xt_tru (x_is (T := "str") (x_ix (x_var 5 (pv 5)) x_int (fun _ _ => rfl)) (by decide +kernel) (by rfl) M.isinstance (by rfl) M.str (by decide +kernel)))) (xw_or1 (xt_cmp (o_notIn (Nat.lt_of_succ_lt (u66 hr))) fits_in (x_ix (x_var 5 (pv 5)) x_int (fun _ _ => rfl)) (x_ix (x_var 0 (pv 0)) x_int (fun _ _ => rfl)) rfl)))))) (xs_one (xs_ret (x_tup (xa_cons x_str (xa_cons x_str (xa_cons (x_var 4 (pv 4)) xa_nil)))))) xs_nil)
    (xs_cons (xs_if (TW.t (xw_or (xt_not (xt_tru (x_call D__law_is_lot hF (hr.mono (by decide)) hgd (by rfl) lets_body (xa_cons (x_var 0 (pv 0)) (xa_cons (x_ix (x_var 5 (pv 5)) x_int (fun _ _ => rfl)) xa_nil)) (cnt_cons (cnt_cons cnt_nil))))) (xw_or1 (xt_not (xt_tru (x_is (T := "tuple") (x_ix (x_var 5 (pv 5)) x_int (fun _ _ => rfl)) (by decide +kernel) (by rfl) M.isinstance (by rfl) M.tuple (by decide +kernel))))))) (xs_one (xs_ret (x_tup (xa_cons x_str (xa_cons x_str (xa_cons (x_var 4 (pv 4)) xa_nil)))))) xs_nil)
    (xs_one (xs_if (xt_cmp (o_in (Nat.lt_of_succ_lt (u66 hr))) fits_in (x_ix (x_var 5 (pv 5)) x_int (fun _ _ => rfl)) (x_new (n_weak (n_lc rfl sc__law_circle_due.nd (xi_any (x_sl (x_var 3 (pv 3)) xo_none (xo_some (x_var 4 (pv 4))))) (blkOk_by (own := [("_law_early", 6)]) (N := N__law_circle_due) (sc := defScope s__law_circle_due) (by decide +kernel)) (tg_name 6) (by decide) (fun _ _ _ _ _ => (pg_name (i := 6) sc__law_circle_due.nd rfl (Or.inl rfl))) (fun _ _ _ _ _ => (xts_nil)) (fun _ _ _ _ _ => (x_ix (x_var 6 (pv 6)) x_int (fun _ _ => rfl)))) xLc_of)) rfl) (xs_one (xs_ret (x_tup (xa_cons x_str (xa_cons x_str (xa_cons (x_var 4 (pv 4)) xa_nil)))))) xs_nil))))))
    (xs_cons (xs_set (i := 7) sc__law_circle_due.nd rfl (.inl rfl) x_int)
    (xs_cons (xs_for (passes_of rfl) rfl (xi_enumS (by rfl) M.enumerate (x_var 3 (pv 3))) (fun _ => (xg_tup rfl (xgs_cons (xg_nm (i := 4) sc__law_circle_due.nd rfl (.inl rfl)) (xgs_cons (xg_tup rfl (xgs_cons (xg_nm (i := 8) sc__law_circle_due.nd rfl (.inl rfl)) (xgs_cons (xg_nm (i := 9) sc__law_circle_due.nd rfl (.inl rfl)) (xgs_cons (xg_nm (i := 10) sc__law_circle_due.nd rfl (.inl rfl)) xgs_nil)))) xgs_nil)))) (fun _ => (xs_cons (xs_set (i := 11) sc__law_circle_due.nd rfl (.inl rfl) (x_ix (x_ix (x_var 3 (pv 3)) (x_bin o_mod fits_mod (x_ty b_int fits_int1 (by rfl) M.int (by decide +kernel) (xa_cons (x_bin o_add fits_add (x_var 4 (pv 4)) x_int) xa_nil)) (x_bi b_len fits_len (by rfl) M.len (by decide +kernel) (xa_cons (x_var 3 (pv 3)) xa_nil))) (fun _ _ => rfl)) x_int (fun _ _ => rfl)))
    (xs_cons (xs_if (xt_not (xt_tru (x_call D__law_is_good_lot hF (hr.mono (by decide)) hgd (by rfl) lets_body (xa_cons (x_var 1 (pv 1)) (xa_cons (x_var 9 (pv 9)) (xa_cons (x_var 8 (pv 8)) (xa_cons (x_var 11 (pv 11)) xa_nil)))) (cnt_cons (cnt_cons (cnt_cons (cnt_cons cnt_nil))))))) (xs_one (xs_ret (x_tup (xa_cons x_str (xa_cons x_str (xa_cons (x_var 4 (pv 4)) xa_nil)))))) xs_nil)
    (xs_cons (xs_if (xt_not (xt_tru (x_call D__law_do_fit hF (hr.mono (by decide)) hgd (by rfl) lets_body (xa_cons (x_var 0 (pv 0)) (xa_cons (x_var 2 (pv 2)) (xa_cons (x_var 9 (pv 9)) (xa_cons (x_var 10 (pv 10)) xa_nil)))) (cnt_cons (cnt_cons (cnt_cons (cnt_cons cnt_nil))))))) (xs_one (xs_ret (x_tup (xa_cons x_str (xa_cons x_str (xa_cons (x_var 4 (pv 4)) xa_nil)))))) xs_nil)
    (xs_one (xs_set (i := 7) sc__law_circle_due.nd rfl (.inl rfl) (x_bin o_add fits_add (x_var 7 (pv 7)) (x_call D__law_told_by hF (hr.mono (by decide)) hgd (by rfl) lets_body (xa_cons (x_var 0 (pv 0)) (xa_cons (x_var 9 (pv 9)) (xa_cons (x_var 10 (pv 10)) (xa_cons (x_var 8 (pv 8)) (xa_cons (x_var 11 (pv 11)) xa_nil))))) (cnt_cons (cnt_cons (cnt_cons (cnt_cons (cnt_cons cnt_nil))))))))))))))
    (xs_one (xs_ret (x_tup (xa_cons x_str (xa_cons (x_call D__law_frac hF (hr.mono (by decide)) hgd (by rfl) lets_body (xa_cons (x_bi (b_max2 rfl) fits_oOf (by rfl) M.max (by decide +kernel) (xa_cons (x_var 7 (pv 7)) (xa_cons x_int xa_nil))) (xa_cons (x_bi (b_max2 rfl) fits_oOf (by rfl) M.max (by decide +kernel) (xa_cons (x_bi b_len fits_len (by rfl) M.len (by decide +kernel) (xa_cons (x_var 3 (pv 3)) xa_nil)) (xa_cons x_int xa_nil))) xa_nil)) (cnt_cons (cnt_cons cnt_nil))) xa_nil))))))))))
theorem d__law_circle_due {P : Program} {w : World} {K : PySem.W.Frag} {mg : Str → Option Value} {base : Heap} {tabs : List (Addr × Str)} {h : Heap} (M : Bis mg) (X : K.In h) (G : h.Ns mainGlobals mg) (has : Has K "_law_circle_due" s__law_circle_due) (D__law_do_fit : DefX P w K mg base (fam tabs) (XVm mg) "_law_do_fit" s__law_do_fit 2 ps__law_do_fit (ofF 4 F__law_do_fit)) (D__law_frac : DefX P w K mg base (fam tabs) (XVm mg) "_law_frac" s__law_frac 1 ps__law_frac (ofF 2 F__law_frac)) (D__law_is_good_lot : DefX P w K mg base (fam tabs) (XVm mg) "_law_is_good_lot" s__law_is_good_lot 2 ps__law_is_good_lot (ofF 4 F__law_is_good_lot)) (D__law_is_lot : DefX P w K mg base (fam tabs) (XVm mg) "_law_is_lot" s__law_is_lot 1 ps__law_is_lot (ofF 2 F__law_is_lot)) (D__law_told_by : DefX P w K mg base (fam tabs) (XVm mg) "_law_told_by" s__law_told_by 1 ps__law_told_by (ofF 5 F__law_told_by)) : DefX P w K mg base (fam tabs) (XVm mg) "_law_circle_due" s__law_circle_due 3 ps__law_circle_due (ofF 4 F__law_circle_due) :=
  defX_of X G has sc__law_circle_due (fun hr hg hF => b__law_circle_due M D__law_do_fit D__law_frac D__law_is_good_lot D__law_is_lot D__law_told_by hr hg hF) (fun _ _ _ _ _ _ us hl => match us, hl with | [_, _, _, _], _ => rfl)
end K33

namespace K33
open PySem PySem.Spec PyProof.Rows L2 PL
theorem b__law_far_due {P : Program} {w : World} {K : PySem.W.Frag} {mg : Str → Option Value} {base : Heap} {tabs : List (Addr × Str)} (M : Bis mg) (D__law_do_fit : DefX P w K mg base (fam tabs) (XVm mg) "_law_do_fit" s__law_do_fit 2 ps__law_do_fit (ofF 4 F__law_do_fit)) (D__law_is_good_lot : DefX P w K mg base (fam tabs) (XVm mg) "_law_is_good_lot" s__law_is_good_lot 2 ps__law_is_good_lot (ofF 4 F__law_is_good_lot)) (D__law_is_lot : DefX P w K mg base (fam tabs) (XVm mg) "_law_is_lot" s__law_is_lot 1 ps__law_is_lot (ofF 2 F__law_is_lot))
    {f : Addr} {cdv : Value} {A : Around} {outer : List Env} {s : Shared} {H Z : Hp} {E : XK} {Fo : Option Fd} (hr : Room 2 (A.deeper (envOfC "_law_far_due" (defScope s__law_far_due) s.heap.objs.size f cdv))) (hgd : A.guards = some []) (hF : HasF (fam tabs) Fo) :
    Sts (bodyC P w K mg base (XVm mg) N__law_far_due "_law_far_due" s__law_far_due f cdv A outer s H Z E Fo) (defBody s__law_far_due) (ofS XF__law_far_due) :=
  (show Sts _ _ (ofS ((xSeq (xAsg (xSl (xVar 3) (xPart (xD (.int 1))) xNoPart) (xgTp 5 (xgCons (xgNm 4) (xgCons (xgNm 5) (xgCons (xgNm 6) (xgCons (xgNm 7) (xgCons (xgNm 8) xgNil)))))))
    (xSeq (xIf (xOrB (xNotB (xTru (xIs "str" (xVar 4)))) (xT (xBin (pIn true) (xVar 4) (xBin pIx (xVar 0) (xD (.int 0)))))) (xRet (xTup (xCons (xD (.str (Str.ofString "paper"))) (xCons (xD (.str (Str.ofString "one"))) (xCons (xUn pNeg (xD (.int 1))) xNil))))) xNx)
    (xSeq (xIf (xOrB (xNotB (xTru (xIs "str" (xVar 5)))) (xOrB (xT (xBin (pIn true) (xVar 5) (xBin pIx (xVar 0) (xD (.int 0))))) (xT (xBin (pEq false) (xVar 5) (xVar 4))))) (xRet (xTup (xCons (xD (.str (Str.ofString "paper"))) (xCons (xD (.str (Str.ofString "other"))) (xCons (xUn pNeg (xD (.int 1))) xNil))))) xNx)
    (xSeq (xIf (xOrB (xNotB (xTru (xCall F__law_is_lot (xCons (xVar 0) (xCons (xVar 6) xNil))))) (xNotB (xTru (xCall F__law_is_good_lot (xCons (xVar 1) (xCons (xVar 6) (xCons (xVar 4) (xCons (xVar 5) xNil)))))))) (xRet (xTup (xCons (xD (.str (Str.ofString "paper"))) (xCons (xD (.str (Str.ofString "lot"))) (xCons (xUn pNeg (xD (.int 1))) xNil))))) xNx)
    (xSeq (xIf (xNotB (xTru (xCall F__law_do_fit (xCons (xVar 0) (xCons (xVar 2) (xCons (xVar 6) (xCons (xVar 7) xNil))))))) (xRet (xTup (xCons (xD (.str (Str.ofString "paper"))) (xCons (xD (.str (Str.ofString "gains"))) (xCons (xUn pNeg (xD (.int 1))) xNil))))) xNx)
    (xSeq (xIf (xOrB (xNotB (xTru (xCall F__law_is_lot (xCons (xVar 0) (xCons (xVar 8) xNil))))) (xOrB (xT (xBin (pEq true) (xNew (xLc [9] [9] sel1 (xIt (xVar 8)) (xT (xBin (pIn false) (xVar 9) (xVar 6))) (xVar 9))) (xNew (xLst xNil)))) (xOrB (xT (xBin (pIn true) (xVar 5) (xVar 8))) (xT (xBin (pIn false) (xVar 4) (xVar 8)))))) (xRet (xTup (xCons (xD (.str (Str.ofString "paper"))) (xCons (xD (.str (Str.ofString "part"))) (xCons (xUn pNeg (xD (.int 1))) xNil))))) xNx)
    (xSeq (xFor (xEnumS (xVar 2)) (xgTp 2 (xgCons (xgNm 10) (xgCons (xgNm 11) xgNil))) (xSeq (xSet 12 (xNew (xLc [9] [9] sel1 (xIt (xSl (xVar 11) xNoPart (xPart (xD (.int 2))))) (xT (xBin (pIn true) (xVar 9) (xVar 6))) (xBin (pIn false) (xVar 9) (xVar 8)))))
    (xIf (xAndB (xT (xBin (pEq false) (xBi pLen (xCons (xVar 12) xNil)) (xD (.int 2)))) (xT (xBin (pEq true) (xBin pIx (xVar 12) (xD (.int 0))) (xBin pIx (xVar 12) (xD (.int 1)))))) (xRet (xTup (xCons (xD (.str (Str.ofString "paper"))) (xCons (xD (.str (Str.ofString "letter"))) (xCons (xVar 10) xNil))))) xNx)))
    (xRet (xTup (xCons (xD (.str (Str.ofString "told"))) (xCons (xD .none) xNil))))))))))))) from (xs_cons (xs_asg (x_sl (x_var 3 (pv 3)) (xo_some x_int) xo_none) (xg_tup rfl (xgs_cons (xg_nm (i := 4) sc__law_far_due.nd rfl (.inl rfl)) (xgs_cons (xg_nm (i := 5) sc__law_far_due.nd rfl (.inl rfl)) (xgs_cons (xg_nm (i := 6) sc__law_far_due.nd rfl (.inr rfl)) (xgs_cons (xg_nm (i := 7) sc__law_far_due.nd rfl (.inl rfl)) (xgs_cons (xg_nm (i := 8) sc__law_far_due.nd rfl (.inr rfl)) xgs_nil)))))))
    (xs_cons (xs_if (TW.t (xw_or (xt_not (xt_tru (x_is (T := "str") (x_var 4 (pv 4)) (by decide +kernel) (by rfl) M.isinstance (by rfl) M.str (by decide +kernel)))) (xw_or1 (xt_cmp (o_notIn (Nat.lt_of_succ_lt (u66 hr))) fits_in (x_var 4 (pv 4)) (x_ix (x_var 0 (pv 0)) x_int (fun _ _ => rfl)) rfl)))) (xs_one (xs_ret (x_tup (xa_cons x_str (xa_cons x_str (xa_cons (x_neg x_int) xa_nil)))))) xs_nil)
    (xs_cons (xs_if (TW.t (xw_or (xt_not (xt_tru (x_is (T := "str") (x_var 5 (pv 5)) (by decide +kernel) (by rfl) M.isinstance (by rfl) M.str (by decide +kernel)))) (xw_or (xt_cmp (o_notIn (Nat.lt_of_succ_lt (u66 hr))) fits_in (x_var 5 (pv 5)) (x_ix (x_var 0 (pv 0)) x_int (fun _ _ => rfl)) rfl) (xw_or1 (xt_cmp (o_eq hr.units) fits_eq (x_var 5 (pv 5)) (x_var 4 (pv 4)) rfl))))) (xs_one (xs_ret (x_tup (xa_cons x_str (xa_cons x_str (xa_cons (x_neg x_int) xa_nil)))))) xs_nil)
    (xs_cons (xs_if (TW.t (xw_or (xt_not (xt_tru (x_call D__law_is_lot hF (hr.mono (by decide)) hgd (by rfl) lets_body (xa_cons (x_var 0 (pv 0)) (xa_cons (x_var 6 (pv 6)) xa_nil)) (cnt_cons (cnt_cons cnt_nil))))) (xw_or1 (xt_not (xt_tru (x_call D__law_is_good_lot hF (hr.mono (by decide)) hgd (by rfl) lets_body (xa_cons (x_var 1 (pv 1)) (xa_cons (x_var 6 (pv 6)) (xa_cons (x_var 4 (pv 4)) (xa_cons (x_var 5 (pv 5)) xa_nil)))) (cnt_cons (cnt_cons (cnt_cons (cnt_cons cnt_nil)))))))))) (xs_one (xs_ret (x_tup (xa_cons x_str (xa_cons x_str (xa_cons (x_neg x_int) xa_nil)))))) xs_nil)
    (xs_cons (xs_if (xt_not (xt_tru (x_call D__law_do_fit hF (hr.mono (by decide)) hgd (by rfl) lets_body (xa_cons (x_var 0 (pv 0)) (xa_cons (x_var 2 (pv 2)) (xa_cons (x_var 6 (pv 6)) (xa_cons (x_var 7 (pv 7)) xa_nil)))) (cnt_cons (cnt_cons (cnt_cons (cnt_cons cnt_nil))))))) (xs_one (xs_ret (x_tup (xa_cons x_str (xa_cons x_str (xa_cons (x_neg x_int) xa_nil)))))) xs_nil)
    (xs_cons (xs_if (TW.t (xw_or (xt_not (xt_tru (x_call D__law_is_lot hF (hr.mono (by decide)) hgd (by rfl) lets_body (xa_cons (x_var 0 (pv 0)) (xa_cons (x_var 8 (pv 8)) xa_nil)) (cnt_cons (cnt_cons cnt_nil))))) (xw_or (xt_cmp (o_ne hr.units) fits_eq (x_new (n_weak (n_lc rfl sc__law_far_due.nd (xi_any (x_var 8 (pv 8))) (blkOk_by (own := [("_law_name", 9)]) (N := N__law_far_due) (sc := defScope s__law_far_due) (by decide +kernel)) (tg_name 9) (by decide) (fun _ _ _ _ _ => (pg_name (i := 9) sc__law_far_due.nd rfl (Or.inl rfl))) (fun _ _ _ _ _ => (ts_one (xt_cmp (o_in (Nat.lt_of_succ_lt (u66 hr))) fits_in (x_var 9 (pv 9)) (x_var 6 (pv 6)) rfl))) (fun _ _ _ _ _ => (x_var 9 (pv 9)))) xLc_of)) (x_new (xn_lst xa_nil)) rfl) (xw_or (xt_cmp (o_notIn (Nat.lt_of_succ_lt (u66 hr))) fits_in (x_var 5 (pv 5)) (x_var 8 (pv 8)) rfl) (xw_or1 (xt_cmp (o_in (Nat.lt_of_succ_lt (u66 hr))) fits_in (x_var 4 (pv 4)) (x_var 8 (pv 8)) rfl)))))) (xs_one (xs_ret (x_tup (xa_cons x_str (xa_cons x_str (xa_cons (x_neg x_int) xa_nil)))))) xs_nil)
    (xs_cons (xs_for (passes_of rfl) rfl (xi_enumS (by rfl) M.enumerate (x_var 2 (pv 2))) (fun _ => (xg_tup rfl (xgs_cons (xg_nm (i := 10) sc__law_far_due.nd rfl (.inl rfl)) (xgs_cons (xg_nm (i := 11) sc__law_far_due.nd rfl (.inl rfl)) xgs_nil)))) (fun _ => (xs_cons (s_weak (s_lcSet (i := 12) rfl sc__law_far_due.nd rfl rfl (sw_true rfl rfl rfl (by decide +kernel)) (xi_any (x_sl (x_var 11 (pv 11)) xo_none (xo_some x_int))) (blkOk_by (own := [("_law_name", 9)]) (N := N__law_far_due) (sc := defScope s__law_far_due) (by decide +kernel)) (tg_name 9) (by decide) (fun _ _ _ _ _ => (pg_name (i := 9) sc__law_far_due.nd rfl (Or.inl rfl))) (fun _ _ _ _ _ => (ts_one (xt_cmp (o_notIn (Nat.lt_of_succ_lt (u66 hr))) fits_in (x_var 9 (pv 9)) (x_var 6 (pv 6)) rfl))) (fun _ _ _ _ _ => (x_cmp (o_in (Nat.lt_of_succ_lt (u66 hr))) fits_in (x_var 9 (pv 9)) (x_var 8 (pv 8)) rfl))) xLcSet_of)
    (xs_one (xs_if (TW.t (xw_and (xt_cmp (o_eq hr.units) fits_eq (x_bi b_len fits_len (by rfl) M.len (by decide +kernel) (xa_cons (x_var 12 (pv 12)) xa_nil)) x_int rfl) (xw_and1 (xt_cmp (o_ne hr.units) fits_eq (x_ix (x_var 12 (pv 12)) x_int (fun _ _ => rfl)) (x_ix (x_var 12 (pv 12)) x_int (fun _ _ => rfl)) rfl)))) (xs_one (xs_ret (x_tup (xa_cons x_str (xa_cons x_str (xa_cons (x_var 10 (pv 10)) xa_nil)))))) xs_nil)))))
    (xs_one (xs_ret (x_tup (xa_cons x_str (xa_cons x_non xa_nil)))))))))))))
theorem d__law_far_due {P : Program} {w : World} {K : PySem.W.Frag} {mg : Str → Option Value} {base : Heap} {tabs : List (Addr × Str)} {h : Heap} (M : Bis mg) (X : K.In h) (G : h.Ns mainGlobals mg) (has : Has K "_law_far_due" s__law_far_due) (D__law_do_fit : DefX P w K mg base (fam tabs) (XVm mg) "_law_do_fit" s__law_do_fit 2 ps__law_do_fit (ofF 4 F__law_do_fit)) (D__law_is_good_lot : DefX P w K mg base (fam tabs) (XVm mg) "_law_is_good_lot" s__law_is_good_lot 2 ps__law_is_good_lot (ofF 4 F__law_is_good_lot)) (D__law_is_lot : DefX P w K mg base (fam tabs) (XVm mg) "_law_is_lot" s__law_is_lot 1 ps__law_is_lot (ofF 2 F__law_is_lot)) : DefX P w K mg base (fam tabs) (XVm mg) "_law_far_due" s__law_far_due 3 ps__law_far_due (ofF 4 F__law_far_due) :=
  defX_of X G has sc__law_far_due (fun hr hg hF => b__law_far_due M D__law_do_fit D__law_is_good_lot D__law_is_lot hr hg hF) (fun _ _ _ _ _ _ us hl => match us, hl with | [_, _, _, _], _ => rfl)
end K33

namespace K33
open PySem PySem.Spec PyProof.Rows L2 PL
theorem b__law_ring_due {P : Program} {w : World} {K : PySem.W.Frag} {mg : Str → Option Value} {base : Heap} {tabs : List (Addr × Str)} (M : Bis mg) (D__law_circle_due : DefX P w K mg base (fam tabs) (XVm mg) "_law_circle_due" s__law_circle_due 3 ps__law_circle_due (ofF 4 F__law_circle_due)) (D__law_far_due : DefX P w K mg base (fam tabs) (XVm mg) "_law_far_due" s__law_far_due 3 ps__law_far_due (ofF 4 F__law_far_due))
    {f : Addr} {cdv : Value} {A : Around} {outer : List Env} {s : Shared} {H Z : Hp} {E : XK} {Fo : Option Fd} (hr : Room 3 (A.deeper (envOfC "_law_ring_due" (defScope s__law_ring_due) s.heap.objs.size f cdv))) (hgd : A.guards = some []) (hF : HasF (fam tabs) Fo) :
    Sts (bodyC P w K mg base (XVm mg) N__law_ring_due "_law_ring_due" s__law_ring_due f cdv A outer s H Z E Fo) (defBody s__law_ring_due) (ofS XF__law_ring_due) :=
  (show Sts _ _ (ofS ((xSeq (xIf (xOrB (xNotB (xTru (xIs "tuple" (xVar 3)))) (xOrB (xT (xBin (pEq false) (xVar 3) (xTup xNil))) (xNotB (xTru (xIs "str" (xBin pIx (xVar 3) (xD (.int 0)))))))) (xRet (xTup (xCons (xD (.str (Str.ofString "paper"))) (xCons (xD (.str (Str.ofString "shape"))) (xCons (xUn pNeg (xD (.int 1))) xNil))))) xNx)
    (xSeq (xIf (xAndB (xT (xBin (pEq false) (xBin pIx (xVar 3) (xD (.int 0))) (xD (.str (Str.ofString "circle"))))) (xAndB (xT (xBin (pEq false) (xBi pLen (xCons (xVar 3) xNil)) (xD (.int 2)))) (xTru (xIs "tuple" (xBin pIx (xVar 3) (xD (.int 1))))))) (xRet (xCall F__law_circle_due (xCons (xVar 0) (xCons (xVar 1) (xCons (xVar 2) (xCons (xBin pIx (xVar 3) (xD (.int 1))) xNil)))))) xNx)
    (xSeq (xIf (xAndB (xT (xBin (pEq false) (xBin pIx (xVar 3) (xD (.int 0))) (xD (.str (Str.ofString "far"))))) (xT (xBin (pEq false) (xBi pLen (xCons (xVar 3) xNil)) (xD (.int 6))))) (xRet (xCall F__law_far_due (xCons (xVar 0) (xCons (xVar 1) (xCons (xVar 2) (xCons (xVar 3) xNil)))))) xNx)
    (xRet (xTup (xCons (xD (.str (Str.ofString "paper"))) (xCons (xD (.str (Str.ofString "shape"))) (xCons (xUn pNeg (xD (.int 1))) xNil)))))))))) from (xs_cons (xs_if (TW.t (xw_or (xt_not (xt_tru (x_is (T := "tuple") (x_var 3 (pv 3)) (by decide +kernel) (by rfl) M.isinstance (by rfl) M.tuple (by decide +kernel)))) (xw_or (xt_cmp (o_eq hr.units) fits_eq (x_var 3 (pv 3)) (x_tup xa_nil) rfl) (xw_or1 (xt_not (xt_tru (x_is (T := "str") (x_ix (x_var 3 (pv 3)) x_int (fun _ _ => rfl)) (by decide +kernel) (by rfl) M.isinstance (by rfl) M.str (by decide +kernel)))))))) (xs_one (xs_ret (x_tup (xa_cons x_str (xa_cons x_str (xa_cons (x_neg x_int) xa_nil)))))) xs_nil)
    (xs_cons (xs_if (TW.t (xw_and (xt_cmp (o_eq hr.units) fits_eq (x_ix (x_var 3 (pv 3)) x_int (fun _ _ => rfl)) x_str rfl) (xw_and (xt_cmp (o_eq hr.units) fits_eq (x_bi b_len fits_len (by rfl) M.len (by decide +kernel) (xa_cons (x_var 3 (pv 3)) xa_nil)) x_int rfl) (xw_and1 (xt_tru (x_is (T := "tuple") (x_ix (x_var 3 (pv 3)) x_int (fun _ _ => rfl)) (by decide +kernel) (by rfl) M.isinstance (by rfl) M.tuple (by decide +kernel))))))) (xs_one (xs_ret (x_call D__law_circle_due hF (hr.mono (by decide)) hgd (by rfl) lets_body (xa_cons (x_var 0 (pv 0)) (xa_cons (x_var 1 (pv 1)) (xa_cons (x_var 2 (pv 2)) (xa_cons (x_ix (x_var 3 (pv 3)) x_int (fun _ _ => rfl)) xa_nil)))) (cnt_cons (cnt_cons (cnt_cons (cnt_cons cnt_nil))))))) xs_nil)
    (xs_cons (xs_if (TW.t (xw_and (xt_cmp (o_eq hr.units) fits_eq (x_ix (x_var 3 (pv 3)) x_int (fun _ _ => rfl)) x_str rfl) (xw_and1 (xt_cmp (o_eq hr.units) fits_eq (x_bi b_len fits_len (by rfl) M.len (by decide +kernel) (xa_cons (x_var 3 (pv 3)) xa_nil)) x_int rfl)))) (xs_one (xs_ret (x_call D__law_far_due hF (hr.mono (by decide)) hgd (by rfl) lets_body (xa_cons (x_var 0 (pv 0)) (xa_cons (x_var 1 (pv 1)) (xa_cons (x_var 2 (pv 2)) (xa_cons (x_var 3 (pv 3)) xa_nil)))) (cnt_cons (cnt_cons (cnt_cons (cnt_cons cnt_nil))))))) xs_nil)
    (xs_one (xs_ret (x_tup (xa_cons x_str (xa_cons x_str (xa_cons (x_neg x_int) xa_nil))))))))))
theorem d__law_ring_due {P : Program} {w : World} {K : PySem.W.Frag} {mg : Str → Option Value} {base : Heap} {tabs : List (Addr × Str)} {h : Heap} (M : Bis mg) (X : K.In h) (G : h.Ns mainGlobals mg) (has : Has K "_law_ring_due" s__law_ring_due) (D__law_circle_due : DefX P w K mg base (fam tabs) (XVm mg) "_law_circle_due" s__law_circle_due 3 ps__law_circle_due (ofF 4 F__law_circle_due)) (D__law_far_due : DefX P w K mg base (fam tabs) (XVm mg) "_law_far_due" s__law_far_due 3 ps__law_far_due (ofF 4 F__law_far_due)) : DefX P w K mg base (fam tabs) (XVm mg) "_law_ring_due" s__law_ring_due 4 ps__law_ring_due (ofF 4 F__law_ring_due) :=
  defX_of X G has sc__law_ring_due (fun hr hg hF => b__law_ring_due M D__law_circle_due D__law_far_due hr hg hF) (fun _ _ _ _ _ _ us hl => match us, hl with | [_, _, _, _], _ => rfl)
end K33

namespace K33
open PySem PySem.Spec PyProof.Rows L2 PL
theorem b__law_worlds_told {P : Program} {w : World} {K : PySem.W.Frag} {mg : Str → Option Value} {base : Heap} {tabs : List (Addr × Str)} (M : Bis mg)
    {f : Addr} {cdv : Value} {A : Around} {outer : List Env} {s : Shared} {H Z : Hp} {E : XK} {Fo : Option Fd} (hr : Room 0 (A.deeper (envOfC "_law_worlds_told" (defScope s__law_worlds_told) s.heap.objs.size f cdv))) (hgd : A.guards = some []) (hF : HasF (fam tabs) Fo) :
    Sts (bodyC P w K mg base (XVm mg) N__law_worlds_told "_law_worlds_told" s__law_worlds_told f cdv A outer s H Z E Fo) (defBody s__law_worlds_told) (ofS XF__law_worlds_told) :=
  (show Sts _ _ (ofS ((xSeq (xSet 0 (xTup (xCons (xTup (xCons (xD (.str (Str.ofString "a"))) (xCons (xD (.str (Str.ofString "b"))) xNil))) (xCons (xTup (xCons (xTup (xCons (xD (.str (Str.ofString "a"))) (xCons (xD (.str (Str.ofString "b"))) (xCons (xD (.int 0)) (xCons (xD (.int 2)) xNil))))) xNil)) xNil))))
    (xSeq (xSet 1 (xTup (xCons (xTup (xCons (xD (.str (Str.ofString "a"))) (xCons (xD (.str (Str.ofString "b"))) (xCons (xD (.str (Str.ofString "c"))) xNil)))) (xCons (xTup (xCons (xTup (xCons (xD (.str (Str.ofString "a"))) (xCons (xD (.str (Str.ofString "b"))) (xCons (xD (.int 0)) (xCons (xD (.int 2)) xNil))))) (xCons (xTup (xCons (xD (.str (Str.ofString "a"))) (xCons (xD (.str (Str.ofString "c"))) (xCons (xD (.int 0)) (xCons (xD (.int 2)) xNil))))) (xCons (xTup (xCons (xD (.str (Str.ofString "b"))) (xCons (xD (.str (Str.ofString "c"))) (xCons (xD (.int 0)) (xCons (xD (.int 2)) xNil))))) xNil)))) xNil))))
    (xSeq (xSet 2 (xTup (xCons (xTup (xCons (xD (.str (Str.ofString "a"))) (xCons (xD (.str (Str.ofString "b"))) (xCons (xD (.int 0)) (xCons (xD (.int 1)) xNil))))) (xCons (xTup (xCons (xD (.str (Str.ofString "b"))) (xCons (xD (.str (Str.ofString "c"))) (xCons (xD (.int 0)) (xCons (xD (.int 1)) xNil))))) (xCons (xTup (xCons (xD (.str (Str.ofString "c"))) (xCons (xD (.str (Str.ofString "a"))) (xCons (xD (.int 0)) (xCons (xUn pNeg (xD (.int 5))) xNil))))) xNil)))))
    (xRet (xTup (xCons (xVar 0) (xCons (xVar 1) (xCons (xTup (xCons (xTup (xCons (xD (.str (Str.ofString "a"))) xNil)) (xCons (xTup (xCons (xD (.str (Str.ofString "b"))) xNil)) (xCons (xTup (xCons (xD (.str (Str.ofString "c"))) xNil)) xNil)))) (xCons (xVar 2) xNil))))))))))) from (xs_cons (xs_set (i := 0) sc__law_worlds_told.nd rfl (.inl rfl) (x_tup (xa_cons (x_tup (xa_cons x_str (xa_cons x_str xa_nil))) (xa_cons (x_tup (xa_cons (x_tup (xa_cons x_str (xa_cons x_str (xa_cons x_int (xa_cons x_int xa_nil))))) xa_nil)) xa_nil))))
    (xs_cons (xs_set (i := 1) sc__law_worlds_told.nd rfl (.inl rfl) (x_tup (xa_cons (x_tup (xa_cons x_str (xa_cons x_str (xa_cons x_str xa_nil)))) (xa_cons (x_tup (xa_cons (x_tup (xa_cons x_str (xa_cons x_str (xa_cons x_int (xa_cons x_int xa_nil))))) (xa_cons (x_tup (xa_cons x_str (xa_cons x_str (xa_cons x_int (xa_cons x_int xa_nil))))) (xa_cons (x_tup (xa_cons x_str (xa_cons x_str (xa_cons x_int (xa_cons x_int xa_nil))))) xa_nil)))) xa_nil))))
    (xs_cons (xs_set (i := 2) sc__law_worlds_told.nd rfl (.inl rfl) (x_tup (xa_cons (x_tup (xa_cons x_str (xa_cons x_str (xa_cons x_int (xa_cons x_int xa_nil))))) (xa_cons (x_tup (xa_cons x_str (xa_cons x_str (xa_cons x_int (xa_cons x_int xa_nil))))) (xa_cons (x_tup (xa_cons x_str (xa_cons x_str (xa_cons x_int (xa_cons (x_neg x_int) xa_nil))))) xa_nil)))))
    (xs_one (xs_ret (x_tup (xa_cons (x_var 0 (pv 0)) (xa_cons (x_var 1 (pv 1)) (xa_cons (x_tup (xa_cons (x_tup (xa_cons x_str xa_nil)) (xa_cons (x_tup (xa_cons x_str xa_nil)) (xa_cons (x_tup (xa_cons x_str xa_nil)) xa_nil)))) (xa_cons (x_var 2 (pv 2)) xa_nil)))))))))))
theorem d__law_worlds_told {P : Program} {w : World} {K : PySem.W.Frag} {mg : Str → Option Value} {base : Heap} {tabs : List (Addr × Str)} {h : Heap} (M : Bis mg) (X : K.In h) (G : h.Ns mainGlobals mg) (has : Has K "_law_worlds_told" s__law_worlds_told) : DefX P w K mg base (fam tabs) (XVm mg) "_law_worlds_told" s__law_worlds_told 1 ps__law_worlds_told (ofF 0 F__law_worlds_told) :=
  defX_of X G has sc__law_worlds_told (fun hr hg hF => b__law_worlds_told M hr hg hF) (fun _ _ _ _ _ _ us hl => match us, hl with | [], _ => rfl)
end K33

namespace K33
open PySem PySem.Spec PyProof.Rows L2 PL
theorem b__law_right_rows {P : Program} {w : World} {K : PySem.W.Frag} {mg : Str → Option Value} {base : Heap} {tabs : List (Addr × Str)} (M : Bis mg) (D__law_worlds_told : DefX P w K mg base (fam tabs) (XVm mg) "_law_worlds_told" s__law_worlds_told 1 ps__law_worlds_told (ofF 0 F__law_worlds_told))
    {f : Addr} {cdv : Value} {A : Around} {outer : List Env} {s : Shared} {H Z : Hp} {E : XK} {Fo : Option Fd} (hr : Room 1 (A.deeper (envOfC "_law_right_rows" (defScope s__law_right_rows) s.heap.objs.size f cdv))) (hgd : A.guards = some []) (hF : HasF (fam tabs) Fo) :
    Sts (bodyC P w K mg base (XVm mg) N__law_right_rows "_law_right_rows" s__law_right_rows f cdv A outer s H Z E Fo) (defBody s__law_right_rows) (ofS XF__law_right_rows) :=
  (show Sts _ _ (ofS ((xSeq (xAsg (xCall F__law_worlds_told xNil) (xgTp 4 (xgCons (xgNm 0) (xgCons (xgNm 1) (xgCons (xgNm 2) (xgCons (xgNm 3) xgNil))))))
    (xSeq (xAsg (xTup (xCons (xTup (xCons (xTup (xCons (xD (.str (Str.ofString "a"))) (xCons (xD (.str (Str.ofString "b"))) (xCons (xD (.int 5)) (xCons (xD (.int 6)) xNil))))) xNil)) (xCons (xTup (xCons (xTup (xCons (xD (.str (Str.ofString "a"))) (xCons (xD (.str (Str.ofString "b"))) (xCons (xD (.str (Str.ofString "c"))) xNil)))) (xCons (xTup (xCons (xTup (xCons (xD (.str (Str.ofString "a"))) (xCons (xD (.str (Str.ofString "b"))) (xCons (xD (.int 0)) (xCons (xD (.int 2)) xNil))))) (xCons (xTup (xCons (xD (.str (Str.ofString "a"))) (xCons (xD (.str (Str.ofString "c"))) (xCons (xD (.int 0)) (xCons (xD (.int 2)) xNil))))) xNil))) xNil))) xNil))) (xgTp 2 (xgCons (xgNm 4) (xgCons (xgNm 5) xgNil))))
    (xSeq (xOwn 6 (xLst (xCons (xTup (xCons (xVar 0) (xCons (xTup (xCons (xTup xNil) xNil)) (xCons (xVar 4) (xCons (xTup (xCons (xD (.str (Str.ofString "circle"))) (xCons (xTup (xCons (xTup (xCons (xD (.str (Str.ofString "a"))) (xCons (xTup xNil) (xCons (xTup (xCons (xD (.int 0)) (xCons (xD (.int 1)) xNil))) xNil)))) (xCons (xTup (xCons (xD (.str (Str.ofString "b"))) (xCons (xTup xNil) (xCons (xTup (xCons (xD (.int 0)) (xCons (xD (.int 0)) xNil))) xNil)))) xNil))) xNil))) (xCons (xTup (xCons (xD (.str (Str.ofString "told"))) (xCons (xTup (xCons (xD (.int 1)) (xCons (xD (.int 2)) xNil))) xNil))) xNil)))))) xNil)))
    (xSeq (xApp 6 (xTup (xCons (xVar 1) (xCons (xVar 2) (xCons (xVar 3) (xCons (xTup (xCons (xD (.str (Str.ofString "circle"))) (xCons (xTup xNil) xNil))) (xCons (xTup (xCons (xD (.str (Str.ofString "told"))) (xCons (xTup (xCons (xD (.int 0)) (xCons (xD (.int 1)) xNil))) xNil))) xNil)))))))
    (xSeq (xApp 6 (xTup (xCons (xVar 1) (xCons (xVar 2) (xCons (xVar 3) (xCons (xTup (xCons (xD (.str (Str.ofString "circle"))) (xCons (xTup (xCons (xTup (xCons (xD (.str (Str.ofString "a"))) (xCons (xTup (xCons (xD (.str (Str.ofString "b"))) xNil)) (xCons (xTup (xCons (xD (.int 0)) (xCons (xD (.int 7)) xNil))) xNil)))) (xCons (xTup (xCons (xD (.str (Str.ofString "c"))) (xCons (xTup (xCons (xD (.str (Str.ofString "a"))) xNil)) (xCons (xTup (xCons (xD (.int 1)) (xCons (xD (.int 0)) xNil))) xNil)))) (xCons (xTup (xCons (xD (.str (Str.ofString "b"))) (xCons (xTup (xCons (xD (.str (Str.ofString "c"))) xNil)) (xCons (xTup (xCons (xD (.int 0)) (xCons (xD (.int 1)) xNil))) xNil)))) xNil)))) xNil))) (xCons (xTup (xCons (xD (.str (Str.ofString "told"))) (xCons (xTup (xCons (xD (.int 7)) (xCons (xD (.int 3)) xNil))) xNil))) xNil)))))))
    (xSeq (xApp 6 (xTup (xCons (xVar 1) (xCons (xVar 2) (xCons (xVar 3) (xCons (xTup (xCons (xD (.str (Str.ofString "circle"))) (xCons (xTup (xCons (xTup (xCons (xD (.str (Str.ofString "a"))) (xCons (xTup (xCons (xD (.str (Str.ofString "b"))) xNil)) (xCons (xTup (xCons (xD (.int 0)) (xCons (xD (.int 7)) xNil))) xNil)))) (xCons (xTup (xCons (xD (.str (Str.ofString "c"))) (xCons (xTup (xCons (xD (.str (Str.ofString "a"))) xNil)) (xCons (xTup (xCons (xD (.int 1)) (xCons (xD (.int 0)) xNil))) xNil)))) (xCons (xTup (xCons (xD (.str (Str.ofString "b"))) (xCons (xTup (xCons (xD (.str (Str.ofString "c"))) xNil)) (xCons (xTup (xCons (xD (.int 1)) (xCons (xD (.int 0)) xNil))) xNil)))) xNil)))) xNil))) (xCons (xTup (xCons (xD (.str (Str.ofString "told"))) (xCons (xTup (xCons (xD (.int 3)) (xCons (xD (.int 1)) xNil))) xNil))) xNil)))))))
    (xSeq (xApp 6 (xTup (xCons (xVar 1) (xCons (xVar 2) (xCons (xVar 3) (xCons (xTup (xCons (xD (.str (Str.ofString "circle"))) (xCons (xTup (xCons (xTup (xCons (xD (.str (Str.ofString "a"))) (xCons (xTup (xCons (xD (.str (Str.ofString "b"))) xNil)) (xCons (xTup (xCons (xD (.int 2)) (xCons (xD (.int 9)) xNil))) xNil)))) (xCons (xTup (xCons (xD (.str (Str.ofString "c"))) (xCons (xTup (xCons (xD (.str (Str.ofString "b"))) xNil)) (xCons (xTup (xCons (xD (.int 0)) (xCons (xD (.int 5)) xNil))) xNil)))) xNil))) xNil))) (xCons (xTup (xCons (xD (.str (Str.ofString "told"))) (xCons (xTup (xCons (xD (.int 1)) (xCons (xD (.int 1)) xNil))) xNil))) xNil)))))))
    (xSeq (xApp 6 (xTup (xCons (xVar 0) (xCons (xTup (xCons (xTup xNil) xNil)) (xCons (xTup xNil) (xCons (xTup (xCons (xD (.str (Str.ofString "far"))) (xCons (xD (.str (Str.ofString "a"))) (xCons (xD (.str (Str.ofString "b"))) (xCons (xTup xNil) (xCons (xTup (xCons (xD (.int 0)) (xCons (xD (.int 0)) xNil))) (xCons (xTup (xCons (xD (.str (Str.ofString "b"))) xNil)) xNil))))))) (xCons (xTup (xCons (xD (.str (Str.ofString "told"))) (xCons (xD .none) xNil))) xNil)))))))
    (xSeq (xApp 6 (xTup (xCons (xVar 5) (xCons (xTup (xCons (xTup xNil) xNil)) (xCons (xTup (xCons (xTup (xCons (xD (.str (Str.ofString "a"))) (xCons (xD (.str (Str.ofString "b"))) (xCons (xD (.int 0)) (xCons (xD (.int 1)) xNil))))) xNil)) (xCons (xTup (xCons (xD (.str (Str.ofString "far"))) (xCons (xD (.str (Str.ofString "a"))) (xCons (xD (.str (Str.ofString "c"))) (xCons (xTup xNil) (xCons (xTup (xCons (xD (.int 0)) (xCons (xD (.int 0)) (xCons (xD (.int 5)) xNil)))) (xCons (xTup (xCons (xD (.str (Str.ofString "c"))) xNil)) xNil))))))) (xCons (xTup (xCons (xD (.str (Str.ofString "told"))) (xCons (xD .none) xNil))) xNil)))))))
    (xSeq (xApp 6 (xTup (xCons (xVar 5) (xCons (xTup (xCons (xTup (xCons (xD (.str (Str.ofString "a"))) xNil)) xNil)) (xCons (xTup (xCons (xTup (xCons (xD (.str (Str.ofString "a"))) (xCons (xD (.str (Str.ofString "b"))) (xCons (xD (.int 0)) (xCons (xD (.int 1)) xNil))))) (xCons (xTup (xCons (xD (.str (Str.ofString "a"))) (xCons (xD (.str (Str.ofString "c"))) (xCons (xD (.int 0)) (xCons (xD (.int 9)) xNil))))) xNil))) (xCons (xTup (xCons (xD (.str (Str.ofString "far"))) (xCons (xD (.str (Str.ofString "b"))) (xCons (xD (.str (Str.ofString "c"))) (xCons (xTup (xCons (xD (.str (Str.ofString "a"))) xNil)) (xCons (xTup (xCons (xD (.int 3)) (xCons (xUn pNeg (xD (.int 3))) xNil))) (xCons (xTup (xCons (xD (.str (Str.ofString "c"))) xNil)) xNil))))))) (xCons (xTup (xCons (xD (.str (Str.ofString "told"))) (xCons (xD .none) xNil))) xNil)))))))
    (xRet (xBin pAdd (xVar 6) (xNew (xLst (xCons (xTup (xCons (xVar 1) (xCons (xVar 2) (xCons (xVar 3) (xCons (xTup (xCons (xD (.str (Str.ofString "circle"))) (xCons (xTup (xCons (xTup (xCons (xD (.str (Str.ofString "c"))) (xCons (xTup (xCons (xD (.str (Str.ofString "b"))) xNil)) (xCons (xTup (xCons (xD (.int 0)) (xCons (xD (.int 5)) xNil))) xNil)))) (xCons (xTup (xCons (xD (.str (Str.ofString "a"))) (xCons (xTup (xCons (xD (.str (Str.ofString "c"))) xNil)) (xCons (xTup (xCons (xD (.int 0)) (xCons (xD (.int 0)) xNil))) xNil)))) (xCons (xTup (xCons (xD (.str (Str.ofString "b"))) (xCons (xTup (xCons (xD (.str (Str.ofString "a"))) xNil)) (xCons (xTup (xCons (xD (.int 0)) (xCons (xD (.int 1)) xNil))) xNil)))) xNil)))) xNil))) (xCons (xTup (xCons (xD (.str (Str.ofString "told"))) (xCons (xTup (xCons (xD (.int 0)) (xCons (xD (.int 1)) xNil))) xNil))) xNil)))))) xNil))))))))))))))))) from (xs_cons (xs_asg (x_call0 D__law_worlds_told rfl hF (hr.mono (by decide)) hgd (by rfl) lets_body) (xg_tup rfl (xgs_cons (xg_nm (i := 0) sc__law_right_rows.nd rfl (.inl rfl)) (xgs_cons (xg_nm (i := 1) sc__law_right_rows.nd rfl (.inl rfl)) (xgs_cons (xg_nm (i := 2) sc__law_right_rows.nd rfl (.inl rfl)) (xgs_cons (xg_nm (i := 3) sc__law_right_rows.nd rfl (.inl rfl)) xgs_nil))))))
    (xs_cons (xs_asg (x_tup (xa_cons (x_tup (xa_cons (x_tup (xa_cons x_str (xa_cons x_str (xa_cons x_int (xa_cons x_int xa_nil))))) xa_nil)) (xa_cons (x_tup (xa_cons (x_tup (xa_cons x_str (xa_cons x_str (xa_cons x_str xa_nil)))) (xa_cons (x_tup (xa_cons (x_tup (xa_cons x_str (xa_cons x_str (xa_cons x_int (xa_cons x_int xa_nil))))) (xa_cons (x_tup (xa_cons x_str (xa_cons x_str (xa_cons x_int (xa_cons x_int xa_nil))))) xa_nil))) xa_nil))) xa_nil))) (xg_tup rfl (xgs_cons (xg_nm (i := 4) sc__law_right_rows.nd rfl (.inl rfl)) (xgs_cons (xg_nm (i := 5) sc__law_right_rows.nd rfl (.inl rfl)) xgs_nil))))
    (xs_cons (xs_own (i := 6) sc__law_right_rows.nd rfl (.inl rfl) (xn_lst (xa_cons (x_tup (xa_cons (x_var 0 (pv 0)) (xa_cons (x_tup (xa_cons (x_tup xa_nil) xa_nil)) (xa_cons (x_var 4 (pv 4)) (xa_cons (x_tup (xa_cons x_str (xa_cons (x_tup (xa_cons (x_tup (xa_cons x_str (xa_cons (x_tup xa_nil) (xa_cons (x_tup (xa_cons x_int (xa_cons x_int xa_nil))) xa_nil)))) (xa_cons (x_tup (xa_cons x_str (xa_cons (x_tup xa_nil) (xa_cons (x_tup (xa_cons x_int (xa_cons x_int xa_nil))) xa_nil)))) xa_nil))) xa_nil))) (xa_cons (x_tup (xa_cons x_str (xa_cons (x_tup (xa_cons x_int (xa_cons x_int xa_nil))) xa_nil))) xa_nil)))))) xa_nil)))
    (xs_cons (xs_app (pv 6) (x_tup (xa_cons (x_var 1 (pv 1)) (xa_cons (x_var 2 (pv 2)) (xa_cons (x_var 3 (pv 3)) (xa_cons (x_tup (xa_cons x_str (xa_cons (x_tup xa_nil) xa_nil))) (xa_cons (x_tup (xa_cons x_str (xa_cons (x_tup (xa_cons x_int (xa_cons x_int xa_nil))) xa_nil))) xa_nil)))))))
    (xs_cons (xs_app (pv 6) (x_tup (xa_cons (x_var 1 (pv 1)) (xa_cons (x_var 2 (pv 2)) (xa_cons (x_var 3 (pv 3)) (xa_cons (x_tup (xa_cons x_str (xa_cons (x_tup (xa_cons (x_tup (xa_cons x_str (xa_cons (x_tup (xa_cons x_str xa_nil)) (xa_cons (x_tup (xa_cons x_int (xa_cons x_int xa_nil))) xa_nil)))) (xa_cons (x_tup (xa_cons x_str (xa_cons (x_tup (xa_cons x_str xa_nil)) (xa_cons (x_tup (xa_cons x_int (xa_cons x_int xa_nil))) xa_nil)))) (xa_cons (x_tup (xa_cons x_str (xa_cons (x_tup (xa_cons x_str xa_nil)) (xa_cons (x_tup (xa_cons x_int (xa_cons x_int xa_nil))) xa_nil)))) xa_nil)))) xa_nil))) (xa_cons (x_tup (xa_cons x_str (xa_cons (x_tup (xa_cons x_int (xa_cons x_int xa_nil))) xa_nil))) xa_nil)))))))
    (xs_cons (xs_app (pv 6) (x_tup (xa_cons (x_var 1 (pv 1)) (xa_cons (x_var 2 (pv 2)) (xa_cons (x_var 3 (pv 3)) (xa_cons (x_tup (xa_cons x_str (xa_cons (x_tup (xa_cons (x_tup (xa_cons x_str (xa_cons (x_tup (xa_cons x_str xa_nil)) (xa_cons (x_tup (xa_cons x_int (xa_cons x_int xa_nil))) xa_nil)))) (xa_cons (x_tup (xa_cons x_str (xa_cons (x_tup (xa_cons x_str xa_nil)) (xa_cons (x_tup (xa_cons x_int (xa_cons x_int xa_nil))) xa_nil)))) (xa_cons (x_tup (xa_cons x_str (xa_cons (x_tup (xa_cons x_str xa_nil)) (xa_cons (x_tup (xa_cons x_int (xa_cons x_int xa_nil))) xa_nil)))) xa_nil)))) xa_nil))) (xa_cons (x_tup (xa_cons x_str (xa_cons (x_tup (xa_cons x_int (xa_cons x_int xa_nil))) xa_nil))) xa_nil)))))))
    (xs_cons (xs_app (pv 6) (x_tup (xa_cons (x_var 1 (pv 1)) (xa_cons (x_var 2 (pv 2)) (xa_cons (x_var 3 (pv 3)) (xa_cons (x_tup (xa_cons x_str (xa_cons (x_tup (xa_cons (x_tup (xa_cons x_str (xa_cons (x_tup (xa_cons x_str xa_nil)) (xa_cons (x_tup (xa_cons x_int (xa_cons x_int xa_nil))) xa_nil)))) (xa_cons (x_tup (xa_cons x_str (xa_cons (x_tup (xa_cons x_str xa_nil)) (xa_cons (x_tup (xa_cons x_int (xa_cons x_int xa_nil))) xa_nil)))) xa_nil))) xa_nil))) (xa_cons (x_tup (xa_cons x_str (xa_cons (x_tup (xa_cons x_int (xa_cons x_int xa_nil))) xa_nil))) xa_nil)))))))
    (xs_cons (xs_app (pv 6) (x_tup (xa_cons (x_var 0 (pv 0)) (xa_cons (x_tup (xa_cons (x_tup xa_nil) xa_nil)) (xa_cons (x_tup xa_nil) (xa_cons (x_tup (xa_cons x_str (xa_cons x_str (xa_cons x_str (xa_cons (x_tup xa_nil) (xa_cons (x_tup (xa_cons x_int (xa_cons x_int xa_nil))) (xa_cons (x_tup (xa_cons x_str xa_nil)) xa_nil))))))) (xa_cons (x_tup (xa_cons x_str (xa_cons x_non xa_nil))) xa_nil)))))))
    (xs_cons (xs_app (pv 6) (x_tup (xa_cons (x_var 5 (pv 5)) (xa_cons (x_tup (xa_cons (x_tup xa_nil) xa_nil)) (xa_cons (x_tup (xa_cons (x_tup (xa_cons x_str (xa_cons x_str (xa_cons x_int (xa_cons x_int xa_nil))))) xa_nil)) (xa_cons (x_tup (xa_cons x_str (xa_cons x_str (xa_cons x_str (xa_cons (x_tup xa_nil) (xa_cons (x_tup (xa_cons x_int (xa_cons x_int (xa_cons x_int xa_nil)))) (xa_cons (x_tup (xa_cons x_str xa_nil)) xa_nil))))))) (xa_cons (x_tup (xa_cons x_str (xa_cons x_non xa_nil))) xa_nil)))))))
    (xs_cons (xs_app (pv 6) (x_tup (xa_cons (x_var 5 (pv 5)) (xa_cons (x_tup (xa_cons (x_tup (xa_cons x_str xa_nil)) xa_nil)) (xa_cons (x_tup (xa_cons (x_tup (xa_cons x_str (xa_cons x_str (xa_cons x_int (xa_cons x_int xa_nil))))) (xa_cons (x_tup (xa_cons x_str (xa_cons x_str (xa_cons x_int (xa_cons x_int xa_nil))))) xa_nil))) (xa_cons (x_tup (xa_cons x_str (xa_cons x_str (xa_cons x_str (xa_cons (x_tup (xa_cons x_str xa_nil)) (xa_cons (x_tup (xa_cons x_int (xa_cons (x_neg x_int) xa_nil))) (xa_cons (x_tup (xa_cons x_str xa_nil)) xa_nil))))))) (xa_cons (x_tup (xa_cons x_str (xa_cons x_non xa_nil))) xa_nil)))))))
    (xs_one (xs_ret (x_bin o_add fits_add (x_var 6 (pv 6)) (x_new (xn_lst (xa_cons (x_tup (xa_cons (x_var 1 (pv 1)) (xa_cons (x_var 2 (pv 2)) (xa_cons (x_var 3 (pv 3)) (xa_cons (x_tup (xa_cons x_str (xa_cons (x_tup (xa_cons (x_tup (xa_cons x_str (xa_cons (x_tup (xa_cons x_str xa_nil)) (xa_cons (x_tup (xa_cons x_int (xa_cons x_int xa_nil))) xa_nil)))) (xa_cons (x_tup (xa_cons x_str (xa_cons (x_tup (xa_cons x_str xa_nil)) (xa_cons (x_tup (xa_cons x_int (xa_cons x_int xa_nil))) xa_nil)))) (xa_cons (x_tup (xa_cons x_str (xa_cons (x_tup (xa_cons x_str xa_nil)) (xa_cons (x_tup (xa_cons x_int (xa_cons x_int xa_nil))) xa_nil)))) xa_nil)))) xa_nil))) (xa_cons (x_tup (xa_cons x_str (xa_cons (x_tup (xa_cons x_int (xa_cons x_int xa_nil))) xa_nil))) xa_nil)))))) xa_nil)))))))))))))))))
theorem d__law_right_rows {P : Program} {w : World} {K : PySem.W.Frag} {mg : Str → Option Value} {base : Heap} {tabs : List (Addr × Str)} {h : Heap} (M : Bis mg) (X : K.In h) (G : h.Ns mainGlobals mg) (has : Has K "_law_right_rows" s__law_right_rows) (D__law_worlds_told : DefX P w K mg base (fam tabs) (XVm mg) "_law_worlds_told" s__law_worlds_told 1 ps__law_worlds_told (ofF 0 F__law_worlds_told)) : DefX P w K mg base (fam tabs) (XVm mg) "_law_right_rows" s__law_right_rows 2 ps__law_right_rows (ofF 0 F__law_right_rows) :=
  defX_of X G has sc__law_right_rows (fun hr hg hF => b__law_right_rows M D__law_worlds_told hr hg hF) (fun _ _ _ _ _ _ us hl => match us, hl with | [], _ => rfl)
end K33

namespace K33
open PySem PySem.Spec PyProof.Rows L2 PL
theorem b__law_circle_rows {P : Program} {w : World} {K : PySem.W.Frag} {mg : Str → Option Value} {base : Heap} {tabs : List (Addr × Str)} (M : Bis mg) (D__law_worlds_told : DefX P w K mg base (fam tabs) (XVm mg) "_law_worlds_told" s__law_worlds_told 1 ps__law_worlds_told (ofF 0 F__law_worlds_told))
    {f : Addr} {cdv : Value} {A : Around} {outer : List Env} {s : Shared} {H Z : Hp} {E : XK} {Fo : Option Fd} (hr : Room 1 (A.deeper (envOfC "_law_circle_rows" (defScope s__law_circle_rows) s.heap.objs.size f cdv))) (hgd : A.guards = some []) (hF : HasF (fam tabs) Fo) :
    Sts (bodyC P w K mg base (XVm mg) N__law_circle_rows "_law_circle_rows" s__law_circle_rows f cdv A outer s H Z E Fo) (defBody s__law_circle_rows) (ofS XF__law_circle_rows) :=
  (show Sts _ _ (ofS ((xSeq (xAsg (xCall F__law_worlds_told xNil) (xgTp 4 (xgCons (xgNm 0) (xgCons (xgNm 1) (xgCons (xgNm 2) (xgCons (xgNm 3) xgNil))))))
    (xSeq (xPar2 4 5 (xLent (xTup (xCons (xD (.str (Str.ofString "c"))) (xCons (xTup (xCons (xD (.str (Str.ofString "b"))) xNil)) (xCons (xTup (xCons (xD (.int 0)) (xCons (xD (.int 5)) xNil))) xNil))))) (xOwnE (xLst xNil)))
    (xSeq (xFor (xIt (xNew (xLst (xCons (xD .none) (xCons (xD (.int 0)) (xCons (xTup xNil) (xCons (xD (.str (Str.ofString "circle"))) (xCons (xTup (xCons (xD (.str (Str.ofString "circle"))) xNil)) (xCons (xNew (xLst (xCons (xD (.str (Str.ofString "circle"))) (xCons (xTup xNil) xNil)))) (xCons (xTup (xCons (xD (.str (Str.ofString "circle"))) (xCons (xNew (xLst xNil)) xNil))) (xCons (xTup (xCons (xD (.str (Str.ofString "circle"))) (xCons (xTup xNil) (xCons (xTup xNil) xNil)))) (xCons (xTup (xCons (xD (.str (Str.ofString "Circle"))) (xCons (xTup xNil) xNil))) (xCons (xTup (xCons (xTup xNil) (xCons (xD (.str (Str.ofString "circle"))) xNil))) xNil))))))))))))) (xgNm 6) (xApp 5 (xTup (xCons (xVar 1) (xCons (xVar 2) (xCons (xVar 3) (xCons (xVar 6) (xCons (xTup (xCons (xD (.str (Str.ofString "paper"))) (xCons (xD (.str (Str.ofString "shape"))) (xCons (xUn pNeg (xD (.int 1))) xNil)))) xNil))))))))
    (xSeq (xApp 5 (xTup (xCons (xVar 1) (xCons (xVar 2) (xCons (xVar 3) (xCons (xTup (xCons (xD (.str (Str.ofString "circle"))) (xCons (xTup (xCons (xVar 4) xNil)) xNil))) (xCons (xTup (xCons (xD (.str (Str.ofString "paper"))) (xCons (xD (.str (Str.ofString "many"))) (xCons (xUn pNeg (xD (.int 1))) xNil)))) xNil)))))))
    (xSeq (xApp 5 (xTup (xCons (xVar 1) (xCons (xVar 2) (xCons (xVar 3) (xCons (xTup (xCons (xD (.str (Str.ofString "circle"))) (xCons (xTup (xCons (xD .none) xNil)) xNil))) (xCons (xTup (xCons (xD (.str (Str.ofString "paper"))) (xCons (xD (.str (Str.ofString "many"))) (xCons (xUn pNeg (xD (.int 1))) xNil)))) xNil)))))))
    (xSeq (xFor (xIt (xNew (xLst (xCons (xD .none) (xCons (xTup xNil) (xCons (xTup (xCons (xD (.str (Str.ofString "a"))) (xCons (xTup xNil) xNil))) (xCons (xNew (xLst (xCons (xD (.str (Str.ofString "a"))) (xCons (xTup xNil) (xCons (xTup xNil) xNil))))) (xCons (xTup (xCons (xD (.str (Str.ofString "d"))) (xCons (xTup xNil) (xCons (xTup xNil) xNil)))) (xCons (xTup (xCons (xD (.str (Str.ofString "a"))) (xCons (xTup (xCons (xD (.str (Str.ofString "d"))) xNil)) (xCons (xTup xNil) xNil)))) (xCons (xTup (xCons (xD (.str (Str.ofString "a"))) (xCons (xTup (xCons (xD (.str (Str.ofString "c"))) (xCons (xD (.str (Str.ofString "b"))) xNil))) (xCons (xTup xNil) xNil)))) (xCons (xTup (xCons (xD (.str (Str.ofString "a"))) (xCons (xNew (xLst xNil)) (xCons (xTup xNil) xNil)))) (xCons (xTup (xCons (xD (.str (Str.ofString "a"))) (xCons (xTup xNil) (xCons (xNew (xLst (xCons (xD (.int 0)) xNil))) xNil)))) (xCons (xTup (xCons (xD (.int 0)) (xCons (xTup xNil) (xCons (xTup xNil) xNil)))) xNil))))))))))))) (xgNm 7) (xSeq (xApp 5 (xTup (xCons (xVar 1) (xCons (xVar 2) (xCons (xVar 3) (xCons (xTup (xCons (xD (.str (Str.ofString "circle"))) (xCons (xTup (xCons (xVar 4) (xCons (xVar 7) xNil))) xNil))) (xCons (xTup (xCons (xD (.str (Str.ofString "paper"))) (xCons (xD (.str (Str.ofString "step"))) (xCons (xD (.int 1)) xNil)))) xNil)))))))
    (xApp 5 (xTup (xCons (xVar 1) (xCons (xVar 2) (xCons (xVar 3) (xCons (xTup (xCons (xD (.str (Str.ofString "circle"))) (xCons (xTup (xCons (xVar 7) (xCons (xD .none) xNil))) xNil))) (xCons (xTup (xCons (xD (.str (Str.ofString "paper"))) (xCons (xD (.str (Str.ofString "step"))) (xCons (xD (.int 0)) xNil)))) xNil)))))))))
    (xSeq (xApp 5 (xTup (xCons (xVar 1) (xCons (xVar 2) (xCons (xVar 3) (xCons (xTup (xCons (xD (.str (Str.ofString "circle"))) (xCons (xTup (xCons (xVar 4) (xCons (xTup (xCons (xD (.str (Str.ofString "a"))) (xCons (xTup (xCons (xD (.str (Str.ofString "b"))) xNil)) (xCons (xTup (xCons (xD (.int 0)) (xCons (xD (.int 5)) xNil))) xNil)))) (xCons (xTup (xCons (xD (.str (Str.ofString "c"))) (xCons (xTup xNil) (xCons (xTup xNil) xNil)))) xNil)))) xNil))) (xCons (xTup (xCons (xD (.str (Str.ofString "paper"))) (xCons (xD (.str (Str.ofString "twice"))) (xCons (xD (.int 2)) xNil)))) xNil)))))))
    (xSeq (xApp 5 (xTup (xCons (xVar 1) (xCons (xVar 2) (xCons (xVar 3) (xCons (xTup (xCons (xD (.str (Str.ofString "circle"))) (xCons (xTup (xCons (xVar 4) (xCons (xVar 4) (xCons (xD .none) xNil)))) xNil))) (xCons (xTup (xCons (xD (.str (Str.ofString "paper"))) (xCons (xD (.str (Str.ofString "twice"))) (xCons (xD (.int 1)) xNil)))) xNil)))))))
    (xSeq (xFor (xIt (xNew (xLst (xCons (xTup (xCons (xD (.str (Str.ofString "a"))) xNil)) (xCons (xTup (xCons (xD (.str (Str.ofString "c"))) xNil)) (xCons (xTup (xCons (xD (.str (Str.ofString "a"))) (xCons (xD (.str (Str.ofString "b"))) xNil))) (xCons (xTup (xCons (xD (.str (Str.ofString "b"))) (xCons (xD (.str (Str.ofString "c"))) xNil))) xNil))))))) (xgNm 8) (xApp 5 (xTup (xCons (xVar 1) (xCons (xVar 2) (xCons (xVar 3) (xCons (xTup (xCons (xD (.str (Str.ofString "circle"))) (xCons (xTup (xCons (xTup (xCons (xD (.str (Str.ofString "a"))) (xCons (xVar 8) (xCons (xTup (xCons (xD (.int 0)) (xCons (xD (.int 5)) xNil))) xNil)))) (xCons (xVar 4) xNil))) xNil))) (xCons (xTup (xCons (xD (.str (Str.ofString "paper"))) (xCons (xD (.str (Str.ofString "lot"))) (xCons (xD (.int 0)) xNil)))) xNil))))))))
    (xSeq (xApp 5 (xTup (xCons (xVar 1) (xCons (xVar 2) (xCons (xVar 3) (xCons (xTup (xCons (xD (.str (Str.ofString "circle"))) (xCons (xTup (xCons (xTup (xCons (xD (.str (Str.ofString "a"))) (xCons (xTup (xCons (xD (.str (Str.ofString "b"))) xNil)) (xCons (xTup (xCons (xD (.int 0)) (xCons (xD (.int 5)) xNil))) xNil)))) (xCons (xTup (xCons (xD (.str (Str.ofString "c"))) (xCons (xTup (xCons (xD (.str (Str.ofString "a"))) xNil)) (xCons (xTup xNil) xNil)))) xNil))) xNil))) (xCons (xTup (xCons (xD (.str (Str.ofString "paper"))) (xCons (xD (.str (Str.ofString "lot"))) (xCons (xD (.int 1)) xNil)))) xNil)))))))
    (xSeq (xFor (xIt (xNew (xLst (xCons (xTup xNil) (xCons (xTup (xCons (xD (.int 0)) xNil)) (xCons (xTup (xCons (xD (.int 0)) (xCons (xD (.int 4)) xNil))) (xCons (xTup (xCons (xD (.int 0)) (xCons (xD (.int 8)) xNil))) (xCons (xTup (xCons (xD (.int 0)) (xCons (xD (.bool true)) xNil))) (xCons (xTup (xCons (xD (.int 0)) (xCons (xD (.int 5)) (xCons (xD (.int 0)) xNil)))) (xCons (xTup (xCons (xD (.int 0)) (xCons (xD .none) xNil))) (xCons (xTup (xCons (xD (.str (Str.ofString "0"))) (xCons (xD (.int 5)) xNil))) xNil))))))))))) (xgNm 9) (xApp 5 (xTup (xCons (xVar 1) (xCons (xVar 2) (xCons (xVar 3) (xCons (xTup (xCons (xD (.str (Str.ofString "circle"))) (xCons (xTup (xCons (xTup (xCons (xD (.str (Str.ofString "a"))) (xCons (xTup (xCons (xD (.str (Str.ofString "b"))) xNil)) (xCons (xVar 9) xNil)))) (xCons (xTup (xCons (xD (.str (Str.ofString "c"))) (xCons (xTup (xCons (xD (.str (Str.ofString "a"))) xNil)) (xCons (xVar 9) xNil)))) xNil))) xNil))) (xCons (xTup (xCons (xD (.str (Str.ofString "paper"))) (xCons (xD (.str (Str.ofString "gains"))) (xCons (xD (.int 0)) xNil)))) xNil))))))))
    (xSeq (xApp 5 (xTup (xCons (xVar 1) (xCons (xVar 2) (xCons (xVar 3) (xCons (xTup (xCons (xD (.str (Str.ofString "circle"))) (xCons (xTup (xCons (xVar 4) (xCons (xTup (xCons (xD (.str (Str.ofString "a"))) (xCons (xTup (xCons (xD (.str (Str.ofString "b"))) xNil)) (xCons (xTup (xCons (xD (.int 0)) (xCons (xD (.int 4)) xNil))) xNil)))) xNil))) xNil))) (xCons (xTup (xCons (xD (.str (Str.ofString "paper"))) (xCons (xD (.str (Str.ofString "gains"))) (xCons (xD (.int 1)) xNil)))) xNil)))))))
    (xRet (xBin pAdd (xVar 5) (xNew (xLst (xCons (xTup (xCons (xVar 1) (xCons (xVar 2) (xCons (xVar 3) (xCons (xTup (xCons (xD (.str (Str.ofString "circle"))) (xCons (xTup (xCons (xTup (xCons (xD (.str (Str.ofString "a"))) (xCons (xTup xNil) (xCons (xTup (xCons (xD (.int 0)) (xCons (xD (.int 0)) (xCons (xD (.int 5)) xNil)))) xNil)))) (xCons (xVar 4) xNil))) xNil))) (xCons (xTup (xCons (xD (.str (Str.ofString "paper"))) (xCons (xD (.str (Str.ofString "gains"))) (xCons (xD (.int 0)) xNil)))) xNil)))))) xNil))))))))))))))))))) from (xs_cons (xs_asg (x_call0 D__law_worlds_told rfl hF (hr.mono (by decide)) hgd (by rfl) lets_body) (xg_tup rfl (xgs_cons (xg_nm (i := 0) sc__law_circle_rows.nd rfl (.inl rfl)) (xgs_cons (xg_nm (i := 1) sc__law_circle_rows.nd rfl (.inl rfl)) (xgs_cons (xg_nm (i := 2) sc__law_circle_rows.nd rfl (.inl rfl)) (xgs_cons (xg_nm (i := 3) sc__law_circle_rows.nd rfl (.inl rfl)) xgs_nil))))))
    (xs_cons (xs_par2 (i := 4) (j := 5) rfl sc__law_circle_rows.nd rfl rfl (by decide) rfl rfl (ef_lent (x_tup (xa_cons x_str (xa_cons (x_tup (xa_cons x_str xa_nil)) (xa_cons (x_tup (xa_cons x_int (xa_cons x_int xa_nil))) xa_nil))))) (ef_own (xn_lst xa_nil)) (by rfl))
    (xs_cons (xs_for (passes_of rfl) rfl (xi_any (x_new (xn_lst (xa_cons x_non (xa_cons x_int (xa_cons (x_tup xa_nil) (xa_cons x_str (xa_cons (x_tup (xa_cons x_str xa_nil)) (xa_cons (x_new (xn_lst (xa_cons x_str (xa_cons (x_tup xa_nil) xa_nil)))) (xa_cons (x_tup (xa_cons x_str (xa_cons (x_new (xn_lst xa_nil)) xa_nil))) (xa_cons (x_tup (xa_cons x_str (xa_cons (x_tup xa_nil) (xa_cons (x_tup xa_nil) xa_nil)))) (xa_cons (x_tup (xa_cons x_str (xa_cons (x_tup xa_nil) xa_nil))) (xa_cons (x_tup (xa_cons (x_tup xa_nil) (xa_cons x_str xa_nil))) xa_nil))))))))))))) (fun _ => (xg_nm (i := 6) sc__law_circle_rows.nd rfl (.inl rfl))) (fun _ => (xs_one (xs_app (pv 5) (x_tup (xa_cons (x_var 1 (pv 1)) (xa_cons (x_var 2 (pv 2)) (xa_cons (x_var 3 (pv 3)) (xa_cons (x_var 6 (pv 6)) (xa_cons (x_tup (xa_cons x_str (xa_cons x_str (xa_cons (x_neg x_int) xa_nil)))) xa_nil))))))))))
    (xs_cons (xs_app (pv 5) (x_tup (xa_cons (x_var 1 (pv 1)) (xa_cons (x_var 2 (pv 2)) (xa_cons (x_var 3 (pv 3)) (xa_cons (x_tup (xa_cons x_str (xa_cons (x_tup (xa_cons (x_var 4 (pv 4)) xa_nil)) xa_nil))) (xa_cons (x_tup (xa_cons x_str (xa_cons x_str (xa_cons (x_neg x_int) xa_nil)))) xa_nil)))))))
    (xs_cons (xs_app (pv 5) (x_tup (xa_cons (x_var 1 (pv 1)) (xa_cons (x_var 2 (pv 2)) (xa_cons (x_var 3 (pv 3)) (xa_cons (x_tup (xa_cons x_str (xa_cons (x_tup (xa_cons x_non xa_nil)) xa_nil))) (xa_cons (x_tup (xa_cons x_str (xa_cons x_str (xa_cons (x_neg x_int) xa_nil)))) xa_nil)))))))
    (xs_cons (xs_for (passes_of rfl) rfl (xi_any (x_new (xn_lst (xa_cons x_non (xa_cons (x_tup xa_nil) (xa_cons (x_tup (xa_cons x_str (xa_cons (x_tup xa_nil) xa_nil))) (xa_cons (x_new (xn_lst (xa_cons x_str (xa_cons (x_tup xa_nil) (xa_cons (x_tup xa_nil) xa_nil))))) (xa_cons (x_tup (xa_cons x_str (xa_cons (x_tup xa_nil) (xa_cons (x_tup xa_nil) xa_nil)))) (xa_cons (x_tup (xa_cons x_str (xa_cons (x_tup (xa_cons x_str xa_nil)) (xa_cons (x_tup xa_nil) xa_nil)))) (xa_cons (x_tup (xa_cons x_str (xa_cons (x_tup (xa_cons x_str (xa_cons x_str xa_nil))) (xa_cons (x_tup xa_nil) xa_nil)))) (xa_cons (x_tup (xa_cons x_str (xa_cons (x_new (xn_lst xa_nil)) (xa_cons (x_tup xa_nil) xa_nil)))) (xa_cons (x_tup (xa_cons x_str (xa_cons (x_tup xa_nil) (xa_cons (x_new (xn_lst (xa_cons x_int xa_nil))) xa_nil)))) (xa_cons (x_tup (xa_cons x_int (xa_cons (x_tup xa_nil) (xa_cons (x_tup xa_nil) xa_nil)))) xa_nil))))))))))))) (fun _ => (xg_nm (i := 7) sc__law_circle_rows.nd rfl (.inl rfl))) (fun _ => (xs_cons (xs_app (pv 5) (x_tup (xa_cons (x_var 1 (pv 1)) (xa_cons (x_var 2 (pv 2)) (xa_cons (x_var 3 (pv 3)) (xa_cons (x_tup (xa_cons x_str (xa_cons (x_tup (xa_cons (x_var 4 (pv 4)) (xa_cons (x_var 7 (pv 7)) xa_nil))) xa_nil))) (xa_cons (x_tup (xa_cons x_str (xa_cons x_str (xa_cons x_int xa_nil)))) xa_nil)))))))
    (xs_one (xs_app (pv 5) (x_tup (xa_cons (x_var 1 (pv 1)) (xa_cons (x_var 2 (pv 2)) (xa_cons (x_var 3 (pv 3)) (xa_cons (x_tup (xa_cons x_str (xa_cons (x_tup (xa_cons (x_var 7 (pv 7)) (xa_cons x_non xa_nil))) xa_nil))) (xa_cons (x_tup (xa_cons x_str (xa_cons x_str (xa_cons x_int xa_nil)))) xa_nil)))))))))))
    (xs_cons (xs_app (pv 5) (x_tup (xa_cons (x_var 1 (pv 1)) (xa_cons (x_var 2 (pv 2)) (xa_cons (x_var 3 (pv 3)) (xa_cons (x_tup (xa_cons x_str (xa_cons (x_tup (xa_cons (x_var 4 (pv 4)) (xa_cons (x_tup (xa_cons x_str (xa_cons (x_tup (xa_cons x_str xa_nil)) (xa_cons (x_tup (xa_cons x_int (xa_cons x_int xa_nil))) xa_nil)))) (xa_cons (x_tup (xa_cons x_str (xa_cons (x_tup xa_nil) (xa_cons (x_tup xa_nil) xa_nil)))) xa_nil)))) xa_nil))) (xa_cons (x_tup (xa_cons x_str (xa_cons x_str (xa_cons x_int xa_nil)))) xa_nil)))))))
    (xs_cons (xs_app (pv 5) (x_tup (xa_cons (x_var 1 (pv 1)) (xa_cons (x_var 2 (pv 2)) (xa_cons (x_var 3 (pv 3)) (xa_cons (x_tup (xa_cons x_str (xa_cons (x_tup (xa_cons (x_var 4 (pv 4)) (xa_cons (x_var 4 (pv 4)) (xa_cons x_non xa_nil)))) xa_nil))) (xa_cons (x_tup (xa_cons x_str (xa_cons x_str (xa_cons x_int xa_nil)))) xa_nil)))))))
    (xs_cons (xs_for (passes_of rfl) rfl (xi_any (x_new (xn_lst (xa_cons (x_tup (xa_cons x_str xa_nil)) (xa_cons (x_tup (xa_cons x_str xa_nil)) (xa_cons (x_tup (xa_cons x_str (xa_cons x_str xa_nil))) (xa_cons (x_tup (xa_cons x_str (xa_cons x_str xa_nil))) xa_nil))))))) (fun _ => (xg_nm (i := 8) sc__law_circle_rows.nd rfl (.inl rfl))) (fun _ => (xs_one (xs_app (pv 5) (x_tup (xa_cons (x_var 1 (pv 1)) (xa_cons (x_var 2 (pv 2)) (xa_cons (x_var 3 (pv 3)) (xa_cons (x_tup (xa_cons x_str (xa_cons (x_tup (xa_cons (x_tup (xa_cons x_str (xa_cons (x_var 8 (pv 8)) (xa_cons (x_tup (xa_cons x_int (xa_cons x_int xa_nil))) xa_nil)))) (xa_cons (x_var 4 (pv 4)) xa_nil))) xa_nil))) (xa_cons (x_tup (xa_cons x_str (xa_cons x_str (xa_cons x_int xa_nil)))) xa_nil))))))))))
    (xs_cons (xs_app (pv 5) (x_tup (xa_cons (x_var 1 (pv 1)) (xa_cons (x_var 2 (pv 2)) (xa_cons (x_var 3 (pv 3)) (xa_cons (x_tup (xa_cons x_str (xa_cons (x_tup (xa_cons (x_tup (xa_cons x_str (xa_cons (x_tup (xa_cons x_str xa_nil)) (xa_cons (x_tup (xa_cons x_int (xa_cons x_int xa_nil))) xa_nil)))) (xa_cons (x_tup (xa_cons x_str (xa_cons (x_tup (xa_cons x_str xa_nil)) (xa_cons (x_tup xa_nil) xa_nil)))) xa_nil))) xa_nil))) (xa_cons (x_tup (xa_cons x_str (xa_cons x_str (xa_cons x_int xa_nil)))) xa_nil)))))))
    (xs_cons (xs_for (passes_of rfl) rfl (xi_any (x_new (xn_lst (xa_cons (x_tup xa_nil) (xa_cons (x_tup (xa_cons x_int xa_nil)) (xa_cons (x_tup (xa_cons x_int (xa_cons x_int xa_nil))) (xa_cons (x_tup (xa_cons x_int (xa_cons x_int xa_nil))) (xa_cons (x_tup (xa_cons x_int (xa_cons x_bl xa_nil))) (xa_cons (x_tup (xa_cons x_int (xa_cons x_int (xa_cons x_int xa_nil)))) (xa_cons (x_tup (xa_cons x_int (xa_cons x_non xa_nil))) (xa_cons (x_tup (xa_cons x_str (xa_cons x_int xa_nil))) xa_nil))))))))))) (fun _ => (xg_nm (i := 9) sc__law_circle_rows.nd rfl (.inl rfl))) (fun _ => (xs_one (xs_app (pv 5) (x_tup (xa_cons (x_var 1 (pv 1)) (xa_cons (x_var 2 (pv 2)) (xa_cons (x_var 3 (pv 3)) (xa_cons (x_tup (xa_cons x_str (xa_cons (x_tup (xa_cons (x_tup (xa_cons x_str (xa_cons (x_tup (xa_cons x_str xa_nil)) (xa_cons (x_var 9 (pv 9)) xa_nil)))) (xa_cons (x_tup (xa_cons x_str (xa_cons (x_tup (xa_cons x_str xa_nil)) (xa_cons (x_var 9 (pv 9)) xa_nil)))) xa_nil))) xa_nil))) (xa_cons (x_tup (xa_cons x_str (xa_cons x_str (xa_cons x_int xa_nil)))) xa_nil))))))))))
    (xs_cons (xs_app (pv 5) (x_tup (xa_cons (x_var 1 (pv 1)) (xa_cons (x_var 2 (pv 2)) (xa_cons (x_var 3 (pv 3)) (xa_cons (x_tup (xa_cons x_str (xa_cons (x_tup (xa_cons (x_var 4 (pv 4)) (xa_cons (x_tup (xa_cons x_str (xa_cons (x_tup (xa_cons x_str xa_nil)) (xa_cons (x_tup (xa_cons x_int (xa_cons x_int xa_nil))) xa_nil)))) xa_nil))) xa_nil))) (xa_cons (x_tup (xa_cons x_str (xa_cons x_str (xa_cons x_int xa_nil)))) xa_nil)))))))
    (xs_one (xs_ret (x_bin o_add fits_add (x_var 5 (pv 5)) (x_new (xn_lst (xa_cons (x_tup (xa_cons (x_var 1 (pv 1)) (xa_cons (x_var 2 (pv 2)) (xa_cons (x_var 3 (pv 3)) (xa_cons (x_tup (xa_cons x_str (xa_cons (x_tup (xa_cons (x_tup (xa_cons x_str (xa_cons (x_tup xa_nil) (xa_cons (x_tup (xa_cons x_int (xa_cons x_int (xa_cons x_int xa_nil)))) xa_nil)))) (xa_cons (x_var 4 (pv 4)) xa_nil))) xa_nil))) (xa_cons (x_tup (xa_cons x_str (xa_cons x_str (xa_cons x_int xa_nil)))) xa_nil)))))) xa_nil)))))))))))))))))))
theorem d__law_circle_rows {P : Program} {w : World} {K : PySem.W.Frag} {mg : Str → Option Value} {base : Heap} {tabs : List (Addr × Str)} {h : Heap} (M : Bis mg) (X : K.In h) (G : h.Ns mainGlobals mg) (has : Has K "_law_circle_rows" s__law_circle_rows) (D__law_worlds_told : DefX P w K mg base (fam tabs) (XVm mg) "_law_worlds_told" s__law_worlds_told 1 ps__law_worlds_told (ofF 0 F__law_worlds_told)) : DefX P w K mg base (fam tabs) (XVm mg) "_law_circle_rows" s__law_circle_rows 2 ps__law_circle_rows (ofF 0 F__law_circle_rows) :=
  defX_of X G has sc__law_circle_rows (fun hr hg hF => b__law_circle_rows M D__law_worlds_told hr hg hF) (fun _ _ _ _ _ _ us hl => match us, hl with | [], _ => rfl)
end K33

namespace K33
open PySem PySem.Spec PyProof.Rows L2 PL
theorem b__law_far_rows {P : Program} {w : World} {K : PySem.W.Frag} {mg : Str → Option Value} {base : Heap} {tabs : List (Addr × Str)} (M : Bis mg) (D__law_worlds_told : DefX P w K mg base (fam tabs) (XVm mg) "_law_worlds_told" s__law_worlds_told 1 ps__law_worlds_told (ofF 0 F__law_worlds_told))
    {f : Addr} {cdv : Value} {A : Around} {outer : List Env} {s : Shared} {H Z : Hp} {E : XK} {Fo : Option Fd} (hr : Room 1 (A.deeper (envOfC "_law_far_rows" (defScope s__law_far_rows) s.heap.objs.size f cdv))) (hgd : A.guards = some []) (hF : HasF (fam tabs) Fo) :
    Sts (bodyC P w K mg base (XVm mg) N__law_far_rows "_law_far_rows" s__law_far_rows f cdv A outer s H Z E Fo) (defBody s__law_far_rows) (ofS XF__law_far_rows) :=
  (show Sts _ _ (ofS ((xSeq (xAsg (xCall F__law_worlds_told xNil) (xgTp 4 (xgCons (xgNm 0) (xgCons (xgNm 1) (xgCons (xgNm 2) (xgCons (xgNm 3) xgNil))))))
    (xSeq (xAsg (xTup (xCons (xTup (xCons (xTup (xCons (xD (.str (Str.ofString "a"))) (xCons (xD (.str (Str.ofString "b"))) (xCons (xD (.str (Str.ofString "c"))) xNil)))) (xCons (xTup (xCons (xTup (xCons (xD (.str (Str.ofString "a"))) (xCons (xD (.str (Str.ofString "b"))) (xCons (xD (.int 0)) (xCons (xD (.int 2)) xNil))))) (xCons (xTup (xCons (xD (.str (Str.ofString "a"))) (xCons (xD (.str (Str.ofString "c"))) (xCons (xD (.int 0)) (xCons (xD (.int 2)) xNil))))) xNil))) xNil))) (xCons (xTup (xCons (xTup (xCons (xD (.str (Str.ofString "a"))) (xCons (xD (.str (Str.ofString "b"))) (xCons (xD (.int 0)) (xCons (xD (.int 1)) xNil))))) (xCons (xTup (xCons (xD (.str (Str.ofString "a"))) (xCons (xD (.str (Str.ofString "b"))) (xCons (xD (.int 0)) (xCons (xD (.int 2)) xNil))))) xNil))) xNil))) (xgTp 2 (xgCons (xgNm 4) (xgCons (xgNm 5) xgNil))))
    (xSeq (xOwn 6 (xLst xNil))
    (xSeq (xFor (xIt (xNew (xLst (xCons (xTup (xCons (xD (.str (Str.ofString "far"))) (xCons (xD (.str (Str.ofString "a"))) (xCons (xD (.str (Str.ofString "c"))) (xCons (xTup xNil) (xCons (xTup (xCons (xD (.int 0)) (xCons (xD (.int 0)) (xCons (xD (.int 0)) xNil)))) xNil)))))) (xCons (xTup (xCons (xD (.str (Str.ofString "far"))) (xCons (xD (.str (Str.ofString "a"))) (xCons (xD (.str (Str.ofString "c"))) (xCons (xTup xNil) (xCons (xTup (xCons (xD (.int 0)) (xCons (xD (.int 0)) (xCons (xD (.int 0)) xNil)))) (xCons (xTup (xCons (xD (.str (Str.ofString "c"))) xNil)) (xCons (xD (.int 0)) xNil)))))))) (xCons (xNew (xLst (xCons (xD (.str (Str.ofString "far"))) (xCons (xD (.str (Str.ofString "a"))) (xCons (xD (.str (Str.ofString "c"))) (xCons (xTup xNil) (xCons (xTup (xCons (xD (.int 0)) (xCons (xD (.int 0)) (xCons (xD (.int 0)) xNil)))) (xCons (xTup (xCons (xD (.str (Str.ofString "c"))) xNil)) xNil)))))))) xNil)))))) (xgNm 7) (xApp 6 (xTup (xCons (xVar 4) (xCons (xTup (xCons (xTup xNil) xNil)) (xCons (xVar 5) (xCons (xVar 7) (xCons (xTup (xCons (xD (.str (Str.ofString "paper"))) (xCons (xD (.str (Str.ofString "shape"))) (xCons (xUn pNeg (xD (.int 1))) xNil)))) xNil))))))))
    (xSeq (xFor (xIt (xNew (xLst (xCons (xD .none) (xCons (xD (.str (Str.ofString "d"))) (xCons (xD (.int 0)) (xCons (xTup (xCons (xD (.str (Str.ofString "a"))) xNil)) (xCons (xD (.str (Str.ofString ""))) xNil)))))))) (xgNm 8) (xSeq (xApp 6 (xTup (xCons (xVar 4) (xCons (xTup (xCons (xTup xNil) xNil)) (xCons (xVar 5) (xCons (xTup (xCons (xD (.str (Str.ofString "far"))) (xCons (xVar 8) (xCons (xVar 8) (xCons (xVar 8) (xCons (xVar 8) (xCons (xVar 8) xNil))))))) (xCons (xTup (xCons (xD (.str (Str.ofString "paper"))) (xCons (xD (.str (Str.ofString "one"))) (xCons (xUn pNeg (xD (.int 1))) xNil)))) xNil)))))))
    (xApp 6 (xTup (xCons (xVar 4) (xCons (xTup (xCons (xTup xNil) xNil)) (xCons (xVar 5) (xCons (xTup (xCons (xD (.str (Str.ofString "far"))) (xCons (xD (.str (Str.ofString "a"))) (xCons (xVar 8) (xCons (xVar 8) (xCons (xVar 8) (xCons (xVar 8) xNil))))))) (xCons (xTup (xCons (xD (.str (Str.ofString "paper"))) (xCons (xD (.str (Str.ofString "other"))) (xCons (xUn pNeg (xD (.int 1))) xNil)))) xNil)))))))))
    (xSeq (xApp 6 (xTup (xCons (xVar 4) (xCons (xTup (xCons (xTup xNil) xNil)) (xCons (xVar 5) (xCons (xTup (xCons (xD (.str (Str.ofString "far"))) (xCons (xD (.str (Str.ofString "a"))) (xCons (xD (.str (Str.ofString "a"))) (xCons (xTup xNil) (xCons (xTup xNil) (xCons (xTup xNil) xNil))))))) (xCons (xTup (xCons (xD (.str (Str.ofString "paper"))) (xCons (xD (.str (Str.ofString "other"))) (xCons (xUn pNeg (xD (.int 1))) xNil)))) xNil)))))))
    (xSeq (xFor (xIt (xNew (xLst (xCons (xD .none) (xCons (xTup (xCons (xD (.str (Str.ofString "a"))) xNil)) (xCons (xTup (xCons (xD (.str (Str.ofString "c"))) xNil)) (xCons (xTup (xCons (xD (.str (Str.ofString "b"))) xNil)) (xCons (xTup (xCons (xD (.str (Str.ofString "d"))) xNil)) (xCons (xNew (xLst (xCons (xD (.str (Str.ofString "b"))) xNil))) (xCons (xTup (xCons (xD (.str (Str.ofString "c"))) (xCons (xD (.str (Str.ofString "b"))) xNil))) (xCons (xD (.str (Str.ofString "b"))) xNil))))))))))) (xgNm 9) (xApp 6 (xTup (xCons (xVar 4) (xCons (xTup (xCons (xTup xNil) xNil)) (xCons (xVar 5) (xCons (xTup (xCons (xD (.str (Str.ofString "far"))) (xCons (xD (.str (Str.ofString "a"))) (xCons (xD (.str (Str.ofString "c"))) (xCons (xVar 9) (xCons (xTup xNil) (xCons (xTup xNil) xNil))))))) (xCons (xTup (xCons (xD (.str (Str.ofString "paper"))) (xCons (xD (.str (Str.ofString "lot"))) (xCons (xUn pNeg (xD (.int 1))) xNil)))) xNil))))))))
    (xSeq (xFor (xIt (xNew (xLst (xCons (xD .none) (xCons (xTup xNil) (xCons (xTup (xCons (xD (.int 0)) (xCons (xD (.int 0)) xNil))) (xCons (xNew (xLst (xCons (xD (.int 0)) (xCons (xD (.int 0)) (xCons (xD (.int 0)) xNil))))) (xCons (xTup (xCons (xD (.int 0)) (xCons (xD (.int 2)) (xCons (xD (.int 0)) xNil)))) (xCons (xTup (xCons (xD (.int 0)) (xCons (xUn pNeg (xD (.int 3))) (xCons (xD (.int 0)) xNil)))) (xCons (xTup (xCons (xD (.int 0)) (xCons (xD (.int 0)) (xCons (xD (.bool true)) xNil)))) xNil)))))))))) (xgNm 10) (xApp 6 (xTup (xCons (xVar 4) (xCons (xTup (xCons (xTup xNil) xNil)) (xCons (xVar 5) (xCons (xTup (xCons (xD (.str (Str.ofString "far"))) (xCons (xD (.str (Str.ofString "a"))) (xCons (xD (.str (Str.ofString "c"))) (xCons (xTup xNil) (xCons (xVar 10) (xCons (xTup xNil) xNil))))))) (xCons (xTup (xCons (xD (.str (Str.ofString "paper"))) (xCons (xD (.str (Str.ofString "gains"))) (xCons (xUn pNeg (xD (.int 1))) xNil)))) xNil))))))))
    (xSeq (xFor (xIt (xNew (xLst (xCons (xD .none) (xCons (xTup xNil) (xCons (xTup (xCons (xD (.str (Str.ofString "a"))) (xCons (xD (.str (Str.ofString "c"))) xNil))) (xCons (xTup (xCons (xD (.str (Str.ofString "b"))) xNil)) (xCons (xNew (xLst (xCons (xD (.str (Str.ofString "c"))) xNil))) (xCons (xTup (xCons (xD (.str (Str.ofString "c"))) (xCons (xD (.str (Str.ofString "b"))) xNil))) (xCons (xTup (xCons (xD (.str (Str.ofString "c"))) (xCons (xD (.str (Str.ofString "c"))) xNil))) (xCons (xTup (xCons (xD (.str (Str.ofString "c"))) (xCons (xD (.str (Str.ofString "d"))) xNil))) (xCons (xD (.str (Str.ofString "c"))) (xCons (xTup (xCons (xD (.str (Str.ofString "a"))) xNil)) xNil))))))))))))) (xgNm 11) (xApp 6 (xTup (xCons (xVar 4) (xCons (xTup (xCons (xTup xNil) xNil)) (xCons (xVar 5) (xCons (xTup (xCons (xD (.str (Str.ofString "far"))) (xCons (xD (.str (Str.ofString "a"))) (xCons (xD (.str (Str.ofString "c"))) (xCons (xTup xNil) (xCons (xTup (xCons (xD (.int 0)) (xCons (xD (.int 0)) (xCons (xD (.int 0)) xNil)))) (xCons (xVar 11) xNil))))))) (xCons (xTup (xCons (xD (.str (Str.ofString "paper"))) (xCons (xD (.str (Str.ofString "part"))) (xCons (xUn pNeg (xD (.int 1))) xNil)))) xNil))))))))
    (xSeq (xApp 6 (xTup (xCons (xVar 4) (xCons (xTup (xCons (xTup (xCons (xD (.str (Str.ofString "b"))) xNil)) xNil)) (xCons (xVar 5) (xCons (xTup (xCons (xD (.str (Str.ofString "far"))) (xCons (xD (.str (Str.ofString "a"))) (xCons (xD (.str (Str.ofString "c"))) (xCons (xTup (xCons (xD (.str (Str.ofString "b"))) xNil)) (xCons (xTup (xCons (xD (.int 0)) (xCons (xD (.int 0)) xNil))) (xCons (xTup (xCons (xD (.str (Str.ofString "b"))) (xCons (xD (.str (Str.ofString "c"))) xNil))) xNil))))))) (xCons (xTup (xCons (xD (.str (Str.ofString "paper"))) (xCons (xD (.str (Str.ofString "part"))) (xCons (xUn pNeg (xD (.int 1))) xNil)))) xNil)))))))
    (xSeq (xApp 6 (xTup (xCons (xVar 4) (xCons (xTup (xCons (xTup xNil) xNil)) (xCons (xBin pAdd (xVar 5) (xTup (xCons (xTup (xCons (xD (.str (Str.ofString "a"))) (xCons (xD (.str (Str.ofString "c"))) (xCons (xD (.int 0)) (xCons (xD (.int 1)) xNil))))) xNil))) (xCons (xTup (xCons (xD (.str (Str.ofString "far"))) (xCons (xD (.str (Str.ofString "a"))) (xCons (xD (.str (Str.ofString "c"))) (xCons (xTup xNil) (xCons (xTup (xCons (xD (.int 0)) (xCons (xD (.int 0)) (xCons (xD (.int 0)) xNil)))) (xCons (xTup (xCons (xD (.str (Str.ofString "c"))) xNil)) xNil))))))) (xCons (xTup (xCons (xD (.str (Str.ofString "paper"))) (xCons (xD (.str (Str.ofString "letter"))) (xCons (xD (.int 2)) xNil)))) xNil)))))))
    (xSeq (xApp 6 (xTup (xCons (xVar 4) (xCons (xTup (xCons (xTup xNil) xNil)) (xCons (xVar 5) (xCons (xTup (xCons (xD (.str (Str.ofString "far"))) (xCons (xD (.str (Str.ofString "a"))) (xCons (xD (.str (Str.ofString "c"))) (xCons (xTup xNil) (xCons (xTup (xCons (xD (.int 0)) (xCons (xD (.int 0)) (xCons (xD (.int 0)) xNil)))) (xCons (xTup (xCons (xD (.str (Str.ofString "b"))) (xCons (xD (.str (Str.ofString "c"))) xNil))) xNil))))))) (xCons (xTup (xCons (xD (.str (Str.ofString "paper"))) (xCons (xD (.str (Str.ofString "letter"))) (xCons (xD (.int 0)) xNil)))) xNil)))))))
    (xRet (xBin pAdd (xVar 6) (xNew (xLst (xCons (xTup (xCons (xVar 0) (xCons (xTup (xCons (xTup xNil) xNil)) (xCons (xTup (xCons (xTup (xCons (xD (.str (Str.ofString "a"))) (xCons (xD (.str (Str.ofString "b"))) (xCons (xD (.int 5)) (xCons (xD (.int 6)) xNil))))) xNil)) (xCons (xTup (xCons (xD (.str (Str.ofString "far"))) (xCons (xD (.str (Str.ofString "a"))) (xCons (xD (.str (Str.ofString "b"))) (xCons (xTup xNil) (xCons (xTup (xCons (xD (.int 0)) (xCons (xD (.int 0)) xNil))) (xCons (xTup (xCons (xD (.str (Str.ofString "b"))) xNil)) xNil))))))) (xCons (xTup (xCons (xD (.str (Str.ofString "paper"))) (xCons (xD (.str (Str.ofString "letter"))) (xCons (xD (.int 0)) xNil)))) xNil)))))) xNil))))))))))))))))))) from (xs_cons (xs_asg (x_call0 D__law_worlds_told rfl hF (hr.mono (by decide)) hgd (by rfl) lets_body) (xg_tup rfl (xgs_cons (xg_nm (i := 0) sc__law_far_rows.nd rfl (.inl rfl)) (xgs_cons (xg_nm (i := 1) sc__law_far_rows.nd rfl (.inl rfl)) (xgs_cons (xg_nm (i := 2) sc__law_far_rows.nd rfl (.inl rfl)) (xgs_cons (xg_nm (i := 3) sc__law_far_rows.nd rfl (.inl rfl)) xgs_nil))))))
    (xs_cons (xs_asg (x_tup (xa_cons (x_tup (xa_cons (x_tup (xa_cons x_str (xa_cons x_str (xa_cons x_str xa_nil)))) (xa_cons (x_tup (xa_cons (x_tup (xa_cons x_str (xa_cons x_str (xa_cons x_int (xa_cons x_int xa_nil))))) (xa_cons (x_tup (xa_cons x_str (xa_cons x_str (xa_cons x_int (xa_cons x_int xa_nil))))) xa_nil))) xa_nil))) (xa_cons (x_tup (xa_cons (x_tup (xa_cons x_str (xa_cons x_str (xa_cons x_int (xa_cons x_int xa_nil))))) (xa_cons (x_tup (xa_cons x_str (xa_cons x_str (xa_cons x_int (xa_cons x_int xa_nil))))) xa_nil))) xa_nil))) (xg_tup rfl (xgs_cons (xg_nm (i := 4) sc__law_far_rows.nd rfl (.inl rfl)) (xgs_cons (xg_nm (i := 5) sc__law_far_rows.nd rfl (.inl rfl)) xgs_nil))))
    (xs_cons (xs_own (i := 6) sc__law_far_rows.nd rfl (.inl rfl) (xn_lst xa_nil))
    (xs_cons (xs_for (passes_of rfl) rfl (xi_any (x_new (xn_lst (xa_cons (x_tup (xa_cons x_str (xa_cons x_str (xa_cons x_str (xa_cons (x_tup xa_nil) (xa_cons (x_tup (xa_cons x_int (xa_cons x_int (xa_cons x_int xa_nil)))) xa_nil)))))) (xa_cons (x_tup (xa_cons x_str (xa_cons x_str (xa_cons x_str (xa_cons (x_tup xa_nil) (xa_cons (x_tup (xa_cons x_int (xa_cons x_int (xa_cons x_int xa_nil)))) (xa_cons (x_tup (xa_cons x_str xa_nil)) (xa_cons x_int xa_nil)))))))) (xa_cons (x_new (xn_lst (xa_cons x_str (xa_cons x_str (xa_cons x_str (xa_cons (x_tup xa_nil) (xa_cons (x_tup (xa_cons x_int (xa_cons x_int (xa_cons x_int xa_nil)))) (xa_cons (x_tup (xa_cons x_str xa_nil)) xa_nil)))))))) xa_nil)))))) (fun _ => (xg_nm (i := 7) sc__law_far_rows.nd rfl (.inl rfl))) (fun _ => (xs_one (xs_app (pv 6) (x_tup (xa_cons (x_var 4 (pv 4)) (xa_cons (x_tup (xa_cons (x_tup xa_nil) xa_nil)) (xa_cons (x_var 5 (pv 5)) (xa_cons (x_var 7 (pv 7)) (xa_cons (x_tup (xa_cons x_str (xa_cons x_str (xa_cons (x_neg x_int) xa_nil)))) xa_nil))))))))))
    (xs_cons (xs_for (passes_of rfl) rfl (xi_any (x_new (xn_lst (xa_cons x_non (xa_cons x_str (xa_cons x_int (xa_cons (x_tup (xa_cons x_str xa_nil)) (xa_cons x_str xa_nil)))))))) (fun _ => (xg_nm (i := 8) sc__law_far_rows.nd rfl (.inl rfl))) (fun _ => (xs_cons (xs_app (pv 6) (x_tup (xa_cons (x_var 4 (pv 4)) (xa_cons (x_tup (xa_cons (x_tup xa_nil) xa_nil)) (xa_cons (x_var 5 (pv 5)) (xa_cons (x_tup (xa_cons x_str (xa_cons (x_var 8 (pv 8)) (xa_cons (x_var 8 (pv 8)) (xa_cons (x_var 8 (pv 8)) (xa_cons (x_var 8 (pv 8)) (xa_cons (x_var 8 (pv 8)) xa_nil))))))) (xa_cons (x_tup (xa_cons x_str (xa_cons x_str (xa_cons (x_neg x_int) xa_nil)))) xa_nil)))))))
    (xs_one (xs_app (pv 6) (x_tup (xa_cons (x_var 4 (pv 4)) (xa_cons (x_tup (xa_cons (x_tup xa_nil) xa_nil)) (xa_cons (x_var 5 (pv 5)) (xa_cons (x_tup (xa_cons x_str (xa_cons x_str (xa_cons (x_var 8 (pv 8)) (xa_cons (x_var 8 (pv 8)) (xa_cons (x_var 8 (pv 8)) (xa_cons (x_var 8 (pv 8)) xa_nil))))))) (xa_cons (x_tup (xa_cons x_str (xa_cons x_str (xa_cons (x_neg x_int) xa_nil)))) xa_nil)))))))))))
    (xs_cons (xs_app (pv 6) (x_tup (xa_cons (x_var 4 (pv 4)) (xa_cons (x_tup (xa_cons (x_tup xa_nil) xa_nil)) (xa_cons (x_var 5 (pv 5)) (xa_cons (x_tup (xa_cons x_str (xa_cons x_str (xa_cons x_str (xa_cons (x_tup xa_nil) (xa_cons (x_tup xa_nil) (xa_cons (x_tup xa_nil) xa_nil))))))) (xa_cons (x_tup (xa_cons x_str (xa_cons x_str (xa_cons (x_neg x_int) xa_nil)))) xa_nil)))))))
    (xs_cons (xs_for (passes_of rfl) rfl (xi_any (x_new (xn_lst (xa_cons x_non (xa_cons (x_tup (xa_cons x_str xa_nil)) (xa_cons (x_tup (xa_cons x_str xa_nil)) (xa_cons (x_tup (xa_cons x_str xa_nil)) (xa_cons (x_tup (xa_cons x_str xa_nil)) (xa_cons (x_new (xn_lst (xa_cons x_str xa_nil))) (xa_cons (x_tup (xa_cons x_str (xa_cons x_str xa_nil))) (xa_cons x_str xa_nil))))))))))) (fun _ => (xg_nm (i := 9) sc__law_far_rows.nd rfl (.inl rfl))) (fun _ => (xs_one (xs_app (pv 6) (x_tup (xa_cons (x_var 4 (pv 4)) (xa_cons (x_tup (xa_cons (x_tup xa_nil) xa_nil)) (xa_cons (x_var 5 (pv 5)) (xa_cons (x_tup (xa_cons x_str (xa_cons x_str (xa_cons x_str (xa_cons (x_var 9 (pv 9)) (xa_cons (x_tup xa_nil) (xa_cons (x_tup xa_nil) xa_nil))))))) (xa_cons (x_tup (xa_cons x_str (xa_cons x_str (xa_cons (x_neg x_int) xa_nil)))) xa_nil))))))))))
    (xs_cons (xs_for (passes_of rfl) rfl (xi_any (x_new (xn_lst (xa_cons x_non (xa_cons (x_tup xa_nil) (xa_cons (x_tup (xa_cons x_int (xa_cons x_int xa_nil))) (xa_cons (x_new (xn_lst (xa_cons x_int (xa_cons x_int (xa_cons x_int xa_nil))))) (xa_cons (x_tup (xa_cons x_int (xa_cons x_int (xa_cons x_int xa_nil)))) (xa_cons (x_tup (xa_cons x_int (xa_cons (x_neg x_int) (xa_cons x_int xa_nil)))) (xa_cons (x_tup (xa_cons x_int (xa_cons x_int (xa_cons x_bl xa_nil)))) xa_nil)))))))))) (fun _ => (xg_nm (i := 10) sc__law_far_rows.nd rfl (.inl rfl))) (fun _ => (xs_one (xs_app (pv 6) (x_tup (xa_cons (x_var 4 (pv 4)) (xa_cons (x_tup (xa_cons (x_tup xa_nil) xa_nil)) (xa_cons (x_var 5 (pv 5)) (xa_cons (x_tup (xa_cons x_str (xa_cons x_str (xa_cons x_str (xa_cons (x_tup xa_nil) (xa_cons (x_var 10 (pv 10)) (xa_cons (x_tup xa_nil) xa_nil))))))) (xa_cons (x_tup (xa_cons x_str (xa_cons x_str (xa_cons (x_neg x_int) xa_nil)))) xa_nil))))))))))
    (xs_cons (xs_for (passes_of rfl) rfl (xi_any (x_new (xn_lst (xa_cons x_non (xa_cons (x_tup xa_nil) (xa_cons (x_tup (xa_cons x_str (xa_cons x_str xa_nil))) (xa_cons (x_tup (xa_cons x_str xa_nil)) (xa_cons (x_new (xn_lst (xa_cons x_str xa_nil))) (xa_cons (x_tup (xa_cons x_str (xa_cons x_str xa_nil))) (xa_cons (x_tup (xa_cons x_str (xa_cons x_str xa_nil))) (xa_cons (x_tup (xa_cons x_str (xa_cons x_str xa_nil))) (xa_cons x_str (xa_cons (x_tup (xa_cons x_str xa_nil)) xa_nil))))))))))))) (fun _ => (xg_nm (i := 11) sc__law_far_rows.nd rfl (.inl rfl))) (fun _ => (xs_one (xs_app (pv 6) (x_tup (xa_cons (x_var 4 (pv 4)) (xa_cons (x_tup (xa_cons (x_tup xa_nil) xa_nil)) (xa_cons (x_var 5 (pv 5)) (xa_cons (x_tup (xa_cons x_str (xa_cons x_str (xa_cons x_str (xa_cons (x_tup xa_nil) (xa_cons (x_tup (xa_cons x_int (xa_cons x_int (xa_cons x_int xa_nil)))) (xa_cons (x_var 11 (pv 11)) xa_nil))))))) (xa_cons (x_tup (xa_cons x_str (xa_cons x_str (xa_cons (x_neg x_int) xa_nil)))) xa_nil))))))))))
    (xs_cons (xs_app (pv 6) (x_tup (xa_cons (x_var 4 (pv 4)) (xa_cons (x_tup (xa_cons (x_tup (xa_cons x_str xa_nil)) xa_nil)) (xa_cons (x_var 5 (pv 5)) (xa_cons (x_tup (xa_cons x_str (xa_cons x_str (xa_cons x_str (xa_cons (x_tup (xa_cons x_str xa_nil)) (xa_cons (x_tup (xa_cons x_int (xa_cons x_int xa_nil))) (xa_cons (x_tup (xa_cons x_str (xa_cons x_str xa_nil))) xa_nil))))))) (xa_cons (x_tup (xa_cons x_str (xa_cons x_str (xa_cons (x_neg x_int) xa_nil)))) xa_nil)))))))
    (xs_cons (xs_app (pv 6) (x_tup (xa_cons (x_var 4 (pv 4)) (xa_cons (x_tup (xa_cons (x_tup xa_nil) xa_nil)) (xa_cons (x_bin o_add fits_add (x_var 5 (pv 5)) (x_tup (xa_cons (x_tup (xa_cons x_str (xa_cons x_str (xa_cons x_int (xa_cons x_int xa_nil))))) xa_nil))) (xa_cons (x_tup (xa_cons x_str (xa_cons x_str (xa_cons x_str (xa_cons (x_tup xa_nil) (xa_cons (x_tup (xa_cons x_int (xa_cons x_int (xa_cons x_int xa_nil)))) (xa_cons (x_tup (xa_cons x_str xa_nil)) xa_nil))))))) (xa_cons (x_tup (xa_cons x_str (xa_cons x_str (xa_cons x_int xa_nil)))) xa_nil)))))))
    (xs_cons (xs_app (pv 6) (x_tup (xa_cons (x_var 4 (pv 4)) (xa_cons (x_tup (xa_cons (x_tup xa_nil) xa_nil)) (xa_cons (x_var 5 (pv 5)) (xa_cons (x_tup (xa_cons x_str (xa_cons x_str (xa_cons x_str (xa_cons (x_tup xa_nil) (xa_cons (x_tup (xa_cons x_int (xa_cons x_int (xa_cons x_int xa_nil)))) (xa_cons (x_tup (xa_cons x_str (xa_cons x_str xa_nil))) xa_nil))))))) (xa_cons (x_tup (xa_cons x_str (xa_cons x_str (xa_cons x_int xa_nil)))) xa_nil)))))))
    (xs_one (xs_ret (x_bin o_add fits_add (x_var 6 (pv 6)) (x_new (xn_lst (xa_cons (x_tup (xa_cons (x_var 0 (pv 0)) (xa_cons (x_tup (xa_cons (x_tup xa_nil) xa_nil)) (xa_cons (x_tup (xa_cons (x_tup (xa_cons x_str (xa_cons x_str (xa_cons x_int (xa_cons x_int xa_nil))))) xa_nil)) (xa_cons (x_tup (xa_cons x_str (xa_cons x_str (xa_cons x_str (xa_cons (x_tup xa_nil) (xa_cons (x_tup (xa_cons x_int (xa_cons x_int xa_nil))) (xa_cons (x_tup (xa_cons x_str xa_nil)) xa_nil))))))) (xa_cons (x_tup (xa_cons x_str (xa_cons x_str (xa_cons x_int xa_nil)))) xa_nil)))))) xa_nil)))))))))))))))))))
theorem d__law_far_rows {P : Program} {w : World} {K : PySem.W.Frag} {mg : Str → Option Value} {base : Heap} {tabs : List (Addr × Str)} {h : Heap} (M : Bis mg) (X : K.In h) (G : h.Ns mainGlobals mg) (has : Has K "_law_far_rows" s__law_far_rows) (D__law_worlds_told : DefX P w K mg base (fam tabs) (XVm mg) "_law_worlds_told" s__law_worlds_told 1 ps__law_worlds_told (ofF 0 F__law_worlds_told)) : DefX P w K mg base (fam tabs) (XVm mg) "_law_far_rows" s__law_far_rows 2 ps__law_far_rows (ofF 0 F__law_far_rows) :=
  defX_of X G has sc__law_far_rows (fun hr hg hF => b__law_far_rows M D__law_worlds_told hr hg hF) (fun _ _ _ _ _ _ us hl => match us, hl with | [], _ => rfl)
end K33

namespace K33
open PySem PySem.Spec PyProof.Rows L2 PL
theorem b__law_are_refused {P : Program} {w : World} {K : PySem.W.Frag} {mg : Str → Option Value} {base : Heap} {tabs : List (Addr × Str)} (M : Bis mg) (D__law_same : DefX P w K mg base (fam tabs) (XVm mg) "_law_same" s__law_same 1 ps__law_same (ofF 2 F__law_same)) (D__law_worlds_told : DefX P w K mg base (fam tabs) (XVm mg) "_law_worlds_told" s__law_worlds_told 1 ps__law_worlds_told (ofF 0 F__law_worlds_told)) (D_lets_ring : DefX P w K mg base (fam tabs) (XVm mg) "lets_ring" s_lets_ring 7 ps_lets_ring (ofF 4 F_lets_ring)) (H__law_judged : HearX P w K mg base (fam tabs) (XVm mg) "_law_judged" s__law_judged N__law_judged "_law_call" G__law_judged) {c T : Addr} (B__law_are_refused : LamX.TabB base mg c T) (m__law_are_refused : (T, ("_law_are_refused.<locals>.<lambda>" : Str)) ∈ tabs)
    {f : Addr} {A : Around} {outer : List Env} {s : Shared} {H Z : Hp} {E : XK} {Fo : Option Fd} (hr : Room 9 (A.deeper (envOfC "_law_are_refused" (defScope s__law_are_refused) s.heap.objs.size f (.ref c)))) (hgd : A.guards = some []) (hF : HasF (fam tabs) Fo) :
    Sts (bodyC P w K mg base (XVm mg) N__law_are_refused "_law_are_refused" s__law_are_refused f (.ref c) A outer s H Z E Fo) (defBody s__law_are_refused) (ofS XF__law_are_refused) :=
  (show Sts _ _ (ofS ((xSeq (xAsg (xCall F__law_worlds_told xNil) (xgTp 4 (xgCons (xgNm 0) (xgCons (xgNm 1) (xgCons (xgNm 2) (xgCons (xgNm 3) xgNil))))))
    (xSeq (xSet 4 (xTup (xCons (xTup (xCons (xD (.str (Str.ofString "a"))) (xCons (xD (.str (Str.ofString "b"))) (xCons (xD (.int 0)) (xCons (xD (.int 1)) xNil))))) (xCons (xTup (xCons (xD (.str (Str.ofString "a"))) (xCons (xD (.str (Str.ofString "b"))) (xCons (xD (.int 0)) (xCons (xD (.int 4)) xNil))))) xNil))))
    (xSeq (xOwn 5 (xLst (xCons (xHear G__law_judged (xCall F_lets_ring (xCons (xD .none) (xCons (xD .none) (xCons (xD .none) (xCons (xD .none) xNil)))))) xNil)))
    (xSeq (xApp 5 (xHear G__law_judged (xCall F_lets_ring (xCons (xVar 1) (xCons (xD .none) (xCons (xD .none) (xCons (xD .none) xNil)))))))
    (xSeq (xApp 5 (xHear G__law_judged (xCall F_lets_ring (xCons (xVar 1) (xCons (xVar 2) (xCons (xD .none) (xCons (xD .none) xNil)))))))
    (xSeq (xApp 5 (xHear G__law_judged (xCall F_lets_ring (xCons (xVar 0) (xCons (xTup (xCons (xTup xNil) xNil)) (xCons (xVar 4) (xCons (xD .none) xNil)))))))
    (xSeq (xApp 5 (xHear G__law_judged (xCallK [3, 2, 1, 0] F_lets_ring (xCons (xD .none) (xCons (xVar 3) (xCons (xVar 2) (xCons (xVar 1) xNil)))))))
    (xSeq (xSet 6 (xNew (xLst (xCons (xTup (xCons (xD (.str (Str.ofString "use"))) (xCons (xD (.str (Str.ofString "town"))) (xCons (xUn pNeg (xD (.int 1))) xNil)))) (xCons (xTup (xCons (xD (.str (Str.ofString "use"))) (xCons (xD (.str (Str.ofString "fears"))) (xCons (xUn pNeg (xD (.int 1))) xNil)))) (xCons (xTup (xCons (xD (.str (Str.ofString "use"))) (xCons (xD (.str (Str.ofString "run"))) (xCons (xUn pNeg (xD (.int 1))) xNil)))) (xCons (xTup (xCons (xD (.str (Str.ofString "use"))) (xCons (xD (.str (Str.ofString "run"))) (xCons (xUn pNeg (xD (.int 1))) xNil)))) (xCons (xTup (xCons (xD (.str (Str.ofString "paper"))) (xCons (xD (.str (Str.ofString "shape"))) (xCons (xUn pNeg (xD (.int 1))) xNil)))) xNil))))))))
    (xFrz 5 (xRet (xCall F__law_same (xCons (xVar 5) (xCons (xVar 6) xNil))))))))))))))) from (xs_cons (xs_asg (x_call0 D__law_worlds_told rfl hF (hr.mono (by decide)) hgd (by rfl) lets_body) (xg_tup rfl (xgs_cons (xg_nm (i := 0) sc__law_are_refused.nd rfl (.inr rfl)) (xgs_cons (xg_nm (i := 1) sc__law_are_refused.nd rfl (.inr rfl)) (xgs_cons (xg_nm (i := 2) sc__law_are_refused.nd rfl (.inr rfl)) (xgs_cons (xg_nm (i := 3) sc__law_are_refused.nd rfl (.inr rfl)) xgs_nil))))))
    (xs_cons (xs_set (i := 4) sc__law_are_refused.nd rfl (.inr rfl) (x_tup (xa_cons (x_tup (xa_cons x_str (xa_cons x_str (xa_cons x_int (xa_cons x_int xa_nil))))) (xa_cons (x_tup (xa_cons x_str (xa_cons x_str (xa_cons x_int (xa_cons x_int xa_nil))))) xa_nil))))
    (xs_cons (xs_own (i := 5) sc__law_are_refused.nd rfl (.inl rfl) (xn_lst (xa_cons (x_lamX (k := 7) H__law_judged hF (by rfl) B__law_are_refused rfl (lamP_T hF m__law_are_refused) lets_body (hr.mono (by decide)) hgd (LamX.lamS_by (by rfl)) rfl (fun _ _ _ _ _ => rfl) (fun hr hgd => (x_call D_lets_ring hF (hr.mono (by decide)) hgd (by rfl) lets_lam (xa_cons x_non (xa_cons x_non (xa_cons x_non (xa_cons x_non xa_nil)))) (cnt_cons (cnt_cons (cnt_cons (cnt_cons cnt_nil))))))) xa_nil)))
    (xs_cons (xs_app (pv 5) (x_lamX (k := 7) H__law_judged hF (by rfl) B__law_are_refused rfl (lamP_T hF m__law_are_refused) lets_body (hr.mono (by decide)) hgd (LamX.lamS_by (by rfl)) rfl (fun _ _ _ _ _ => rfl) (fun hr hgd => (x_call D_lets_ring hF (hr.mono (by decide)) hgd (by rfl) lets_lam (xa_cons (x_var 1 (pv 1)) (xa_cons x_non (xa_cons x_non (xa_cons x_non xa_nil)))) (cnt_cons (cnt_cons (cnt_cons (cnt_cons cnt_nil))))))))
    (xs_cons (xs_app (pv 5) (x_lamX (k := 7) H__law_judged hF (by rfl) B__law_are_refused rfl (lamP_T hF m__law_are_refused) lets_body (hr.mono (by decide)) hgd (LamX.lamS_by (by rfl)) rfl (fun _ _ _ _ _ => rfl) (fun hr hgd => (x_call D_lets_ring hF (hr.mono (by decide)) hgd (by rfl) lets_lam (xa_cons (x_var 1 (pv 1)) (xa_cons (x_var 2 (pv 2)) (xa_cons x_non (xa_cons x_non xa_nil)))) (cnt_cons (cnt_cons (cnt_cons (cnt_cons cnt_nil))))))))
    (xs_cons (xs_app (pv 5) (x_lamX (k := 7) H__law_judged hF (by rfl) B__law_are_refused rfl (lamP_T hF m__law_are_refused) lets_body (hr.mono (by decide)) hgd (LamX.lamS_by (by rfl)) rfl (fun _ _ _ _ _ => rfl) (fun hr hgd => (x_call D_lets_ring hF (hr.mono (by decide)) hgd (by rfl) lets_lam (xa_cons (x_var 0 (pv 0)) (xa_cons (x_tup (xa_cons (x_tup xa_nil) xa_nil)) (xa_cons (x_var 4 (pv 4)) (xa_cons x_non xa_nil)))) (cnt_cons (cnt_cons (cnt_cons (cnt_cons cnt_nil))))))))
    (xs_cons (xs_app (pv 5) (x_lamX (k := 7) H__law_judged hF (by rfl) B__law_are_refused rfl (lamP_T hF m__law_are_refused) lets_body (hr.mono (by decide)) hgd (LamX.lamS_by (by rfl)) rfl (fun _ _ _ _ _ => rfl) (fun hr hgd => (x_callK ["thing", "run", "fears", "town"] [3, 2, 1, 0] D_lets_ring hF (hr.mono (by decide)) hgd (by rfl) lets_lam (xk_cons x_non (xk_cons (x_var 3 (pv 3)) (xk_cons (x_var 2 (pv 2)) (xk_cons (x_var 1 (pv 1)) xk_nil)))) (fun _ _ _ _ _ _ us hl => match us, hl with | [_, _, _, _], _ => rfl) (cnt_cons (cnt_cons (cnt_cons (cnt_cons cnt_nil)))) (fun ss hl => match ss, hl with | [_, _, _, _], _ => rfl)))))
    (xs_cons (xs_set (i := 6) sc__law_are_refused.nd rfl (.inl rfl) (x_new (xn_lst (xa_cons (x_tup (xa_cons x_str (xa_cons x_str (xa_cons (x_neg x_int) xa_nil)))) (xa_cons (x_tup (xa_cons x_str (xa_cons x_str (xa_cons (x_neg x_int) xa_nil)))) (xa_cons (x_tup (xa_cons x_str (xa_cons x_str (xa_cons (x_neg x_int) xa_nil)))) (xa_cons (x_tup (xa_cons x_str (xa_cons x_str (xa_cons (x_neg x_int) xa_nil)))) (xa_cons (x_tup (xa_cons x_str (xa_cons x_str (xa_cons (x_neg x_int) xa_nil)))) xa_nil))))))))
    (xs_frz 5 (xs_one (xs_ret (x_call D__law_same hF (hr.mono (by decide)) hgd (by rfl) lets_body (xa_cons (x_var 5 (pv 5)) (xa_cons (x_var 6 (pv 6)) xa_nil)) (cnt_cons (cnt_cons cnt_nil)))))))))))))))
theorem d__law_are_refused {P : Program} {w : World} {K : PySem.W.Frag} {mg : Str → Option Value} {base : Heap} {tabs : List (Addr × Str)} {h : Heap} (M : Bis mg) (X : K.In h) (G : h.Ns mainGlobals mg) {c T : Addr} (has : HasL K "_law_are_refused" s__law_are_refused c T) (D__law_same : DefX P w K mg base (fam tabs) (XVm mg) "_law_same" s__law_same 1 ps__law_same (ofF 2 F__law_same)) (D__law_worlds_told : DefX P w K mg base (fam tabs) (XVm mg) "_law_worlds_told" s__law_worlds_told 1 ps__law_worlds_told (ofF 0 F__law_worlds_told)) (D_lets_ring : DefX P w K mg base (fam tabs) (XVm mg) "lets_ring" s_lets_ring 7 ps_lets_ring (ofF 4 F_lets_ring)) (H__law_judged : HearX P w K mg base (fam tabs) (XVm mg) "_law_judged" s__law_judged N__law_judged "_law_call" G__law_judged) (B__law_are_refused : LamX.TabB base mg c T) (m__law_are_refused : (T, ("_law_are_refused.<locals>.<lambda>" : Str)) ∈ tabs) : DefX P w K mg base (fam tabs) (XVm mg) "_law_are_refused" s__law_are_refused 10 ps__law_are_refused (ofF 0 F__law_are_refused) :=
  defL_of X G has sc__law_are_refused (fun hr hg hF => b__law_are_refused M D__law_same D__law_worlds_told D_lets_ring H__law_judged B__law_are_refused m__law_are_refused hr hg hF) (fun _ _ _ _ _ _ us hl => match us, hl with | [], _ => rfl)
end K33

namespace K33
open PySem PySem.Spec PyProof.Rows L2 PL
/-- what the top has written -/
structure Facts (K : PySem.W.Frag) (c__law_are_refused T__law_are_refused c_law T_law : Addr) : Prop where
  has_bounds_by_ends : Has K "bounds_by_ends" s_bounds_by_ends
  has_outside_of : Has K "outside_of" s_outside_of
  has_is_outside : Has K "is_outside" s_is_outside
  has_is_part : Has K "is_part" s_is_part
  has_ties_between : Has K "ties_between" s_ties_between
  has_least_sums : Has K "least_sums" s_least_sums
  has_steps_back : Has K "steps_back" s_steps_back
  has_ring_by : Has K "ring_by" s_ring_by
  has_ring_outside : Has K "ring_outside" s_ring_outside
  has_explains : Has K "explains" s_explains
  has_first_misfit : Has K "first_misfit" s_first_misfit
  has_least_terms : Has K "least_terms" s_least_terms
  has_is_more : Has K "is_more" s_is_more
  has_greatest_of : Has K "greatest_of" s_greatest_of
  has_is_under : Has K "is_under" s_is_under
  has_has_any : Has K "has_any" s_has_any
  has_is_explained : Has K "is_explained" s_is_explained
  has_is_integer : Has K "is_integer" s_is_integer
  has_is_name : Has K "is_name" s_is_name
  has_is_ascending : Has K "is_ascending" s_is_ascending
  has_is_towers : Has K "is_towers" s_is_towers
  has_is_tuple : Has K "is_tuple" s_is_tuple
  has_are_integers : Has K "are_integers" s_are_integers
  has_is_wire_form : Has K "is_wire_form" s_is_wire_form
  has_is_lot : Has K "is_lot" s_is_lot
  has_town_fault : Has K "town_fault" s_town_fault
  has_run_fault : Has K "run_fault" s_run_fault
  has_fears_fault : Has K "fears_fault" s_fears_fault
  has_gains_fault : Has K "gains_fault" s_gains_fault
  has_refuse_paper : Has K "refuse_paper" s_refuse_paper
  has_refuse_town : Has K "refuse_town" s_refuse_town
  has_refuse_run : Has K "refuse_run" s_refuse_run
  has_refuse_fears : Has K "refuse_fears" s_refuse_fears
  has_refuse_asked : Has K "refuse_asked" s_refuse_asked
  has_refuse_quarrel : Has K "refuse_quarrel" s_refuse_quarrel
  has_is_told : Has K "is_told" s_is_told
  has_circle_fault : Has K "circle_fault" s_circle_fault
  has_crossing_fault : Has K "crossing_fault" s_crossing_fault
  has_far_fault : Has K "far_fault" s_far_fault
  has_steps_fault : Has K "steps_fault" s_steps_fault
  has_bound_fault : Has K "bound_fault" s_bound_fault
  has_mean_of : Has K "mean_of" s_mean_of
  has_lets_ring : Has K "lets_ring" s_lets_ring
  has__law_same : Has K "_law_same" s__law_same
  has__law_frac : Has K "_law_frac" s__law_frac
  has__law_feared : Has K "_law_feared" s__law_feared
  has__law_wires : Has K "_law_wires" s__law_wires
  has__law_is_integer : Has K "_law_is_integer" s__law_is_integer
  has__law_is_lot : Has K "_law_is_lot" s__law_is_lot
  has__law_do_fit : Has K "_law_do_fit" s__law_do_fit
  has__law_told_by : Has K "_law_told_by" s__law_told_by
  has__law_is_good_lot : Has K "_law_is_good_lot" s__law_is_good_lot
  has__law_circle_due : Has K "_law_circle_due" s__law_circle_due
  has__law_far_due : Has K "_law_far_due" s__law_far_due
  has__law_ring_due : Has K "_law_ring_due" s__law_ring_due
  has__law_worlds_told : Has K "_law_worlds_told" s__law_worlds_told
  has__law_right_rows : Has K "_law_right_rows" s__law_right_rows
  has__law_circle_rows : Has K "_law_circle_rows" s__law_circle_rows
  has__law_far_rows : Has K "_law_far_rows" s__law_far_rows
  has__law_judged : Has K "_law_judged" s__law_judged
  has__law_are_refused : HasL K "_law_are_refused" s__law_are_refused c__law_are_refused T__law_are_refused
  has_law : HasL K "law" s_law c_law T_law
  has_InvalidPaper : HasX K "InvalidPaper" "InvalidPaper.__init__" s_InvalidPaper "word" "at"
  has_NotUsable : HasX K "NotUsable" "NotUsable.__init__" s_NotUsable "word" "at"
  sub_InvalidPaper_InvalidPaper : HasSub K "InvalidPaper" "InvalidPaper" true
  sub_InvalidPaper_NotUsable : HasSub K "InvalidPaper" "NotUsable" false
  sub_NotUsable_InvalidPaper : HasSub K "NotUsable" "InvalidPaper" false
  sub_NotUsable_NotUsable : HasSub K "NotUsable" "NotUsable" true
  apart : Apart [(T__law_are_refused, ("_law_are_refused.<locals>.<lambda>" : Str)), (T_law, ("law.<locals>.<lambda>" : Str))]
  ns_abs : PySem.W.nsIn K mainGlobals "abs" = some none
  ns_all : PySem.W.nsIn K mainGlobals "all" = some none
  ns_any : PySem.W.nsIn K mainGlobals "any" = some none
  ns_bool : PySem.W.nsIn K mainGlobals "bool" = some none
  ns_dict : PySem.W.nsIn K mainGlobals "dict" = some none
  ns_enumerate : PySem.W.nsIn K mainGlobals "enumerate" = some none
  ns_gcd : PySem.W.nsIn K mainGlobals "gcd" = some (some (.builtin "math.gcd"))
  ns_int : PySem.W.nsIn K mainGlobals "int" = some none
  ns_isinstance : PySem.W.nsIn K mainGlobals "isinstance" = some none
  ns_len : PySem.W.nsIn K mainGlobals "len" = some none
  ns_list : PySem.W.nsIn K mainGlobals "list" = some none
  ns_max : PySem.W.nsIn K mainGlobals "max" = some none
  ns_range : PySem.W.nsIn K mainGlobals "range" = some none
  ns_repr : PySem.W.nsIn K mainGlobals "repr" = some none
  ns_set : PySem.W.nsIn K mainGlobals "set" = some none
  ns_sorted : PySem.W.nsIn K mainGlobals "sorted" = some none
  ns_str : PySem.W.nsIn K mainGlobals "str" = some none
  ns_sum : PySem.W.nsIn K mainGlobals "sum" = some none
  ns_tuple : PySem.W.nsIn K mainGlobals "tuple" = some none
  ns_zip : PySem.W.nsIn K mainGlobals "zip" = some none
section
variable {P : Program} {w : World} {K : PySem.W.Frag} {mg : Str → Option Value} {base h : Heap} {c__law_are_refused T__law_are_refused c_law T_law : Addr}
theorem bis_of (X : K.In h) (G : h.Ns mainGlobals mg) (F : Facts K c__law_are_refused T__law_are_refused c_law T_law) : Bis mg := ⟨PySem.W.mg_none_of X G F.ns_abs, PySem.W.mg_none_of X G F.ns_all, PySem.W.mg_none_of X G F.ns_any, PySem.W.mg_none_of X G F.ns_bool, PySem.W.mg_none_of X G F.ns_dict, PySem.W.mg_none_of X G F.ns_enumerate, PySem.W.mg_of X G F.ns_gcd, PySem.W.mg_none_of X G F.ns_int, PySem.W.mg_none_of X G F.ns_isinstance, PySem.W.mg_none_of X G F.ns_len, PySem.W.mg_none_of X G F.ns_list, PySem.W.mg_none_of X G F.ns_max, PySem.W.mg_none_of X G F.ns_range, PySem.W.mg_none_of X G F.ns_repr, PySem.W.mg_none_of X G F.ns_set, PySem.W.mg_none_of X G F.ns_sorted, PySem.W.mg_none_of X G F.ns_str, PySem.W.mg_none_of X G F.ns_sum, PySem.W.mg_none_of X G F.ns_tuple, PySem.W.mg_none_of X G F.ns_zip⟩
theorem promise (X : K.In h) (G : h.Ns mainGlobals mg) (F : Facts K c__law_are_refused T__law_are_refused c_law T_law) : ∃ (f : Addr) (fd : FuncData), mg "law" = some (.ref f) ∧ (∀ (t : Shared) (u : Value), BindsTo t fd ⟨[u], []⟩ [("_law_script", u)]) ∧ ∀ base : Heap, (∀ p ∈ ([(c__law_are_refused, T__law_are_refused), (c_law, T_law)] : List (Addr × Addr)), LamX.TabB base mg p.1 p.2) → FnG P w K mg base CX0 11 f fd ["_law_script"] (spT [(c__law_are_refused, T__law_are_refused), (c_law, T_law)]) := by
  have M := bis_of X G F
  obtain ⟨f, oc, od, an, osl, kV, doc, pm, ct, a, l, q, kp, hh, nn⟩ := F.has_law
  have FL := fun_mk l q kp
  refine ⟨f, PySem.W.fnOf "law" "law" (defArgs s_law) (defBody s_law) (defScope s_law) .none kV doc pm an (.ref c_law) ct, PySem.W.mg_of X G a, fun t u => .of_eq rfl, fun base hT => ?_⟩
  have T_InvalidPaper := t_InvalidPaper (P := P) (w := w) (base := base) X G F.has_InvalidPaper
  have T_NotUsable := t_NotUsable (P := P) (w := w) (base := base) X G F.has_NotUsable
  have hsub : SubOk K mg sub := sub_of X G (fun e he => by
    simp only [subT, List.mem_cons, List.not_mem_nil, or_false] at he
    rcases he with rfl | rfl | rfl | rfl
    · exact F.sub_InvalidPaper_InvalidPaper
    · exact F.sub_InvalidPaper_NotUsable
    · exact F.sub_NotUsable_InvalidPaper
    · exact F.sub_NotUsable_NotUsable)
  have hXf : XfOk K mg ["InvalidPaper", "NotUsable"] "word" "at" := xfOk_of (P := P) (w := w) (base := base) (fun x hx => by
    simp only [List.mem_cons, List.not_mem_nil, or_false] at hx
    rcases hx with rfl | rfl
    · exact T_InvalidPaper
    · exact T_NotUsable)
  have at_InvalidPaper : ∃ D, mg "InvalidPaper" = some (.ref D) := at_of X G F.sub_InvalidPaper_InvalidPaper
  have at_NotUsable : ∃ D, mg "NotUsable" = some (.ref D) := at_of X G F.sub_InvalidPaper_NotUsable
  have H__law_judged := h__law_judged (P := P) (w := w) (base := base) (tabs := [(T__law_are_refused, ("_law_are_refused.<locals>.<lambda>" : Str)), (T_law, ("law.<locals>.<lambda>" : Str))]) X G F.has__law_judged hsub hXf at_NotUsable at_InvalidPaper
  have D_bounds_by_ends := d_bounds_by_ends (P := P) (w := w) (base := base) (tabs := [(T__law_are_refused, ("_law_are_refused.<locals>.<lambda>" : Str)), (T_law, ("law.<locals>.<lambda>" : Str))]) M X G F.has_bounds_by_ends
  have D_outside_of := d_outside_of (P := P) (w := w) (base := base) (tabs := [(T__law_are_refused, ("_law_are_refused.<locals>.<lambda>" : Str)), (T_law, ("law.<locals>.<lambda>" : Str))]) M X G F.has_outside_of
  have D_is_outside := d_is_outside (P := P) (w := w) (base := base) (tabs := [(T__law_are_refused, ("_law_are_refused.<locals>.<lambda>" : Str)), (T_law, ("law.<locals>.<lambda>" : Str))]) M X G F.has_is_outside
  have D_is_part := d_is_part (P := P) (w := w) (base := base) (tabs := [(T__law_are_refused, ("_law_are_refused.<locals>.<lambda>" : Str)), (T_law, ("law.<locals>.<lambda>" : Str))]) M X G F.has_is_part
  have D_ties_between := d_ties_between (P := P) (w := w) (base := base) (tabs := [(T__law_are_refused, ("_law_are_refused.<locals>.<lambda>" : Str)), (T_law, ("law.<locals>.<lambda>" : Str))]) M X G F.has_ties_between D_bounds_by_ends D_is_outside
  have D_least_sums := d_least_sums (P := P) (w := w) (base := base) (tabs := [(T__law_are_refused, ("_law_are_refused.<locals>.<lambda>" : Str)), (T_law, ("law.<locals>.<lambda>" : Str))]) M X G F.has_least_sums
  have D_steps_back := d_steps_back (P := P) (w := w) (base := base) (tabs := [(T__law_are_refused, ("_law_are_refused.<locals>.<lambda>" : Str)), (T_law, ("law.<locals>.<lambda>" : Str))]) M X G F.has_steps_back
  have D_ring_by := d_ring_by (P := P) (w := w) (base := base) (tabs := [(T__law_are_refused, ("_law_are_refused.<locals>.<lambda>" : Str)), (T_law, ("law.<locals>.<lambda>" : Str))]) M X G F.has_ring_by D_least_sums D_steps_back
  have D_ring_outside := d_ring_outside (P := P) (w := w) (base := base) (tabs := [(T__law_are_refused, ("_law_are_refused.<locals>.<lambda>" : Str)), (T_law, ("law.<locals>.<lambda>" : Str))]) M X G F.has_ring_outside D_outside_of D_ring_by D_ties_between
  have D_explains := d_explains (P := P) (w := w) (base := base) (tabs := [(T__law_are_refused, ("_law_are_refused.<locals>.<lambda>" : Str)), (T_law, ("law.<locals>.<lambda>" : Str))]) M X G F.has_explains D_ring_outside
  have D_first_misfit := d_first_misfit (P := P) (w := w) (base := base) (tabs := [(T__law_are_refused, ("_law_are_refused.<locals>.<lambda>" : Str)), (T_law, ("law.<locals>.<lambda>" : Str))]) M X G F.has_first_misfit
  have D_least_terms := d_least_terms (P := P) (w := w) (base := base) (tabs := [(T__law_are_refused, ("_law_are_refused.<locals>.<lambda>" : Str)), (T_law, ("law.<locals>.<lambda>" : Str))]) M X G F.has_least_terms
  have D_is_more := d_is_more (P := P) (w := w) (base := base) (tabs := [(T__law_are_refused, ("_law_are_refused.<locals>.<lambda>" : Str)), (T_law, ("law.<locals>.<lambda>" : Str))]) M X G F.has_is_more
  have D_greatest_of := d_greatest_of (P := P) (w := w) (base := base) (tabs := [(T__law_are_refused, ("_law_are_refused.<locals>.<lambda>" : Str)), (T_law, ("law.<locals>.<lambda>" : Str))]) M X G F.has_greatest_of D_is_more
  have D_is_under := d_is_under (P := P) (w := w) (base := base) (tabs := [(T__law_are_refused, ("_law_are_refused.<locals>.<lambda>" : Str)), (T_law, ("law.<locals>.<lambda>" : Str))]) M X G F.has_is_under D_is_part
  have D_has_any := d_has_any (P := P) (w := w) (base := base) (tabs := [(T__law_are_refused, ("_law_are_refused.<locals>.<lambda>" : Str)), (T_law, ("law.<locals>.<lambda>" : Str))]) M X G F.has_has_any
  have D_is_explained := d_is_explained (P := P) (w := w) (base := base) (tabs := [(T__law_are_refused, ("_law_are_refused.<locals>.<lambda>" : Str)), (T_law, ("law.<locals>.<lambda>" : Str))]) M X G F.has_is_explained D_explains
  have D_is_integer := d_is_integer (P := P) (w := w) (base := base) (tabs := [(T__law_are_refused, ("_law_are_refused.<locals>.<lambda>" : Str)), (T_law, ("law.<locals>.<lambda>" : Str))]) M X G F.has_is_integer
  have D_is_name := d_is_name (P := P) (w := w) (base := base) (tabs := [(T__law_are_refused, ("_law_are_refused.<locals>.<lambda>" : Str)), (T_law, ("law.<locals>.<lambda>" : Str))]) M X G F.has_is_name
  have D_is_ascending := d_is_ascending (P := P) (w := w) (base := base) (tabs := [(T__law_are_refused, ("_law_are_refused.<locals>.<lambda>" : Str)), (T_law, ("law.<locals>.<lambda>" : Str))]) M X G F.has_is_ascending
  have D_is_towers := d_is_towers (P := P) (w := w) (base := base) (tabs := [(T__law_are_refused, ("_law_are_refused.<locals>.<lambda>" : Str)), (T_law, ("law.<locals>.<lambda>" : Str))]) M X G F.has_is_towers D_is_ascending D_is_name
  have D_is_tuple := d_is_tuple (P := P) (w := w) (base := base) (tabs := [(T__law_are_refused, ("_law_are_refused.<locals>.<lambda>" : Str)), (T_law, ("law.<locals>.<lambda>" : Str))]) M X G F.has_is_tuple
  have D_are_integers := d_are_integers (P := P) (w := w) (base := base) (tabs := [(T__law_are_refused, ("_law_are_refused.<locals>.<lambda>" : Str)), (T_law, ("law.<locals>.<lambda>" : Str))]) M X G F.has_are_integers D_is_integer D_is_tuple
  have D_is_wire_form := d_is_wire_form (P := P) (w := w) (base := base) (tabs := [(T__law_are_refused, ("_law_are_refused.<locals>.<lambda>" : Str)), (T_law, ("law.<locals>.<lambda>" : Str))]) M X G F.has_is_wire_form D_are_integers D_is_tuple
  have D_is_lot := d_is_lot (P := P) (w := w) (base := base) (tabs := [(T__law_are_refused, ("_law_are_refused.<locals>.<lambda>" : Str)), (T_law, ("law.<locals>.<lambda>" : Str))]) M X G F.has_is_lot D_is_ascending
  have D_town_fault := d_town_fault (P := P) (w := w) (base := base) (tabs := [(T__law_are_refused, ("_law_are_refused.<locals>.<lambda>" : Str)), (T_law, ("law.<locals>.<lambda>" : Str))]) M X G F.has_town_fault D_is_towers D_is_tuple D_is_wire_form
  have D_run_fault := d_run_fault (P := P) (w := w) (base := base) (tabs := [(T__law_are_refused, ("_law_are_refused.<locals>.<lambda>" : Str)), (T_law, ("law.<locals>.<lambda>" : Str))]) M X G F.has_run_fault D_are_integers D_bounds_by_ends D_is_tuple
  have D_fears_fault := d_fears_fault (P := P) (w := w) (base := base) (tabs := [(T__law_are_refused, ("_law_are_refused.<locals>.<lambda>" : Str)), (T_law, ("law.<locals>.<lambda>" : Str))]) M X G F.has_fears_fault D_is_lot
  have D_gains_fault := d_gains_fault (P := P) (w := w) (base := base) (tabs := [(T__law_are_refused, ("_law_are_refused.<locals>.<lambda>" : Str)), (T_law, ("law.<locals>.<lambda>" : Str))]) M X G F.has_gains_fault D_are_integers D_first_misfit D_outside_of D_ties_between
  have D_refuse_paper := d_refuse_paper (P := P) (w := w) (base := base) (tabs := [(T__law_are_refused, ("_law_are_refused.<locals>.<lambda>" : Str)), (T_law, ("law.<locals>.<lambda>" : Str))]) M X G F.has_refuse_paper T_InvalidPaper
  have D_refuse_town := d_refuse_town (P := P) (w := w) (base := base) (tabs := [(T__law_are_refused, ("_law_are_refused.<locals>.<lambda>" : Str)), (T_law, ("law.<locals>.<lambda>" : Str))]) M X G F.has_refuse_town D_town_fault T_NotUsable
  have D_refuse_run := d_refuse_run (P := P) (w := w) (base := base) (tabs := [(T__law_are_refused, ("_law_are_refused.<locals>.<lambda>" : Str)), (T_law, ("law.<locals>.<lambda>" : Str))]) M X G F.has_refuse_run D_run_fault T_NotUsable
  have D_refuse_fears := d_refuse_fears (P := P) (w := w) (base := base) (tabs := [(T__law_are_refused, ("_law_are_refused.<locals>.<lambda>" : Str)), (T_law, ("law.<locals>.<lambda>" : Str))]) M X G F.has_refuse_fears D_fears_fault T_NotUsable
  have D_refuse_asked := d_refuse_asked (P := P) (w := w) (base := base) (tabs := [(T__law_are_refused, ("_law_are_refused.<locals>.<lambda>" : Str)), (T_law, ("law.<locals>.<lambda>" : Str))]) M X G F.has_refuse_asked D_refuse_fears D_refuse_run D_refuse_town
  have D_refuse_quarrel := d_refuse_quarrel (P := P) (w := w) (base := base) (tabs := [(T__law_are_refused, ("_law_are_refused.<locals>.<lambda>" : Str)), (T_law, ("law.<locals>.<lambda>" : Str))]) M X G F.has_refuse_quarrel D_is_explained T_NotUsable
  have D_is_told := d_is_told (P := P) (w := w) (base := base) (tabs := [(T__law_are_refused, ("_law_are_refused.<locals>.<lambda>" : Str)), (T_law, ("law.<locals>.<lambda>" : Str))]) M X G F.has_is_told D_is_lot D_is_tuple
  have D_circle_fault := d_circle_fault (P := P) (w := w) (base := base) (tabs := [(T__law_are_refused, ("_law_are_refused.<locals>.<lambda>" : Str)), (T_law, ("law.<locals>.<lambda>" : Str))]) M X G F.has_circle_fault D_is_told
  have D_crossing_fault := d_crossing_fault (P := P) (w := w) (base := base) (tabs := [(T__law_are_refused, ("_law_are_refused.<locals>.<lambda>" : Str)), (T_law, ("law.<locals>.<lambda>" : Str))]) M X G F.has_crossing_fault
  have D_far_fault := d_far_fault (P := P) (w := w) (base := base) (tabs := [(T__law_are_refused, ("_law_are_refused.<locals>.<lambda>" : Str)), (T_law, ("law.<locals>.<lambda>" : Str))]) M X G F.has_far_fault D_crossing_fault D_gains_fault D_has_any D_is_lot D_is_under D_outside_of
  have D_steps_fault := d_steps_fault (P := P) (w := w) (base := base) (tabs := [(T__law_are_refused, ("_law_are_refused.<locals>.<lambda>" : Str)), (T_law, ("law.<locals>.<lambda>" : Str))]) M X G F.has_steps_fault D_gains_fault D_has_any D_is_under
  have D_bound_fault := d_bound_fault (P := P) (w := w) (base := base) (tabs := [(T__law_are_refused, ("_law_are_refused.<locals>.<lambda>" : Str)), (T_law, ("law.<locals>.<lambda>" : Str))]) M X G F.has_bound_fault D_circle_fault D_far_fault D_is_tuple D_steps_fault
  have D_mean_of := d_mean_of (P := P) (w := w) (base := base) (tabs := [(T__law_are_refused, ("_law_are_refused.<locals>.<lambda>" : Str)), (T_law, ("law.<locals>.<lambda>" : Str))]) M X G F.has_mean_of D_greatest_of D_least_terms D_outside_of
  have D_lets_ring := d_lets_ring (P := P) (w := w) (base := base) (tabs := [(T__law_are_refused, ("_law_are_refused.<locals>.<lambda>" : Str)), (T_law, ("law.<locals>.<lambda>" : Str))]) M X G F.has_lets_ring D_bound_fault D_mean_of D_refuse_asked D_refuse_paper D_refuse_quarrel
  have D__law_same := d__law_same (P := P) (w := w) (base := base) (tabs := [(T__law_are_refused, ("_law_are_refused.<locals>.<lambda>" : Str)), (T_law, ("law.<locals>.<lambda>" : Str))]) M X G F.has__law_same
  have D__law_frac := d__law_frac (P := P) (w := w) (base := base) (tabs := [(T__law_are_refused, ("_law_are_refused.<locals>.<lambda>" : Str)), (T_law, ("law.<locals>.<lambda>" : Str))]) M X G F.has__law_frac
  have D__law_feared := d__law_feared (P := P) (w := w) (base := base) (tabs := [(T__law_are_refused, ("_law_are_refused.<locals>.<lambda>" : Str)), (T_law, ("law.<locals>.<lambda>" : Str))]) M X G F.has__law_feared
  have D__law_wires := d__law_wires (P := P) (w := w) (base := base) (tabs := [(T__law_are_refused, ("_law_are_refused.<locals>.<lambda>" : Str)), (T_law, ("law.<locals>.<lambda>" : Str))]) M X G F.has__law_wires
  have D__law_is_integer := d__law_is_integer (P := P) (w := w) (base := base) (tabs := [(T__law_are_refused, ("_law_are_refused.<locals>.<lambda>" : Str)), (T_law, ("law.<locals>.<lambda>" : Str))]) M X G F.has__law_is_integer
  have D__law_is_lot := d__law_is_lot (P := P) (w := w) (base := base) (tabs := [(T__law_are_refused, ("_law_are_refused.<locals>.<lambda>" : Str)), (T_law, ("law.<locals>.<lambda>" : Str))]) M X G F.has__law_is_lot
  have D__law_do_fit := d__law_do_fit (P := P) (w := w) (base := base) (tabs := [(T__law_are_refused, ("_law_are_refused.<locals>.<lambda>" : Str)), (T_law, ("law.<locals>.<lambda>" : Str))]) M X G F.has__law_do_fit D__law_is_integer D__law_wires
  have D__law_told_by := d__law_told_by (P := P) (w := w) (base := base) (tabs := [(T__law_are_refused, ("_law_are_refused.<locals>.<lambda>" : Str)), (T_law, ("law.<locals>.<lambda>" : Str))]) M X G F.has__law_told_by
  have D__law_is_good_lot := d__law_is_good_lot (P := P) (w := w) (base := base) (tabs := [(T__law_are_refused, ("_law_are_refused.<locals>.<lambda>" : Str)), (T_law, ("law.<locals>.<lambda>" : Str))]) M X G F.has__law_is_good_lot D__law_feared
  have D__law_circle_due := d__law_circle_due (P := P) (w := w) (base := base) (tabs := [(T__law_are_refused, ("_law_are_refused.<locals>.<lambda>" : Str)), (T_law, ("law.<locals>.<lambda>" : Str))]) M X G F.has__law_circle_due D__law_do_fit D__law_frac D__law_is_good_lot D__law_is_lot D__law_told_by
  have D__law_far_due := d__law_far_due (P := P) (w := w) (base := base) (tabs := [(T__law_are_refused, ("_law_are_refused.<locals>.<lambda>" : Str)), (T_law, ("law.<locals>.<lambda>" : Str))]) M X G F.has__law_far_due D__law_do_fit D__law_is_good_lot D__law_is_lot
  have D__law_ring_due := d__law_ring_due (P := P) (w := w) (base := base) (tabs := [(T__law_are_refused, ("_law_are_refused.<locals>.<lambda>" : Str)), (T_law, ("law.<locals>.<lambda>" : Str))]) M X G F.has__law_ring_due D__law_circle_due D__law_far_due
  have D__law_worlds_told := d__law_worlds_told (P := P) (w := w) (base := base) (tabs := [(T__law_are_refused, ("_law_are_refused.<locals>.<lambda>" : Str)), (T_law, ("law.<locals>.<lambda>" : Str))]) M X G F.has__law_worlds_told
  have D__law_right_rows := d__law_right_rows (P := P) (w := w) (base := base) (tabs := [(T__law_are_refused, ("_law_are_refused.<locals>.<lambda>" : Str)), (T_law, ("law.<locals>.<lambda>" : Str))]) M X G F.has__law_right_rows D__law_worlds_told
  have D__law_circle_rows := d__law_circle_rows (P := P) (w := w) (base := base) (tabs := [(T__law_are_refused, ("_law_are_refused.<locals>.<lambda>" : Str)), (T_law, ("law.<locals>.<lambda>" : Str))]) M X G F.has__law_circle_rows D__law_worlds_told
  have D__law_far_rows := d__law_far_rows (P := P) (w := w) (base := base) (tabs := [(T__law_are_refused, ("_law_are_refused.<locals>.<lambda>" : Str)), (T_law, ("law.<locals>.<lambda>" : Str))]) M X G F.has__law_far_rows D__law_worlds_told
  have B__law_are_refused := hT (c__law_are_refused, T__law_are_refused) (by simp)
  have m__law_are_refused : (T__law_are_refused, ("_law_are_refused.<locals>.<lambda>" : Str)) ∈ ([(T__law_are_refused, ("_law_are_refused.<locals>.<lambda>" : Str)), (T_law, ("law.<locals>.<lambda>" : Str))] : List (Addr × Str)) := (by simp)
  have D__law_are_refused := d__law_are_refused (P := P) (w := w) (base := base) (tabs := [(T__law_are_refused, ("_law_are_refused.<locals>.<lambda>" : Str)), (T_law, ("law.<locals>.<lambda>" : Str))]) M X G F.has__law_are_refused D__law_same D__law_worlds_told D_lets_ring H__law_judged B__law_are_refused m__law_are_refused
  have B_law := hT (c_law, T_law) (by simp)
  have m_law : (T_law, ("law.<locals>.<lambda>" : Str)) ∈ ([(T__law_are_refused, ("_law_are_refused.<locals>.<lambda>" : Str)), (T_law, ("law.<locals>.<lambda>" : Str))] : List (Addr × Str)) := (by simp)
  exact gT_law (ts := [(T__law_are_refused, ("_law_are_refused.<locals>.<lambda>" : Str)), (T_law, ("law.<locals>.<lambda>" : Str))]) FL rfl sc_law (by decide) (fun hr hg hF => b_law M D__law_are_refused D__law_circle_rows D__law_far_rows D__law_right_rows D__law_ring_due D__law_same D_lets_ring H__law_judged B_law m_law hr hg hF) e_law F.apart (fun p hp => by
    simp only [List.mem_cons, List.not_mem_nil, or_false] at hp
    rcases hp with rfl | rfl
    · exact ⟨(c__law_are_refused, T__law_are_refused), by simp, rfl⟩
    · exact ⟨(c_law, T_law), by simp, rfl⟩)
end
theorem walk {l : PySem.W.OpenLaw} {q : Program} {loose : List Str} {XP : (Str → Option Value) → Heap → Prop} {YP : World → Heap → Prop} {d : DefRec} {K : Params → PySem.W.Frag} {c__law_are_refused T__law_are_refused c_law T_law : Addr}
    (hn : l.most = some 63) (hdf : d.params.defaults = []) (nm : d.name = "law") (known : ∀ (w : World) (h : Heap), YP w h → (K w.params).In h) (empty : ∀ (w : World) (h : Heap), YP w h → ∀ p ∈ ([(c__law_are_refused, T__law_are_refused), (c_law, T_law)] : List (Addr × Addr)), h.get? p.2 = some { cls := .none, data := .fields #[] })
    (F : ∀ w : World, Facts (K w.params) c__law_are_refused T__law_are_refused c_law T_law) : PySem.W.WalkO q loose XP YP l.row.toRowW d [] (fun f vs => PySem.call f vs) := by
  refine Att.attach_call hn hdf ?_
  intro w s0 st mg mb fa o pm cd doc a vs ns G Y ho hd hcd hmg script whole few still
  have X := known w _ Y
  obtain ⟨f, fd, hm, hb, hP⟩ := promise (P := l.prog) (w := w) X G.T.g (F w)
  rw [nm, hm] at hmg
  cases hmg
  refine enter_tabs (cs := [(c__law_are_refused, T__law_are_refused), (c_law, T_law)]) rfl ⟨rfl, by decide, by decide⟩ X G.T.g G.T.b G.T.builtins G.T.nolimit still ⟨G.T.bmain⟩ (empty w _ Y) ?_ ?_ script whole (by rw [sizeLine_eq]; omega) hP hb fun H ht hS => ⟨a, rfl, ht, fun _ => rfl⟩
  · intro p hp
    simp only [List.mem_cons, List.not_mem_nil, or_false] at hp
    rcases hp with rfl | rfl
    · obtain ⟨f, oc, od, an, osl, kV, doc, pm, ct, a, l, q, kp, hh, nn⟩ := (F w).has__law_are_refused; exact nn
    · obtain ⟨f, oc, od, an, osl, kV, doc, pm, ct, a, l, q, kp, hh, nn⟩ := (F w).has_law; exact nn
  · intro p hp
    simp only [List.mem_cons, List.not_mem_nil, or_false] at hp
    rcases hp with rfl | rfl
    · obtain ⟨f, oc, od, an, osl, kV, doc, pm, ct, a, l, q, kp, hh, nn⟩ := (F w).has__law_are_refused; exact PySem.W.codeHd_of_K X hh
    · obtain ⟨f, oc, od, an, osl, kV, doc, pm, ct, a, l, q, kp, hh, nn⟩ := (F w).has_law; exact PySem.W.codeHd_of_K X hh
end K33

open PySem PySem.W PyProof.Rows PL
set_option maxHeartbeats 0 in
theorem PySem.Challenge.cw_nearhours_k33_ring_papers_by_hand_holds : PySem.Challenge.rw_nearhours_k33_ring_papers_by_hand.Holds := by
  w_on; o_law; k_head; (case hw => w_witness2)
  k_fill
  refine K33.walk (l := PySem.Challenge.rw_nearhours_k33_ring_papers_by_hand) (c__law_are_refused := 505) (T__law_are_refused := 501) (c_law := 512) (T_law := 508) rfl rfl rfl (fun w h Y => PySem.W.km_in_of Y) (fun w h Y p hp => ?E) ?F
  case E =>
    have hE := PySem.W.km_tabs_of Y
    simp only [List.mem_cons, List.not_mem_nil, or_false] at hp
    rcases hp with rfl | rfl <;> exact hE _ (by simp)
  case F =>
    intro w
    constructor
    case has_bounds_by_ends =>
      refine' has_mk ?a ?l ?c ?k
      (case a => k_is); (case l => k_is); (case c => k_is); (case k => k_is)
    case has_outside_of =>
      refine' has_mk ?a ?l ?c ?k
      (case a => k_is); (case l => k_is); (case c => k_is); (case k => k_is)
    case has_is_outside =>
      refine' has_mk ?a ?l ?c ?k
      (case a => k_is); (case l => k_is); (case c => k_is); (case k => k_is)
    case has_is_part =>
      refine' has_mk ?a ?l ?c ?k
      (case a => k_is); (case l => k_is); (case c => k_is); (case k => k_is)
    case has_ties_between =>
      refine' has_mk ?a ?l ?c ?k
      (case a => k_is); (case l => k_is); (case c => k_is); (case k => k_is)
    case has_least_sums =>
      refine' has_mk ?a ?l ?c ?k
      (case a => k_is); (case l => k_is); (case c => k_is); (case k => k_is)
    case has_steps_back =>
      refine' has_mk ?a ?l ?c ?k
      (case a => k_is); (case l => k_is); (case c => k_is); (case k => k_is)
    case has_ring_by =>
      refine' has_mk ?a ?l ?c ?k
      (case a => k_is); (case l => k_is); (case c => k_is); (case k => k_is)
    case has_ring_outside =>
      refine' has_mk ?a ?l ?c ?k
      (case a => k_is); (case l => k_is); (case c => k_is); (case k => k_is)
    case has_explains =>
      refine' has_mk ?a ?l ?c ?k
      (case a => k_is); (case l => k_is); (case c => k_is); (case k => k_is)
    case has_first_misfit =>
      refine' has_mk ?a ?l ?c ?k
      (case a => k_is); (case l => k_is); (case c => k_is); (case k => k_is)
    case has_least_terms =>
      refine' has_mk ?a ?l ?c ?k
      (case a => k_is); (case l => k_is); (case c => k_is); (case k => k_is)
    case has_is_more =>
      refine' has_mk ?a ?l ?c ?k
      (case a => k_is); (case l => k_is); (case c => k_is); (case k => k_is)
    case has_greatest_of =>
      refine' has_mk ?a ?l ?c ?k
      (case a => k_is); (case l => k_is); (case c => k_is); (case k => k_is)
    case has_is_under =>
      refine' has_mk ?a ?l ?c ?k
      (case a => k_is); (case l => k_is); (case c => k_is); (case k => k_is)
    case has_has_any =>
      refine' has_mk ?a ?l ?c ?k
      (case a => k_is); (case l => k_is); (case c => k_is); (case k => k_is)
    case has_is_explained =>
      refine' has_mk ?a ?l ?c ?k
      (case a => k_is); (case l => k_is); (case c => k_is); (case k => k_is)
    case has_is_integer =>
      refine' has_mk ?a ?l ?c ?k
      (case a => k_is); (case l => k_is); (case c => k_is); (case k => k_is)
    case has_is_name =>
      refine' has_mk ?a ?l ?c ?k
      (case a => k_is); (case l => k_is); (case c => k_is); (case k => k_is)
    case has_is_ascending =>
      refine' has_mk ?a ?l ?c ?k
      (case a => k_is); (case l => k_is); (case c => k_is); (case k => k_is)
    case has_is_towers =>
      refine' has_mk ?a ?l ?c ?k
      (case a => k_is); (case l => k_is); (case c => k_is); (case k => k_is)
    case has_is_tuple =>
      refine' has_mk ?a ?l ?c ?k
      (case a => k_is); (case l => k_is); (case c => k_is); (case k => k_is)
    case has_are_integers =>
      refine' has_mk ?a ?l ?c ?k
      (case a => k_is); (case l => k_is); (case c => k_is); (case k => k_is)
    case has_is_wire_form =>
      refine' has_mk ?a ?l ?c ?k
      (case a => k_is); (case l => k_is); (case c => k_is); (case k => k_is)
    case has_is_lot =>
      refine' has_mk ?a ?l ?c ?k
      (case a => k_is); (case l => k_is); (case c => k_is); (case k => k_is)
    case has_town_fault =>
      refine' has_mk ?a ?l ?c ?k
      (case a => k_is); (case l => k_is); (case c => k_is); (case k => k_is)
    case has_run_fault =>
      refine' has_mk ?a ?l ?c ?k
      (case a => k_is); (case l => k_is); (case c => k_is); (case k => k_is)
    case has_fears_fault =>
      refine' has_mk ?a ?l ?c ?k
      (case a => k_is); (case l => k_is); (case c => k_is); (case k => k_is)
    case has_gains_fault =>
      refine' has_mk ?a ?l ?c ?k
      (case a => k_is); (case l => k_is); (case c => k_is); (case k => k_is)
    case has_refuse_paper =>
      refine' has_mk ?a ?l ?c ?k
      (case a => k_is); (case l => k_is); (case c => k_is); (case k => k_is)
    case has_refuse_town =>
      refine' has_mk ?a ?l ?c ?k
      (case a => k_is); (case l => k_is); (case c => k_is); (case k => k_is)
    case has_refuse_run =>
      refine' has_mk ?a ?l ?c ?k
      (case a => k_is); (case l => k_is); (case c => k_is); (case k => k_is)
    case has_refuse_fears =>
      refine' has_mk ?a ?l ?c ?k
      (case a => k_is); (case l => k_is); (case c => k_is); (case k => k_is)
    case has_refuse_asked =>
      refine' has_mk ?a ?l ?c ?k
      (case a => k_is); (case l => k_is); (case c => k_is); (case k => k_is)
    case has_refuse_quarrel =>
      refine' has_mk ?a ?l ?c ?k
      (case a => k_is); (case l => k_is); (case c => k_is); (case k => k_is)
    case has_is_told =>
      refine' has_mk ?a ?l ?c ?k
      (case a => k_is); (case l => k_is); (case c => k_is); (case k => k_is)
    case has_circle_fault =>
      refine' has_mk ?a ?l ?c ?k
      (case a => k_is); (case l => k_is); (case c => k_is); (case k => k_is)
    case has_crossing_fault =>
      refine' has_mk ?a ?l ?c ?k
      (case a => k_is); (case l => k_is); (case c => k_is); (case k => k_is)
    case has_far_fault =>
      refine' has_mk ?a ?l ?c ?k
      (case a => k_is); (case l => k_is); (case c => k_is); (case k => k_is)
    case has_steps_fault =>
      refine' has_mk ?a ?l ?c ?k
      (case a => k_is); (case l => k_is); (case c => k_is); (case k => k_is)
    case has_bound_fault =>
      refine' has_mk ?a ?l ?c ?k
      (case a => k_is); (case l => k_is); (case c => k_is); (case k => k_is)
    case has_mean_of =>
      refine' has_mk ?a ?l ?c ?k
      (case a => k_is); (case l => k_is); (case c => k_is); (case k => k_is)
    case has_lets_ring =>
      refine' has_mk ?a ?l ?c ?k
      (case a => k_is); (case l => k_is); (case c => k_is); (case k => k_is)
    case has__law_same =>
      refine' has_mk ?a ?l ?c ?k
      (case a => k_is); (case l => k_is); (case c => k_is); (case k => k_is)
    case has__law_frac =>
      refine' has_mk ?a ?l ?c ?k
      (case a => k_is); (case l => k_is); (case c => k_is); (case k => k_is)
    case has__law_feared =>
      refine' has_mk ?a ?l ?c ?k
      (case a => k_is); (case l => k_is); (case c => k_is); (case k => k_is)
    case has__law_wires =>
      refine' has_mk ?a ?l ?c ?k
      (case a => k_is); (case l => k_is); (case c => k_is); (case k => k_is)
    case has__law_is_integer =>
      refine' has_mk ?a ?l ?c ?k
      (case a => k_is); (case l => k_is); (case c => k_is); (case k => k_is)
    case has__law_is_lot =>
      refine' has_mk ?a ?l ?c ?k
      (case a => k_is); (case l => k_is); (case c => k_is); (case k => k_is)
    case has__law_do_fit =>
      refine' has_mk ?a ?l ?c ?k
      (case a => k_is); (case l => k_is); (case c => k_is); (case k => k_is)
    case has__law_told_by =>
      refine' has_mk ?a ?l ?c ?k
      (case a => k_is); (case l => k_is); (case c => k_is); (case k => k_is)
    case has__law_is_good_lot =>
      refine' has_mk ?a ?l ?c ?k
      (case a => k_is); (case l => k_is); (case c => k_is); (case k => k_is)
    case has__law_circle_due =>
      refine' has_mk ?a ?l ?c ?k
      (case a => k_is); (case l => k_is); (case c => k_is); (case k => k_is)
    case has__law_far_due =>
      refine' has_mk ?a ?l ?c ?k
      (case a => k_is); (case l => k_is); (case c => k_is); (case k => k_is)
    case has__law_ring_due =>
      refine' has_mk ?a ?l ?c ?k
      (case a => k_is); (case l => k_is); (case c => k_is); (case k => k_is)
    case has__law_worlds_told =>
      refine' has_mk ?a ?l ?c ?k
      (case a => k_is); (case l => k_is); (case c => k_is); (case k => k_is)
    case has__law_right_rows =>
      refine' has_mk ?a ?l ?c ?k
      (case a => k_is); (case l => k_is); (case c => k_is); (case k => k_is)
    case has__law_circle_rows =>
      refine' has_mk ?a ?l ?c ?k
      (case a => k_is); (case l => k_is); (case c => k_is); (case k => k_is)
    case has__law_far_rows =>
      refine' has_mk ?a ?l ?c ?k
      (case a => k_is); (case l => k_is); (case c => k_is); (case k => k_is)
    case has__law_judged =>
      refine' has_mk ?a ?l ?c ?k
      (case a => k_is); (case l => k_is); (case c => k_is); (case k => k_is)
    case has__law_are_refused =>
      refine' hasL_mk ?za ?zl ?zq ?zk ?zh ?zn
      (case za => k_is); (case zl => k_is); (case zq => k_is); (case zk => k_is); (case zh => kernel_rfl); (case zn => kernel_rfl)
    case has_law =>
      refine' hasL_mk ?za ?zl ?zq ?zk ?zh ?zn
      (case za => k_is); (case zl => k_is); (case zq => k_is); (case zk => k_is); (case zh => kernel_rfl); (case zn => kernel_rfl)
    case has_InvalidPaper =>
      refine' hasX_mk ?za ?zxL ?zrv ?zsa ?zeC ?ztC ?zkC ?zga ?zgg ?zhd ?zn1 ?zn2 ?zi1 ?zt1 ?zl ?zc ?zk ?zhb
      (case za => k_is); (case zxL => k_is); (case zrv => decide +kernel); (case zsa => k_is); (case zeC => k_is); (case ztC => k_is); (case zkC => k_is); (case zga => k_is); (case zgg => k_is); (case zhd => k_is); (case zn1 => k_is); (case zn2 => k_is); (case zi1 => k_is); (case zt1 => k_is); (case zl => k_is); (case zc => k_is); (case zk => k_is)
      case zhb => exact fun _ _ _ _ _ _ us hl => match us, hl with | [_, _, _], _ => rfl
    case has_NotUsable =>
      refine' hasX_mk ?za ?zxL ?zrv ?zsa ?zeC ?ztC ?zkC ?zga ?zgg ?zhd ?zn1 ?zn2 ?zi1 ?zt1 ?zl ?zc ?zk ?zhb
      (case za => k_is); (case zxL => k_is); (case zrv => decide +kernel); (case zsa => k_is); (case zeC => k_is); (case ztC => k_is); (case zkC => k_is); (case zga => k_is); (case zgg => k_is); (case zhd => k_is); (case zn1 => k_is); (case zn2 => k_is); (case zi1 => k_is); (case zt1 => k_is); (case zl => k_is); (case zc => k_is); (case zk => k_is)
      case zhb => exact fun _ _ _ _ _ _ us hl => match us, hl with | [_, _, _], _ => rfl
    case sub_InvalidPaper_InvalidPaper =>
      refine' hasSub_mk ?za ?zd ?ze
      (case za => k_is); (case zd => k_is); (case ze => kts_exm)
    case sub_InvalidPaper_NotUsable =>
      refine' hasSub_mk ?za ?zd ?ze
      (case za => k_is); (case zd => k_is); (case ze => kts_exm)
    case sub_NotUsable_InvalidPaper =>
      refine' hasSub_mk ?za ?zd ?ze
      (case za => k_is); (case zd => k_is); (case ze => kts_exm)
    case sub_NotUsable_NotUsable =>
      refine' hasSub_mk ?za ?zd ?ze
      (case za => k_is); (case zd => k_is); (case ze => kts_exm)
    case apart =>
      unfold PL.Apart
      decide +kernel
    case ns_abs => k_is
    case ns_all => k_is
    case ns_any => k_is
    case ns_bool => k_is
    case ns_dict => k_is
    case ns_enumerate => k_is
    case ns_gcd => k_is
    case ns_int => k_is
    case ns_isinstance => k_is
    case ns_len => k_is
    case ns_list => k_is
    case ns_max => k_is
    case ns_range => k_is
    case ns_repr => k_is
    case ns_set => k_is
    case ns_sorted => k_is
    case ns_str => k_is
    case ns_sum => k_is
    case ns_tuple => k_is
    case ns_zip => k_is
