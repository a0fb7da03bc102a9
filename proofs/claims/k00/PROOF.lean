import PyProof.Rows.All
import Wide.All
import OpenK.AllK
import Wide.FinOn
import HandS.ForMost
import HandS.IsInst
import HandS.StrMore
import HandS.Strs
import HandS.TupAny
import HandS.TupMul
import HandS.Gcd
import HandS.SetTxt0
import HandS.TupSets
import PyProof.Rows.SortShellAny
import PyProof.WalksMore
import PySem.Challenge.RW_nearhours_k00_whole_kinds_judged
set_option Elab.async false
set_option linter.all false
set_option maxRecDepth 100000
/-! a layer of plain data over the hand layer: values without addresses -/
namespace PL
open PySem PySem.Spec PyProof.Rows L2

abbrev D := PyData

/-! ### data in a part of the heap -/
mutual
/-- v is d, all of whose lists and tuples stand in Z -/
inductive Dq (Z : Hp) : V → D → Prop
  | non : Dq Z .non .none
  | bl (b : Bool) : Dq Z (.bl b) (.bool b)
  | int (i : Int) : Dq Z (.int i) (.int i)
  | str (x : Str) : Dq Z (.str x) (.str x)
  | lst {a : Addr} {xs : List V} {ds : List D} : Z a = some (.lst xs) → Dqs Z xs ds → Dq Z (.ref a) (.list ds)
  | tup {a : Addr} {xs : List V} {ds : List D} : Z a = some (.tup xs) → Dqs Z xs ds → Dq Z (.ref a) (.tuple ds)
inductive Dqs (Z : Hp) : List V → List D → Prop
  | nil : Dqs Z [] []
  | cons {v : V} {vs : List V} {d : D} {ds : List D} : Dq Z v d → Dqs Z vs ds → Dqs Z (v :: vs) (d :: ds)
end
mutual
theorem dp_mono {Z Z' : Hp} (h : Same Z Z') : ∀ (d : D) (v : V), Dq Z v d → Dq Z' v d
  | .none, _, q => by cases q; exact .non
  | .bool _, _, q => by cases q; exact .bl _
  | .int _, _, q => by cases q; exact .int _
  | .str _, _, q => by cases q; exact .str _
  | .list ds, _, q => by cases q with | lst a b => exact .lst (h _ _ a) (dps_mono h ds _ b)
  | .tuple ds, _, q => by cases q with | tup a b => exact .tup (h _ _ a) (dps_mono h ds _ b)
  | .dict _, _, q => by cases q
theorem dps_mono {Z Z' : Hp} (h : Same Z Z') : ∀ (ds : List D) (vs : List V), Dqs Z vs ds → Dqs Z' vs ds
  | [], _, q => by cases q; exact .nil
  | d :: ds, _, q => by cases q with | cons a b => exact .cons (dp_mono h d _ a) (dps_mono h ds _ b)
end
mutual
/-- .. as the hand layer says it -/
theorem dq_dp {K : PySem.W.Frag} {Z : Hp} : ∀ (d : D) (v : V), Dq Z v d → Dp K Z v d
  | .none, _, q => by cases q; exact .non
  | .bool _, _, q => by cases q; exact .bl _
  | .int _, _, q => by cases q; exact .int _
  | .str _, _, q => by cases q; exact .str _
  | .list ds, _, q => by cases q with | lst a b => exact .lst (SqL.of a) (dqs_dp ds _ b)
  | .tuple ds, _, q => by cases q with | tup a b => exact .tup (SqT.of a) (dqs_dp ds _ b)
  | .dict _, _, q => by cases q
theorem dqs_dp {K : PySem.W.Frag} {Z : Hp} : ∀ (ds : List D) (vs : List V), Dqs Z vs ds → DpAll K Z vs ds
  | [], _, q => by cases q; exact .nil
  | d :: ds, _, q => by cases q with | cons a b => exact .cons (dq_dp d _ a) (dqs_dp ds _ b)
end
theorem dps_len {Z : Hp} : ∀ {vs : List V} {ds : List D}, Dqs Z vs ds → vs.length = ds.length
  | _, [], q => by cases q; rfl
  | _, d :: ds, q => by cases q with | cons a b => simp [dps_len b]
theorem dps_get {Z : Hp} : ∀ {vs : List V} {ds : List D} {i : Nat} {d : D}, Dqs Z vs ds → ds[i]? = some d → ∃ v, vs[i]? = some v ∧ Dq Z v d
  | _, [], i, d, q, h => by simp at h
  | _, d :: ds, 0, e, q, h => by cases q with | cons a b => simp at h; subst h; exact ⟨_, rfl, a⟩
  | _, d :: ds, i + 1, e, q, h => by
    cases q with
    | cons a b =>
      obtain ⟨v, h1, h2⟩ := dps_get b (by simpa using h)
      exact ⟨v, by simpa using h1, h2⟩
theorem dps_get' {Z : Hp} : ∀ {vs : List V} {ds : List D} {i : Nat} {v : V}, Dqs Z vs ds → vs[i]? = some v → ∃ d, ds[i]? = some d ∧ Dq Z v d
  | _, [], i, d, q, h => by cases q; simp at h
  | _, d :: ds, 0, e, q, h => by cases q with | cons a b => simp at h; subst h; exact ⟨_, rfl, a⟩
  | _, d :: ds, i + 1, e, q, h => by
    cases q with
    | cons a b =>
      obtain ⟨v, h1, h2⟩ := dps_get' b (by simpa using h)
      exact ⟨v, by simpa using h1, h2⟩
theorem dps_app {Z : Hp} : ∀ {vs : List V} {ds : List D} {ws : List V} {es : List D}, Dqs Z vs ds → Dqs Z ws es → Dqs Z (vs ++ ws) (ds ++ es)
  | _, [], _, _, q, r => by cases q; exact r
  | _, d :: ds, _, _, q, r => by cases q with | cons a b => exact .cons a (dps_app b r)
theorem dps_take {Z : Hp} : ∀ (n : Nat) {vs : List V} {ds : List D}, Dqs Z vs ds → Dqs Z (vs.take n) (ds.take n)
  | 0, _, _, _ => by simp; exact .nil
  | n + 1, _, [], q => by cases q; simp; exact .nil
  | n + 1, _, d :: ds, q => by cases q with | cons a b => simp; exact .cons a (dps_take n b)
theorem dps_drop {Z : Hp} : ∀ (n : Nat) {vs : List V} {ds : List D}, Dqs Z vs ds → Dqs Z (vs.drop n) (ds.drop n)
  | 0, _, _, q => by simpa using q
  | n + 1, _, [], q => by cases q; simp; exact .nil
  | n + 1, _, d :: ds, q => by cases q with | cons a b => simp; exact dps_drop n b
theorem dps_rev {Z : Hp} : ∀ {vs : List V} {ds : List D}, Dqs Z vs ds → Dqs Z vs.reverse ds.reverse
  | _, [], q => by cases q; simp; exact .nil
  | _, d :: ds, q => by cases q with | cons a b => simp; exact dps_app (dps_rev b) (.cons a .nil)
theorem dps_ints {Z : Hp} : ∀ (ns : List Int), Dqs Z (ns.map V.int) (ns.map PyData.int)
  | [] => .nil
  | n :: ns => .cons (.int n) (dps_ints ns)
theorem dps_strs {Z : Hp} : ∀ (ns : List Str), Dqs Z (ns.map V.str) (ns.map PyData.str)
  | [] => .nil
  | n :: ns => .cons (.str n) (dps_strs ns)

/-! ### slots and values -/
inductive S where
  | dat (d : D)
  | feed (cs : List D)
  | own (ds : List D)
  /-- a list of the feed's that stays as it is -/
  | ro (ds : List D)
def S.lent : S → Bool
  | .own _ => false
  | .ro _ => false
  | _ => true

/-- a thing of the def's (or the law's) own that draws change: its value, its objects, what holds of them -/
structure Fd where
  ref : V
  cs : List D
  own : Addr → Prop
  ok : Hp → Prop
  away : ∀ H p, ok H → H p = none → ¬ own p
  here : ∀ H H', ok H → (∀ a, own a → H' a = H a) → ok H'
  ro : V → List D → Prop
  reads : ∀ H v ds, ok H → ro v ds → ∃ a vs, v = .ref a ∧ H a = some (.lst vs) ∧ ∀ Z, Dqs Z vs ds
/-- a is none of its objects -/
def nf (F : Option Fd) (a : Addr) : Prop := ∀ x, F = some x → ¬ x.own a
/-- how the heap may change: all but the feed stays, the data part grows by new objects alone -/
structure Fr (F : Option Fd) (H Z H' Z' : Hp) : Prop where
  keep : ∀ a o, nf F a → H a = some o → H' a = some o
  zz : Same Z Z'
  zh : Same Z' H'
  new : ∀ a o, Z' a = some o → Z a = none → H a = none
  notF : ∀ a o, Z' a = some o → nf F a
/-- the feed -/
def FeedOk (F : Option Fd) (H : Hp) : Prop := ∀ x, F = some x → x.ok H
theorem FeedOk.ne {F : Option Fd} {H : Hp} {p : Addr} (fd : FeedOk F H) (np : H p = none) : nf F p := fun x e => x.away H p (fd x e) np
/-- another object than these changes -/
theorem FeedOk.other {F : Option Fd} {H : Hp} {p : Addr} {o : HO} (fd : FeedOk F H) (np : nf F p) : FeedOk F (upd H p o) := fun x e =>
  x.here H _ (fd x e) fun a ha => upd_ne fun z => np x e (z ▸ ha)
theorem FeedOk.made {F : Option Fd} {H : Hp} {p : Addr} {o : HO} (fd : FeedOk F H) (np : H p = none) : FeedOk F (upd H p o) := fd.other (fd.ne np)

theorem Fr.refl {F : Option Fd} {H Z : Hp} (h : Same Z H) (hf : ∀ a o, Z a = some o → nf F a) : Fr F H Z H Z := ⟨fun _ _ _ e => e, fun _ _ e => e, h, fun a o e n => (by rw [e] at n; cases n), hf⟩
theorem Fr.trans {F : Option Fd} {H Z H1 Z1 H2 Z2 : Hp} (a : Fr F H Z H1 Z1) (b : Fr F H1 Z1 H2 Z2) : Fr F H Z H2 Z2 where
  keep := fun c o n e => b.keep c o n (a.keep c o n e)
  zz := a.zz.trans b.zz
  zh := b.zh
  notF := b.notF
  new := fun c o e n => by
    cases q : Z1 c with
    | some u => exact a.new c u q n
    | none =>
      have h1 := b.new c o e q
      have h2 := b.notF c o e
      cases r : H c with
      | none => rfl
      | some u => rw [a.keep c u h2 r] at h1; cases h1

/-- a value is what s says; H0: the def's entry -/
def SV (F : Option Fd) (H0 H Z : Hp) (v : V) : S → Prop
  | .dat d => Dq Z v d
  | .feed cs => ∃ x, F = some x ∧ v = x.ref ∧ x.cs = cs
  | .own ds => ∃ a vs, v = .ref a ∧ H a = some (.lst vs) ∧ Z a = none ∧ H0 a = none ∧ nf F a ∧ Dqs Z vs ds
  | .ro ds => ∃ x, F = some x ∧ x.ro v ds
theorem SV.next {F : Option Fd} {H0 H Z H' Z' : Hp} {v : V} {s : S} (h : SV F H0 H Z v s) (f : Fr F H Z H' Z') : SV F H0 H' Z' v s := by
  cases s with
  | dat d => exact dp_mono f.zz d v h
  | feed cs => exact h
  | ro ds => exact h
  | own ds =>
    obtain ⟨a, vs, e, h1, h2, h3, h4, h5⟩ := h
    refine ⟨a, vs, e, f.keep a _ h4 h1, ?_, h3, h4, dps_mono f.zz ds vs h5⟩
    cases q : Z' a with
    | none => rfl
    | some o =>
      have := f.new a o q h2
      rw [this] at h1; cases h1
theorem SV.lent {F : Option Fd} {H0 H1 H Z : Hp} {v : V} {s : S} (h : SV F H0 H Z v s) (l : s.lent = true) : SV F H1 H Z v s := by
  cases s with
  | dat d => exact h
  | feed cs => exact h
  | ro ds => cases l
  | own ds => cases l

abbrev Env' := List (Option S)
/-- the state within a def: H0, Z0 at the entry -/
structure Sta (F : Option Fd) (H0 Z0 H Z : Hp) (σ : L2.St) (ρ : Env') : Prop where
  fr : Fr F H0 Z0 H Z
  fd : FeedOk F H
  len : σ.length = ρ.length
  env : ∀ (i : Nat) (s : S), ρ[i]? = some (some s) → ∃ v, σ[i]? = some (some v) ∧ SV F H0 H Z v s
  sep : ∀ (i j : Nat) (a : Addr) (ds es : List D), ρ[i]? = some (some (S.own ds)) → ρ[j]? = some (some (S.own es)) → σ[i]? = some (some (V.ref a)) → σ[j]? = some (some (V.ref a)) → i = j
theorem Sta.next {F : Option Fd} {H0 Z0 H Z H' Z' : Hp} {σ : L2.St} {ρ : Env'} (h : Sta F H0 Z0 H Z σ ρ) (f : Fr F H Z H' Z') (fd : FeedOk F H') : Sta F H0 Z0 H' Z' σ ρ :=
  ⟨h.fr.trans f, fd, h.len, fun i s e => let ⟨v, e1, e2⟩ := h.env i s e; ⟨v, e1, e2.next f⟩, h.sep⟩
theorem Sta.set {F : Option Fd} {H0 Z0 H Z : Hp} {σ : L2.St} {ρ : Env'} (h : Sta F H0 Z0 H Z σ ρ) (i : Nat) {s : S} {v : V} (sv : SV F H0 H Z v s) (l : s.lent = true) : Sta F H0 Z0 H Z (σ.set i (some v)) (ρ.set i (some s)) := by
  refine ⟨h.fr, h.fd, by simp [h.len], fun j s' e => ?_, fun j k a ds es e1 e2 e3 e4 => ?_⟩
  · by_cases hj : i = j
    · subst hj
      by_cases hi : i < ρ.length
      · rw [List.getElem?_set_self hi] at e
        cases e
        exact ⟨v, List.getElem?_set_self (by rw [h.len]; exact hi), sv⟩
      · rw [List.getElem?_eq_none (by simp; omega)] at e; cases e
    · rw [List.getElem?_set_ne hj] at e
      rw [List.getElem?_set_ne hj]
      exact h.env j s' e
  · have go : ∀ m fs, (ρ.set i (some s))[m]? = some (some (S.own fs)) → i ≠ m := fun m fs e z => by
      subst z
      by_cases hi : i < ρ.length
      · rw [List.getElem?_set_self hi] at e
        cases e; cases l
      · rw [List.getElem?_eq_none (by simp; omega)] at e; cases e
    have n1 := go j ds e1
    have n2 := go k es e2
    rw [List.getElem?_set_ne n1] at e1 e3
    rw [List.getElem?_set_ne n2] at e2 e4
    exact h.sep j k a ds es e1 e2 e3 e4

/-- an exception: its class by name, its fields -/
structure Xn where
  cls : String
  fs : List (String × D)

/-- where one stands: the def's context, the feed, the entry's heaps; what is wanted of exceptions and what they look like -/
structure Cp where
  X : Cx
  F : Option Fd
  H0 : Hp
  Z0 : Hp
  EE : XK := fun _ _ _ => False
  XV : Value → Option Addr → Hp → Hp → Xn → Prop := fun _ _ _ _ _ => False

/-- what an expression's value may be: any s of q, wherever the heap then stands -/
def Kt (C : Cp) (H Z : Hp) (q : S → Prop) (Q : VK) : Prop :=
  ∀ s v H' Z', Fr C.F H Z H' Z' → FeedOk C.F H' → SV C.F C.H0 H' Z' v s → q s → Q v H'
/-- what may be raised -/
def Ke (C : Cp) (H Z : Hp) (e : Xn → Prop) : Prop :=
  ∀ x cls d H' Z', Fr C.F H Z H' Z' → FeedOk C.F H' → C.XV cls d H' Z' x → e x → C.EE cls d H'
abbrev Sta.at (C : Cp) (H Z : Hp) (σ : L2.St) (ρ : Env') : Prop := Sta C.F C.H0 C.Z0 H Z σ ρ
theorem Kt.here {C : Cp} {H Z : Hp} {σ : L2.St} {ρ : Env'} {q : S → Prop} {Q : VK} {s : S} {v : V} (k : Kt C H Z q Q) (h : Sta.at C H Z σ ρ) (sv : SV C.F C.H0 H Z v s) (hq : q s) : Q v H :=
  k s v H Z (Fr.refl h.fr.zh h.fr.notF) h.fd sv hq
theorem Kt.next {C : Cp} {H Z H1 Z1 : Hp} {q : S → Prop} {Q : VK} (k : Kt C H Z q Q) (f : Fr C.F H Z H1 Z1) : Kt C H1 Z1 q Q :=
  fun s v H' Z' f' fd sv hq => k s v H' Z' (f.trans f') fd sv hq
theorem Ke.next {C : Cp} {H Z H1 Z1 : Hp} {e : Xn → Prop} (k : Ke C H Z e) (f : Fr C.F H Z H1 Z1) : Ke C H1 Z1 e :=
  fun x cls d H' Z' f' fd sv hq => k x cls d H' Z' (f.trans f') fd sv hq

abbrev W := Env' → (S → Prop) → (Xn → Prop) → Prop
abbrev WB := Env' → (Bool → Prop) → (Xn → Prop) → Prop
abbrev WA := Env' → (List S → Prop) → (Xn → Prop) → Prop

def tP (C : Cp) (w : W) : TE := fun σ H Q => ∃ Z ρ q e, Sta.at C H Z σ ρ ∧ w ρ q e ∧ Kt C H Z q Q ∧ Ke C H Z e
/-- an expression by its plain meaning -/
def E (C : Cp) (e : Expr) (w : W) : Prop := PE C.X e (tP C w)
def tPT (C : Cp) (w : WB) : TT := fun σ H Q => ∃ Z ρ q e, Sta.at C H Z σ ρ ∧ w ρ q e ∧ (∀ b H' Z', Fr C.F H Z H' Z' → FeedOk C.F H' → q b → Q b H') ∧ Ke C H Z e
/-- a test -/
def T (C : Cp) (e : Expr) (w : WB) : Prop := PT C.X e (tPT C w)
inductive SVs (F : Option Fd) (H0 H Z : Hp) : List V → List S → Prop
  | nil : SVs F H0 H Z [] []
  | cons {v : V} {vs : List V} {s : S} {ss : List S} : SV F H0 H Z v s → SVs F H0 H Z vs ss → SVs F H0 H Z (v :: vs) (s :: ss)
theorem SVs.next {F : Option Fd} {H0 H Z H' Z' : Hp} (f : Fr F H Z H' Z') : ∀ {vs : List V} {ss : List S}, SVs F H0 H Z vs ss → SVs F H0 H' Z' vs ss
  | _, _, .nil => .nil
  | _, _, .cons a b => .cons (a.next f) (SVs.next f b)
theorem SVs.lent {F : Option Fd} {H0 H1 H Z : Hp} : ∀ {vs : List V} {ss : List S}, SVs F H0 H Z vs ss → ss.all S.lent = true → SVs F H1 H Z vs ss
  | _, _, .nil, _ => .nil
  | _, _, .cons a b, l => by
    simp only [List.all_cons, Bool.and_eq_true] at l
    exact .cons (a.lent l.1) (SVs.lent b l.2)
theorem SVs.len {F : Option Fd} {H0 H Z : Hp} : ∀ {vs : List V} {ss : List S}, SVs F H0 H Z vs ss → vs.length = ss.length
  | _, _, .nil => rfl
  | _, _, .cons a b => by simp [SVs.len b]
theorem SVs.get {F : Option Fd} {H0 H Z : Hp} : ∀ {vs : List V} {ss : List S} {i : Nat} {s : S}, SVs F H0 H Z vs ss → ss[i]? = some s → ∃ v, vs[i]? = some v ∧ SV F H0 H Z v s
  | _, _, _, _, .nil, e => by simp at e
  | _, _, 0, _, .cons a b, e => by simp at e; subst e; exact ⟨_, rfl, a⟩
  | _, _, i + 1, _, .cons a b, e => by
    obtain ⟨v, h1, h2⟩ := SVs.get (i := i) b (by simpa using e)
    exact ⟨v, by simpa using h1, h2⟩
theorem SVs.dats {F : Option Fd} {H0 H Z : Hp} : ∀ {vs : List V} {ds : List D}, SVs F H0 H Z vs (ds.map S.dat) → Dqs Z vs ds
  | _, [], q => by cases q; exact .nil
  | _, d :: ds, q => by cases q with | cons a b => exact .cons a (SVs.dats b)
def tPA (C : Cp) (w : WA) : TA := fun σ H Q => ∃ Z ρ q e, Sta.at C H Z σ ρ ∧ w ρ q e ∧ (∀ ss vs H' Z', Fr C.F H Z H' Z' → FeedOk C.F H' → SVs C.F C.H0 H' Z' vs ss → q ss → Q vs H') ∧ Ke C H Z e
def A (C : Cp) (es : List Expr) (w : WA) : Prop := PA C.X es (tPA C w)

theorem weakE {X : Cx} {e : Expr} {t t' : TE} (h : PE X e t) (k : ∀ σ H Q, t' σ H Q → t σ H Q) : PE X e t' := ⟨fun pins s σ H Q I q => h.run pins s σ H Q I (k _ _ _ q)⟩
theorem weakT {X : Cx} {e : Expr} {t t' : TT} (h : PT X e t) (k : ∀ σ H Q, t' σ H Q → t σ H Q) : PT X e t' := ⟨fun pins s σ H Q I q => h.run pins s σ H Q I (k _ _ _ q)⟩
theorem weakA {X : Cx} {e : List Expr} {t t' : TA} (h : PA X e t) (k : ∀ σ H Q, t' σ H Q → t σ H Q) : PA X e t' := ⟨fun p pins s σ H Q I q => h.run p pins s σ H Q I (k _ _ _ q)⟩

section
variable {C : Cp}
/-! ### names, constants -/
def wVar (i : Nat) : W := fun ρ q _ => ∃ s, ρ[i]? = some (some s) ∧ q s
def wD (d : D) : W := fun _ q _ => q (.dat d)
theorem e_var (i : Nat) {x : Str} {pos : Pos} (h : PE C.X (.Name x pos) (tVar i)) : E C (.Name x pos) (wVar i) :=
  weakE h fun σ H Q ⟨Z, ρ, q, e, st, ⟨s, e1, e2⟩, k, _⟩ => let ⟨v, h1, h2⟩ := st.env i s e1; ⟨v, h1, k.here st h2 e2⟩
theorem e_int {i j pos} : E C (.Constant (.int i) j pos) (wD (.int i)) := weakE pe_int fun σ H Q ⟨Z, ρ, q, e, st, e2, k, _⟩ => k.here st (s := .dat (.int i)) (Dq.int i) e2
theorem e_bl {i j pos} : E C (.Constant (.bool i) j pos) (wD (.bool i)) := weakE pe_bl fun σ H Q ⟨Z, ρ, q, e, st, e2, k, _⟩ => k.here st (s := .dat (.bool i)) (Dq.bl i) e2
theorem e_str {i j pos} : E C (.Constant (.str i) j pos) (wD (.str i)) := weakE pe_str fun σ H Q ⟨Z, ρ, q, e, st, e2, k, _⟩ => k.here st (s := .dat (.str i)) (Dq.str i) e2
theorem e_non {j pos} : E C (.Constant .none j pos) (wD .none) := weakE pe_non fun σ H Q ⟨Z, ρ, q, e, st, e2, k, _⟩ => k.here st (s := .dat .none) Dq.non e2

/-! ### arguments -/
def wNil : WA := fun _ q _ => q []
def wCons (a : W) (r : WA) : WA := fun ρ q e => a ρ (fun s => r ρ (fun ss => q (s :: ss)) e) e
theorem a_nil : A C [] wNil := weakA pa_nil fun σ H Q ⟨Z, ρ, q, e, st, e2, k, _⟩ => k [] [] H Z (Fr.refl st.fr.zh st.fr.notF) st.fd .nil e2
theorem a_cons {e : Expr} {es : List Expr} {a : W} {r : WA} (ha : E C e a) (hr : A C es r) (hs : starEach (e :: es) C.X.env = (false, eval e C.X.env) :: starEach es C.X.env := by rfl) : A C (e :: es) (wCons a r) :=
  weakA (pa_cons ha hr hs) fun σ H Q ⟨Z, ρ, q, e, st, hw, k, ke⟩ =>
    ⟨Z, ρ, _, e, st, hw, fun s1 x H1 Z1 f1 fd1 sv1 hq1 => ⟨Z1, ρ, _, e, st.next f1 fd1, hq1, fun ss vs H2 Z2 f2 fd2 sv2 hq2 => k _ _ H2 Z2 (f1.trans f2) fd2 (.cons (sv1.next f2) sv2) hq2, ke.next f1⟩, ke⟩

/-! ### what is made new -/
theorem Fr.made {F : Option Fd} {H Z : Hp} {p : Addr} {o : HO} (h : Fr F H Z H Z) (fd : FeedOk F H) (np : H p = none) : Fr F H Z (upd H p o) (upd Z p o) := by
  have zp : Z p = none := by
    cases q : Z p with
    | none => rfl
    | some u => rw [h.zh p u q] at np; cases np
  refine ⟨fun a u n e => ?_, fun a u e => ?_, fun a u e => ?_, fun a u e n => ?_, fun a u e => ?_⟩
  · rw [upd_ne (ne_of_none e np)]; exact e
  · rw [upd_ne (ne_of_none e zp)]; exact e
  · by_cases ha : a = p
    · subst ha; rw [upd_same] at e ⊢; exact e
    · rw [upd_ne ha] at e ⊢; exact h.zh a u e
  · by_cases ha : a = p
    · subst ha; exact np
    · rw [upd_ne ha, n] at e; cases e
  · by_cases ha : a = p
    · subst ha
      exact fd.ne np
    · rw [upd_ne ha] at e; exact h.notF a u e
theorem Same.made {Z : Hp} {p : Addr} {o : HO} (zp : Z p = none) : Same Z (upd Z p o) := fun a u e => by rw [upd_ne (ne_of_none e zp)]; exact e
theorem Kt.tup {C : Cp} {H Z : Hp} {q : S → Prop} {Q : VK} {p : Addr} {vs : List V} {ds : List D} (k : Kt C H Z q Q) (h : Fr C.F H Z H Z) (fd : FeedOk C.F H) (np : H p = none) (dv : Dqs Z vs ds) (hq : q (.dat (.tuple ds))) : Q (.ref p) (upd H p (.tup vs)) :=
  have f := h.made (o := .tup vs) fd np
  k (.dat (.tuple ds)) _ _ _ f (fd.made np) (Dq.tup upd_same (dps_mono f.zz ds vs dv)) hq
theorem Kt.lst {C : Cp} {H Z : Hp} {q : S → Prop} {Q : VK} {p : Addr} {vs : List V} {ds : List D} (k : Kt C H Z q Q) (h : Fr C.F H Z H Z) (fd : FeedOk C.F H) (np : H p = none) (dv : Dqs Z vs ds) (hq : q (.dat (.list ds))) : Q (.ref p) (upd H p (.lst vs)) :=
  have f := h.made (o := .lst vs) fd np
  k (.dat (.list ds)) _ _ _ f (fd.made np) (Dq.lst upd_same (dps_mono f.zz ds vs dv)) hq
/-- the data of what was told, if it is data alone -/
def wTup (r : WA) : W := fun ρ q e => r ρ (fun ss => ∃ ds, ss = ds.map S.dat ∧ ds.length ≤ sizeLine ∧ q (.dat (.tuple ds))) e
def wLst (r : WA) : W := fun ρ q e => r ρ (fun ss => ∃ ds, ss = ds.map S.dat ∧ ds.length ≤ sizeLine ∧ q (.dat (.list ds))) e
theorem e_tup {es : List Expr} {x1} {pos : Pos} {r : WA} (h : A C es r) : E C (.Tuple es x1 pos) (wTup r) :=
  weakE (pe_tup h) fun σ H Q ⟨Z, ρ, q, e, st, hw, k, ke⟩ => ⟨Z, ρ, _, e, st, hw, fun ss vs H1 Z1 f1 fd1 sv ⟨ds, e1, z, hq⟩ => by
    subst e1
    refine ⟨by rw [sv.len]; simpa using z, fun p np => ?_⟩
    exact (k.next f1).tup (Fr.refl f1.zh f1.notF) fd1 np sv.dats hq, ke⟩
theorem e_lst {es : List Expr} {pos : Pos} {r : WA} (h : A C es r) : E C (.List es pos) (wLst r) :=
  weakE (pe_lst h) fun σ H Q ⟨Z, ρ, q, e, st, hw, k, ke⟩ => ⟨Z, ρ, _, e, st, hw, fun ss vs H1 Z1 f1 fd1 sv ⟨ds, e1, z, hq⟩ => by
    subst e1
    refine ⟨by rw [sv.len]; simpa using z, fun p np => ?_⟩
    exact (k.next f1).lst (Fr.refl f1.zh f1.notF) fd1 np sv.dats hq, ke⟩

/-! ### two-place operations, built-ins on arguments -/
abbrev O2 := S → S → (S → Prop) → Prop
/-- at these heaps, with such an end -/
structure At (C : Cp) (H Z : Hp) (q : S → Prop) (Q : VK) : Prop where
  fr : Fr C.F H Z H Z
  fd : FeedOk C.F H
  k : Kt C H Z q Q
theorem At.ret {C : Cp} {H Z : Hp} {q : S → Prop} {Q : VK} {s : S} {v : V} (a : At C H Z q Q) (sv : SV C.F C.H0 H Z v s) (hq : q s) : Q v H := a.k s v H Z a.fr a.fd sv hq
theorem At.tup {C : Cp} {H Z : Hp} {q : S → Prop} {Q : VK} {p : Addr} {vs : List V} {ds : List D} (a : At C H Z q Q) (np : H p = none) (dv : Dqs Z vs ds) (hq : q (.dat (.tuple ds))) : Q (.ref p) (upd H p (.tup vs)) := a.k.tup a.fr a.fd np dv hq
theorem At.lst {C : Cp} {H Z : Hp} {q : S → Prop} {Q : VK} {p : Addr} {vs : List V} {ds : List D} (a : At C H Z q Q) (np : H p = none) (dv : Dqs Z vs ds) (hq : q (.dat (.list ds))) : Q (.ref p) (upd H p (.lst vs)) := a.k.lst a.fr a.fd np dv hq
def rP (C : Cp) (o : O2) : R2 := fun x y H Q => ∃ Z s1 s2 q, At C H Z q Q ∧ SV C.F C.H0 H Z x s1 ∧ SV C.F C.H0 H Z y s2 ∧ o s1 s2 q
def Op (C : Cp) (f : Value → Value → Sem Value) (o : O2) : Prop := OpR C.X f (rP C o)
def w2 (o : O2) (a b : W) : W := fun ρ q e => a ρ (fun x => b ρ (fun y => o x y q) e) e
theorem tP2 {o : O2} {a b : W} {σ : L2.St} {H : Hp} {Q : VK} (h : tP C (w2 o a b) σ H Q) : tOp (rP C o) (tP C a) (tP C b) σ H Q := by
  obtain ⟨Z, ρ, q, e, st, hw, k, ke⟩ := h
  refine ⟨Z, ρ, _, e, st, hw, fun s1 x H1 Z1 f1 fd1 sv1 hq1 => ?_, ke⟩
  refine ⟨Z1, ρ, _, e, st.next f1 fd1, hq1, fun s2 y H2 Z2 f2 fd2 sv2 hq2 => ?_, ke.next f1⟩
  exact ⟨Z2, s1, s2, q, ⟨Fr.refl f2.zh f2.notF, fd2, k.next (f1.trans f2)⟩, sv1.next f2, sv2, hq2⟩
theorem e_op {op : Operator} {o : O2} {a b : Expr} {wa wb : W} {pos : Pos} (ho : Op C (binaryOp op) o) (ha : E C a wa) (hb : E C b wb) : E C (.BinOp a op b pos) (w2 o wa wb) :=
  weakE (pe_op ho ha hb) fun σ H Q h => tP2 h
theorem e_cmp {op : CmpOp} {o : O2} {a b : Expr} {wa wb : W} {pos : Pos} (ho : Op C (compareOp op) o) (ha : E C a wa) (hb : E C b wb) (hm : behindInMarks op b = false) : E C (.Compare a [op] [b] pos) (w2 o wa wb) :=
  weakE (pe_cmpR ho ha hb hm) fun σ H Q h => tP2 h
/-- a built-in function (or type) by its arguments -/
abbrev OA := List S → (S → Prop) → Prop
def rPA (C : Cp) (o : OA) : List V → Hp → VK → Prop := fun vs H Q => ∃ Z ss q, At C H Z q Q ∧ SVs C.F C.H0 H Z vs ss ∧ o ss q
def Bi (C : Cp) (f : Value) (o : OA) : Prop := CallR C.X f (rPA C o)
def wBi (o : OA) (r : WA) : W := fun ρ q e => r ρ (fun ss => o ss q) e
theorem e_bi {x : Str} {p pos : Pos} {e : Expr} {es : List Expr} {r : WA} {id : String} {o : OA} (hc : Bi C (.builtin id) o) (hg : Gl C.X x) (hm : C.X.mg x = none) (hv : bootBuiltins x = some (.builtin id)) (ha : A C (e :: es) r)
    (hn : x ≠ "__name__" := by decide) (hdb : (x == ("__debug__" : Str)) = false := by decide)
    (he : starEach (e :: es) C.X.env = (false, eval e C.X.env) :: starEach es C.X.env := by rfl) (hpl : (backTo pos (starEach es C.X.env)).any (·.1) = false := by rfl) : E C (.Call (.Name x p) (e :: es) [] pos) (wBi o r) :=
  weakE (pe_callB hc hg hm hv ha hn hdb he hpl) fun σ H Q ⟨Z, ρ, q, e, st, hw, k, ke⟩ => ⟨Z, ρ, _, e, st, hw, fun ss vs H1 Z1 f1 fd1 sv ho => ⟨Z1, ss, q, ⟨Fr.refl f1.zh f1.notF, fd1, k.next f1⟩, sv, ho⟩, ke⟩
theorem e_ty {x : Str} {p pos : Pos} {e : Expr} {es : List Expr} {r : WA} {id : String} {o : OA} (hc : Bi C (.type id) o) (hg : Gl C.X x) (hm : C.X.mg x = none) (hv : bootBuiltins x = some (.type id)) (ha : A C (e :: es) r)
    (hn : x ≠ "__name__" := by decide) (hdb : (x == ("__debug__" : Str)) = false := by decide)
    (he : starEach (e :: es) C.X.env = (false, eval e C.X.env) :: starEach es C.X.env := by rfl) (hpl : (backTo pos (starEach es C.X.env)).any (·.1) = false := by rfl) : E C (.Call (.Name x p) (e :: es) [] pos) (wBi o r) :=
  weakE (pe_callTy hc hg hm hv ha hn hdb he hpl) fun σ H Q ⟨Z, ρ, q, e, st, hw, k, ke⟩ => ⟨Z, ρ, _, e, st, hw, fun ss vs H1 Z1 f1 fd1 sv ho => ⟨Z1, ss, q, ⟨Fr.refl f1.zh f1.notF, fd1, k.next f1⟩, sv, ho⟩, ke⟩
end
end PL

set_option Elab.async false
set_option linter.all false
set_option maxRecDepth 100000
/-! the operations over plain data -/
namespace PL
open PySem PySem.Spec PyProof.Rows L2
section
variable {C : Cp}

/-! ### ints -/
def oInt (c : Int → Int → Prop) (g : Int → Int → D) : O2
  | .dat (.int i), .dat (.int j), q => c i j ∧ q (.dat (g i j))
  | _, _, _ => False
theorem oInt_to {c : Int → Int → Prop} {g : Int → Int → D} {s1 s2 : S} {q : S → Prop} (h : oInt c g s1 s2 q) : ∃ i j, s1 = .dat (.int i) ∧ s2 = .dat (.int j) ∧ c i j ∧ q (.dat (g i j)) := by
  unfold oInt at h
  split at h
  · exact ⟨_, _, rfl, rfl, h.1, h.2⟩
  · exact h.elim
theorem op_int {f : Value → Value → Sem Value} {c : Int → Int → Prop} {g : Int → Int → V} {g' : Int → Int → D} (h : OpR C.X f (rI c g)) (hg : ∀ i j Z, Dq Z (g i j) (g' i j)) : Op C f (oInt c g') := by
  intro pins s σ H x y v u Q I rx ry ⟨Z, s1, s2, q, a, sv1, sv2, ho⟩
  obtain ⟨i, j, rfl, rfl, hc, hq⟩ := oInt_to ho
  cases (show Dq Z x (.int i) from sv1)
  cases (show Dq Z y (.int j) from sv2)
  exact h pins s σ H _ _ v u Q I rx ry ⟨i, j, rfl, rfl, hc, a.ret (s := .dat (g' i j)) (hg i j Z) hq⟩
theorem op_int0 {f : Value → Value → Sem Value} {g : Int → Int → V} {g' : Int → Int → D} (h : OpR C.X f (rI0 g)) (hg : ∀ i j Z, Dq Z (g i j) (g' i j)) : Op C f (oInt (fun _ _ => True) g') :=
  op_int (c := fun _ _ => True) (fun pins s σ H x y v u Q I rx ry ⟨i, j, e1, e2, _, q⟩ => h pins s σ H x y v u Q I rx ry ⟨i, j, e1, e2, q⟩) hg
def oSub : O2 := oInt (fun _ _ => True) fun i j => .int (i - j)
theorem o_sub : Op C (binaryOp .Sub) oSub := op_int0 op_sub fun _ _ _ => Dq.int _
def oDiv : O2 := oInt CDiv fun i j => .int (i / j)
theorem o_div : Op C (binaryOp .FloorDiv) oDiv := op_int op_fdiv fun _ _ _ => Dq.int _
def oMod : O2 := oInt (fun _ j => 0 < j) fun i j => .int (i % j)
theorem o_mod : Op C (binaryOp .Mod) oMod := op_int op_mod fun _ _ _ => Dq.int _
def oPow : O2 := oInt CPow fun i j => .int (i ^ j.toNat)
theorem o_pow : Op C (binaryOp .Pow) oPow := op_int op_pow fun _ _ _ => Dq.int _
/-- order of ints and of texts -/
def strLt (a b : Str) : Bool := decide (a.cps.toList < b.cps.toList)
def oOrd (p : Int → Int → Bool) (r : Str → Str → Bool) : O2
  | .dat (.int i), .dat (.int j), q => q (.dat (.bool (p i j)))
  | .dat (.str i), .dat (.str j), q => q (.dat (.bool (r i j)))
  | _, _, _ => False
theorem op_ord {f : Value → Value → Sem Value} {p : Int → Int → Bool} {r : Str → Str → Bool} (h : OpR C.X f (rI0 fun i j => .bl (p i j))) (h2 : OpR C.X f (fun x y H Q => ∃ i j, x = .str i ∧ y = .str j ∧ Q (.bl (r i j)) H)) : Op C f (oOrd p r) := by
  intro pins s σ H x y v u Q I rx ry ⟨Z, s1, s2, q, a, sv1, sv2, ho⟩
  unfold oOrd at ho
  split at ho
  · rename_i i j
    cases (show Dq Z x (.int i) from sv1)
    cases (show Dq Z y (.int j) from sv2)
    exact h pins s σ H _ _ v u Q I rx ry ⟨i, j, rfl, rfl, a.ret (s := .dat (.bool _)) (Dq.bl _) ho⟩
  · rename_i i j
    cases (show Dq Z x (.str i) from sv1)
    cases (show Dq Z y (.str j) from sv2)
    exact h2 pins s σ H _ _ v u Q I rx ry ⟨i, j, rfl, rfl, a.ret (s := .dat (.bool _)) (Dq.bl _) ho⟩
  · exact ho.elim
def oLt : O2 := oOrd (fun i j => decide (i < j)) strLt
def oLe : O2 := oOrd (fun i j => decide (i ≤ j)) fun a b => !strLt b a
def oGt : O2 := oOrd (fun i j => decide (j < i)) fun a b => strLt b a
def oGe : O2 := oOrd (fun i j => decide (j ≤ i)) fun a b => !strLt a b
theorem o_lt : Op C (compareOp .Lt) oLt := op_ord op_lt op_lt_str
theorem o_le : Op C (compareOp .LtE) oLe := op_ord op_le op_le_str
theorem o_gt : Op C (compareOp .Gt) oGt := op_ord op_gt op_gt_str
theorem o_ge : Op C (compareOp .GtE) oGe := op_ord op_ge op_ge_str

/-! ### + and * -/
def S.lst : S → Option (List D)
  | .dat (.list xs) => some xs
  | .own xs => some xs
  | .ro xs => some xs
  | _ => none
theorem SV.lst {F : Option Fd} {H0 H Z : Hp} {x : V} {s : S} {xs : List D} (h : SV F H0 H Z x s) (zh : Same Z H) (fd : FeedOk F H) (e : s.lst = some xs) : ∃ a vs, x = .ref a ∧ H a = some (.lst vs) ∧ Dqs Z vs xs := by
  unfold S.lst at e
  split at e
  · rename_i ys
    cases e
    cases (show Dq Z x (.list xs) from h) with
    | lst h1 h2 => exact ⟨_, _, rfl, zh _ _ h1, h2⟩
  · rename_i ys
    cases e
    obtain ⟨a, vs, e1, e2, _, _, _, h5⟩ := h
    exact ⟨a, vs, e1, e2, h5⟩
  · rename_i ys
    cases e
    obtain ⟨y, e1, e2⟩ := h
    obtain ⟨a, vs, e3, e4, e5⟩ := y.reads H x _ (fd y e1) e2
    exact ⟨a, vs, e3, e4, e5 Z⟩
  · cases e
def oAdd : O2 := fun x y q => match x, y with
  | .dat (.int i), .dat (.int j) => q (.dat (.int (i + j)))
  | .dat (.str i), .dat (.str j) => i.length + j.length ≤ sizeLine ∧ q (.dat (.str (i ++ j)))
  | .dat (.tuple xs), .dat (.tuple ys) => xs.length + ys.length ≤ sizeLine ∧ q (.dat (.tuple (xs ++ ys)))
  | x, y => ∃ xs ys, x.lst = some xs ∧ y.lst = some ys ∧ xs.length + ys.length ≤ sizeLine ∧ q (.dat (.list (xs ++ ys)))
theorem o_add : Op C (binaryOp .Add) oAdd := by
  intro pins s σ H x y v u Q I rx ry ⟨Z, s1, s2, q, a, sv1, sv2, ho⟩
  unfold oAdd at ho
  split at ho
  · rename_i i j
    cases (show Dq Z x (.int i) from sv1)
    cases (show Dq Z y (.int j) from sv2)
    exact op_add pins s σ H _ _ v u Q I rx ry ⟨i, j, rfl, rfl, a.ret (s := .dat (.int _)) (Dq.int _) ho⟩
  · rename_i i j
    cases (show Dq Z x (.str i) from sv1)
    cases (show Dq Z y (.str j) from sv2)
    exact op_add_str pins s σ H _ _ v u Q I rx ry ⟨i, j, rfl, rfl, ho.1, a.ret (s := .dat (.str _)) (Dq.str _) ho.2⟩
  · rename_i xs ys
    cases (show Dq Z x (.tuple xs) from sv1) with
    | @tup b vs _ h1 h2 =>
    cases (show Dq Z y (.tuple ys) from sv2) with
    | @tup c ws _ h3 h4 =>
    have l1 := dps_len h2
    have l2 := dps_len h4
    refine op_catA pins s σ H _ _ v u Q I rx ry ⟨b, c, vs, ws, rfl, rfl, SqT.of (a.fr.zh _ _ h1), SqT.of (a.fr.zh _ _ h3), by rw [l1, l2]; exact ho.1, fun e => ?_, fun e e' => ?_, fun e e' p np => ?_⟩
    · subst e
      cases h2
      exact a.ret (s := .dat (.tuple ([] ++ ys))) (Dq.tup h3 h4) ho.2
    · subst e'
      cases h4
      exact a.ret (s := .dat (.tuple (xs ++ []))) (by rw [List.append_nil]; exact Dq.tup h1 h2) ho.2
    · exact a.tup np (dps_app h2 h4) ho.2
  · obtain ⟨xs, ys, e1, e2, hl, hq⟩ := ho
    obtain ⟨b, vs, rfl, h1, h2⟩ := sv1.lst a.fr.zh a.fd e1
    obtain ⟨c, ws, rfl, h3, h4⟩ := sv2.lst a.fr.zh a.fd e2
    refine op_cat pins s σ H _ _ v u Q I rx ry ⟨b, c, vs, ws, rfl, rfl, h1, h3, by rw [dps_len h2, dps_len h4]; exact hl, fun p np => ?_⟩
    exact a.lst np (dps_app h2 h4) hq
theorem dps_rep {Z : Hp} {vs : List V} {ds : List D} (h : Dqs Z vs ds) : ∀ n : Nat, Dqs Z (List.replicate n vs).flatten (List.replicate n ds).flatten
  | 0 => by simp; exact .nil
  | n + 1 => by simp only [List.replicate_succ, List.flatten_cons]; exact dps_app h (dps_rep h n)
def oMul : O2 := fun x y q => match x, y with
  | .dat (.int i), .dat (.int j) => CMul i j ∧ q (.dat (.int (i * j)))
  | .dat (.tuple xs), .dat (.int k) => xs ≠ [] ∧ 2 ≤ k ∧ k ≤ 1000 ∧ xs.length ≤ 1000 ∧ q (.dat (.tuple (List.replicate k.toNat xs).flatten))
  | _, _ => False
end
end PL

set_option Elab.async false
set_option linter.all false
set_option maxRecDepth 100000
/-! equality, membership, isinstance, len, built-ins, texts' methods -/
namespace PL
open PySem PySem.Spec PyProof.Rows L2
section
variable {C : Cp}
theorem o_mul : Op C (binaryOp .Mult) oMul := by
  intro pins s σ H x y v u Q I rx ry ⟨Z, s1, s2, q, a, sv1, sv2, ho⟩
  unfold oMul at ho
  split at ho
  · rename_i i j
    cases (show Dq Z x (.int i) from sv1)
    cases (show Dq Z y (.int j) from sv2)
    exact op_mul pins s σ H _ _ v u Q I rx ry ⟨i, j, rfl, rfl, ho.1, a.ret (s := .dat (.int _)) (Dq.int _) ho.2⟩
  · rename_i xs k
    cases (show Dq Z x (.tuple xs) from sv1) with
    | @tup b vs _ h1 h2 =>
    cases (show Dq Z y (.int k) from sv2)
    have l1 := dps_len h2
    obtain ⟨ne, k1, k2, l, hq⟩ := ho
    refine op_repT pins s σ H _ _ v u Q I rx ry ⟨b, k, vs, rfl, rfl, SqT.of (a.fr.zh _ _ h1), fun e => ?_, k1, k2, by rw [l1]; exact l, fun p np => ?_⟩
    · subst e
      cases h2
      exact ne rfl
    · exact a.tup np (dps_rep h2 k.toNat) hq
  · exact ho.elim

/-! ### == and != -/
def S.data : S → Option D
  | .dat d => some d
  | .own ds => some (.list ds)
  | .ro ds => some (.list ds)
  | .feed _ => none
theorem SV.dp {K : PySem.W.Frag} {F : Option Fd} {H0 H Z : Hp} {x : V} {s : S} {d : D} (h : SV F H0 H Z x s) (zh : Same Z H) (fd : FeedOk F H) (e : s.data = some d) : Dp K H x d := by
  cases s with
  | dat d' =>
    cases e
    exact dq_dp _ _ (dp_mono zh _ _ h)
  | own ds =>
    cases e
    obtain ⟨a, vs, e1, e2, _, _, _, h5⟩ := h
    rw [e1]
    exact .lst (SqL.of e2) (dqs_dp _ _ (dps_mono zh _ _ h5))
  | feed cs => cases e
  | ro ds =>
    cases e
    obtain ⟨y, e1, e2⟩ := h
    obtain ⟨a, vs, e3, e4, e5⟩ := y.reads H x _ (fd y e1) e2
    rw [e3]
    exact .lst (SqL.of e4) (dqs_dp _ _ (e5 H))
def oEq (neg : Bool) : O2 := fun x y q => ∃ d e, x.data = some d ∧ y.data = some e ∧ SeqAt.shaped d = true ∧ SeqAt.shaped e = true ∧ q (.dat (.bool (if neg then !PyData.eqv d e else PyData.eqv d e)))
theorem o_eq (hu : C.X.A.units + 64 < cLine) : Op C (compareOp .Eq) (oEq false) := by
  intro pins s σ H x y v u Q I rx ry ⟨Z, s1, s2, q, a, sv1, sv2, d, e, e1, e2, h1, h2, hq⟩
  exact op_eqD hu pins s σ H x y v u Q I rx ry ⟨d, e, sv1.dp a.fr.zh a.fd e1, sv2.dp a.fr.zh a.fd e2, h1, h2, a.ret (s := .dat (.bool _)) (Dq.bl _) hq⟩
theorem o_ne (hu : C.X.A.units + 64 < cLine) : Op C (compareOp .NotEq) (oEq true) := by
  intro pins s σ H x y v u Q I rx ry ⟨Z, s1, s2, q, a, sv1, sv2, d, e, e1, e2, h1, h2, hq⟩
  exact op_neD hu pins s σ H x y v u Q I rx ry ⟨d, e, sv1.dp a.fr.zh a.fd e1, sv2.dp a.fr.zh a.fd e2, h1, h2, a.ret (s := .dat (.bool _)) (Dq.bl _) hq⟩

/-! ### a sign in a text -/
def oInSign (neg : Bool) : O2
  | .dat (.str a), .dat (.str b), q => ∃ c, a = ⟨#[c]⟩ ∧ q (.dat (.bool (if neg then !decide (c ∈ b.cps.toList) else decide (c ∈ b.cps.toList))))
  | _, _, _ => False
theorem o_inSign : Op C (compareOp .In) (oInSign false) := by
  intro pins s σ H x y v u Q I rx ry ⟨Z, s1, s2, q, a, sv1, sv2, ho⟩
  unfold oInSign at ho
  split at ho
  · rename_i i j q'
    obtain ⟨c, e, hq⟩ := ho
    subst e
    cases (show Dq Z x (.str _) from sv1)
    cases (show Dq Z y (.str _) from sv2)
    exact op_in_sign pins s σ H _ _ v u Q I rx ry ⟨c, _, rfl, rfl, a.ret (s := .dat (.bool _)) (Dq.bl _) hq⟩
  · exact ho.elim
theorem o_notInSign : Op C (compareOp .NotIn) (oInSign true) := by
  intro pins s σ H x y v u Q I rx ry ⟨Z, s1, s2, q, a, sv1, sv2, ho⟩
  unfold oInSign at ho
  split at ho
  · rename_i i j q'
    obtain ⟨c, e, hq⟩ := ho
    subst e
    cases (show Dq Z x (.str _) from sv1)
    cases (show Dq Z y (.str _) from sv2)
    exact op_notIn_sign pins s σ H _ _ v u Q I rx ry ⟨c, _, rfl, rfl, a.ret (s := .dat (.bool _)) (Dq.bl _) hq⟩
  · exact ho.elim

/-! ### isinstance -/
def tyN : D → String
  | .none => "NoneType"
  | .bool _ => "bool"
  | .int _ => "int"
  | .str _ => "str"
  | .list _ => "list"
  | .tuple _ => "tuple"
  | .dict _ => "dict"
/-- whether d is an instance of the built-in type -/
def isTy (T : String) (d : D) : Bool := tyN d == T || (T == "int" && tyN d == "bool")
theorem ty_of {K : PySem.W.Frag} {Z H : Hp} {x : V} {d : D} (h : Dq Z x d) (zh : Same Z H) : TyX K H x (.type (tyN d)) := by
  cases h with
  | non => exact .base .non
  | bl b => exact .base (.bl b)
  | int i => exact .base (.int i)
  | str i => exact .base (.str i)
  | lst a b => exact .base (.lst (zh _ _ a))
  | tup a b => exact .base (.tup (zh _ _ a))
def tyOkB (T : String) : Bool := ["NoneType", "bool", "int", "str", "list", "tuple"].all fun t => decide (kitB t T = some (t == T || (T == "int" && t == "bool")))
theorem kit_is {K : PySem.W.Frag} {T : String} (hT : tyOkB T = true) {d : D} (hd : ∀ kvs, d ≠ .dict kvs) : PySem.W.kitOne K (.type (tyN d)) (.type T) = some (isTy T d) := by
  unfold tyOkB at hT
  rw [List.all_eq_true] at hT
  refine kit_ty ?_
  cases d with
  | dict kvs => exact absurd rfl (hd kvs)
  | none => exact of_decide_eq_true (hT "NoneType" (by simp))
  | bool b => exact of_decide_eq_true (hT "bool" (by simp))
  | int b => exact of_decide_eq_true (hT "int" (by simp))
  | str b => exact of_decide_eq_true (hT "str" (by simp))
  | list b => exact of_decide_eq_true (hT "list" (by simp))
  | tuple b => exact of_decide_eq_true (hT "tuple" (by simp))
def wIs (T : String) (w : W) : W := fun ρ q e => w ρ (fun s => ∃ d, s = .dat d ∧ q (.dat (.bool (isTy T d)))) e
theorem e_is {T : String} {y : Str} {e : Expr} {w : W} {p p2 pos : Pos} (he : E C e w) (hT : tyOkB T = true) (hg : Gl C.X "isinstance") (hm : C.X.mg "isinstance" = none) (hg2 : Gl C.X y) (hm2 : C.X.mg y = none) (hv2 : bootBuiltins y = some (.type T))
    (hv : bootBuiltins "isinstance" = some (.builtin "isinstance") := by decide +kernel) (hn : y ≠ "__name__" := by decide) (hd : (y == ("__debug__" : Str)) = false := by decide)
    (h1 : starEach [e, .Name y p2] C.X.env = (false, eval e C.X.env) :: starEach [.Name y p2] C.X.env := by rfl) :
    E C (.Call (.Name "isinstance" p) [e, .Name y p2] [] pos) (wIs T w) :=
  weakE (pe_callB call_isi hg hm hv (pa_cons he (pa_cons (pe_bltn (v := .ty T) hg2 hm2 hv2 rfl hn hd) pa_nil) h1) (by decide) (by decide) h1) fun σ H Q ⟨Z, ρ, q, ex, st, hw, k, ke⟩ =>
    ⟨Z, ρ, _, ex, st, hw, fun s1 x H1 Z1 f1 fd1 sv1 ⟨d, e1, hq⟩ => by
      subst e1
      have dq : Dq Z1 x d := sv1
      refine ⟨x, .ty T, .type (tyN d), .type T, isTy T d, rfl, .ty T, ty_of dq f1.zh, kit_is hT (fun kvs z => by subst z; cases dq), ?_⟩
      exact k (.dat (.bool _)) _ H1 Z1 f1 fd1 (Dq.bl _) hq, ke⟩

/-! ### len -/
def oLen : OA
  | [.dat (.str z)], q => z.length ≤ sizeLine ∧ q (.dat (.int z.length))
  | [.dat (.tuple xs)], q => q (.dat (.int xs.length))
  | [.dat (.list xs)], q => q (.dat (.int xs.length))
  | [.own xs], q => q (.dat (.int xs.length))
  | [.ro xs], q => q (.dat (.int xs.length))
  | _, _ => False
theorem svs1 {F : Option Fd} {H0 H Z : Hp} {vs : List V} {s : S} (h : SVs F H0 H Z vs [s]) : ∃ v, vs = [v] ∧ SV F H0 H Z v s := by
  cases h with
  | cons a b => cases b; exact ⟨_, rfl, a⟩
theorem svs2 {F : Option Fd} {H0 H Z : Hp} {vs : List V} {s t : S} (h : SVs F H0 H Z vs [s, t]) : ∃ v w, vs = [v, w] ∧ SV F H0 H Z v s ∧ SV F H0 H Z w t := by
  cases h with
  | cons a b => obtain ⟨w, e, c⟩ := svs1 b; exact ⟨_, w, by rw [e], a, c⟩
theorem b_len : Bi C (.builtin "len") oLen := by
  intro pins s σ H vs us Q I r ⟨Z, ss, q, a, sv, ho⟩
  unfold oLen at ho
  split at ho
  · obtain ⟨v, rfl, h⟩ := svs1 sv
    cases (show Dq Z v (.str _) from h)
    exact call_len_str pins s σ H _ us Q I r ⟨_, rfl, ho.1, a.ret (s := .dat (.int _)) (Dq.int _) ho.2⟩
  · obtain ⟨v, rfl, h⟩ := svs1 sv
    cases (show Dq Z v (.tuple _) from h) with
    | tup h1 h2 => exact call_len_seq pins s σ H _ us Q I r ⟨_, _, rfl, .inr (SqT.of (a.fr.zh _ _ h1)), by rw [dps_len h2]; exact a.ret (s := .dat (.int _)) (Dq.int _) ho⟩
  · obtain ⟨v, rfl, h⟩ := svs1 sv
    obtain ⟨b, ws, rfl, h1, h2⟩ := h.lst a.fr.zh a.fd rfl
    exact call_len_seq pins s σ H _ us Q I r ⟨_, _, rfl, .inl (SqL.of h1), by rw [dps_len h2]; exact a.ret (s := .dat (.int _)) (Dq.int _) ho⟩
  · obtain ⟨v, rfl, h⟩ := svs1 sv
    obtain ⟨b, ws, rfl, h1, h2⟩ := h.lst a.fr.zh a.fd rfl
    exact call_len_seq pins s σ H _ us Q I r ⟨_, _, rfl, .inl (SqL.of h1), by rw [dps_len h2]; exact a.ret (s := .dat (.int _)) (Dq.int _) ho⟩
  · obtain ⟨v, rfl, h⟩ := svs1 sv
    obtain ⟨b, ws, rfl, h1, h2⟩ := h.lst a.fr.zh a.fd rfl
    exact call_len_seq pins s σ H _ us Q I r ⟨_, _, rfl, .inl (SqL.of h1), by rw [dps_len h2]; exact a.ret (s := .dat (.int _)) (Dq.int _) ho⟩
  · exact ho.elim

/-! ### int, abs, gcd, list, tuple, all, any -/
def oInt1 : OA
  | [.dat (.int i)], q => q (.dat (.int i))
  | [.dat (.bool b)], q => q (.dat (.int (if b then 1 else 0)))
  | _, _ => False
theorem b_int : Bi C (.type "int") oInt1 := by
  intro pins s σ H vs us Q I r ⟨Z, ss, q, a, sv, ho⟩
  unfold oInt1 at ho
  split at ho
  · obtain ⟨v, rfl, h⟩ := svs1 sv
    cases (show Dq Z v (.int _) from h)
    exact call_int1 pins s σ H _ us Q I r (.inl ⟨_, rfl, a.ret (s := .dat (.int _)) (Dq.int _) ho⟩)
  · obtain ⟨v, rfl, h⟩ := svs1 sv
    cases (show Dq Z v (.bool _) from h)
    exact call_int1 pins s σ H _ us Q I r (.inr ⟨_, rfl, a.ret (s := .dat (.int _)) (Dq.int _) ho⟩)
  · exact ho.elim
def oAbs : OA
  | [.dat (.int i)], q => q (.dat (.int (if i < 0 then -i else i)))
  | _, _ => False
theorem b_abs : Bi C (.builtin "abs") oAbs := by
  intro pins s σ H vs us Q I r ⟨Z, ss, q, a, sv, ho⟩
  unfold oAbs at ho
  split at ho
  · obtain ⟨v, rfl, h⟩ := svs1 sv
    cases (show Dq Z v (.int _) from h)
    exact call_abs pins s σ H _ us Q I r ⟨_, rfl, a.ret (s := .dat (.int _)) (Dq.int _) ho⟩
  · exact ho.elim
def oGcd : OA
  | [.dat (.int i), .dat (.int j)], q => q (.dat (.int ((Nat.gcd i.natAbs j.natAbs : Nat) : Int)))
  | _, _ => False
theorem b_gcd : Bi C (.builtin "math.gcd") oGcd := by
  intro pins s σ H vs us Q I r ⟨Z, ss, q, a, sv, ho⟩
  unfold oGcd at ho
  split at ho
  · obtain ⟨v, w, rfl, h, h'⟩ := svs2 sv
    cases (show Dq Z v (.int _) from h)
    cases (show Dq Z w (.int _) from h')
    exact cr_gcd pins s σ H _ us Q I r ⟨_, _, rfl, a.ret (s := .dat (.int _)) (Dq.int _) ho⟩
  · exact ho.elim
/-- f(..), f a module's name of a built-in function -/
theorem e_bf {x : Str} {p pos : Pos} {e : Expr} {es : List Expr} {r : WA} {id : String} {o : OA} (hc : Bi C (.builtin id) o) (hg : Gl C.X x) (hm : C.X.mg x = some (.builtin id)) (ha : A C (e :: es) r) (hdb : (x == ("__debug__" : Str)) = false := by decide)
    (he : starEach (e :: es) C.X.env = (false, eval e C.X.env) :: starEach es C.X.env := by rfl) (hpl : (backTo pos (starEach es C.X.env)).any (·.1) = false := by rfl) : E C (.Call (.Name x p) (e :: es) [] pos) (wBi o r) :=
  weakE (pe_callBfun hc hg hm ha hdb he hpl) fun σ H Q ⟨Z, ρ, q, e, st, hw, k, ke⟩ => ⟨Z, ρ, _, e, st, hw, fun ss vs H1 Z1 f1 fd1 sv ho => ⟨Z1, ss, q, ⟨Fr.refl f1.zh f1.notF, fd1, k.next f1⟩, sv, ho⟩, ke⟩
def oList : OA
  | [.dat (.tuple xs)], q => q (.dat (.list xs))
  | [.dat (.list xs)], q => q (.dat (.list xs))
  | [.own xs], q => q (.dat (.list xs))
  | _, _ => False
theorem b_list : Bi C (.type "list") oList := by
  intro pins s σ H vs us Q I r ⟨Z, ss, q, a, sv, ho⟩
  unfold oList at ho
  split at ho
  · obtain ⟨v, rfl, h⟩ := svs1 sv
    cases (show Dq Z v (.tuple _) from h) with
    | tup h1 h2 => exact call_list_of pins s σ H _ us Q I r ⟨_, _, rfl, .inr (SqT.of (a.fr.zh _ _ h1)), fun p np => a.lst np h2 ho⟩
  · obtain ⟨v, rfl, h⟩ := svs1 sv
    obtain ⟨b, ws, rfl, h1, h2⟩ := h.lst a.fr.zh a.fd rfl
    exact call_list_of pins s σ H _ us Q I r ⟨_, _, rfl, .inl (SqL.of h1), fun p np => a.lst np h2 ho⟩
  · obtain ⟨v, rfl, h⟩ := svs1 sv
    obtain ⟨b, ws, rfl, h1, h2⟩ := h.lst a.fr.zh a.fd rfl
    exact call_list_of pins s σ H _ us Q I r ⟨_, _, rfl, .inl (SqL.of h1), fun p np => a.lst np h2 ho⟩
  · exact ho.elim
def oTuple : OA
  | [.dat (.tuple xs)], q => q (.dat (.tuple xs))
  | [.dat (.list xs)], q => q (.dat (.tuple xs))
  | [.own xs], q => q (.dat (.tuple xs))
  | _, _ => False
theorem b_tuple : Bi C (.type "tuple") oTuple := by
  intro pins s σ H vs us Q I r ⟨Z, ss, q, a, sv, ho⟩
  unfold oTuple at ho
  split at ho
  · obtain ⟨v, rfl, h⟩ := svs1 sv
    cases (show Dq Z v (.tuple _) from h) with
    | tup h1 h2 => exact call_tuple_of pins s σ H _ us Q I r ⟨_, _, rfl, .inr ⟨SqT.of (a.fr.zh _ _ h1), a.ret (s := .dat (.tuple _)) (Dq.tup h1 h2) ho⟩⟩
  · obtain ⟨v, rfl, h⟩ := svs1 sv
    obtain ⟨b, ws, rfl, h1, h2⟩ := h.lst a.fr.zh a.fd rfl
    exact call_tuple_of pins s σ H _ us Q I r ⟨_, _, rfl, .inl ⟨SqL.of h1, fun p np => a.tup np h2 ho⟩⟩
  · obtain ⟨v, rfl, h⟩ := svs1 sv
    obtain ⟨b, ws, rfl, h1, h2⟩ := h.lst a.fr.zh a.fd rfl
    exact call_tuple_of pins s σ H _ us Q I r ⟨_, _, rfl, .inl ⟨SqL.of h1, fun p np => a.tup np h2 ho⟩⟩
  · exact ho.elim
theorem dps_bls {Z : Hp} : ∀ {vs : List V} (bs : List Bool), Dqs Z vs (bs.map PyData.bool) → vs = bs.map V.bl
  | _, [], h => by cases h; rfl
  | _, b :: bs, h => by
    cases h with
    | cons h1 h2 =>
      have := dps_bls bs h2
      cases (show Dq Z _ (.bool b) from h1)
      rw [this]; rfl
/-- all(..), any(..) of a list of bools -/
def oAll (f : List Bool → Bool) : OA
  | [s], q => ∃ bs : List Bool, s.lst = some (bs.map PyData.bool) ∧ q (.dat (.bool (f bs)))
  | _, _ => False
theorem b_all (hc : C.X.calm = true) : Bi C (.builtin "all") (oAll fun bs => bs.all id) := by
  intro pins s σ H vs us Q I r ⟨Z, ss, q, a, sv, ho⟩
  unfold oAll at ho
  split at ho
  · obtain ⟨bs, e, hq⟩ := ho
    obtain ⟨v, rfl, h⟩ := svs1 sv
    obtain ⟨b, ws, rfl, h1, h2⟩ := h.lst a.fr.zh a.fd e
    have e2 := dps_bls bs h2
    subst e2
    exact cr_all hc pins s σ H _ us Q I r ⟨_, _, rfl, SqL.of h1, a.ret (s := .dat (.bool _)) (Dq.bl _) hq⟩
  · exact ho.elim
theorem b_any (hc : C.X.calm = true) : Bi C (.builtin "any") (oAll fun bs => bs.any id) := by
  intro pins s σ H vs us Q I r ⟨Z, ss, q, a, sv, ho⟩
  unfold oAll at ho
  split at ho
  · obtain ⟨bs, e, hq⟩ := ho
    obtain ⟨v, rfl, h⟩ := svs1 sv
    obtain ⟨b, ws, rfl, h1, h2⟩ := h.lst a.fr.zh a.fd e
    have e2 := dps_bls bs h2
    subst e2
    exact cr_any hc pins s σ H _ us Q I r ⟨_, _, rfl, SqL.of h1, a.ret (s := .dat (.bool _)) (Dq.bl _) hq⟩
  · exact ho.elim
end
end PL

set_option Elab.async false
set_option linter.all false
set_option maxRecDepth 100000
/-! tests, and/or/not, conditional expressions, chains, subscripts, slices, texts' methods -/
namespace PL
open PySem PySem.Spec PyProof.Rows L2
section
variable {C : Cp} {a b c : Expr} {wa wb wc : W} {pos : Pos}
/-! ### tests -/
/-- a value that is to be a bool -/
def wT (w : W) : WB := fun ρ q e => w ρ (fun s => ∃ b, s = .dat (.bool b) ∧ q b) e
theorem t_of {e : Expr} {w : W} (h : E C e w) (he : ∀ whole, isTrue e C.X.env whole = (do let v ← whole; standAt e.pos; holding [v] (truthy v)) := by intro _; rfl) : T C e (wT w) :=
  weakT (pt_val h he) fun σ H Q ⟨Z, ρ, q, ex, st, hw, k, ke⟩ => ⟨Z, ρ, _, ex, st, hw, fun s v H' Z' f fd sv ⟨b, e1, hq⟩ => by
    subst e1
    cases (show Dq Z' v (.bool b) from sv)
    exact ⟨b, rfl, k b H' Z' f fd hq⟩, ke⟩
theorem t_cmp {op : CmpOp} {o : O2} (ho : Op C (compareOp op) o) (ha : E C a wa) (hb : E C b wb) (hm : behindInMarks op b = false) : T C (.Compare a [op] [b] pos) (wT (w2 o wa wb)) :=
  weakT (pt_cmpR ho ha hb hm) fun σ H Q ⟨Z, ρ, q, ex, st, hw, k, ke⟩ => tP2 ⟨Z, ρ, _, ex, st, hw, fun s v H' Z' f fd sv ⟨b, e1, hq⟩ => by
    subst e1
    cases (show Dq Z' v (.bool b) from sv)
    exact ⟨b, rfl, k b H' Z' f fd hq⟩, ke⟩
/-- truth of a datum -/
def tru : S → (Bool → Prop) → Prop
  | .dat .none, q => q false
  | .dat (.bool b), q => q b
  | .dat (.int i), q => q (i != 0)
  | .dat (.str z), q => z.length ≤ sizeLine ∧ q ((z.length : Int) != 0)
  | .dat (.list xs), q => q (!xs.isEmpty)
  | .dat (.tuple xs), q => q (!xs.isEmpty)
  | .own xs, q => q (!xs.isEmpty)
  | _, _ => False
def wTru (w : W) : WB := fun ρ q e => w ρ (fun s => tru s q) e
theorem emp_eq {Z : Hp} {vs : List V} {ds : List D} (h : Dqs Z vs ds) : vs.isEmpty = ds.isEmpty := by cases h <;> rfl
theorem t_tru {e : Expr} {w : W} (h : E C e w) (he : ∀ whole, isTrue e C.X.env whole = (do let v ← whole; standAt e.pos; holding [v] (truthy v)) := by intro _; rfl) : T C e (wTru w) :=
  weakT (pt_truth h he) fun σ H Q ⟨Z, ρ, q, ex, st, hw, k, ke⟩ => ⟨Z, ρ, _, ex, st, hw, fun s v H' Z' f fd sv hq => by
    unfold tru at hq
    dsimp only at hq
    split at hq
    · cases (show Dq Z' v _ from sv); exact ⟨_, rfl, k _ H' Z' f fd hq⟩
    · cases (show Dq Z' v _ from sv); exact ⟨_, rfl, k _ H' Z' f fd hq⟩
    · cases (show Dq Z' v _ from sv); exact ⟨_, rfl, k _ H' Z' f fd hq⟩
    · cases (show Dq Z' v _ from sv); exact ⟨_, ⟨hq.1, rfl⟩, k _ H' Z' f fd hq.2⟩
    · obtain ⟨b, ws, rfl, h1, h2⟩ := sv.lst f.zh fd rfl
      exact ⟨_, .inl ⟨_, SqL.of h1, rfl⟩, k _ H' Z' f fd (by rw [emp_eq h2]; exact hq)⟩
    · cases (show Dq Z' v _ from sv) with
      | tup h1 h2 => exact ⟨_, .inr (.inl ⟨_, SqT.of (f.zh _ _ h1), rfl⟩), k _ H' Z' f fd (by rw [emp_eq h2]; exact hq)⟩
    · obtain ⟨b, ws, rfl, h1, h2⟩ := sv.lst f.zh fd rfl
      exact ⟨_, .inl ⟨_, SqL.of h1, rfl⟩, k _ H' Z' f fd (by rw [emp_eq h2]; exact hq)⟩
    · exact hq.elim, ke⟩

/-! ### and, or, not -/
def wNotB (t : WB) : WB := fun ρ q e => t ρ (fun b => q (!b)) e
def wAndB (t u : WB) : WB := fun ρ q e => t ρ (fun b => if b = true then u ρ q e else q false) e
def wOrB (t u : WB) : WB := fun ρ q e => t ρ (fun b => if b = true then q true else u ρ q e) e
variable {ta tb : WB} {rest : List Expr}
theorem t_not (h : T C a ta) : T C (.UnaryOp .Not a pos) (wNotB ta) :=
  weakT (pt_not h) fun σ H Q ⟨Z, ρ, q, ex, st, hw, k, ke⟩ => ⟨Z, ρ, _, ex, st, hw, fun b H' Z' f fd hq => k _ H' Z' f fd hq, ke⟩
/-- .. whatever the whole is -/
def TW (C : Cp) (e : Expr) (w : WB) : Prop := PW C.X e (tPT C w)
theorem TW.t (h : TW C a ta) : T C a ta := PW.pt h
theorem tw_and1 (h : T C a ta) : TW C (.BoolOp .And [a] pos) ta := pw_and1 h
theorem tw_or1 (h : T C a ta) : TW C (.BoolOp .Or [a] pos) ta := pw_or1 h
theorem weakW {X : Cx} {e : Expr} {t t' : TT} (h : PW X e t) (k : ∀ σ H Q, t' σ H Q → t σ H Q) : PW X e t' := ⟨fun wh pins s σ H Q I q => h.run wh pins s σ H Q I (k _ _ _ q)⟩
theorem tw_and (ha : T C a ta) (hb : TW C (.BoolOp .And (b :: rest) pos) tb) : TW C (.BoolOp .And (a :: b :: rest) pos) (wAndB ta tb) :=
  weakW (pw_and ha hb) fun σ H Q ⟨Z, ρ, q, ex, st, hw, k, ke⟩ => ⟨Z, ρ, _, ex, st, hw, fun b H' Z' f fd hq => by
    cases b with
    | true => exact ⟨Z', ρ, q, ex, st.next f fd, hq, fun b H2 Z2 f2 fd2 h2 => k b H2 Z2 (f.trans f2) fd2 h2, ke.next f⟩
    | false => exact k false H' Z' f fd hq, ke⟩
theorem tw_or (ha : T C a ta) (hb : TW C (.BoolOp .Or (b :: rest) pos) tb) : TW C (.BoolOp .Or (a :: b :: rest) pos) (wOrB ta tb) :=
  weakW (pw_or ha hb) fun σ H Q ⟨Z, ρ, q, ex, st, hw, k, ke⟩ => ⟨Z, ρ, _, ex, st, hw, fun b H' Z' f fd hq => by
    cases b with
    | false => exact ⟨Z', ρ, q, ex, st.next f fd, hq, fun b H2 Z2 f2 fd2 h2 => k b H2 Z2 (f.trans f2) fd2 h2, ke.next f⟩
    | true => exact k true H' Z' f fd hq, ke⟩
/-- .. as values, the first ones bools -/
def wAnd (x y : W) : W := fun ρ q e => x ρ (fun s => ∃ b, s = .dat (.bool b) ∧ if b = true then y ρ q e else q (.dat (.bool false))) e
def wOr (x y : W) : W := fun ρ q e => x ρ (fun s => ∃ b, s = .dat (.bool b) ∧ if b = true then q (.dat (.bool true)) else y ρ q e) e
def wNot (x : W) : W := fun ρ q e => x ρ (fun s => ∃ b, s = .dat (.bool b) ∧ q (.dat (.bool (!b)))) e
theorem e_one {op} (h : E C a wa) : E C (.BoolOp op [a] pos) wa := pe_one h
theorem e_and (ha : E C a wa) (hb : E C (.BoolOp .And (b :: rest) pos) wb) : E C (.BoolOp .And (a :: b :: rest) pos) (wAnd wa wb) :=
  weakE (pe_and ha hb) fun σ H Q ⟨Z, ρ, q, ex, st, hw, k, ke⟩ => ⟨Z, ρ, _, ex, st, hw, fun s v H' Z' f fd sv ⟨b, e1, hq⟩ => by
    subst e1
    cases (show Dq Z' v (.bool b) from sv)
    refine ⟨b, rfl, ?_⟩
    cases b with
    | true => exact ⟨Z', ρ, q, ex, st.next f fd, hq, k.next f, ke.next f⟩
    | false => exact k (.dat (.bool false)) _ H' Z' f fd (Dq.bl _) hq, ke⟩
theorem e_or (ha : E C a wa) (hb : E C (.BoolOp .Or (b :: rest) pos) wb) : E C (.BoolOp .Or (a :: b :: rest) pos) (wOr wa wb) :=
  weakE (pe_or ha hb) fun σ H Q ⟨Z, ρ, q, ex, st, hw, k, ke⟩ => ⟨Z, ρ, _, ex, st, hw, fun s v H' Z' f fd sv ⟨b, e1, hq⟩ => by
    subst e1
    cases (show Dq Z' v (.bool b) from sv)
    refine ⟨b, rfl, ?_⟩
    cases b with
    | false => exact ⟨Z', ρ, q, ex, st.next f fd, hq, k.next f, ke.next f⟩
    | true => exact k (.dat (.bool true)) _ H' Z' f fd (Dq.bl _) hq, ke⟩
theorem e_not (ha : E C a wa) : E C (.UnaryOp .Not a pos) (wNot wa) :=
  weakE (pe_not ha) fun σ H Q ⟨Z, ρ, q, ex, st, hw, k, ke⟩ => ⟨Z, ρ, _, ex, st, hw, fun s v H' Z' f fd sv ⟨b, e1, hq⟩ => by
    subst e1
    cases (show Dq Z' v (.bool b) from sv)
    exact ⟨b, rfl, k (.dat (.bool _)) _ H' Z' f fd (Dq.bl _) hq⟩, ke⟩
/-- x if t else y -/
def wIfE (t : WB) (x y : W) : W := fun ρ q e => t ρ (fun b => if b = true then x ρ q e else y ρ q e) e
theorem e_if {t : WB} (hc : T C c t) (ha : E C a wa) (hb : E C b wb) : E C (.IfExp c a b pos) (wIfE t wa wb) :=
  weakE (pe_ifExp hc ha hb) fun σ H Q ⟨Z, ρ, q, ex, st, hw, k, ke⟩ => ⟨Z, ρ, _, ex, st, hw, fun b H' Z' f fd hq => by
    cases b with
    | true => exact ⟨Z', ρ, q, ex, st.next f fd, hq, k.next f, ke.next f⟩
    | false => exact ⟨Z', ρ, q, ex, st.next f fd, hq, k.next f, ke.next f⟩, ke⟩
/-- a op1 b op2 c, as a test -/
def wChain (o1 o2 : O2) (x y z : W) : WB := fun ρ q e => x ρ (fun s => y ρ (fun t => o1 s t fun r => ∃ b, r = .dat (.bool b) ∧ if b = true then z ρ (fun u => o2 t u fun r => ∃ b, r = .dat (.bool b) ∧ q b) e else q false) e) e
theorem t_chain {op op' : CmpOp} {o1 o2 : O2} (h1 : Op C (compareOp op) o1) (h2 : Op C (compareOp op') o2) (ha : E C a wa) (hb : E C b wb) (hc : E C c wc)
    (hm : lastMarks [op, op'] [b, c] = false := by with_unfolding_all rfl) : T C (.Compare a [op, op'] [b, c] pos) (wChain o1 o2 wa wb wc) :=
  weakT (pt_chain h1 h2 ha hb hc hm) fun σ H Q ⟨Z, ρ, q, ex, st, hw, k, ke⟩ => by
    refine ⟨Z, ρ, _, ex, st, hw, fun s x H1 Z1 f1 fd1 sv1 q1 => ?_, ke⟩
    refine ⟨Z1, ρ, _, ex, st.next f1 fd1, q1, fun t y H2 Z2 f2 fd2 sv2 q2 => ?_, ke.next f1⟩
    refine ⟨Z2, s, t, _, ⟨Fr.refl f2.zh f2.notF, fd2, fun r v H3 Z3 f3 fd3 sv3 ⟨b, e3, q3⟩ => ?_⟩, sv1.next f2, sv2, q2⟩
    subst e3
    cases (show Dq Z3 v (.bool b) from sv3)
    have f13 := (f1.trans f2).trans f3
    refine ⟨b, rfl, ?_⟩
    cases b with
    | false => exact ⟨false, rfl, k false H3 Z3 f13 fd3 q3⟩
    | true =>
      refine ⟨Z3, ρ, _, ex, st.next f13 fd3, q3, fun u z H4 Z4 f4 fd4 sv4 q4 => ?_, ke.next f13⟩
      refine ⟨Z4, t, u, _, ⟨Fr.refl f4.zh f4.notF, fd4, fun r v H5 Z5 f5 fd5 sv5 ⟨b, e5, q5⟩ => ?_⟩, (sv2.next f3).next f4, sv4, q4⟩
      subst e5
      cases (show Dq Z5 v (.bool b) from sv5)
      exact ⟨b, rfl, k b H5 Z5 ((f13.trans f4).trans f5) fd5 q5⟩

/-! ### subscripts -/
def oIx : O2
  | .dat (.tuple xs), .dat (.int i), q => ∃ d, atI xs i = some d ∧ q (.dat d)
  | .dat (.list xs), .dat (.int i), q => ∃ d, atI xs i = some d ∧ q (.dat d)
  | .own xs, .dat (.int i), q => ∃ d, atI xs i = some d ∧ q (.dat d)
  | .ro xs, .dat (.int i), q => ∃ d, atI xs i = some d ∧ q (.dat d)
  | .dat (.str z), .dat (.int i), q => z.length ≤ sizeLine ∧ ∃ c, atI z.cps.toList i = some c ∧ q (.dat (.str ⟨#[c]⟩))
  | _, _, _ => False
theorem atI_dps {Z : Hp} {vs : List V} {ds : List D} {i : Int} {d : D} (h : Dqs Z vs ds) (e : atI ds i = some d) : ∃ v, atI vs i = some v ∧ Dq Z v d := by
  unfold atI at e ⊢
  rw [dps_len h]
  cases e1 : ixN ds.length i with
  | none => rw [e1] at e; cases e
  | some j =>
    rw [e1] at e
    exact dps_get h e
theorem ix_any : IxR C.X (rP C oIx) := by
  intro value slice pins s σ H x y v u Q I rx ry ⟨Z, s1, s2, q, at', sv1, sv2, ho⟩ hs
  unfold oIx at ho
  split at ho
  · obtain ⟨d, e, hq⟩ := ho
    cases (show Dq Z y (.int _) from sv2)
    cases (show Dq Z x (.tuple _) from sv1) with
    | tup h1 h2 =>
      obtain ⟨w, e2, h3⟩ := atI_dps h2 e
      exact ix_tup value slice pins s σ H _ _ v u Q I rx ry ⟨_, _, _, w, rfl, rfl, SqT.of (at'.fr.zh _ _ h1), e2, at'.ret (s := .dat d) h3 hq⟩ hs
  · obtain ⟨d, e, hq⟩ := ho
    cases (show Dq Z y (.int _) from sv2)
    obtain ⟨b, ws, rfl, h1, h2⟩ := sv1.lst at'.fr.zh at'.fd rfl
    obtain ⟨w, e2, h3⟩ := atI_dps h2 e
    exact ix_list value slice pins s σ H _ _ v u Q I rx ry ⟨_, _, _, w, rfl, rfl, SqL.of h1, e2, at'.ret (s := .dat d) h3 hq⟩ hs
  · obtain ⟨d, e, hq⟩ := ho
    cases (show Dq Z y (.int _) from sv2)
    obtain ⟨b, ws, rfl, h1, h2⟩ := sv1.lst at'.fr.zh at'.fd rfl
    obtain ⟨w, e2, h3⟩ := atI_dps h2 e
    exact ix_list value slice pins s σ H _ _ v u Q I rx ry ⟨_, _, _, w, rfl, rfl, SqL.of h1, e2, at'.ret (s := .dat d) h3 hq⟩ hs
  · obtain ⟨d, e, hq⟩ := ho
    cases (show Dq Z y (.int _) from sv2)
    obtain ⟨b, ws, rfl, h1, h2⟩ := sv1.lst at'.fr.zh at'.fd rfl
    obtain ⟨w, e2, h3⟩ := atI_dps h2 e
    exact ix_list value slice pins s σ H _ _ v u Q I rx ry ⟨_, _, _, w, rfl, rfl, SqL.of h1, e2, at'.ret (s := .dat d) h3 hq⟩ hs
  · obtain ⟨hl, c, e, hq⟩ := ho
    cases (show Dq Z y (.int _) from sv2)
    cases (show Dq Z x (.str _) from sv1)
    exact ix_str value slice pins s σ H _ _ v u Q I rx ry ⟨_, _, c, rfl, rfl, hl, e, at'.ret (s := .dat (.str _)) (Dq.str _) hq⟩ hs
  · exact ho.elim
theorem e_ix (ha : E C a wa) (hb : E C b wb) (hs : PlainIx b) : E C (.Subscript a b pos) (w2 oIx wa wb) := weakE (pe_ix ix_any ha hb hs) fun σ H Q h => tP2 h

/-! ### slices -/
abbrev WO := Env' → (Option Int → Prop) → (Xn → Prop) → Prop
def tPO (C : Cp) (w : WO) : TO := fun σ H Q => ∃ Z ρ q e, Sta.at C H Z σ ρ ∧ w ρ q e ∧ (∀ b H' Z', Fr C.F H Z H' Z' → FeedOk C.F H' → q b → Q b H') ∧ Ke C H Z e
def O (C : Cp) (e : Option Expr) (w : WO) : Prop := PO C.X e (tPO C w)
theorem weakO {X : Cx} {e : Option Expr} {t t' : TO} (h : PO X e t) (k : ∀ σ H Q, t' σ H Q → t σ H Q) : PO X e t' := ⟨fun pins s σ H Q I q => h.run pins s σ H Q I (k _ _ _ q)⟩
def wNoPart : WO := fun _ q _ => q none
def wPart (w : W) : WO := fun ρ q e => w ρ (fun s => ∃ i, s = .dat (.int i) ∧ q (some i)) e
theorem o_none : O C none wNoPart := weakO po_none fun σ H Q ⟨Z, ρ, q, ex, st, hw, k, ke⟩ => k none H Z (Fr.refl st.fr.zh st.fr.notF) st.fd hw
theorem o_some (h : E C a wa) : O C (some a) (wPart wa) := weakO (po_some h) fun σ H Q ⟨Z, ρ, q, ex, st, hw, k, ke⟩ => ⟨Z, ρ, _, ex, st, hw, fun s v H' Z' f fd sv ⟨i, e1, hq⟩ => by
  subst e1
  cases (show Dq Z' v (.int i) from sv)
  exact ⟨i, rfl, k _ H' Z' f fd hq⟩, ke⟩
def cutD {α : Type} (xs : List α) (lo hi : Option Int) : List α := (xs.drop (HT.sIx xs.length 0 lo)).take (HT.sIx xs.length xs.length hi - HT.sIx xs.length 0 lo)
theorem dps_cut {Z : Hp} {vs : List V} {ds : List D} (h : Dqs Z vs ds) (lo hi : Option Int) : Dqs Z (cutV vs lo hi) (cutD ds lo hi) := by
  unfold cutV cutD
  rw [dps_len h]
  exact dps_take _ (dps_drop _ h)
theorem cut_all {α : Type} {xs : List α} {lo hi : Option Int} (h : HT.sIx xs.length 0 lo = 0 ∧ HT.sIx xs.length xs.length hi = xs.length) : cutD xs lo hi = xs := by
  unfold cutD
  rw [h.1, h.2, List.drop_zero, Nat.sub_zero, List.take_length]
def oSl (lo hi : Option Int) : S → (S → Prop) → Prop
  | .dat (.tuple xs), q => q (.dat (.tuple (cutD xs lo hi)))
  | .dat (.list xs), q => q (.dat (.list (cutD xs lo hi)))
  | .own xs, q => q (.dat (.list (cutD xs lo hi)))
  | .dat (.str z), q => z.length ≤ sizeLine ∧ q (.dat (.str (cutS z lo hi)))
  | _, _ => False
def wSl (x : W) (lo hi : WO) : W := fun ρ q e => x ρ (fun s => lo ρ (fun l => hi ρ (fun h => oSl l h s q) e) e) e
theorem sl_any : SlR C.X (fun x lo hi H Q => ∃ Z s q, At C H Z q Q ∧ SV C.F C.H0 H Z x s ∧ oSl lo hi s q) := by
  intro pins s σ H x v vl vu lo hi sl Q I rx hs pl pu ⟨Z, s1, q, at', sv1, ho⟩
  unfold oSl at ho
  split at ho
  · cases (show Dq Z x (.tuple _) from sv1) with
    | tup h1 h2 =>
      refine sl_tupA pins s σ H _ v vl vu lo hi sl Q I rx hs pl pu ⟨_, _, rfl, SqT.of (at'.fr.zh _ _ h1), fun e => ?_, fun e p np => at'.tup np (dps_cut h2 lo hi) ho⟩
      rw [dps_len h2] at e
      rw [cut_all e] at ho
      exact at'.ret (s := .dat (.tuple _)) (Dq.tup h1 h2) ho
  · obtain ⟨b, ws, rfl, h1, h2⟩ := sv1.lst at'.fr.zh at'.fd rfl
    exact sl_list pins s σ H _ v vl vu lo hi sl Q I rx hs pl pu ⟨_, _, rfl, SqL.of h1, fun p np => at'.lst np (dps_cut h2 lo hi) ho⟩
  · obtain ⟨b, ws, rfl, h1, h2⟩ := sv1.lst at'.fr.zh at'.fd rfl
    exact sl_list pins s σ H _ v vl vu lo hi sl Q I rx hs pl pu ⟨_, _, rfl, SqL.of h1, fun p np => at'.lst np (dps_cut h2 lo hi) ho⟩
  · cases (show Dq Z x (.str _) from sv1)
    exact sl_str pins s σ H _ v vl vu lo hi sl Q I rx hs pl pu ⟨_, rfl, ho.1, at'.ret (s := .dat (.str _)) (Dq.str _) ho.2⟩
  · exact ho.elim
theorem e_sl {lo hi : Option Expr} {wl wh : WO} {p2 : Pos} (ha : E C a wa) (hl : O C lo wl) (hh : O C hi wh) : E C (.Subscript a (.Slice lo hi none p2) pos) (wSl wa wl wh) :=
  weakE (pe_slice sl_any ha hl hh) fun σ H Q ⟨Z, ρ, q, ex, st, hw, k, ke⟩ => by
    refine ⟨Z, ρ, _, ex, st, hw, fun s x H1 Z1 f1 fd1 sv1 q1 => ?_, ke⟩
    refine ⟨Z1, ρ, _, ex, st.next f1 fd1, q1, fun l H2 Z2 f2 fd2 q2 => ?_, ke.next f1⟩
    refine ⟨Z2, ρ, _, ex, (st.next f1 fd1).next f2 fd2, q2, fun h H3 Z3 f3 fd3 q3 => ?_, (ke.next f1).next f2⟩
    exact ⟨Z3, s, q, ⟨Fr.refl f3.zh f3.notF, fd3, k.next ((f1.trans f2).trans f3)⟩, (sv1.next f2).next f3, q3⟩

/-! ### texts' methods -/
def oM0 (g : Str → D) : S → (S → Prop) → Prop
  | .dat (.str z), q => q (.dat (g z))
  | _, _ => False
def wM0 (o : S → (S → Prop) → Prop) (x : W) : W := fun ρ q e => x ρ (fun s => o s q) e
theorem e_m0 {name : Str} {apos cpos : Pos} {id : String} {g : Str → Bool} (slot : Slot "str" name id) (hty : typeOf (.builtin id) = pure (.type "method_descriptor"))
    (hm : MtR C.X id (fun x xs H Q => ∃ a, x = .str a ∧ xs = [] ∧ True ∧ Q (.bl (g a)) H)) (ho : E C a wa)
    (hbase : attributeBase a name C.X.env (eval a C.X.env) = eval a C.X.env := by rfl) (hline : (apos.endLine == cpos.line) = true := by rfl) : E C (.Call (.Attribute a name apos) [] [] cpos) (wM0 (oM0 fun z => .bool (g z)) wa) :=
  weakE (pe_bm0 PySem.F.plainAttrs_str slot hty hm ho hbase hline) fun σ H Q ⟨Z, ρ, q, ex, st, hw, k, ke⟩ => ⟨Z, ρ, _, ex, st, hw, fun s x H1 Z1 f1 fd1 sv1 q1 => by
    unfold oM0 at q1
    dsimp only at q1
    split at q1
    · cases (show Dq Z1 x (.str _) from sv1)
      exact ⟨rfl, _, rfl, rfl, trivial, k (.dat (.bool _)) _ H1 Z1 f1 fd1 (Dq.bl _) q1⟩
    · exact q1.elim, ke⟩
end
end PL

set_option Elab.async false
set_option linter.all false
set_option maxRecDepth 100000
/-! defs by their plain meaning: statements, bodies, calls -/
namespace PL
open PySem PySem.Spec PyProof.Rows L2

/-! ### statements -/
structure Po where
  nx : Env' → Prop
  rt : S → Prop
  ex : Xn → Prop
  bk : Env' → Prop := fun _ => False
  ct : Env' → Prop := fun _ => False
abbrev WS := Po → Env' → Prop
structure Ends' (C : Cp) (P : Po) (D : Ends) : Prop where
  nx : ∀ σ ρ H Z, Sta.at C H Z σ ρ → P.nx ρ → D.nx σ H
  bk : ∀ σ ρ H Z, Sta.at C H Z σ ρ → P.bk ρ → D.bk σ H
  ct : ∀ σ ρ H Z, Sta.at C H Z σ ρ → P.ct ρ → D.ct σ H
  rt : ∀ s v H Z, Fr C.F C.H0 C.Z0 H Z → FeedOk C.F H → s.lent = true → SV C.F C.H0 H Z v s → P.rt s → D.rt v H
  ex : ∀ x cls d H Z, Fr C.F C.H0 C.Z0 H Z → FeedOk C.F H → C.XV cls d H Z x → P.ex x → C.EE cls d H
def tPS (C : Cp) (w : WS) : TS := fun D σ H => ∃ Z ρ P, Sta.at C H Z σ ρ ∧ w P ρ ∧ Ends' C P D
def St1 (C : Cp) (st : Stmt) (w : WS) : Prop := PS C.X st (tPS C w)
def Sts (C : Cp) (st : List Stmt) (w : WS) : Prop := PSs C.X st (tPS C w)
theorem weakS {X : Cx} {e : Stmt} {t t' : TS} (h : PS X e t) (k : ∀ D σ H, t' D σ H → t D σ H) : PS X e t' := ⟨fun pins s σ H Q I q => h.run pins s σ H Q I (k _ _ _ q)⟩
theorem weakSs {X : Cx} {e : List Stmt} {t t' : TS} (h : PSs X e t) (k : ∀ D σ H, t' D σ H → t D σ H) : PSs X e t' := ⟨fun pins s σ H Q I q => h.run pins s σ H Q I (k _ _ _ q)⟩
theorem Ends'.ke {C : Cp} {P : Po} {D : Ends} {H Z : Hp} {σ : L2.St} {ρ : Env'} (d : Ends' C P D) (st : Sta.at C H Z σ ρ) : Ke C H Z P.ex := fun x cls e H' Z' f fd xv hx => d.ex x cls e H' Z' (st.fr.trans f) fd xv hx
section
variable {C : Cp} {e c : Expr} {w : W} {t : WB} {pos : Pos} {st : Stmt} {rest a b : List Stmt} {u v : WS}
def wNx : WS := fun P ρ => P.nx ρ
def wSeq (u v : WS) : WS := fun P ρ => u { P with nx := v P } ρ
theorem ss_nil : Sts C [] wNx := weakSs pss_nil fun D σ H ⟨Z, ρ, P, s, h, d⟩ => d.nx _ _ _ _ s h
theorem ss_cons (h1 : St1 C st u) (h2 : Sts C rest v) : Sts C (st :: rest) (wSeq u v) :=
  weakSs (pss_cons h1 h2) fun D σ H ⟨Z, ρ, P, s, h, d⟩ => ⟨Z, ρ, _, s, h, ⟨fun σ' ρ' H' Z' s' h' => ⟨Z', ρ', P, s', h', d⟩, d.bk, d.ct, d.rt, d.ex⟩⟩
theorem ss_one (h1 : St1 C st u) : Sts C [st] u := pss_one h1
theorem s_pass : St1 C (.Pass pos) wNx := weakS ps_pass fun D σ H ⟨Z, ρ, P, s, h, d⟩ => d.nx _ _ _ _ s h
theorem s_brk : St1 C (.Break pos) (fun P ρ => P.bk ρ) := weakS ps_break fun D σ H ⟨Z, ρ, P, s, h, d⟩ => d.bk _ _ _ _ s h
theorem s_cnt : St1 C (.Continue pos) (fun P ρ => P.ct ρ) := weakS ps_continue fun D σ H ⟨Z, ρ, P, s, h, d⟩ => d.ct _ _ _ _ s h
theorem s_doc {x j pos'} : St1 C (.Expr (.Constant (.str x) j pos) pos') wNx := weakS ps_doc fun D σ H ⟨Z, ρ, P, s, h, d⟩ => d.nx _ _ _ _ s h
def wDrop (w : W) : WS := fun P ρ => w ρ (fun _ => P.nx ρ) P.ex
theorem s_expr (he : E C e w) (hs : swapsWith e none pos.line C.X.env = pure false := by rfl) : St1 C (.Expr e pos) (wDrop w) :=
  weakS (ps_expr he hs) fun D σ H ⟨Z, ρ, P, s, h, d⟩ => ⟨Z, ρ, _, _, s, h, fun x v H' Z' f fd sv hq => d.nx _ _ _ _ (s.next f fd) hq, d.ke s⟩
/-- what leaves a def is never its own list -/
def S.frz : S → S
  | .own ds => .dat (.list ds)
  | s => s
theorem frz_out {F : Option Fd} {H0 Z0 H Z : Hp} {v : V} {s : S} (f : Fr F H0 Z0 H Z) (sv : SV F H0 H Z v s) : ∃ Z', Fr F H0 Z0 H Z' ∧ SV F H0 H Z' v s.frz := by
  cases s with
  | dat d => exact ⟨Z, f, sv⟩
  | feed cs => exact ⟨Z, f, sv⟩
  | ro ds => exact ⟨Z, f, sv⟩
  | own ds =>
    obtain ⟨p, vs, e, h1, h2, h3, h4, h5⟩ := sv
    have zz : Same Z (upd Z p (.lst vs)) := Same.made h2
    refine ⟨upd Z p (.lst vs), ⟨f.keep, f.zz.trans zz, fun q o hq => ?_, fun q o hq hn => ?_, fun q o hq => ?_⟩, ?_⟩
    · by_cases hp : q = p
      · subst hp; rw [upd_same] at hq; cases hq; exact h1
      · rw [upd_ne hp] at hq; exact f.zh q o hq
    · by_cases hp : q = p
      · subst hp; exact h3
      · rw [upd_ne hp] at hq; exact f.new q o hq hn
    · by_cases hp : q = p
      · subst hp; exact h4
      · rw [upd_ne hp] at hq; exact f.notF q o hq
    · show Dq (upd Z p (.lst vs)) v (.list ds)
      rw [e]
      exact .lst upd_same (dps_mono zz _ _ h5)
def wRet (w : W) : WS := fun P ρ => w ρ (fun s => s.frz.lent = true ∧ P.rt s.frz) P.ex
theorem s_ret (he : E C e w) : St1 C (.Return (some e) pos) (wRet w) :=
  weakS (ps_ret he) fun D σ H ⟨Z, ρ, P, s, h, d⟩ => ⟨Z, ρ, _, _, s, h, fun x v H' Z' f fd sv ⟨hl, hq⟩ => by
    obtain ⟨Z2, f2, sv2⟩ := frz_out (s.fr.trans f) sv
    exact d.rt _ v H' Z2 f2 fd hl sv2 hq, d.ke s⟩
def wRetN : WS := fun P _ => P.rt (.dat .none)
theorem s_retN : St1 C (.Return none pos) wRetN := weakS ps_retN fun D σ H ⟨Z, ρ, P, s, h, d⟩ => d.rt (.dat .none) _ H Z s.fr s.fd rfl Dq.non h
def wIf (t : WB) (u v : WS) : WS := fun P ρ => t ρ (fun b => if b = true then u P ρ else v P ρ) P.ex
theorem s_if (hc : T C c t) (ha : Sts C a u) (hb : Sts C b v) : St1 C (.If c a b pos) (wIf t u v) :=
  weakS (ps_if hc ha hb) fun D σ H ⟨Z, ρ, P, s, h, d⟩ => ⟨Z, ρ, _, _, s, h, fun b H' Z' f fd hq => by
    cases b with
    | true => exact ⟨Z', ρ, P, s.next f fd, hq, d⟩
    | false => exact ⟨Z', ρ, P, s.next f fd, hq, d⟩, d.ke s⟩
/-- name = e -/
def wSet (i : Nat) (w : W) : WS := fun P ρ => w ρ (fun s => s.lent = true ∧ P.nx (ρ.set i (some s))) P.ex
theorem s_set {i : Nat} {x : Str} {pos' : Pos} (hN : C.X.N.Nodup) (hi : C.X.N[i]? = some x) (hx : Loc C.X.env.scope x) (he : E C e w) (hs : swapsWith e (some (.Name x pos')) pos.line C.X.env = pure false := by rfl)
    (hf : C.X.fn x = true ∨ C.X.env.scope.names.lookup x = some .local := by first | exact .inl rfl | exact .inr rfl | assumption) : St1 C (.Assign [.Name x pos'] e pos) (wSet i w) :=
  weakS (ps_set hN hi hx he hs hf) fun D σ H ⟨Z, ρ, P, s, h, d⟩ => ⟨Z, ρ, _, _, s, h, fun y v H' Z' f fd sv hq => d.nx _ _ _ _ ((s.next f fd).set i sv hq.1) hq.2, d.ke s⟩
/-! ### targets -/
abbrev WG := D → Env' → (Env' → Prop) → Prop
abbrev WGs := List D → Env' → (Env' → Prop) → Prop
def tPG (C : Cp) (g : WG) : TG := fun v σ H Q => ∃ Z ρ d q, Sta.at C H Z σ ρ ∧ Dq Z v d ∧ g d ρ q ∧ ∀ σ' ρ' H' Z', Sta.at C H' Z' σ' ρ' → Fr C.F H Z H' Z' → q ρ' → Q σ' H'
def tPGs (C : Cp) (g : WGs) : TGs := fun vs σ H Q => ∃ Z ρ ds q, Sta.at C H Z σ ρ ∧ Dqs Z vs ds ∧ g ds ρ q ∧ ∀ σ' ρ' H' Z', Sta.at C H' Z' σ' ρ' → Fr C.F H Z H' Z' → q ρ' → Q σ' H'
def G (C : Cp) (tg : Expr) (g : WG) : Prop := PG C.X tg (tPG C g)
def Gs (C : Cp) (tg : List Expr) (g : WGs) : Prop := PGs C.X tg (tPGs C g)
theorem weakG {X : Cx} {e : Expr} {t t' : TG} (h : PG X e t) (k : ∀ v σ H Q, t' v σ H Q → t v σ H Q) : PG X e t' := ⟨fun pins s σ H v u Q I r q => h.run pins s σ H v u Q I r (k _ _ _ _ q)⟩
theorem weakGs {X : Cx} {e : List Expr} {t t' : TGs} (h : PGs X e t) (k : ∀ v σ H Q, t' v σ H Q → t v σ H Q) : PGs X e t' := ⟨fun pins s σ H v u Q I r q => h.run pins s σ H v u Q I r (k _ _ _ _ q)⟩
def gNm (i : Nat) : WG := fun d ρ q => q (ρ.set i (some (.dat d)))
theorem g_nm {i : Nat} {x : Str} (hN : C.X.N.Nodup) (hi : C.X.N[i]? = some x) (hx : Loc C.X.env.scope x) (hf : C.X.fn x = true ∨ C.X.env.scope.names.lookup x = some .local := by first | exact .inl rfl | exact .inr rfl | assumption) : G C (.Name x pos) (gNm i) :=
  weakG (pg_name hN hi hx hf) fun v σ H Q ⟨Z, ρ, d, q, s, dq, hg, k⟩ => k _ _ _ Z (s.set i (s := .dat d) dq rfl) (Fr.refl s.fr.zh s.fr.notF) hg
def gN : WGs := fun ds ρ q => ds = [] ∧ q ρ
def gC (g : WG) (r : WGs) : WGs := fun ds ρ q => ∃ d es, ds = d :: es ∧ g d ρ fun ρ' => r es ρ' q
theorem gs_nil : Gs C [] gN := weakGs pgs_nil fun v σ H Q ⟨Z, ρ, ds, q, s, dq, ⟨e, hg⟩, k⟩ => by
  subst e
  cases dq
  exact ⟨rfl, k _ _ _ Z s (Fr.refl s.fr.zh s.fr.notF) hg⟩
theorem gs_cons {es : List Expr} {g : WG} {r : WGs} (h1 : G C e g) (h2 : Gs C es r) (hs : (assignEach (e :: es) C.X.env).map (·.2) = assign e C.X.env :: (assignEach es C.X.env).map (·.2) := by rfl) : Gs C (e :: es) (gC g r) :=
  weakGs (pgs_cons h1 h2 hs) fun v σ H Q ⟨Z, ρ, ds, q, s, dq, ⟨d, es, e, hg⟩, k⟩ => by
    subst e
    cases dq with
    | cons a b => exact ⟨_, _, rfl, Z, ρ, d, _, s, a, hg, fun σ' ρ' H' Z' s' f' hr => ⟨Z', ρ', es, q, s', dps_mono f'.zz _ _ b, hr, fun σ2 ρ2 H2 Z2 s2 f2 h2 => k _ _ _ _ s2 (f'.trans f2) h2⟩⟩
def gTp (n : Nat) (r : WGs) : WG := fun d ρ q => ∃ ds, d = .tuple ds ∧ ds.length = n ∧ r ds ρ q
theorem g_tup {es : List Expr} {k : Nat} {r : WGs} {n : Nat} (hc : C.X.calm = true) (h : Gs C es r) (hn : (assignEach es C.X.env).length = n := by rfl) (hst : (assignEach es C.X.env).findIdx? (·.1) = none := by rfl) : G C (.Tuple es k pos) (gTp n r) :=
  weakG (pg_tup hc h hn hst) fun v σ H Q ⟨Z, ρ, d, q, s, dq, ⟨ds, e, hl, hg⟩, k⟩ => by
    subst e
    cases dq with
    | tup h1 h2 => exact ⟨_, _, rfl, SqT.of (s.fr.zh _ _ h1), by rw [dps_len h2]; exact hl, Z, ρ, ds, q, s, h2, hg, k⟩
/-- target = e -/
def wAsg (w : W) (g : WG) : WS := fun P ρ => w ρ (fun s => ∃ d, s = .dat d ∧ g d ρ P.nx) P.ex
theorem s_asg {tg : Expr} {g : WG} (he : E C e w) (hg : G C tg g) (hs : swapsWithSole [tg] e pos.line C.X.env = pure false := by rfl) (hw : swappedStores [tg] e C.X.env = pure none := by rfl)
    (h1 : (assignEach [tg] C.X.env).map (·.2) = [assign tg C.X.env] := by rfl) : St1 C (.Assign [tg] e pos) (wAsg w g) :=
  weakS (ps_asg he hg hs hw h1) fun D σ H ⟨Z, ρ, P, s, h, d⟩ => ⟨Z, ρ, _, _, s, h, fun y v H' Z' f fd sv ⟨dd, e1, hq⟩ => by
    subst e1
    exact ⟨Z', ρ, dd, _, s.next f fd, sv, hq, fun σ' ρ' H2 Z2 s2 _ h2 => d.nx _ _ _ _ s2 h2⟩, d.ke s⟩
end
end PL

set_option Elab.async false
set_option linter.all false
set_option maxRecDepth 100000
/-! defs: what they promise, their bodies, their calls -/
namespace PL
open PySem PySem.Spec PyProof.Rows L2

/-- a def's promise where no guard is known to run (for repr of containers) -/
structure FnG (P : Program) (w : World) (K : PySem.W.Frag) (mg : Str → Option Value) (base : Heap) (CX : CXT)
    (k : Nat) (f : Addr) (fd : FuncData) (ps : List Str) (sp : Sp) : Prop where
  len : ∀ vs H Q E, sp vs H Q E → vs.length = ps.length
  run : ∀ (A : Around) (outer : List Env) (s : Shared) (H : Hp) (args : Args) (us : List Value) (vs : List V) (Q : VK) (E : XK),
    Room k A → A.guards = some [] → Env0 P w K mg base A outer s H →
    BindsTo s fd args (ps.zip us) → Vals vs us → sp vs H Q E →
    codeAny (model P w) A (.call (.ref f) args) (CR CX outer P w H s Q E) s

/-- a def of the text, by its body -/
theorem fg_of {CX : CXT} {P : Program} {w : World} {K : PySem.W.Frag} {mg : Str → Option Value} {base : Heap} {x qual : Str} {st : Stmt} {f : Addr} {fd : FuncData} {N ps : List Str} {k : Nat} {sp : Sp}
    (F : Fun K x qual st f fd) (S : FnScope N ps (defScope st)) (len : ∀ vs H Q E, sp vs H Q E → vs.length = ps.length)
    (hb : ∀ (cdv : Value) (A : Around) (outer : List Env) (s : Shared) (H : Hp) (vs : List V) (Q : VK) (E : XK), Room k (A.deeper (envOfC qual (defScope st) s.heap.objs.size f cdv)) → A.guards = some [] → sp vs H Q E →
      ∃ t, PSs (cxOf CX P w K mg base N qual (defScope st) f cdv A outer s H E) (defBody st) t ∧ t { nx := fun _ H' => Q .non H', rt := Q } (L2.start N vs) H) : FnG P w K mg base CX (k + 1) f fd ps sp := by
  obtain ⟨oc, od, kV, doc, pm, an, cdv, ct, osl, rfl, lk, hcd⟩ := F.ex
  constructor
  · exact len
  intro A outer s H args us vs Q E hr hgd env0 bd rv hs
  have lv := len vs H Q E hs
  have kIn : K.In s.heap := env0.mod.kin.keeps fun b o e => (env0.bs b o e).1
  have nlim : s.heap.NoLimit := env0.mod.nolimit.keeps fun b o e => (env0.bs b o e).1
  have kinds : ∀ y ∈ ps.zip us, (defScope st).names.lookup y.1 = some .local ∨
      ((defScope st).names.lookup y.1 = some .cell ∧ ((cellsFrom (s.heap.objs.size + 1) (defScope st).names []).lookup y.1).isSome = true) := by
    rintro ⟨n, v⟩ hy
    have q := S.par n (List.of_mem_zip hy).1
    rcases q with q | q
    · exact Or.inl q
    · exact Or.inr ⟨q, PySem.W.cellsFrom_some _ _ _ (.inl q)⟩
  apply codeAny_call_function hr.depth (kIn _ _ lk) rfl S.co S.gen rfl (PySem.W.codeRec_of kIn hcd)
  apply bd
  apply wpAny_newFunctionEnv_cells S.kind kinds
  intro env he s1 inc
  subst he
  constructor
  · exact nlim.keeps inc.toInCall.keep
  apply codeAny_func
  obtain ⟨t, ht, hq⟩ := hb cdv A outer s H vs Q E (hr.deeper _) hgd hs
  have I := inv_start (CX := CX) (P := P) (K := K) (base := base) (E := E) S hr.hd env0 lv rv inc
  have body := ht.run [] s1 (L2.start N vs) H _ I hq
  refine wpAny_mono body ?_ (fun e s' h => h)
  intro fl s' h
  cases fl with
  | ret u =>
    obtain ⟨v, σ', H', J, rv', q⟩ := h
    exact ⟨v, H', J.os, J.bare, J.base, J.hok, rv', q⟩
  | next =>
    obtain ⟨σ', H', J, q⟩ := h
    exact ⟨V.non, H', J.os, J.bare, J.base, J.hok, rfl, q⟩
  | brk => obtain ⟨_, _, _, q⟩ := h; exact q.elim
  | cont => obtain ⟨_, _, _, q⟩ := h; exact q.elim

/-! ### plain promises -/
abbrev WF := List S → (S → Prop) → (Xn → Prop) → Prop
abbrev XVt := Value → Option Addr → Hp → Hp → Xn → Prop
def spF (F : Option Fd) (XV : XVt) (n : Nat) (w : WF) : Sp := fun vs H Q E => vs.length = n ∧ ∃ Z ss q e, Fr F H Z H Z ∧ FeedOk F H ∧ ss.all S.lent = true ∧ SVs F H H Z vs ss ∧ w ss q e ∧
  (∀ s v H' Z', Fr F H Z H' Z' → FeedOk F H' → s.lent = true → SV F H H' Z' v s → q s → Q v H') ∧ (∀ x cls d H' Z', Fr F H Z H' Z' → FeedOk F H' → XV cls d H' Z' x → e x → E cls d H')
def FnP (P : Program) (w : World) (K : PySem.W.Frag) (mg : Str → Option Value) (base : Heap) (CX : CXT) (fam : Fd → Prop) (XV : XVt) (k : Nat) (f : Addr) (fd : FuncData) (ps : List Str) (wf : WF) : Prop :=
  ∀ F : Option Fd, (∀ y, F = some y → fam y) → FnG P w K mg base CX k f fd ps (spF F XV ps.length wf)
theorem FnP.imp {P : Program} {w : World} {K : PySem.W.Frag} {mg : Str → Option Value} {base : Heap} {CX : CXT} {fam : Fd → Prop} {XV : XVt} {k : Nat} {f : Addr} {fd : FuncData} {ps : List Str} {wf wf' : WF} (h : FnP P w K mg base CX fam XV k f fd ps wf)
    (hi : ∀ ss q e, ss.length = ps.length → wf' ss q e → wf ss q e) : FnP P w K mg base CX fam XV k f fd ps wf' := fun F hF =>
  have go : ∀ vs H Q E, spF F XV ps.length wf' vs H Q E → spF F XV ps.length wf vs H Q E := fun vs H Q E ⟨l, Z, ss, q, e, fr, fd, ln, sv, hw, k1, k2⟩ => ⟨l, Z, ss, q, e, fr, fd, ln, sv, hi ss q e (by rw [← sv.len]; exact l) hw, k1, k2⟩
  ⟨fun vs H Q E x => x.1, fun A outer s H args us vs Q E hr hg he hb hv hs => (h F hF).run A outer s H args us vs Q E hr hg he hb hv (go vs H Q E hs)⟩
/-- the names' values at the entry -/
def start' (n : Nat) (ss : List S) : Env' := ss.map some ++ List.replicate (n - ss.length) none
theorem sta_start {F : Option Fd} {H Z : Hp} {N : List Str} {vs : List V} {ss : List S} (fr : Fr F H Z H Z) (fd : FeedOk F H) (ln : ss.all S.lent = true) (sv : SVs F H H Z vs ss) : Sta F H Z H Z (L2.start N vs) (start' N.length ss) := by
  have hl := sv.len
  refine ⟨fr, fd, by simp [L2.start, start', hl], fun i s e => ?_, fun i j a ds es e1 => ?_⟩
  · unfold start' at e
    by_cases hi : i < ss.length
    · rw [List.getElem?_append_left (by simpa using hi), List.getElem?_map] at e
      cases q : ss[i]? with
      | none => rw [q] at e; cases e
      | some s' =>
        rw [q] at e
        cases e
        obtain ⟨v, h1, h2⟩ := sv.get q
        refine ⟨v, ?_, h2⟩
        unfold L2.start
        rw [List.getElem?_append_left (by simp; omega), List.getElem?_map, h1]
        rfl
    · rw [List.getElem?_append_right (by simpa using hi), List.getElem?_replicate] at e
      split at e <;> cases e
  · exfalso
    unfold start' at e1
    by_cases hi : i < ss.length
    · rw [List.getElem?_append_left (by simpa using hi), List.getElem?_map] at e1
      cases q : ss[i]? with
      | none => rw [q] at e1; cases e1
      | some s' =>
        rw [q] at e1
        cases e1
        have := List.all_eq_true.mp ln _ (List.mem_of_getElem? q)
        cases this
    · rw [List.getElem?_append_right (by simpa using hi), List.getElem?_replicate] at e1
      split at e1 <;> cases e1
/-- the context of a def's body -/
def cpOf (X : Cx) (F : Option Fd) (H Z : Hp) (E : XK) (XV : XVt) : Cp := { X := X, F := F, H0 := H, Z0 := Z, EE := E, XV := XV }
def wBody (n : Nat) (ws : WS) : WF := fun ss q e => ws { nx := fun _ => q (.dat .none), rt := q, ex := e } (start' n ss)
/-- a def by its body's plain meaning -/
theorem fp_of {CX : CXT} {P : Program} {w : World} {K : PySem.W.Frag} {mg : Str → Option Value} {base : Heap} {fam : Fd → Prop} {XV : XVt} {x qual : Str} {st : Stmt} {f : Addr} {fd : FuncData} {N ps : List Str} {k : Nat} {wf : WF}
    (F : Fun K x qual st f fd) (S : FnScope N ps (defScope st)) {ws : WS}
    (hb : ∀ (cdv : Value) (A : Around) (outer : List Env) (s : Shared) (H Z : Hp) (E : XK) (Fo : Option Fd), Room k (A.deeper (envOfC qual (defScope st) s.heap.objs.size f cdv)) → A.guards = some [] → (∀ y, Fo = some y → fam y) →
      Sts (cpOf (cxOf CX P w K mg base N qual (defScope st) f cdv A outer s H E) Fo H Z E XV) (defBody st) ws)
    (hi : ∀ ss q e, ss.length = ps.length → wf ss q e → wBody N.length ws ss q e) : FnP P w K mg base CX fam XV (k + 1) f fd ps wf := fun Fo hF => by
  refine fg_of F S (fun vs H Q E h => h.1) fun cdv A outer s H vs Q E hr hg ⟨l, Z, ss, q, e, fr, fd, ln, sv, hw, k1, k2⟩ => ?_
  refine ⟨_, hb cdv A outer s H Z E Fo hr hg hF, Z, start' N.length ss, _, sta_start fr fd ln sv, hi ss q e (by rw [← sv.len]; exact l) hw, ?_⟩
  refine ⟨fun σ ρ H' Z' st' h => ?_, fun σ ρ H' Z' st' h => h.elim, fun σ ρ H' Z' st' h => h.elim, fun s v H' Z' f' fd' ln' sv' h => ?_, fun x cls d H' Z' f' fd' xv h => ?_⟩
  · exact k1 (.dat .none) .non H' Z' st'.fr st'.fd rfl Dq.non h
  · exact k1 s v H' Z' f' fd' ln' sv' h
  · exact k2 x cls d H' Z' f' fd' xv h

/-! ### calls -/
section
variable {C : Cp} {CX : CXT} {fam : Fd → Prop} {k : Nat} {f : Addr} {fd : FuncData} {ps : List Str} {wf : WF} {x : Str} {p pos : Pos} {e : Expr} {es : List Expr} {r : WA}
theorem run_g {X : Cx} {sp : Sp} {E : XK} {pins : List (Addr × Obj)} {σ : L2.St} {H : Hp} {s : Shared} {Q : VK} {us : List Value} {args : Args} {vs : List V} (F : FnG X.prog X.w X.K X.mg X.base CX k f fd ps sp) (hr : Room k X.A) (hgd : X.A.guards = some [])
    (hx : Passes CX X E) (I : Inv X pins σ H s) (hb : BindsTo s fd args (ps.zip us)) (rv : Vals vs us) (h : sp vs H Q E) : wpAny (model X.prog X.w) X.A (call (.ref f) args.pos args.kw) (EP X pins σ Q) X.xe s := by
  apply wpAny_call
  refine codeAny_mono (F.run X.A X.stack s H args us vs Q E hr hgd I.env0 hb rv h) ?_
  intro res s' hres
  cases res with
  | error err => exact hx pins σ H s err s' I hres
  | ok fl =>
    cases fl with
    | ret u => exact I.after hres
    | next => exact hres.elim
    | brk => exact hres.elim
    | cont => exact hres.elim
def wCall (wf : WF) (r : WA) : W := fun ρ q ex => r ρ (fun ss => ss.all S.lent = true ∧ wf ss q ex) ex
theorem sp_call {C : Cp} {n : Nat} {H Z : Hp} {Q : VK} {ss : List S} {vs : List V} {q : S → Prop} {ex : Xn → Prop} (hn : ∀ q e, wf ss q e → ss.length = n) (f : Fr C.F H Z H Z) (fd : FeedOk C.F H) (sv : SVs C.F C.H0 H Z vs ss) (ln : ss.all S.lent = true) (hw : wf ss q ex) (k : Kt C H Z q Q) (ke : Ke C H Z ex) :
    spF C.F C.XV n wf vs H Q C.EE :=
  ⟨by rw [sv.len]; exact hn q ex hw, Z, ss, q, ex, f, fd, ln, sv.lent ln, hw, fun s v H' Z' f' fd' l sv' hq => k s v H' Z' f' fd' (sv'.lent l) hq, fun x cls d H' Z' f' fd' xv hx => ke x cls d H' Z' f' fd' xv hx⟩
theorem e_call (Fn : FnP C.X.prog C.X.w C.X.K C.X.mg C.X.base CX fam C.XV k f fd ps wf) (hF : ∀ y, C.F = some y → fam y) (hn : ∀ ss q e, wf ss q e → ss.length = ps.length) (hr : Room k C.X.A) (hgd : C.X.A.guards = some []) (hg : Gl C.X x) (hm : C.X.mg x = some (.ref f)) (hk : PySem.W.keepIn C.X.K (.ref f) = true)
    (hb : Binds C.X.K fd ps []) (hx : Passes CX C.X C.EE) (ha : A C (e :: es) r) (hdb : (x == ("__debug__" : Str)) = false := by decide)
    (he : starEach (e :: es) C.X.env = (false, eval e C.X.env) :: starEach es C.X.env := by rfl) (hpl : (backTo pos (starEach es C.X.env)).any (·.1) = false := by rfl) : E C (.Call (.Name x p) (e :: es) [] pos) (wCall wf r) := by
  constructor
  intro pins s σ H Q I ⟨Z, ρ, q, ex, st, hw, kt, ke⟩
  apply wpAny_Call_Name_kw
  apply ld_glob I hg hm _ hdb
  apply PySem.W.callWith_K (h₀ := C.X.base) I.ok.mod.kin hk _ he hpl
  have step := ha.run pos pins s σ H (fun vs H1 => spF C.F C.XV ps.length wf vs H1 Q C.EE) I ⟨Z, ρ, _, ex, st, hw, fun ss vs H1 Z1 f1 fd1 sv ⟨ln, hwf⟩ => sp_call (hn ss) (Fr.refl f1.zh f1.notF) fd1 sv ln hwf (kt.next f1) (ke.next f1), ke⟩
  refine thn step fun us s1 ⟨vs, H1, I1, rv, hq⟩ => ⟨I1.kIn, ?_⟩
  have rv2 : Vals vs (us ++ []) := by rw [List.append_nil]; exact rv
  exact run_g (args := ⟨us, []⟩) (Fn C.F hF) hr hgd hx I1 (hb s1 us I1.kIn (by rw [List.append_nil, ← rv.length]; exact hq.1)) rv2 hq
/-- f(k = v, ..), the keywords in the parameters' order -/
theorem e_callK {kws : List Keyword} (Fn : FnP C.X.prog C.X.w C.X.K C.X.mg C.X.base CX fam C.XV k f fd ps wf) (hF : ∀ y, C.F = some y → fam y) (hn : ∀ ss q e, wf ss q e → ss.length = ps.length) (hr : Room k C.X.A) (hgd : C.X.A.guards = some []) (hg : Gl C.X x) (hm : C.X.mg x = some (.ref f)) (hk : PySem.W.keepIn C.X.K (.ref f) = true)
    (hb : ∀ (s : Shared) (us : List Value), C.X.K.In s.heap → us.length = ps.length → BindsTo s fd ⟨[], ps.zip us⟩ (ps.zip us)) (hx : Passes CX C.X C.EE)
    (ha : PK C.X kws (tPA C r)) (hall : (backToKw pos (keywordEach kws C.X.env)).all (·.1.isSome) = true := by rfl) (hks : (backToKw pos (keywordEach kws C.X.env)).filterMap (·.1) = ps := by rfl) (hdb : (x == ("__debug__" : Str)) = false := by decide)
    (hpl : ((backTo pos (starEach [] C.X.env)).any (·.1) || (backToKw pos (keywordEach kws C.X.env)).any (·.1.isNone)) = false := by rfl) : E C (.Call (.Name x p) [] kws pos) (wCall wf r) := by
  constructor
  intro pins s σ H Q I ⟨Z, ρ, q, ex, st, hw, kt, ke⟩
  apply wpAny_Call_Name_kw
  apply ld_glob I hg hm _ hdb
  apply PySem.W.callWith_KW0 (h₀ := C.X.base) I.ok.mod.kin hk hall _ hpl
  have step := ha.run pos pins s σ H (fun vs H1 => spF C.F C.XV ps.length wf vs H1 Q C.EE) I ⟨Z, ρ, _, ex, st, hw, fun ss vs H1 Z1 f1 fd1 sv ⟨ln, hwf⟩ => sp_call (hn ss) (Fr.refl f1.zh f1.notF) fd1 sv ln hwf (kt.next f1) (ke.next f1), ke⟩
  refine thn step fun us s1 ⟨vs, H1, I1, rv, hq⟩ => ⟨I1.kIn, ?_⟩
  rw [hks]
  exact run_g (args := ⟨[], ps.zip us⟩) (Fn C.F hF) hr hgd hx I1 (hb s1 us I1.kIn (by rw [← rv.length]; exact hq.1)) rv hq
theorem k_nil : PK C.X [] (tPA C wNil) := ⟨fun pos pins s σ H Q I ⟨Z, ρ, q, ex, st, hw, k, ke⟩ => pk_nil.run pos pins s σ H Q I (k [] [] H Z (Fr.refl st.fr.zh st.fr.notF) st.fd .nil hw)⟩
theorem k_cons {e : Expr} {kws : List Keyword} {a : W} {nm : Option Str} {kpos : Pos} (ha : E C e a) (hr : PK C.X kws (tPA C r)) : PK C.X (⟨nm, e, kpos⟩ :: kws) (tPA C (wCons a r)) :=
  ⟨fun pos pins s σ H Q I ⟨Z, ρ, q, ex, st, hw, k, ke⟩ => (pk_cons ha hr).run pos pins s σ H Q I ⟨Z, ρ, _, ex, st, hw, fun s1 x H1 Z1 f1 fd1 sv1 hq1 => ⟨Z1, ρ, _, ex, st.next f1 fd1, hq1, fun ss vs H2 Z2 f2 fd2 sv2 hq2 => k _ _ H2 Z2 (f1.trans f2) fd2 (.cons (sv1.next f2) sv2) hq2, ke.next f1⟩, ke⟩⟩
end
end PL

set_option Elab.async false
set_option linter.all false
set_option maxRecDepth 100000
/-! what is walked; for, while, comprehensions; lists of a def's own -/
namespace PL
open PySem PySem.Spec PyProof.Rows L2

/-- J yields the items ds, wherever Z stands -/
structure Yields (K : PySem.W.Frag) (J : It) (Z : Hp) (ds : List D) : Prop where
  go : ∀ i H, Same Z H → i < ds.length → J.go i H
  stop : ∀ H, Same Z H → J.stop ds.length H
  yld : ∀ i x H H', i < ds.length → Same Z H → J.yld i H x H' → H' = H ∧ ∃ d, ds[i]? = some d ∧ Dq Z x d
theorem yields_list {K : PySem.W.Frag} {Z : Hp} {a : Addr} {vs : List V} {ds : List D} (h : Z a = some (.lst vs)) (dv : Dqs Z vs ds) : Yields K (Itl K a) Z ds := by
  have l := dps_len dv
  refine ⟨fun i H zh hi => ⟨vs, vs[i]'(by omega), SqL.of (zh _ _ h), List.getElem?_eq_getElem _⟩, fun H zh => ⟨vs, SqL.of (zh _ _ h), by omega⟩, fun i x H H' _ zh ⟨e, y⟩ => ⟨e, ?_⟩⟩
  have q := y vs (SqL.of (zh _ _ h))
  exact dps_get' dv q
theorem yields_tup {K : PySem.W.Frag} {Z : Hp} {a : Addr} {vs : List V} {ds : List D} (h : Z a = some (.tup vs)) (dv : Dqs Z vs ds) : Yields K (Itt K a) Z ds := by
  have l := dps_len dv
  refine ⟨fun i H zh hi => ⟨vs, vs[i]'(by omega), SqT.of (zh _ _ h), List.getElem?_eq_getElem _⟩, fun H zh => ⟨vs, SqT.of (zh _ _ h), by omega⟩, fun i x H H' _ zh ⟨e, y⟩ => ⟨e, ?_⟩⟩
  have q := y vs (SqT.of (zh _ _ h))
  exact dps_get' dv q
def signsD (z : Str) : List D := z.cps.toList.map fun c => .str ⟨#[c]⟩
theorem yields_str {K : PySem.W.Frag} {Z : Hp} (z : Str) : Yields K (Its z) Z (signsD z) := by
  refine ⟨fun i H _ hi => (show i < z.cps.size by simpa [signsD] using hi), fun H _ => by simp [signsD, Its], fun i x H H' _ zh ⟨e, c, y, ex⟩ => ⟨e, .str ⟨#[c]⟩, ?_, by rw [ex]; exact Dq.str _⟩⟩
  unfold signsD
  rw [List.getElem?_map]
  have : z.cps.toList[i]? = some c := by simpa using y
  rw [this]; rfl
def rangeD (lo : Int) (n : Nat) : List D := (List.range n).map fun (i : Nat) => .int (lo + i)
theorem yields_rng {K : PySem.W.Frag} {Z : Hp} (lo : Int) (n : Nat) : Yields K (Itr lo n) Z (rangeD lo n) := by
  refine ⟨fun i H _ hi => (show i < n by simpa [rangeD] using hi), fun H _ => by simp [rangeD, Itr], fun i x H H' hi zh ⟨e, ex⟩ => ⟨e, .int (lo + i), ?_, by rw [ex]; exact Dq.int _⟩⟩
  have hi' : i < n := by simpa [rangeD] using hi
  unfold rangeD
  rw [List.getElem?_map, List.getElem?_range hi']; rfl

abbrev WI := Env' → (List D → Prop) → (Xn → Prop) → Prop
def tPI (C : Cp) (w : WI) : TI := fun σ H R => ∃ Z ρ q e, Sta.at C H Z σ ρ ∧ w ρ q e ∧ (∀ J ds H' Z', Fr C.F H Z H' Z' → FeedOk C.F H' → Yields C.X.K J Z' ds → q ds → R J H') ∧ Ke C H Z e
def Iter (C : Cp) (tg e : Expr) (w : WI) : Prop := PI C.X tg e (tPI C w)

section
variable {C : Cp} {e c : Expr} {w : W} {t : WB} {pos : Pos} {body : List Stmt} {wb : WS} {tg : Expr}
def oIter : S → (List D → Prop) → Prop
  | .dat (.list xs), q => q xs
  | .dat (.tuple xs), q => q xs
  | .dat (.str z), q => q (signsD z)
  | _, _ => False
def wIt (w : W) : WI := fun ρ q e => w ρ (fun s => oIter s q) e
theorem Sta.refl {H Z : Hp} {σ : L2.St} {ρ : Env'} (s : Sta.at C H Z σ ρ) : Fr C.F H Z H Z := Fr.refl s.fr.zh s.fr.notF
/-- over a list, a tuple, a text -/
theorem i_any (he : E C e w) : Iter C tg e (wIt w) := by
  constructor
  intro pins s σ H R I ⟨Z, ρ, q, ex, st, hw, k, ke⟩
  have step := he.run pins s σ H (fun x H1 => ∃ Z1 y, Fr C.F H Z H1 Z1 ∧ FeedOk C.F H1 ∧ SV C.F C.H0 H1 Z1 x y ∧ oIter y q) I ⟨Z, ρ, _, ex, st, hw, fun y v H' Z' f fd sv hq => ⟨Z', y, f, fd, sv, hq⟩, ke⟩
  refine thn step fun v s1 ⟨x, H1, I1, r1, Z1, y, f, fd, sv, hq⟩ => ?_
  have fresh : ∀ b, b ∈ [s1.heap.objs.size] → FpOk C.X pins H1 b := fun b hb => by
    cases List.mem_singleton.mp hb
    exact I1.fpOk (Nat.le_refl _) (I1.hok.fresh (Nat.le_refl _))
  unfold oIter at hq
  split at hq
  · cases (show Dq Z1 x (.list _) from sv) with
    | lst h1 h2 =>
      cases r1
      obtain ⟨its, rv, p, hz⟩ := I1.list (SqL.of (f.zh _ _ h1))
      exact wpAny_pyIter_list p.isList ⟨_, [s1.heap.objs.size], _, _, H1, rfl, I1.kept (t' := s1.toks) (fun b o eb => Heap.get?_push_of_some _ eb), turn_list _ _, ⟨_, Heap.get?_push_size _ rfl, rfl, rfl⟩, fresh, k _ _ H1 Z1 f fd (yields_list h1 h2) hq⟩
  · cases (show Dq Z1 x (.tuple _) from sv) with
    | @tup pa _ _ h1 h2 =>
      cases r1
      obtain ⟨its, rv, p, hz⟩ := I1.tuple (SqT.of (f.zh _ _ h1))
      exact wpAny_pyIter_tuple (show s1.heap.IsTuple pa its.toArray from p) ⟨_, [s1.heap.objs.size], _, _, H1, rfl, I1.kept (t' := s1.toks) (fun b o eb => Heap.get?_push_of_some _ eb), turn_tuple _ _, ⟨_, Heap.get?_push_size _ rfl, rfl, rfl⟩, fresh, k _ _ H1 Z1 f fd (yields_tup h1 h2) hq⟩
  · rename_i z
    cases (show Dq Z1 x (.str z) from sv)
    obtain ⟨tk, rfl⟩ := r1
    have fin := k _ _ H1 Z1 f fd (yields_str z) hq
    cases ha : z.cps.all (· < 128) with
    | false => exact wpAny_pyIter_wide ha (pi_one (tk := s1.toks) I1 _ (turn_str _ z tk "str_iterator" (.inr rfl)) ⟨_, Heap.get?_push_size _ rfl, rfl, rfl⟩ fin)
    | true => exact wpAny_pyIter_ascii ha (pi_one (tk := s1.toks) I1 _ (turn_str _ z tk "str_ascii_iterator" (.inl rfl)) ⟨_, Heap.get?_push_size _ rfl, rfl, rfl⟩ fin)
  · exact hq.elim
theorem weakI {X : Cx} {tg e : Expr} {t t' : TI} (h : PI X tg e t) (k : ∀ σ H R, t' σ H R → t σ H R) : PI X tg e t' := ⟨fun pins s σ H R I q => h.run pins s σ H R I (k _ _ _ q)⟩
def wRng1 (r : WA) : WI := fun ρ q e => r ρ (fun ss => ∃ j : Int, ss = [.dat (.int j)] ∧ -(2 ^ 62) ≤ j ∧ j < 2 ^ 62 ∧ q (rangeD 0 j.toNat)) e
def wRng2 (r : WA) : WI := fun ρ q e => r ρ (fun ss => ∃ i j : Int, ss = [.dat (.int i), .dat (.int j)] ∧ (-(2 ^ 62) ≤ i ∧ i < 2 ^ 62 ∧ -(2 ^ 62) ≤ j ∧ j < 2 ^ 62) ∧ q (rangeD i (j - i).toNat)) e
theorem i_rng1 {a : Expr} {r : WA} {p : Pos} (hg : Gl C.X "range") (hm : C.X.mg "range" = none) (ha : A C [a] r) (hs : starEach [a] C.X.env = [(false, eval a C.X.env)] := by rfl) : Iter C tg (.Call (.Name "range" p) [a] [] pos) (wRng1 r) :=
  weakI (pi_range1 hg hm ha hs) fun σ H R ⟨Z, ρ, q, ex, st, hw, k, ke⟩ => ⟨Z, ρ, _, ex, st, hw, fun ss vs H' Z' f fd sv ⟨j, e1, b1, b2, hq⟩ => by
    subst e1
    obtain ⟨v, rfl, h⟩ := svs1 sv
    cases (show Dq Z' v (.int j) from h)
    exact ⟨j, rfl, b1, b2, k _ _ H' Z' f fd (yields_rng 0 j.toNat) hq⟩, ke⟩
theorem i_rng2 {a b : Expr} {r : WA} {p : Pos} (hg : Gl C.X "range") (hm : C.X.mg "range" = none) (ha : A C [a, b] r) (hs : starEach [a, b] C.X.env = [(false, eval a C.X.env), (false, eval b C.X.env)] := by rfl) (hs2 : starEach [b] C.X.env = [(false, eval b C.X.env)] := by rfl) : Iter C tg (.Call (.Name "range" p) [a, b] [] pos) (wRng2 r) :=
  weakI (pi_range2 hg hm ha hs hs2) fun σ H R ⟨Z, ρ, q, ex, st, hw, k, ke⟩ => ⟨Z, ρ, _, ex, st, hw, fun ss vs H' Z' f fd sv ⟨i, j, e1, b1, hq⟩ => by
    subst e1
    obtain ⟨v, u, rfl, h, h'⟩ := svs2 sv
    cases (show Dq Z' v (.int i) from h)
    cases (show Dq Z' u (.int j) from h')
    exact ⟨i, j, rfl, b1, k _ _ H' Z' f fd (yields_rng i (j - i).toNat) hq⟩, ke⟩

/-! ### for -/
/-- another base for what is kept -/
abbrev Cp.from (C : Cp) (Z1 : Hp) : Cp := { C with Z0 := Z1 }
theorem Fr.rebase {F : Option Fd} {H0 Z0 H1 Z1 H Z : Hp} (a : Fr F H0 Z0 H1 Z1) (b : Fr F H0 Z1 H Z) : Fr F H0 Z0 H Z :=
  ⟨b.keep, a.zz.trans b.zz, b.zh, fun p o e n => by
    cases q : Z1 p with
    | some u => exact a.new p u q n
    | none => exact b.new p o e q, b.notF⟩
theorem Fr.base {F : Option Fd} {H0 Z0 H1 Z1 : Hp} (a : Fr F H0 Z0 H1 Z1) : Fr F H0 Z1 H1 Z1 := ⟨a.keep, fun _ _ h => h, a.zh, fun p o e n => (by rw [e] at n; cases n), a.notF⟩
theorem Sta.rebase {H1 Z1 H Z : Hp} {σ σ1 : L2.St} {ρ ρ1 : Env'} (a : Sta.at C H1 Z1 σ1 ρ1) (s : Sta.at (C.from Z1) H Z σ ρ) : Sta.at C H Z σ ρ := ⟨a.fr.rebase s.fr, s.fd, s.len, s.env, s.sep⟩
theorem Sta.base {H1 Z1 : Hp} {σ1 : L2.St} {ρ1 : Env'} (a : Sta.at C H1 Z1 σ1 ρ1) : Sta.at (C.from Z1) H1 Z1 σ1 ρ1 := ⟨a.fr.base, a.fd, a.len, a.env, a.sep⟩
def wLoop (g : WG) (wb : WS) : List D → WS
  | [] => wNx
  | d :: r => fun P ρ => g d ρ fun ρ' => wb { P with nx := wLoop g wb r P, ct := wLoop g wb r P, bk := P.nx } ρ'
def wFor (wi : WI) (g : WG) (wb : WS) : WS := fun P ρ => wi ρ (fun ds => wLoop g wb ds P ρ) P.ex
theorem s_for {iter : Expr} {wi : WI} {g : WG} (hp : PassesOwn (model C.X.prog C.X.w) C.X.A C.X.env C.X.xe) (hc : C.X.calm = true) (hi : Iter C tg iter wi) (hg : ∀ Z1, G (C.from Z1) tg g) (hb : ∀ Z1, Sts (C.from Z1) body wb)
    (hs : ∀ x, foldedSetIterable iter C.X.env x = pure x := by intro _; rfl) : St1 C (.For tg iter body [] pos) (wFor wi g wb) := by
  have hg' : PG C.X tg (fun v σ H Q => ∃ Z1, tPG (C.from Z1) g v σ H Q) := ⟨fun pins s σ H v u Q I r ⟨Z1, h⟩ => (hg Z1).run pins s σ H v u Q I r h⟩
  have hb' : PSs C.X body (fun D σ H => ∃ Z1, tPS (C.from Z1) wb D σ H) := ⟨fun pins s σ H D I ⟨Z1, h⟩ => (hb Z1).run pins s σ H D I h⟩
  refine weakS (ps_for hp hc hi hg' hb' hs) fun D σ H ⟨Z, ρ, P, st, hw, d⟩ => ?_
  refine ⟨Z, ρ, _, P.ex, st, hw, fun J ds H1 Z1 f1 fd1 Y hq => ?_, d.ke st⟩
  have st1 := st.next f1 fd1
  refine ⟨fun i m σ' H' => m = ds.length - i ∧ i ≤ ds.length ∧ ∃ Z' ρ', Sta.at (C.from Z1) H' Z' σ' ρ' ∧ wLoop g wb (ds.drop i) P ρ', ⟨ds.length, by omega, Nat.zero_le _, Z1, ρ, st1.base, by simpa using hq⟩, ?_⟩
  rintro i m σ' H' ⟨rfl, hi', Z', ρ', st', hl⟩
  have zh : Same Z1 H' := st'.fr.zz.trans st'.fr.zh
  have ends : ∀ {P' : Po} {D' : Ends}, P'.ex = P.ex → P'.rt = P.rt → D'.rt = D.rt → (∀ σ ρ H Z, Sta.at (C.from Z1) H Z σ ρ → P'.nx ρ → D'.nx σ H) → (∀ σ ρ H Z, Sta.at (C.from Z1) H Z σ ρ → P'.bk ρ → D'.bk σ H) → (∀ σ ρ H Z, Sta.at (C.from Z1) H Z σ ρ → P'.ct ρ → D'.ct σ H) → Ends' (C.from Z1) P' D' := fun e1 e2 e3 h1 h2 h3 =>
    ⟨h1, h2, h3, fun s v H Z f fd l sv h => by rw [e3]; rw [e2] at h; exact d.rt s v H Z (st1.fr.rebase f) fd l sv h, fun x cls dd H Z f fd xv h => by rw [e1] at h; exact d.ex x cls dd H Z (st1.fr.rebase f) fd xv h⟩
  by_cases hlt : i < ds.length
  · refine .inr ⟨Y.go i H' zh hlt, fun σ2 H2 => ∃ Z2 ρ2, Sta.at (C.from Z1) H2 Z2 σ2 ρ2 ∧ wLoop g wb (ds.drop (i + 1)) P ρ2, fun σ2 H2 ⟨Z2, ρ2, s2, l2⟩ => ⟨ds.length - (i + 1), by omega, rfl, hlt, Z2, ρ2, s2, l2⟩, fun x H2 y => ?_⟩
    obtain ⟨rfl, dd, hd, dq⟩ := Y.yld i x H' H2 hlt zh y
    have e1 : ds.drop i = dd :: ds.drop (i + 1) := by
      rw [List.drop_eq_getElem_cons hlt]
      rw [List.getElem?_eq_getElem hlt] at hd
      cases hd; rfl
    rw [e1] at hl
    refine ⟨Z1, Z', ρ', dd, _, st', dp_mono st'.fr.zz _ _ dq, hl, fun σ3 ρ3 H3 Z3 s3 _ h3 => ⟨Z1, Z3, ρ3, _, s3, h3, ?_⟩⟩
    exact ends rfl rfl rfl (fun σ ρ H Z s h => ⟨Z, ρ, s, h⟩) (fun σ ρ H Z s h => d.nx σ ρ H Z (st1.rebase s) h) (fun σ ρ H Z s h => ⟨Z, ρ, s, h⟩)
  · have e : i = ds.length := by omega
    subst e
    rw [List.drop_length] at hl
    exact .inl ⟨Y.stop H' zh, d.nx σ' ρ' H' Z' (st1.rebase st') hl⟩
/-- while, by a word and a measure -/
def wWhile (t : WB) (wb : WS) : WS := fun P ρ => ∃ (V : Env' → Prop) (μ : Env' → Nat), V ρ ∧ ∀ ρ, V ρ → t ρ (fun b => if b = true then wb { P with nx := fun ρ' => V ρ' ∧ μ ρ' < μ ρ, ct := fun ρ' => V ρ' ∧ μ ρ' < μ ρ, bk := P.nx } ρ else P.nx ρ) P.ex
theorem s_while (hp : PassesOwn (model C.X.prog C.X.w) C.X.A C.X.env C.X.xe) (hc : T C c t) (hb : Sts C body wb) : St1 C (.While c body [] pos) (wWhile t wb) :=
  weakS (ps_while hp hc hb) fun D σ H ⟨Z, ρ, P, st, ⟨Vv, μ, v0, turn⟩, d⟩ => by
    refine ⟨fun m σ' H' => ∃ Z' ρ', Sta.at C H' Z' σ' ρ' ∧ Vv ρ' ∧ m = μ ρ', ⟨μ ρ, Z, ρ, st, v0, rfl⟩, ?_⟩
    rintro m σ' H' ⟨Z', ρ', st', v', rfl⟩
    refine ⟨Z', ρ', _, P.ex, st', turn ρ' v', fun b H2 Z2 f2 fd2 hq => ?_, d.ke st'⟩
    cases b with
    | true =>
      refine ⟨fun σ3 H3 => ∃ Z3 ρ3, Sta.at C H3 Z3 σ3 ρ3 ∧ Vv ρ3 ∧ μ ρ3 < μ ρ', fun σ3 H3 ⟨Z3, ρ3, s3, v3, l3⟩ => ⟨_, l3, Z3, ρ3, s3, v3, rfl⟩, Z2, ρ', _, st'.next f2 fd2, hq, ?_⟩
      exact ⟨fun σ ρ H Z s h => ⟨Z, ρ, s, h.1, h.2⟩, fun σ ρ H Z s h => d.nx σ ρ H Z s h, fun σ ρ H Z s h => ⟨Z, ρ, s, h.1, h.2⟩, d.rt, d.ex⟩
    | false => exact d.nx σ' ρ' H2 Z2 (st'.next f2 fd2) hq
end
end PL

set_option Elab.async false
set_option linter.all false
set_option maxRecDepth 100000
/-! comprehensions; lists of a def's own; two names at once -/
namespace PL
open PySem PySem.Spec PyProof.Rows L2
section
variable {C : Cp}
/-- within a comprehension's block (nothing is raised there) -/
abbrev Cp.blk (C : Cp) (s : Shared) (H : Hp) (scope : Scope) (cenv : Env) (fp : List Addr) : Cp := { C with X := C.X.blk s H scope cenv fp, EE := fun _ _ _ => False }
abbrev noX : Xn → Prop := fun _ => False
def wipe' (ρ : Env') : List Nat → Env'
  | [] => ρ
  | v :: vs => (wipe' ρ vs).set v none
theorem wipe'_len (ρ : Env') : ∀ vs, (wipe' ρ vs).length = ρ.length
  | [] => rfl
  | v :: vs => by simp [wipe', wipe'_len ρ vs]
theorem wipe'_get {ρ : Env'} {i : Nat} {s : S} : ∀ {vs : List Nat}, (wipe' ρ vs)[i]? = some (some s) → ρ[i]? = some (some s) ∧ i ∉ vs
  | [], h => ⟨h, by simp⟩
  | v :: vs, h => by
    unfold wipe' at h
    by_cases e : v = i
    · subst e
      by_cases hi : v < (wipe' ρ vs).length
      · rw [List.getElem?_set_self hi] at h; cases h
      · rw [List.getElem?_eq_none (by rw [List.length_set]; omega)] at h; cases h
    · rw [List.getElem?_set_ne e] at h
      obtain ⟨h1, h2⟩ := wipe'_get (vs := vs) h
      exact ⟨h1, fun m => by
        rcases List.mem_cons.mp m with m | m
        · exact e m.symm
        · exact h2 m⟩
theorem Sta.wipe {H Z : Hp} {σ : L2.St} {ρ : Env'} (s : Sta.at C H Z σ ρ) (vs : List Nat) : Sta.at C H Z (L2.wipe σ vs) (wipe' ρ vs) := by
  refine ⟨s.fr, s.fd, by rw [wipe_length, wipe'_len]; exact s.len, fun i x e => ?_, fun i j a ds es e1 e2 e3 e4 => ?_⟩
  · obtain ⟨h1, h2⟩ := wipe'_get e
    obtain ⟨v, h3, h4⟩ := s.env i x h1
    exact ⟨v, by rw [wipe_out h2]; exact h3, h4⟩
  · obtain ⟨h1, _⟩ := wipe'_get e1
    obtain ⟨h2, _⟩ := wipe'_get e2
    exact s.sep i j a ds es h1 h2 (wipe_some e3).1 (wipe_some e4).1
/-- slots stored with data, from the left -/
def setAll (ρ : Env') : List Nat → List D → Env'
  | i :: is, d :: ds => setAll (ρ.set i (some (.dat d))) is ds
  | _, _ => ρ
def setAllV (σ : L2.St) : List Nat → List V → L2.St
  | i :: is, d :: ds => setAllV (σ.set i (some d)) is ds
  | _, _ => σ
theorem Sta.setAll {H Z : Hp} : ∀ {is : List Nat} {vs : List V} {ds : List D} {σ : L2.St} {ρ : Env'}, Sta.at C H Z σ ρ → Dqs Z vs ds → Sta.at C H Z (setAllV σ is vs) (setAll ρ is ds)
  | [], _, _, _, _, s, _ => s
  | i :: is, _, _, _, _, s, .nil => s
  | i :: is, _, _, _, _, s, .cons a b => by
    have s' : Sta.at C H Z _ _ := s.set i (s := .dat _) a rfl
    have h := Sta.setAll (is := is) s' b
    exact h
theorem set_wipe {σ : L2.St} {i : Nat} {v : Option V} : ∀ {vs : List Nat}, i ∈ vs → L2.wipe (σ.set i v) vs = L2.wipe σ vs
  | [], h => by cases h
  | w :: vs, h => by
    by_cases e : i ∈ vs
    · show (L2.wipe (σ.set i v) vs).set w none = (L2.wipe σ vs).set w none
      rw [set_wipe e]
    · have hw : i = w := by
        rcases List.mem_cons.mp h with h | h
        · exact h
        · exact absurd h e
      subst hw
      show (L2.wipe (σ.set i v) vs).set i none = (L2.wipe σ vs).set i none
      apply List.ext_getElem?
      intro j
      by_cases hj : i = j
      · subst hj
        rw [List.getElem?_set, List.getElem?_set, wipe_length, wipe_length, List.length_set]
        simp only [if_true]
      · rw [List.getElem?_set_ne hj, List.getElem?_set_ne hj]
        by_cases hv : j ∈ vs
        · have gone : ∀ (τ : L2.St) (us : List Nat), j ∈ us → (L2.wipe τ us)[j]? = if j < τ.length then some none else none := by
            intro τ us
            induction us with
            | nil => intro m; cases m
            | cons u us ih =>
              intro m
              show ((L2.wipe τ us).set u none)[j]? = _
              by_cases hu : u = j
              · subst hu
                by_cases hl : u < τ.length
                · rw [List.getElem?_set_self (by rw [wipe_length]; exact hl), if_pos hl]
                · rw [List.getElem?_eq_none (by rw [List.length_set, wipe_length]; omega), if_neg hl]
              · rw [List.getElem?_set_ne hu]
                rcases List.mem_cons.mp m with m | m
                · exact absurd m.symm hu
                · exact ih m
          rw [gone _ _ hv, gone _ _ hv, List.length_set]
        · rw [wipe_out hv, wipe_out hv, List.getElem?_set_ne hj]
theorem setAllV_wipe {vs : List Nat} : ∀ {is : List Nat} {ws : List V} {σ : L2.St}, (∀ i ∈ is, i ∈ vs) → L2.wipe (setAllV σ is ws) vs = L2.wipe σ vs
  | [], _, _, _ => rfl
  | i :: is, [], _, _ => rfl
  | i :: is, w :: ws, σ, h => by
    show L2.wipe (setAllV (σ.set i (some w)) is ws) vs = _
    rw [setAllV_wipe fun j hj => h j (List.mem_cons_of_mem _ hj), set_wipe (h i List.mem_cons_self)]
theorem wipe_twice {σ : L2.St} {vs : List Nat} : L2.wipe (L2.wipe σ vs) vs = L2.wipe σ vs := by
  have go : ∀ (us : List Nat) (τ : L2.St), (∀ u ∈ us, u ∈ vs) → L2.wipe (L2.wipe τ us) vs = L2.wipe τ vs := by
    intro us
    induction us with
    | nil => intro τ _; rfl
    | cons u us ih =>
      intro τ h
      show L2.wipe ((L2.wipe τ us).set u none) vs = _
      rw [set_wipe (h u List.mem_cons_self)]
      exact ih τ fun x hx => h x (List.mem_cons_of_mem _ hx)
  exact go vs σ fun u h => h

/-! ### a new list of one's own -/
/-- an expression that makes a new list -/
abbrev WL := Env' → (List D → Prop) → (Xn → Prop) → Prop
def tPN (C : Cp) (w : WL) : TE := fun σ H Q => ∃ Z ρ q e, Sta.at C H Z σ ρ ∧ w ρ q e ∧ (∀ ds vs p H' Z', Fr C.F H Z H' Z' → FeedOk C.F H' → H' p = some (.lst vs) → H p = none → Z' p = none → nf C.F p → Dqs Z' vs ds → q ds → Q (.ref p) H') ∧ Ke C H Z e
def N (C : Cp) (e : Expr) (w : WL) : Prop := PE C.X e (tPN C w)
theorem Fr.keepNew {F : Option Fd} {H Z H' Z' : Hp} {p : Addr} {vs : List V} (f : Fr F H Z H' Z') (h : H' p = some (.lst vs)) (hn : H p = none) (zn : Z' p = none) (nf : nf F p) : Fr F H Z H' (upd Z' p (.lst vs)) := by
  refine ⟨f.keep, f.zz.trans (Same.made zn), fun a o e => ?_, fun a o e n => ?_, fun a o e => ?_⟩
  · by_cases ha : a = p
    · subst ha; rw [upd_same] at e; cases e; exact h
    · rw [upd_ne ha] at e; exact f.zh a o e
  · by_cases ha : a = p
    · subst ha; exact hn
    · rw [upd_ne ha] at e; exact f.new a o e n
  · by_cases ha : a = p
    · subst ha; exact nf
    · rw [upd_ne ha] at e; exact f.notF a o e
/-- .. as a value -/
def wNew (w : WL) : W := fun ρ q e => w ρ (fun ds => q (.dat (.list ds))) e
theorem e_new {e : Expr} {w : WL} (h : N C e w) : E C e (wNew w) :=
  weakE h fun σ H Q ⟨Z, ρ, q, ex, st, hw, k, ke⟩ => ⟨Z, ρ, _, ex, st, hw, fun ds vs p H' Z' f fd hp hn zn nf dv hq =>
    k (.dat (.list ds)) _ H' _ (f.keepNew hp hn zn nf) fd (Dq.lst upd_same (dps_mono (Same.made zn) _ _ dv)) hq, ke⟩
/-- .. given to a name that owns it -/
def wOwn (i : Nat) (w : WL) : WS := fun P ρ => w ρ (fun ds => P.nx (ρ.set i (some (.own ds)))) P.ex
theorem Sta.setOwn {H Z H' Z' : Hp} {σ : L2.St} {ρ : Env'} (s : Sta.at C H Z σ ρ) (f : Fr C.F H Z H' Z') (fd : FeedOk C.F H') (i : Nat) {p : Addr} {vs : List V} {ds : List D} (hp : H' p = some (.lst vs)) (hn : H p = none) (zn : Z' p = none) (nf : nf C.F p) (dv : Dqs Z' vs ds) : Sta.at C H' Z' (σ.set i (some (.ref p))) (ρ.set i (some (.own ds))) := by
  have s' := s.next f fd
  have h0 : C.H0 p = none := by
    cases q : C.H0 p with
    | none => rfl
    | some o => rw [s.fr.keep p o nf q] at hn; cases hn
  have others : ∀ j es, ρ[j]? = some (some (S.own es)) → σ[j]? ≠ some (some (V.ref p)) := fun j es e e' => by
    obtain ⟨v, e1, a, ws, e2, e3, _⟩ := s.env j _ e
    rw [e1] at e'
    cases e'
    cases e2
    rw [hn] at e3; cases e3
  refine ⟨s'.fr, s'.fd, by simp [s'.len], fun j x e => ?_, fun j k a es gs e1 e2 e3 e4 => ?_⟩
  · by_cases hj : i = j
    · subst hj
      by_cases hi : i < ρ.length
      · rw [List.getElem?_set_self hi] at e
        cases e
        exact ⟨.ref p, List.getElem?_set_self (by rw [s.len]; exact hi), p, vs, rfl, hp, zn, h0, nf, dv⟩
      · rw [List.getElem?_eq_none (by rw [List.length_set]; omega)] at e; cases e
    · rw [List.getElem?_set_ne hj] at e
      rw [List.getElem?_set_ne hj]
      exact s'.env j x e
  · have at' : ∀ m (fs : List D), (ρ.set i (some (S.own ds)))[m]? = some (some (S.own fs)) → (σ.set i (some (V.ref p)))[m]? = some (some (V.ref a)) → (i = m ∧ a = p) ∨ (i ≠ m ∧ ρ[m]? = some (some (S.own fs)) ∧ σ[m]? = some (some (V.ref a))) := fun m fs h1 h2 => by
      by_cases hm : i = m
      · subst hm
        by_cases hi : i < σ.length
        · rw [List.getElem?_set_self hi] at h2
          cases h2
          exact .inl ⟨rfl, rfl⟩
        · rw [List.getElem?_eq_none (by rw [List.length_set]; omega)] at h2; cases h2
      · rw [List.getElem?_set_ne hm] at h1 h2
        exact .inr ⟨hm, h1, h2⟩
    rcases at' j es e1 e3 with ⟨rfl, rfl⟩ | ⟨n1, h1, h2⟩
    · rcases at' k gs e2 e4 with ⟨e, _⟩ | ⟨n2, h3, h4⟩
      · exact e
      · exact absurd h4 (others k gs h3)
    · rcases at' k gs e2 e4 with ⟨rfl, rfl⟩ | ⟨n2, h3, h4⟩
      · exact absurd h2 (others j es h1)
      · exact s.sep j k a es gs h1 h3 h2 h4
theorem s_own {i : Nat} {x : Str} {pos pos' : Pos} {e : Expr} {w : WL} (hN : C.X.N.Nodup) (hi : C.X.N[i]? = some x) (hx : Loc C.X.env.scope x) (he : N C e w) (hs : swapsWith e (some (.Name x pos')) pos.line C.X.env = pure false := by rfl)
    (hf : C.X.fn x = true ∨ C.X.env.scope.names.lookup x = some .local := by first | exact .inl rfl | exact .inr rfl | assumption) : St1 C (.Assign [.Name x pos'] e pos) (wOwn i w) :=
  weakS (ps_set hN hi hx he hs hf) fun D σ H ⟨Z, ρ, P, s, h, d⟩ => ⟨Z, ρ, _, _, s, h, fun ds vs p H' Z' f fd hp hn zn nf dv hq => d.nx _ _ _ _ (s.setOwn f fd i hp hn zn nf dv) hq, d.ke s⟩
def wLstN (r : WA) : WL := fun ρ q e => r ρ (fun ss => ∃ ds, ss = ds.map S.dat ∧ ds.length ≤ sizeLine ∧ q ds) e
theorem Fr.madeH {F : Option Fd} {H Z : Hp} {p : Addr} {o : HO} (h : Fr F H Z H Z) (np : H p = none) : Fr F H Z (upd H p o) Z ∧ Z p = none := by
  have zp : Z p = none := by
    cases q : Z p with
    | none => rfl
    | some u => rw [h.zh p u q] at np; cases np
  refine ⟨⟨fun a u n e => by rw [upd_ne (ne_of_none e np)]; exact e, fun _ _ e => e, fun a u e => by rw [upd_ne (ne_of_none e zp)]; exact h.zh a u e, fun a u e n => (by rw [e] at n; cases n), h.notF⟩, zp⟩
theorem n_lst {es : List Expr} {pos : Pos} {r : WA} (h : A C es r) : N C (.List es pos) (wLstN r) :=
  weakE (pe_lst h) fun σ H Q ⟨Z, ρ, q, e, st, hw, k, ke⟩ => ⟨Z, ρ, _, e, st, hw, fun ss vs H1 Z1 f1 fd1 sv ⟨ds, e1, z, hq⟩ => by
    subst e1
    refine ⟨by rw [sv.len]; simpa using z, fun p np => ?_⟩
    obtain ⟨f2, zp⟩ := Fr.madeH (o := .lst vs) (Fr.refl f1.zh f1.notF) np
    have hp0 : H p = none := by
      cases q' : H p with
      | none => rfl
      | some o => rw [f1.keep p o (fd1.ne np) q'] at np; cases np
    exact k ds vs p _ Z1 (f1.trans f2) (fd1.made np) upd_same hp0 zp (fd1.ne np) sv.dats hq, ke⟩
end
end PL

set_option Elab.async false
set_option linter.all false
set_option maxRecDepth 100000
/-! comprehensions, append, two names at once, defs that raise nothing -/
namespace PL
open PySem PySem.Spec PyProof.Rows L2
section
variable {C : Cp}
/-! ### a comprehension's target -/
def TgOk (g : TG) (is : List Nat) (sel : D → Option (List D)) : Prop :=
  ∀ (x : V) (d : D) (ds : List D) (σ : L2.St) (H Z : Hp) (Q : L2.St → Hp → Prop), Same Z H → Dq Z x d → sel d = some ds → (∀ vs, Dqs Z vs ds → Q (setAllV σ is vs) H) → g x σ H Q
def sel1 : D → Option (List D) := fun d => some [d]
def selT (n : Nat) : D → Option (List D)
  | .tuple ds => if ds.length = n then some ds else none
  | _ => none
theorem tg_name (i : Nat) : TgOk (gName i) [i] sel1 := fun x d ds σ H Z Q zh dq e k => by
  cases e
  exact k [x] (.cons dq .nil)
def gNames : List Nat → TGs
  | [] => gNil
  | i :: is => gCons (gName i) (gNames is)
theorem gNames_ok {Q : L2.St → Hp → Prop} : ∀ {is : List Nat} {vs : List V} {σ : L2.St} {H : Hp}, vs.length = is.length → Q (setAllV σ is vs) H → gNames is vs σ H Q
  | [], [], _, _, _, h => ⟨rfl, h⟩
  | i :: is, v :: vs, σ, H, l, h => ⟨v, vs, rfl, gNames_ok (is := is) (by simpa using l) h⟩
theorem tg_tup {K : PySem.W.Frag} (is : List Nat) (n : Nat) (hn : is.length = n) : TgOk (gTup K n (gNames is)) is (selT n) := fun x d ds σ H Z Q zh dq e k => by
  cases d with
  | tuple es =>
    have e' : (if es.length = n then some es else none) = some ds := e
    by_cases hl : es.length = n
    · rw [if_pos hl] at e'
      cases e'
      cases dq with
      | tup h1 h2 =>
        have l := dps_len h2
        exact ⟨_, _, rfl, SqT.of (zh _ _ h1), by rw [l]; exact hl, gNames_ok (by rw [l, hl, hn]) (k _ h2)⟩
    · rw [if_neg hl] at e'; cases e'
  | _ => cases e
/-! ### tests of a clause -/
def Tts (C : Cp) (ifs : List Expr) (t : WB) : Prop := PTs C.X ifs (tPT C t)
def wYes : WB := fun _ q _ => q true
theorem ts_nil : Tts C [] wYes := ⟨fun pins s σ H Q I ⟨Z, ρ, q, e, st, hw, k, ke⟩ => pts_nil.run pins s σ H Q I (k true H Z (Fr.refl st.fr.zh st.fr.notF) st.fd hw)⟩
theorem ts_one {c : Expr} {t : WB} (h : T C c t) : Tts C [c] t := pts_one h

def wMap (f : D → (Option D → Prop) → Prop) : List D → (List D → Prop) → Prop
  | [], q => q []
  | d :: r, q => f d fun o => wMap f r fun out => q (match o with | some x => x :: out | none => out)
def wLc (vs is : List Nat) (sel : D → Option (List D)) (wi : WI) (t : WB) (w : W) : WL := fun ρ q e =>
  wi ρ (fun ds => ds.length ≤ sizeLine ∧ wMap (fun d q' => ∃ es, sel d = some es ∧ t (setAll (wipe' ρ vs) is es) (fun b => if b = true then w (setAll (wipe' ρ vs) is es) (fun s => ∃ d', s = .dat d' ∧ q' (some d')) noX else q' none) noX) ds q) e
theorem wMap_mono {f : D → (Option D → Prop) → Prop} (hf : ∀ d q q', (∀ o, q o → q' o) → f d q → f d q') : ∀ {ds : List D} {q q' : List D → Prop}, (∀ o, q o → q' o) → wMap f ds q → wMap f ds q'
  | [], _, _, k, h => k _ h
  | d :: r, q, q', k, h => hf d _ _ (fun o h' => wMap_mono hf (fun out h2 => k _ h2) h') h
/-- the heap within a comprehension: the new list at p apart -/
structure Mid (C : Cp) (H1 Z1 H Z : Hp) (p : Addr) (acc : List V) (accD : List D) : Prop where
  fr : Fr C.F H1 Z1 H Z
  fd : FeedOk C.F H
  at' : H p = some (.lst acc)
  zn : Z p = none
  dv : Dqs Z acc accD
theorem Mid.next {H1 Z1 H Z H' Z' : Hp} {p : Addr} {acc : List V} {accD : List D} (m : Mid C H1 Z1 H Z p acc accD) (nf : nf C.F p) (f : Fr C.F H Z H' Z') (fd : FeedOk C.F H') : Mid C H1 Z1 H' Z' p acc accD := by
  refine ⟨m.fr.trans f, fd, f.keep p _ nf m.at', ?_, dps_mono f.zz _ _ m.dv⟩
  cases q : Z' p with
  | none => rfl
  | some o =>
    have h1 := f.new p o q m.zn
    have h2 := m.at'
    rw [h1] at h2; cases h2
theorem Mid.app {H1 Z1 H Z : Hp} {p : Addr} {acc : List V} {accD : List D} {y : V} {d : D} (m : Mid C H1 Z1 H Z p acc accD) (hn : H1 p = none) (nf : nf C.F p) (dq : Dq Z y d) : Mid C H1 Z1 (upd H p (.lst (acc ++ [y]))) Z p (acc ++ [y]) (accD ++ [d]) := by
  refine ⟨⟨fun a o n e => ?_, m.fr.zz, fun a o e => ?_, m.fr.new, m.fr.notF⟩, ?_, upd_same, m.zn, dps_app m.dv (.cons dq .nil)⟩
  · rw [upd_ne (ne_of_none e hn)]; exact m.fr.keep a o n e
  · rw [upd_ne (ne_of_none e m.zn)]; exact m.fr.zh a o e
  · exact m.fd.other nf
/-- the reading of a comprehension from its plain meaning -/
theorem lc_red {wi : WI} {g : TG} {vs' is : List Nat} {sel : D → Option (List D)} {t : WB} {w : W} (ht0 : TgOk g is sel) (his : ∀ i ∈ is, i ∈ vs') {σ : L2.St} {H : Hp} {Q : VK} (h : tPN C (wLc vs' is sel wi t w) σ H Q) :
    tLc (tPI C wi) g (tPT { C with EE := fun _ _ _ => False } t) (tP { C with EE := fun _ _ _ => False } w) vs' σ H Q := by
  obtain ⟨Z, ρ, q, ex, st, hw, k, ke⟩ := h
  refine ⟨Z, ρ, _, ex, st, hw, fun J ds H1 Z1 f1 fd1 Y ⟨hl, hm⟩ => ?_, ke⟩
  intro p np
  have st1 := st.next f1 fd1
  obtain ⟨f2, zp⟩ := Fr.madeH (o := .lst []) (Fr.refl f1.zh f1.notF) np
  have nfp : nf C.F p := fd1.ne np
  have hp0 : H p = none := by
    cases q' : H p with
    | none => rfl
    | some o => rw [f1.keep p o nfp q'] at np; cases np
  have m0 : Mid C H1 Z1 (upd H1 p (.lst [])) Z1 p [] [] := ⟨f2, fd1.made np, upd_same, zp, .nil⟩
  refine ⟨fun i m H' => m = ds.length - i ∧ i ≤ ds.length ∧ ∃ Z' acc accD, Mid C H1 Z1 H' Z' p acc accD ∧ acc.length ≤ i ∧ wMap _ (ds.drop i) (fun out => q (accD ++ out)), ⟨ds.length, by omega, Nat.zero_le _, Z1, [], [], m0, Nat.zero_le _, by simpa using hm⟩, ?_⟩
  rintro i m H' ⟨rfl, hi', Z', acc, accD, mid, hal, hrun⟩
  have zh : Same Z1 H' := mid.fr.zz.trans mid.fr.zh
  by_cases hlt : i < ds.length
  · refine .inr ⟨Y.go i H' zh hlt, fun H2 => ∃ Z2 acc2 accD2, Mid C H1 Z1 H2 Z2 p acc2 accD2 ∧ acc2.length ≤ i + 1 ∧ wMap _ (ds.drop (i + 1)) (fun out => q (accD2 ++ out)), fun H2 ⟨Z2, a2, d2, m2, l2, r2⟩ => ⟨ds.length - (i + 1), by omega, rfl, hlt, Z2, a2, d2, m2, l2, r2⟩, fun x H2 y => ?_⟩
    obtain ⟨rfl, dd, hd, dq⟩ := Y.yld i x H' H2 hlt zh y
    have e1 : ds.drop i = dd :: ds.drop (i + 1) := by
      rw [List.drop_eq_getElem_cons hlt]
      rw [List.getElem?_eq_getElem hlt] at hd
      cases hd; rfl
    rw [e1] at hrun
    obtain ⟨es, hsel, htst⟩ := hrun
    refine ht0 x dd es _ H2 Z' _ mid.fr.zh (dp_mono mid.fr.zz _ _ dq) hsel fun vs dvs => ?_
    refine ⟨by rw [setAllV_wipe his, wipe_twice], ?_⟩
    have stm : Sta.at C H2 Z' σ ρ := st1.next mid.fr mid.fd
    have st2 : Sta.at C H2 Z' (setAllV (L2.wipe σ vs') is vs) (setAll (wipe' ρ vs') is es) := Sta.setAll (stm.wipe _) dvs
    refine ⟨Z', _, _, noX, st2, htst, fun b H3 Z3 f3 fd3 hb => ?_, fun x cls d H4 Z4 _ _ _ hx => hx.elim⟩
    have mid3 := mid.next nfp f3 fd3
    cases b with
    | false =>
      show ∃ Z2 acc2 accD2, _
      exact ⟨Z3, acc, accD, mid3, by omega, hb⟩
    | true =>
      refine ⟨Z3, _, _, noX, st2.next f3 fd3, hb, fun s v H4 Z4 f4 fd4 sv ⟨d', e4, hq⟩ => ?_, fun x cls d H4 Z4 _ _ _ hx => hx.elim⟩
      subst e4
      have mid4 := mid3.next nfp f4 fd4
      refine ⟨acc, mid4.at', by omega, Z4, acc ++ [v], accD ++ [d'], mid4.app np nfp sv, by simp; omega, ?_⟩
      have e5 : (fun out => q (accD ++ [d'] ++ out)) = fun out => q (accD ++ (match some d' with | some x => x :: out | none => out)) := by
        funext out; simp
      rw [e5]
      exact hq
  · have e : i = ds.length := by omega
    subst e
    rw [List.drop_length] at hrun
    have hq : q (accD ++ []) := hrun
    rw [List.append_nil] at hq
    exact .inl ⟨Y.stop H' zh, k accD acc p H' Z' (f1.trans mid.fr) mid.fd mid.at' hp0 mid.zn nfp mid.dv hq⟩
/-- [elt for tg in iter if ..] -/
theorem n_lc {elt tg iter : Expr} {ifs : List Expr} {scope : Scope} {own : List (Str × Nat)} {vs : List Nat} {pos : Pos} {wi : WI} {g : TG} {is : List Nat} {sel : D → Option (List D)} {t : WB} {w : W} (hc : C.X.calm = true) (hN : C.X.N.Nodup) (hi : Iter C tg iter wi) (ok : BlkOk C.X.N C.X.env.scope scope own)
    (ht0 : TgOk g is sel) (his : ∀ i ∈ is, i ∈ vs)
    (hg : ∀ (s : Shared) (H : Hp) (c : Addr) (cl : List (Str × Addr)) (fp : List Addr), PG (C.X.blk s H scope (compEnvC scope cl c C.X.env) fp) tg g)
    (ht : ∀ (s : Shared) (H : Hp) (c : Addr) (cl : List (Str × Addr)) (fp : List Addr), Tts (C.blk s H scope (compEnvC scope cl c C.X.env) fp) ifs t)
    (he : ∀ (s : Shared) (H : Hp) (c : Addr) (cl : List (Str × Addr)) (fp : List Addr), E (C.blk s H scope (compEnvC scope cl c C.X.env) fp) elt w)
    (hs : ∀ x, foldedSetIterable iter C.X.env x = pure x := by intro _; rfl) (hvs : own.map (·.2) = vs := by rfl) : N C (.ListComp elt [⟨tg, iter, ifs, 0⟩] scope pos) (wLc vs is sel wi t w) := by
  subst hvs
  exact weakE (pe_lc (tt := tPT { C with EE := fun _ _ _ => False } t) (te := tP { C with EE := fun _ _ _ => False } w) hc hN hi ok hg (fun s H c cl fp => ht s H c cl fp) (fun s H c cl fp => he s H c cl fp) hs) fun σ H Q h => lc_red ht0 his h
/-- y = [..], y a local -/
theorem s_lcSet {i : Nat} {y : Str} {py spos : Pos} {elt tg iter : Expr} {ifs : List Expr} {scope : Scope} {own : List (Str × Nat)} {vs : List Nat} {pos : Pos} {wi : WI} {g : TG} {is : List Nat} {sel : D → Option (List D)} {t : WB} {w : W} (hc : C.X.calm = true) (hN : C.X.N.Nodup) (hy : C.X.N[i]? = some y) (hyl : C.X.env.scope.names.lookup y = some .local)
    (hsw : swapsWith (.ListComp elt [⟨tg, iter, ifs, 0⟩] scope pos) (some (.Name y py)) spos.line C.X.env = pure true) (hi : Iter C tg iter wi) (ok : BlkOk C.X.N C.X.env.scope scope own)
    (ht0 : TgOk g is sel) (his : ∀ i ∈ is, i ∈ vs)
    (hg : ∀ (s : Shared) (H : Hp) (c : Addr) (cl : List (Str × Addr)) (fp : List Addr), PG (C.X.blk s H scope (compEnvC scope cl c C.X.env) fp) tg g)
    (ht : ∀ (s : Shared) (H : Hp) (c : Addr) (cl : List (Str × Addr)) (fp : List Addr), Tts (C.blk s H scope (compEnvC scope cl c C.X.env) fp) ifs t)
    (he : ∀ (s : Shared) (H : Hp) (c : Addr) (cl : List (Str × Addr)) (fp : List Addr), E (C.blk s H scope (compEnvC scope cl c C.X.env) fp) elt w)
    (hs : ∀ x, foldedSetIterable iter C.X.env x = pure x := by intro _; rfl) (hvs : own.map (·.2) = vs := by rfl) : St1 C (.Assign [.Name y py] (.ListComp elt [⟨tg, iter, ifs, 0⟩] scope pos) spos) (wSet i (wNew (wLc vs is sel wi t w))) := by
  subst hvs
  exact weakS (ps_setLc (tt := tPT { C with EE := fun _ _ _ => False } t) (te := tP { C with EE := fun _ _ _ => False } w) hc hN hy hyl hsw hi ok hg (fun s H c cl fp => ht s H c cl fp) (fun s H c cl fp => he s H c cl fp) hs) fun D σ H ⟨Z, ρ, P, st, h, d⟩ =>
    lc_red ht0 his ⟨Z, ρ, _, P.ex, st, h, fun ds vs p H' Z' f fd hp hn zn nf dv ⟨_, hq⟩ => d.nx _ _ _ _ ((st.next (f.keepNew hp hn zn nf) fd).set i (s := .dat (.list ds)) (Dq.lst upd_same (dps_mono (Same.made zn) _ _ dv)) rfl) hq, d.ke st⟩
/-! ### append -/
def wApp (i : Nat) (w : W) : WS := fun P ρ => ∃ ds, ρ[i]? = some (some (S.own ds)) ∧ w ρ (fun s => ∃ d, s = .dat d ∧ ds.length < sizeLine ∧ P.nx (ρ.set i (some (.own (ds ++ [d]))))) P.ex
theorem Sta.appOwn {H Z : Hp} {σ : L2.St} {ρ : Env'} (s : Sta.at C H Z σ ρ) {i : Nat} {p : Addr} {vs : List V} {ds : List D} {v : V} {d : D} (e : ρ[i]? = some (some (S.own ds))) (ev : σ[i]? = some (some (V.ref p))) (hp : H p = some (.lst vs)) (dq : Dq Z v d) :
    Sta.at C (upd H p (.lst (vs ++ [v]))) Z σ (ρ.set i (some (.own (ds ++ [d])))) := by
  obtain ⟨w, e1, a, ws, e2, e3, zn, h0, nfa, dv⟩ := s.env i _ e
  rw [ev] at e1
  cases e1
  cases e2
  rw [hp] at e3
  cases e3
  have fd : FeedOk C.F (upd H p (.lst (vs ++ [v]))) := s.fd.other nfa
  have fr : Fr C.F C.H0 C.Z0 (upd H p (.lst (vs ++ [v]))) Z := by
    refine ⟨fun b o n e' => ?_, s.fr.zz, fun b o e' => ?_, s.fr.new, s.fr.notF⟩
    · rw [upd_ne (ne_of_none e' h0)]; exact s.fr.keep b o n e'
    · rw [upd_ne (ne_of_none e' zn)]; exact s.fr.zh b o e'
  have hi : i < ρ.length := (List.getElem?_eq_some_iff.mp e).1
  refine ⟨fr, fd, by rw [List.length_set]; exact s.len, fun j x e' => ?_, fun j k b es gs h1 h2 h3 h4 => ?_⟩
  · by_cases hj : i = j
    · subst hj
      rw [List.getElem?_set_self hi] at e'
      cases e'
      exact ⟨_, ev, p, _, rfl, upd_same, zn, h0, nfa, dps_app dv (.cons dq .nil)⟩
    · rw [List.getElem?_set_ne hj] at e'
      obtain ⟨w, f1, f2⟩ := s.env j x e'
      refine ⟨w, f1, ?_⟩
      cases x with
      | dat d => exact f2
      | feed cs => exact f2
      | ro gs => exact f2
      | own gs =>
        obtain ⟨b, us, g1, g2, g3⟩ := f2
        subst g1
        have nb : b ≠ p := fun z => by
          subst z
          exact hj (s.sep i j b ds gs e e' ev f1)
        exact ⟨b, us, rfl, by rw [upd_ne nb]; exact g2, g3⟩
  · have back : ∀ m (fs : List D), (ρ.set i (some (S.own (ds ++ [d]))))[m]? = some (some (S.own fs)) → ∃ fs', ρ[m]? = some (some (S.own fs')) := fun m fs h => by
      by_cases hm : i = m
      · subst hm; exact ⟨ds, e⟩
      · rw [List.getElem?_set_ne hm] at h; exact ⟨fs, h⟩
    obtain ⟨es', h1'⟩ := back j es h1
    obtain ⟨gs', h2'⟩ := back k gs h2
    exact s.sep j k b es' gs' h1' h2' h3 h4
theorem s_app {i : Nat} {x : Str} {e : Expr} {w : W} {p1 apos cpos pos : Pos} (hv : PE C.X (.Name x p1) (tVar i)) (he : E C e w)
    (hs : starEach [e] C.X.env = (false, eval e C.X.env) :: starEach [] C.X.env := by rfl)
    (hbase : attributeBase (.Name x p1) "append" C.X.env (eval (.Name x p1) C.X.env) = eval (.Name x p1) C.X.env := by rfl)
    (hfew : ((backTo cpos (starEach (e :: []) C.X.env)).all (fun x => !x.1) && (backToKw cpos (keywordEach [] C.X.env)).all (fun x => x.1.isSome)
      && decide ((e :: []).length + ([] : List Keyword).length + (if ([] : List Keyword).isEmpty then 0 else 1) < 30)) = true := by rfl)
    (hline : (apos.endLine == cpos.line) = true := by rfl) (hplain : (backTo cpos (starEach [] C.X.env)).any (·.1) = false := by rfl)
    (hsw : swapsWith (.Call (.Attribute (.Name x p1) "append" apos) [e] [] cpos) none pos.line C.X.env = pure false := by rfl) :
    St1 C (.Expr (.Call (.Attribute (.Name x p1) "append" apos) [e] [] cpos) pos) (wApp i w) := by
  refine weakS (ps_expr (pe_bm PySem.F.plainAttrs_list PySem.F.slot_list_append PySem.F.type_list_append mt_append hv (pa_cons he pa_nil hs) hbase hfew hline hs hplain) hsw) fun D σ H ⟨Z, ρ, P, st, ⟨ds, e0, hw⟩, d⟩ => ?_
  obtain ⟨v, e1, a, vs, e2, e3, zn, h0, nfa, dv⟩ := st.env i _ e0
  subst e2
  refine ⟨.ref a, e1, .inl ⟨rfl, _, .inl (.inl e3)⟩, Z, ρ, _, P.ex, st, hw, fun s y H' Z' f fd sv ⟨dd, e4, hl, hq⟩ => ?_, d.ke st⟩
  subst e4
  have st' := st.next f fd
  have hp := f.keep a _ nfa e3
  refine ⟨a, _, _, rfl, rfl, hp, by rw [dps_len dv]; exact hl, ?_⟩
  exact d.nx _ _ _ _ (st'.appOwn e0 e1 hp sv) hq
/-! ### a, b = x, y -/
def wPar (i j : Nat) (r : WA) : WS := fun P ρ => r ρ (fun ss => ∃ s t, ss = [s, t] ∧ s.lent = true ∧ t.lent = true ∧ P.nx ((ρ.set i (some s)).set j (some t))) P.ex
theorem s_par {i j : Nat} {x y : Str} {a b : Expr} {r : WA} {px py pt pos : Pos} {kt k2 pt2} (hc : C.X.calm = true) (hN : C.X.N.Nodup) (hi : C.X.N[i]? = some x) (hj : C.X.N[j]? = some y) (hij : i ≠ j)
    (hx : C.X.env.scope.names.lookup x = some .local) (hy : C.X.env.scope.names.lookup y = some .local) (ha : A C [a, b] r)
    (hw : swappedStores [.Tuple [.Name x px, .Name y py] kt pt] (.Tuple [a, b] k2 pt2) C.X.env = pure (some [x, y]))
    (hs : swapsWithSole [.Tuple [.Name x px, .Name y py] kt pt] (.Tuple [a, b] k2 pt2) pos.line C.X.env = pure false := by rfl) :
    St1 C (.Assign [.Tuple [.Name x px, .Name y py] kt pt] (.Tuple [a, b] k2 pt2) pos) (wPar i j r) :=
  weakS (ps_par hc hN hi hj hij hx hy ha hw hs) fun D σ H ⟨Z, ρ, P, st, h, d⟩ => ⟨Z, ρ, _, P.ex, st, h, fun ss vs H' Z' f fd sv ⟨s, t, e, l1, l2, hq⟩ => by
    subst e
    obtain ⟨v, w, rfl, h1, h2⟩ := svs2 sv
    exact ⟨v, w, rfl, d.nx _ _ _ _ (((st.next f fd).set i h1 l1).set j h2 l2) hq⟩, d.ke st⟩
end
/-- a def that raises nothing -/
theorem fp_of0 {P : Program} {w : World} {K : PySem.W.Frag} {mg : Str → Option Value} {base : Heap} {fam : Fd → Prop} {XV : XVt} {x qual : Str} {st : Stmt} {f : Addr} {fd : FuncData} {N ps : List Str} {k : Nat} {wf : WF}
    (F : Fun K x qual st f fd) (S : FnScope N ps (defScope st)) {ws : WS}
    (hb : ∀ (cdv : Value) (A : Around) (outer : List Env) (s : Shared) (H Z : Hp) (E : XK) (Fo : Option Fd), Room k (A.deeper (envOfC qual (defScope st) s.heap.objs.size f cdv)) → A.guards = some [] → (∀ y, Fo = some y → fam y) →
      Sts (cpOf (cxOf CX0 P w K mg base N qual (defScope st) f cdv A outer s H E).nox Fo H Z (fun _ _ _ => False) XV) (defBody st) ws)
    (hi : ∀ ss q e, ss.length = ps.length → wf ss q e → wBody N.length ws ss q noX) : FnP P w K mg base CX0 fam XV (k + 1) f fd ps wf := fun Fo hF => by
  refine fg_of F S (fun vs H Q E h => h.1) fun cdv A outer s H vs Q E hr hg ⟨l, Z, ss, q, e, fr, fd, ln, sv, hw, k1, k2⟩ => ?_
  refine ⟨_, (hb cdv A outer s H Z E Fo hr hg hF).nox, Z, start' N.length ss, _, sta_start fr fd ln sv, hi ss q e (by rw [← sv.len]; exact l) hw, ?_⟩
  refine ⟨fun σ ρ H' Z' st' h => ?_, fun σ ρ H' Z' st' h => h.elim, fun σ ρ H' Z' st' h => h.elim, fun s v H' Z' f' fd' ln' sv' h => ?_, fun x cls d H' Z' f' fd' xv h => h⟩
  · exact k1 (.dat .none) .non H' Z' st'.fr st'.fd rfl Dq.non h
  · exact k1 s v H' Z' f' fd' ln' sv' h
end PL

set_option Elab.async false
set_option linter.all false
set_option maxRecDepth 100000
/-! repr; minus; join -/
namespace PL
open PySem PySem.Spec PyProof.Rows L2
section
variable {C : Cp}
/-! ### repr -/
theorem noDict : ∀ (d : D), SeqAt.shaped d = true → d.hasDict = false := fun d h => PyData.hasDict_of_canLay d (SeqAt.canLay_of_shaped h)
/-- repr of a datum whose text fits -/
def oRepr : OA := fun ss q => match ss with
  | [s] => ∃ d, s.data = some d ∧ d.showable = true ∧ SeqAt.shaped d = true ∧ d.shown.length ≤ sizeLine ∧ q (.dat (.str d.shown))
  | _ => False
theorem b_repr (hg : C.X.A.guards = some []) (hu : C.X.A.units + 66 < cLine) : Bi C (.builtin "repr") oRepr := by
  intro pins s σ H vs us Q I r ⟨Z, ss, q, a, sv, ho⟩
  unfold oRepr at ho
  split at ho
  · obtain ⟨d, e, h1, h2, h3, hq⟩ := ho
    obtain ⟨v, rfl, h⟩ := svs1 sv
    have fin := a.ret (s := .dat (.str d.shown)) (v := .str d.shown) (Dq.str _) hq
    have hdp : d.depth ≤ 64 := SeqAt.depth_of_shaped h2
    obtain ⟨u, rfl, ru⟩ : ∃ u, us = [u] ∧ RelV v u := by
      cases r with
      | cons r1 r2 => cases r2; exact ⟨_, rfl, r1⟩
    have hD : Dp C.X.K H v d := h.dp a.fr.zh a.fd e
    have hz : ∀ (g : Heap) (n : Nat), (∀ b o, s.heap.get? b = some o → g.get? b = some o) → EP C.X pins σ Q (.str d.shown n) { s with heap := g, toks := n } → True := fun _ _ _ _ => trivial
    obtain ⟨as, rd⟩ := Dp.reads I d v u hD ru
    cases hD with
    | non => cases (show u = Value.none from ru); exact PySem.P.repr_of_none ⟨V.str _, H, I.tok _, ⟨_, rfl⟩, fin⟩
    | bl b =>
      cases (show u = Value.bool b from ru)
      refine PySem.P.repr_of_bool ⟨V.str _, H, I.tok _, ⟨_, rfl⟩, ?_⟩
      cases b <;> exact fin
    | int i =>
      obtain ⟨t, rfl⟩ := ru
      exact PySem.P.repr_of_int (of_decide_eq_true h1) ⟨V.str _, H, I.tok _, ⟨_, rfl⟩, fin⟩
    | str x =>
      obtain ⟨t, rfl⟩ := ru
      exact PySem.P.repr_of_str ⟨V.str _, H, I.tok _, ⟨_, rfl⟩, fin⟩ h3
    | lst h4 h5 =>
      cases ru
      exact repr_of_reads' rd h1 (PyData.noDict_hsm (noDict _ h2)) hg (by omega) (fun _ _ x => x) (fun h' u tk hk => ⟨V.str _, H, I.kept (t' := tk) hk, ⟨_, rfl⟩, fin⟩) h3
    | tup h4 h5 =>
      cases ru
      exact repr_of_reads' rd h1 (PyData.noDict_hsm (noDict _ h2)) hg (by omega) (fun _ _ x => x) (fun h' u tk hk => ⟨V.str _, H, I.kept (t' := tk) hk, ⟨_, rfl⟩, fin⟩) h3
  · exact ho.elim
/-! ### -x -/
def oNeg : S → (S → Prop) → Prop
  | .dat (.int i), q => q (.dat (.int (-i)))
  | _, _ => False
theorem e_neg {a : Expr} {w : W} {pos : Pos} (h : E C a w) : E C (.UnaryOp .USub a pos) (wM0 oNeg w) :=
  weakE (pe_un un_neg h) fun σ H Q ⟨Z, ρ, q, ex, st, hw, k, ke⟩ => ⟨Z, ρ, _, ex, st, hw, fun s x H1 Z1 f1 fd1 sv1 q1 => by
    unfold oNeg at q1
    dsimp only at q1
    split at q1
    · cases (show Dq Z1 x (.int _) from sv1)
      exact ⟨_, rfl, k (.dat (.int _)) _ H1 Z1 f1 fd1 (Dq.int _) q1⟩
    · exact q1.elim, ke⟩
/-! ### sep.join(texts) -/
theorem dps_strs' {Z : Hp} : ∀ {vs : List V} (zs : List Str), Dqs Z vs (zs.map PyData.str) → vs = zs.map V.str
  | _, [], h => by cases h; rfl
  | _, z :: zs, h => by
    cases h with
    | cons h1 h2 =>
      have := dps_strs' zs h2
      cases (show Dq Z _ (.str z) from h1)
      rw [this]; rfl
def S.seq : S → Option (List D)
  | .dat (.list xs) => some xs
  | .dat (.tuple xs) => some xs
  | .own xs => some xs
  | _ => none
def wJoin (a b : W) : W := fun ρ q e => a ρ (fun s => ∃ z : Str, s = .dat (.str z) ∧ b ρ (fun t => ∃ zs : List Str, t.seq = some (zs.map PyData.str) ∧ (zs.map (·.length)).sum + zs.length * z.length ≤ 16777216 ∧ q (.dat (.str (Txt.join z zs)))) e) e
theorem SV.seq {F : Option Fd} {H0 H Z : Hp} {x : V} {s : S} {xs : List D} (h : SV F H0 H Z x s) (zh : Same Z H) (e : s.seq = some xs) (K : PySem.W.Frag) : ∃ a vs, x = .ref a ∧ (SqL K H a vs ∨ SqT K H a vs) ∧ Dqs Z vs xs := by
  unfold S.seq at e
  split at e
  · cases e
    cases (show Dq Z x (.list _) from h) with
    | lst h1 h2 => exact ⟨_, _, rfl, .inl (SqL.of (zh _ _ h1)), h2⟩
  · cases e
    cases (show Dq Z x (.tuple _) from h) with
    | tup h1 h2 => exact ⟨_, _, rfl, .inr (SqT.of (zh _ _ h1)), h2⟩
  · cases e
    obtain ⟨a, vs, e1, e2, _, _, _, h5⟩ := h
    exact ⟨a, vs, e1, .inl (SqL.of e2), h5⟩
  · cases e
theorem e_join {a b : Expr} {wa wb : W} {apos cpos : Pos} (ha : E C a wa) (hb : E C b wb)
    (hs : starEach [b] C.X.env = (false, eval b C.X.env) :: starEach [] C.X.env := by rfl)
    (hbase : attributeBase a "join" C.X.env (eval a C.X.env) = eval a C.X.env := by rfl)
    (hfew : ((backTo cpos (starEach (b :: []) C.X.env)).all (fun x => !x.1) && (backToKw cpos (keywordEach [] C.X.env)).all (fun x => x.1.isSome)
      && decide ((b :: []).length + ([] : List Keyword).length + (if ([] : List Keyword).isEmpty then 0 else 1) < 30)) = true := by rfl)
    (hline : (apos.endLine == cpos.line) = true := by rfl) (hplain : (backTo cpos (starEach [] C.X.env)).any (·.1) = false := by rfl) :
    E C (.Call (.Attribute a "join" apos) [b] [] cpos) (wJoin wa wb) :=
  weakE (pe_bm PySem.F.plainAttrs_str PySem.F.slot_str_join PySem.F.type_str_join mt_join ha (pa_cons hb pa_nil hs) hbase hfew hline hs hplain) fun σ H Q ⟨Z, ρ, q, ex, st, hw, k, ke⟩ =>
    ⟨Z, ρ, _, ex, st, hw, fun s x H1 Z1 f1 fd1 sv1 ⟨z, e1, q1⟩ => by
      subst e1
      cases (show Dq Z1 x (.str z) from sv1)
      refine ⟨rfl, Z1, ρ, _, ex, st.next f1 fd1, q1, fun t y H2 Z2 f2 fd2 sv2 ⟨zs, e2, hz, hq⟩ => ?_, ke.next f1⟩
      obtain ⟨p, vs, rfl, hp, dv⟩ := sv2.seq f2.zh e2 C.X.K
      have ev := dps_strs' zs dv
      subst ev
      exact ⟨z, p, zs, rfl, rfl, hp, hz, k (.dat (.str _)) _ H2 Z2 (f1.trans f2) fd2 (Dq.str _) hq⟩, ke⟩
end
end PL

set_option Elab.async false
set_option linter.all false
set_option maxRecDepth 100000
/-! a feed that is a dict: its cells, and ints by name -/
namespace PL
open PySem PySem.Spec PyProof.Rows L2
theorem putK_len {kvs : List (Key × V)} {k : Key} {v y : V} (h : valV kvs k = some y) : (putK kvs k v).length = kvs.length := by
  unfold putK
  rw [valV_any, h]
  simp
structure OkD (f c : Addr) (cells : List Int) (ks : List Str) (H : Hp) : Prop where
  ne : c ≠ f
  dict : ∃ kvs, H f = some (.dK kvs) ∧ kvs.length ≤ 100 ∧ valV kvs (.inr "cells" : Key) = some (.ref c) ∧ ∀ k ∈ ks, ∃ z, valV kvs (.inr k : Key) = some (.int z)
  list : H c = some (.lst (cells.map V.int))
def fdD (f c : Addr) (cells : List Int) (ks : List Str) : Fd where
  ref := .ref f
  cs := cells.map PyData.int
  own := fun a => a = f ∨ a = c
  ok := OkD f c cells ks
  away := fun H p ⟨_, ⟨kvs, h, _⟩, h2⟩ np => by
    rintro (rfl | rfl)
    · rw [np] at h; cases h
    · rw [np] at h2; cases h2
  here := fun H H' ⟨n, ⟨kvs, h, r⟩, h2⟩ e => ⟨n, ⟨kvs, by rw [e _ (.inl rfl)]; exact h, r⟩, by rw [e _ (.inr rfl)]; exact h2⟩
  ro := fun v ds => v = .ref c ∧ ds = cells.map PyData.int
  reads := fun H v ds ok ⟨e, e2⟩ => ⟨c, _, e, ok.list, fun Z => by rw [e2]; exact dps_ints cells⟩
def FamD (ks : List Str) (x : Fd) : Prop := ∃ f c cells, x = fdD f c cells ks
section
variable {C : Cp} {i : Nat} {x k : Str} {p p2 pos : Pos} {j : Option Str}
def wFint (i : Nat) : W := fun ρ q _ => ∃ cs, ρ[i]? = some (some (S.feed cs)) ∧ ∀ z, q (.dat (.int z))
theorem e_fint {ks : List Str} {j} (hF : ∀ y, C.F = some y → FamD ks y) (hu : C.X.A.units + 1 < cLine) (hv : PE C.X (.Name x p) (tVar i)) (hk : k ∈ ks) : E C (.Subscript (.Name x p) (.Constant (.str k) j p2) pos) (wFint i) :=
  weakE (pe_dget hu hv pe_str (fun _ _ => rfl)) fun σ H Q ⟨Z, ρ, q, ex, st, ⟨cs, e, hq⟩, kt, ke⟩ => by
    obtain ⟨v, e1, y, ey, e2, e3⟩ := st.env i _ e
    obtain ⟨f, c, cells, rfl⟩ := hF y ey
    have ok : OkD f c cells ks H := st.fd _ ey
    obtain ⟨kvs, h1, h2, h3, h4⟩ := ok.dict
    obtain ⟨z, hz⟩ := h4 k hk
    refine ⟨v, e1, f, .int z, e2, ?_, kt.here st (s := .dat (.int z)) (Dq.int z) (hq z)⟩
    have g := DGet.k (k := (.inr k : Key)) h1
    rw [hz] at g
    exact g
def wFcells (i : Nat) : W := fun ρ q _ => ∃ cs, ρ[i]? = some (some (S.feed cs)) ∧ q (.ro cs)
theorem e_fcells {ks : List Str} {j} (hF : ∀ y, C.F = some y → FamD ks y) (hu : C.X.A.units + 1 < cLine) (hv : PE C.X (.Name x p) (tVar i)) : E C (.Subscript (.Name x p) (.Constant (.str "cells") j p2) pos) (wFcells i) :=
  weakE (pe_dget hu hv pe_str (fun _ _ => rfl)) fun σ H Q ⟨Z, ρ, q, ex, st, ⟨cs, e, hq⟩, kt, ke⟩ => by
    obtain ⟨v, e1, y, ey, e2, e3⟩ := st.env i _ e
    obtain ⟨f, c, cells, rfl⟩ := hF y ey
    have ok : OkD f c cells ks H := st.fd _ ey
    obtain ⟨kvs, h1, h2, h3, h4⟩ := ok.dict
    refine ⟨v, e1, f, .ref c, e2, ?_, kt.here st (s := .ro cs) ⟨_, ey, rfl, e3.symm⟩ hq⟩
    have g := DGet.k (k := (.inr "cells" : Key)) h1
    rw [h3] at g
    exact g
def wFset (i : Nat) (w : W) : WS := fun P ρ => w ρ (fun s => ∃ z cs, s = .dat (.int z) ∧ ρ[i]? = some (some (S.feed cs)) ∧ P.nx ρ) P.ex
theorem s_fset {ks : List Str} {j} {e : Expr} {w : W} {pos' : Pos} (hF : ∀ y, C.F = some y → FamD ks y) (hu : C.X.A.units + 1 < cLine) (hv : PE C.X (.Name x p) (tVar i)) (hk : k ∈ ks) (hc : ("cells" : Str) ∉ ks) (he : E C e w)
    (hs : swapsWith e (some (.Subscript (.Name x p) (.Constant (.str k) j p2) pos')) pos.line C.X.env = pure false := by rfl) : St1 C (.Assign [.Subscript (.Name x p) (.Constant (.str k) j p2) pos'] e pos) (wFset i w) :=
  weakS (ps_dput hu hv pe_str he hs) fun D σ H ⟨Z, ρ, P, st, h, d⟩ => ⟨Z, ρ, _, P.ex, st, h, fun s v H' Z' f' fd' sv ⟨z, cs, e1, e2, hq⟩ => by
    subst e1
    cases (show Dq Z' v (.int z) from sv)
    have st' := st.next f' fd'
    obtain ⟨u, e3, y, ey, e4, e5⟩ := st'.env i _ e2
    obtain ⟨f, c, cells, rfl⟩ := hF y ey
    have ok : OkD f c cells ks H' := fd' _ ey
    obtain ⟨kvs, h1, h2, h3, h4⟩ := ok.dict
    obtain ⟨z0, hz⟩ := h4 k hk
    refine ⟨u, e3, f, _, e4, DPut.k (k := (.inr k : Key)) h1 (small1000 (by omega)), ?_⟩
    have hkc : ¬ ((.inr "cells" : Key) = .inr k) := fun e => hc (by injection e with e; rw [e]; exact hk)
    have ok2 : OkD f c cells ks (upd H' f (.dK (putK kvs (.inr k) (.int z)))) := by
      refine ⟨ok.ne, ⟨_, upd_same, by rw [putK_len hz]; exact h2, by rw [valV_put, if_neg hkc]; exact h3, fun k' hk' => ?_⟩, by rw [upd_ne ok.ne]; exact ok.list⟩
      rw [valV_put]
      by_cases e : (.inr k' : Key) = .inr k
      · rw [if_pos e]; exact ⟨z, rfl⟩
      · rw [if_neg e]; exact h4 k' hk'
    have fd2 : FeedOk C.F (upd H' f (.dK (putK kvs (.inr k) (.int z)))) := fun y' e' => by
      rw [ey] at e'
      cases e'
      exact ok2
    have nfa : ∀ a, nf C.F a → a ≠ f := fun a n e => n _ ey (.inl e)
    have fr : Fr C.F H' Z' (upd H' f (.dK (putK kvs (.inr k) (.int z)))) Z' := by
      refine ⟨fun a o n e => ?_, fun _ _ e => e, fun a o e => ?_, fun a o e n => (by rw [e] at n; cases n), st'.fr.notF⟩
      · rw [upd_ne (nfa a n)]; exact e
      · rw [upd_ne (nfa a (st'.fr.notF a o e))]; exact st'.fr.zh a o e
    exact d.nx _ _ _ _ (st'.next fr fd2) hq, d.ke st⟩
end
end PL

set_option Elab.async false
set_option linter.all false
set_option maxRecDepth 100000
/-! defs of a text in short; list + list as a new list; t[::-1] -/
namespace PL
open PySem PySem.Spec PyProof.Rows L2
theorem u66 {k : Nat} {A : Around} (r : Room k A) : A.units + 66 < cLine := by have := r.un; omega
structure Def (P : Program) (w : World) (K : PySem.W.Frag) (mg : Str → Option Value) (base : Heap) (fam : Fd → Prop) (XV : XVt) (x : Str) (k : Nat) (ps : List Str) (wf : WF) : Prop where
  ex : ∃ (f : Addr) (fd : FuncData), FnP P w K mg base CX0 fam XV k f fd ps wf ∧ mg x = some (.ref f) ∧ PySem.W.keepIn K (.ref f) = true ∧ Binds K fd ps [] ∧
    (∀ (s : Shared) (us : List Value), K.In s.heap → us.length = ps.length → BindsTo s fd ⟨[], ps.zip us⟩ (ps.zip us))
  len : ∀ ss q e, wf ss q e → ss.length = ps.length
section
variable {C : Cp} {fam : Fd → Prop} {k : Nat} {ps : List Str} {wf : WF} {x : Str} {p pos : Pos} {e : Expr} {es : List Expr} {r : WA}
theorem e_callD (d : Def C.X.prog C.X.w C.X.K C.X.mg C.X.base fam C.XV x k ps wf) (hF : ∀ y, C.F = some y → fam y) (hr : Room k C.X.A) (hgd : C.X.A.guards = some []) (hg : Gl C.X x) (hx : Passes CX0 C.X C.EE) (ha : A C (e :: es) r) (hdb : (x == ("__debug__" : Str)) = false := by decide)
    (he : starEach (e :: es) C.X.env = (false, eval e C.X.env) :: starEach es C.X.env := by rfl) (hpl : (backTo pos (starEach es C.X.env)).any (·.1) = false := by rfl) : E C (.Call (.Name x p) (e :: es) [] pos) (wCall wf r) := by
  obtain ⟨f, fd, Fn, hm, hk, hb, _⟩ := d.ex
  exact e_call Fn hF d.len hr hgd hg hm hk hb hx ha hdb he hpl
theorem e_callDK {kws : List Keyword} (d : Def C.X.prog C.X.w C.X.K C.X.mg C.X.base fam C.XV x k ps wf) (hF : ∀ y, C.F = some y → fam y) (hr : Room k C.X.A) (hgd : C.X.A.guards = some []) (hg : Gl C.X x) (hx : Passes CX0 C.X C.EE) (ha : PK C.X kws (tPA C r)) (hall : (backToKw pos (keywordEach kws C.X.env)).all (·.1.isSome) = true := by rfl) (hks : (backToKw pos (keywordEach kws C.X.env)).filterMap (·.1) = ps := by rfl) (hdb : (x == ("__debug__" : Str)) = false := by decide)
    (hpl : ((backTo pos (starEach [] C.X.env)).any (·.1) || (backToKw pos (keywordEach kws C.X.env)).any (·.1.isNone)) = false := by rfl) : E C (.Call (.Name x p) [] kws pos) (wCall wf r) := by
  obtain ⟨f, fd, Fn, hm, hk, _, hb⟩ := d.ex
  exact e_callK Fn hF d.len hr hgd hg hm hk hb hx ha hall hks hdb hpl
/-- no argument at all -/
theorem e_callD0 (d : Def C.X.prog C.X.w C.X.K C.X.mg C.X.base fam C.XV x k ps wf) (hps : ps = []) (hF : ∀ y, C.F = some y → fam y) (hr : Room k C.X.A) (hgd : C.X.A.guards = some []) (hg : Gl C.X x) (hx : Passes CX0 C.X C.EE) (hdb : (x == ("__debug__" : Str)) = false := by decide) :
    E C (.Call (.Name x p) [] [] pos) (wCall wf wNil) := by
  obtain ⟨f, fd, Fn, hm, hk, hb, _⟩ := d.ex
  subst hps
  constructor
  intro pins s σ H Q I ⟨Z, ρ, q, ex, st, ⟨ln, hwf⟩, kt, ke⟩
  apply wpAny_Call_Name_kw
  apply ld_glob I hg hm _ hdb
  apply PySem.W.callWith_K0 I.kIn hk
  exact run_g (args := ⟨[] ++ [], []⟩) (us := []) (Fn C.F hF) hr hgd hx I (hb s [] I.kIn rfl) .nil (sp_call (d.len []) (Fr.refl st.fr.zh st.fr.notF) st.fd .nil ln hwf kt ke)
/-! ### list + list -/
def wAddN (a b : W) : WL := fun ρ q e => a ρ (fun s => b ρ (fun t => ∃ xs ys, s.lst = some xs ∧ t.lst = some ys ∧ xs.length + ys.length ≤ sizeLine ∧ q (xs ++ ys)) e) e
theorem n_add {a b : Expr} {wa wb : W} (ha : E C a wa) (hb : E C b wb) : N C (.BinOp a .Add b pos) (wAddN wa wb) :=
  weakE (pe_op op_cat ha hb) fun σ H Q ⟨Z, ρ, q, ex, st, hw, k, ke⟩ => by
    refine ⟨Z, ρ, _, ex, st, hw, fun s x H1 Z1 f1 fd1 sv1 q1 => ?_, ke⟩
    refine ⟨Z1, ρ, _, ex, st.next f1 fd1, q1, fun t y H2 Z2 f2 fd2 sv2 ⟨xs, ys, e1, e2, hl, hq⟩ => ?_, ke.next f1⟩
    obtain ⟨b', vs, rfl, h1, h2⟩ := (sv1.next f2).lst f2.zh fd2 e1
    obtain ⟨c', ws, rfl, h3, h4⟩ := sv2.lst f2.zh fd2 e2
    refine ⟨b', c', vs, ws, rfl, rfl, h1, h3, by rw [dps_len h2, dps_len h4]; exact hl, fun p np => ?_⟩
    obtain ⟨f3, zp⟩ := Fr.madeH (o := .lst (vs ++ ws)) (Fr.refl f2.zh f2.notF) np
    have nfp := fd2.ne np
    have hp0 : H p = none := by
      cases q' : H p with
      | none => rfl
      | some o => rw [(f1.trans f2).keep p o nfp q'] at np; cases np
    exact k (xs ++ ys) _ p _ Z2 ((f1.trans f2).trans f3) (fd2.made np) upd_same hp0 zp nfp (dps_app h2 h4) hq
/-! ### texts' methods -/
theorem e_isascii {a : Expr} {wa : W} {apos cpos : Pos} (ho : E C a wa) (hbase : attributeBase a "isascii" C.X.env (eval a C.X.env) = eval a C.X.env := by rfl) (hline : (apos.endLine == cpos.line) = true := by rfl) : E C (.Call (.Attribute a "isascii" apos) [] [] cpos) (wM0 (oM0 fun z => .bool (Txt.isascii z)) wa) :=
  e_m0 PySem.F.slot_str_isascii PySem.F.type_str_isascii mt_isascii ho hbase hline
theorem e_isalpha {a : Expr} {wa : W} {apos cpos : Pos} (ho : E C a wa) (hbase : attributeBase a "isalpha" C.X.env (eval a C.X.env) = eval a C.X.env := by rfl) (hline : (apos.endLine == cpos.line) = true := by rfl) : E C (.Call (.Attribute a "isalpha" apos) [] [] cpos) (wM0 (oM0 fun z => .bool (Txt.isalpha z)) wa) :=
  e_m0 PySem.F.slot_str_isalpha PySem.F.type_str_isalpha mt_isalpha ho hbase hline
theorem e_islower {a : Expr} {wa : W} {apos cpos : Pos} (ho : E C a wa) (hbase : attributeBase a "islower" C.X.env (eval a C.X.env) = eval a C.X.env := by rfl) (hline : (apos.endLine == cpos.line) = true := by rfl) : E C (.Call (.Attribute a "islower" apos) [] [] cpos) (wM0 (oM0 fun z => .bool (Txt.islower z)) wa) :=
  e_m0 PySem.F.slot_str_islower PySem.F.type_str_islower mt_islower ho hbase hline
theorem e_isdigit {a : Expr} {wa : W} {apos cpos : Pos} (ho : E C a wa) (hbase : attributeBase a "isdigit" C.X.env (eval a C.X.env) = eval a C.X.env := by rfl) (hline : (apos.endLine == cpos.line) = true := by rfl) : E C (.Call (.Attribute a "isdigit" apos) [] [] cpos) (wM0 (oM0 fun z => .bool (Txt.isdigit z)) wa) :=
  e_m0 PySem.F.slot_str_isdigit PySem.F.type_str_isdigit mt_isdigit ho hbase hline
end
end PL

set_option Elab.async false
set_option linter.all false
set_option maxRecDepth 100000
/-! t[i::-1] -/
namespace PL
open PySem PySem.Spec PyProof.Rows L2
/-- the items of xs[lo::-1] -/
def backD {α : Type} (xs : List α) (lo : Option Int) : List α :=
  (List.range (Builtin.Slice.slicePlaces (Builtin.Slice.sliceAdjust lo none (-1) (xs.length : Int)).1 (-1) (-1))).filterMap fun (k : Nat) => xs[((Builtin.Slice.sliceAdjust lo none (-1) (xs.length : Int)).1 + (k : Int) * (-1)).toNat]?
section
variable {prog : Program} {w : World} {A : Around} {E : Value → Shared → Prop} {s : Shared}
theorem getItem_tuple_back {t sl : Addr} {items : List Value} {vl vu vs : Value} {lo : Option Int} {Q : Value → Shared → Prop} (ht : IsTup s.heap t items.toArray) (hs : s.heap.IsSliceOf sl vl vu vs)
    (pl : IsPart vl lo) (pu : IsPart vu none) (ps : IsPart vs (some (-1)))
    (h : Q (.ref s.heap.objs.size) { s with heap := s.heap.push { cls := .type "tuple", data := .seq (backD items lo).toArray } })
    (hz : (backD items lo).length ≤ sizeLine) : wpAny (model prog w) A (getItem (.ref t) (.ref sl)) Q E s := by
  obtain ⟨os, hos, hcs, hds⟩ := id hs
  have hTs : s.TypeIs (.ref sl) "slice" := ⟨os, hos, hcs⟩
  unfold getItem
  try with_reducible refine wpAny_holding ?_
  first
    | refine wpAny_bind (wpAny_pure ?_)
    | skip
  refine wpAny_bind (wpAny_sequenceKey ht.typeIs (by decide) ?_)
  apply wpAny_bind
  apply wpAny_callSpecial?_slot (name := Str.ofString "__getitem__") ht.typeIs PyProof.Rows.slot_tuple_getitem
  apply wpAny_call_entry PyProof.Rows.slot_tuple_getitem ht.typeIs entry_tuple_getitem _ (args_tuple_getitem _ _)
  show wpAny _ _ (Builtin.Tuple.tupleItemsOf (Value.ref t) >>= _) _ _ s
  apply wpAny_bind
  apply tupleItemsOf_ ht
  apply wpAny_bind
  apply wpAny_typeOf hTs
  rw [if_pos (show ((Value.type "slice" == Value.type "slice") = true) by decide)]
  apply wpAny_bind
  have sz : items.toArray.size = items.length := List.size_toArray
  have applied : ∀ (B : Around) (Q' : Int × Int × Nat → Shared → Prop), Q' ((Builtin.Slice.sliceAdjust lo none (-1) (items.length : Int)).1, -1, Builtin.Slice.slicePlaces (Builtin.Slice.sliceAdjust lo none (-1) (items.length : Int)).1 (-1) (-1)) s →
      wpAny (model prog w) B (Builtin.Slice.sliceApplied (.ref sl) (pure ((items.length : Nat) : Int))) Q' E s := by
    intro B Q' hq
    unfold Builtin.Slice.sliceApplied Builtin.Slice.sliceFields
    apply wpAny_bind
    apply wpAny_bind
    refine wpAny_field hos hds (x := vl) rfl (wpAny_bind ?_)
    refine wpAny_field hos hds (x := vu) rfl (wpAny_bind ?_)
    refine wpAny_field hos hds (x := vs) rfl (wpAny_pure ?_)
    apply wpAny_bind
    apply HT.slicePart_ ps
    show wpAny _ _ (if ((-1 : Int) == 0) = true then _ else _) _ _ s
    rw [if_neg (by decide)]
    apply wpAny_bind
    apply HT.slicePart_ pl
    apply wpAny_bind
    apply HT.slicePart_ pu
    apply wpAny_bind
    apply wpAny_pure
    have e2 : (Builtin.Slice.sliceAdjust lo none (-1) (items.length : Int)).2 = -1 := by
      unfold Builtin.Slice.sliceAdjust
      simp
    show wpAny _ _ (pure ((Builtin.Slice.sliceAdjust lo none (-1) (items.length : Int)).1, (-1 : Int), Builtin.Slice.slicePlaces (Builtin.Slice.sliceAdjust lo none (-1) (items.length : Int)).1 (Builtin.Slice.sliceAdjust lo none (-1) (items.length : Int)).2 (-1))) _ _ s
    rw [e2]
    exact wpAny_pure hq
  rw [sz]
  apply applied
  have hno : ¬ (((Builtin.Slice.sliceAdjust lo none (-1) (items.length : Int)).1 == 0 && (-1 : Int) == 1 && Builtin.Slice.slicePlaces (Builtin.Slice.sliceAdjust lo none (-1) (items.length : Int)).1 (-1) (-1) == items.length) = true) := fun hh => by
    have e : ((-1 : Int) == 1) = false := by decide
    rw [e, Bool.and_false, Bool.false_and] at hh
    cases hh
  show wpAny _ _ (if ((Builtin.Slice.sliceAdjust lo none (-1) (items.length : Int)).1 == 0 && (-1 : Int) == 1 && Builtin.Slice.slicePlaces (Builtin.Slice.sliceAdjust lo none (-1) (items.length : Int)).1 (-1) (-1) == items.length) = true then _ else _) _ _ s
  rw [if_neg hno]
  have pick : (List.filterMap (fun (k : Nat) => items.toArray[((Builtin.Slice.sliceAdjust lo none (-1) (items.length : Int)).1 + (k : Int) * (-1)).toNat]?) (List.range (Builtin.Slice.slicePlaces (Builtin.Slice.sliceAdjust lo none (-1) (items.length : Int)).1 (-1) (-1)))) = backD items lo := by
    unfold backD
    congr 1
    funext k
    rw [List.getElem?_toArray]
  show wpAny _ _ (Builtin.Tuple.tupleExact (List.filterMap (fun (k : Nat) => items.toArray[((Builtin.Slice.sliceAdjust lo none (-1) (items.length : Int)).1 + (k : Int) * (-1)).toNat]?) (List.range (Builtin.Slice.slicePlaces (Builtin.Slice.sliceAdjust lo none (-1) (items.length : Int)).1 (-1) (-1)))).toArray >>= _) _ _ s
  rw [pick]
  have room : sizeOk (.seq (backD items lo).toArray) := by
    show (backD items lo).toArray.size ≤ sizeLine
    rw [List.size_toArray]; exact hz
  refine wpAny_bind (m := Builtin.Tuple.tupleExact _) (wpAny_newObj_type ?_ room)
  exact wpAny_pure ⟨_, rfl, wpAny_pure h⟩
end
/-! ### over plain data -/
theorem back_rev {α : Type} (xs : List α) : backD xs none = xs.reverse := by
  have e1 : (Builtin.Slice.sliceAdjust none none (-1) (xs.length : Int)).1 = (xs.length : Int) - 1 := by unfold Builtin.Slice.sliceAdjust; simp
  have e2 : Builtin.Slice.slicePlaces ((xs.length : Int) - 1) (-1) (-1) = xs.length := by
    unfold Builtin.Slice.slicePlaces
    rw [if_neg (by omega)]
    split
    · simp
    · omega
  unfold backD
  rw [e1, e2]
  apply List.ext_getElem?
  intro i
  have all : ∀ n, n ≤ xs.length → (List.range n).filterMap (fun (k : Nat) => xs[((xs.length : Int) - 1 + (k : Int) * (-1)).toNat]?) = (xs.reverse).take n := by
    intro n
    induction n with
    | zero => intro _; simp
    | succ n ih =>
      intro h
      rw [List.range_succ, List.filterMap_append, ih (by omega), List.take_add_one]
      congr 1
      have e : ((xs.length : Int) - 1 + (n : Int) * (-1)).toNat = xs.length - 1 - n := by omega
      have e3 : xs.reverse[n]? = xs[xs.length - 1 - n]? := by rw [List.getElem?_reverse (by omega)]
      simp only [List.filterMap_cons, List.filterMap_nil, e, e3]
      rw [List.getElem?_eq_getElem (show xs.length - 1 - n < xs.length by omega)]
      rfl
  rw [all xs.length (Nat.le_refl _), ← List.length_reverse, List.take_length]
theorem dps_filterMap {Z : Hp} {vs : List V} {ds : List D} (h : Dqs Z vs ds) (f : Nat → Nat) : ∀ ks : List Nat, Dqs Z (ks.filterMap fun k => vs[f k]?) (ks.filterMap fun k => ds[f k]?)
  | [] => .nil
  | k :: ks => by
    have ih := dps_filterMap h f ks
    cases e : ds[f k]? with
    | none =>
      have e' : vs[f k]? = none := by
        cases q : vs[f k]? with
        | none => rfl
        | some v =>
          obtain ⟨d, h1, _⟩ := dps_get' h q
          rw [h1] at e; cases e
      simp only [List.filterMap_cons, e, e']
      exact ih
    | some d =>
      obtain ⟨v, h1, h2⟩ := dps_get h e
      simp only [List.filterMap_cons, e, h1]
      exact .cons h2 ih
theorem dps_back {Z : Hp} {vs : List V} {ds : List D} (h : Dqs Z vs ds) (lo : Option Int) : Dqs Z (backD vs lo) (backD ds lo) := by
  unfold backD
  rw [dps_len h]
  exact dps_filterMap h (fun k => ((Builtin.Slice.sliceAdjust lo none (-1) (ds.length : Int)).1 + (k : Int) * (-1)).toNat) _
section
variable {C : Cp}
def wRev (w : W) : W := fun ρ q e => w ρ (fun s => ∃ xs, s = .dat (.tuple xs) ∧ xs.length ≤ sizeLine ∧ q (.dat (.tuple xs.reverse))) e
theorem Vals.back {xs : List V} {us : List Value} (r : Vals xs us) (lo : Option Int) : Vals (backD xs lo) (backD us lo) := by
  unfold backD
  rw [r.length]
  have go : ∀ (ks : List Nat) (f : Nat → Nat), Vals (ks.filterMap fun k => xs[f k]?) (ks.filterMap fun k => us[f k]?) := by
    intro ks f
    induction ks with
    | nil => exact .nil
    | cons k ks ih =>
      cases e : xs[f k]? with
      | none =>
        have e' := r.none_of e
        simp only [List.filterMap_cons, e, e']
        exact ih
      | some v =>
        obtain ⟨u, h1, h2⟩ := r.get e
        simp only [List.filterMap_cons, e, h1]
        exact .cons h2 ih
  exact go _ fun k => ((Builtin.Slice.sliceAdjust lo none (-1) (us.length : Int)).1 + (k : Int) * (-1)).toNat
theorem e_rev {e : Expr} {w : W} {k : Nat} {p1 p2 p3 pos : Pos} (he : E C e w) : E C (.Subscript e (.Slice none none (some (.UnaryOp .USub (.Constant (.int 1) k p1) p2)) p3) pos) (wRev w) := by
  constructor
  intro pins s σ H Q I ⟨Z, ρ, q, ex, st, hw, kt, ke⟩
  have step := he.run pins s σ H (fun x H1 => ∃ Z1 xs, Fr C.F H Z H1 Z1 ∧ FeedOk C.F H1 ∧ Dq Z1 x (.tuple xs) ∧ xs.length ≤ sizeLine ∧ q (.dat (.tuple xs.reverse))) I
    ⟨Z, ρ, _, ex, st, hw, fun y v H' Z' f fd sv ⟨xs, e1, hl, hq⟩ => by subst e1; exact ⟨Z', xs, f, fd, sv, hl, hq⟩, ke⟩
  refine Subscript_ (thn step fun v s1 ⟨x, H1, I1, r1, Z1, ds, f, fd, dq, hl, hq⟩ => ?_)
  cases dq with
  | @tup a vs _ h1 h2 =>
  cases r1
  have one : PO C.X (some (.UnaryOp .USub (.Constant (.int 1) k p1) p2)) (tPart (tUn (rU fun i => .int (-i)) (tC (.int 1)))) := po_some (pe_un un_neg pe_int)
  apply wpAny_Slice
  refine thn (po_none.run pins s1 σ H1 (fun o H2 => o = none ∧ H2 = H1) I1 ⟨rfl, rfl⟩) ?_
  rintro vl s2 ⟨l, H2, I2, pl, rfl, rfl⟩
  refine thn (po_none.run pins s2 σ H2 (fun o H3 => o = none ∧ H3 = H2) I2 ⟨rfl, rfl⟩) ?_
  rintro vu s3 ⟨u, H3, I3, pu, rfl, rfl⟩
  refine thn (one.run pins s3 σ H3 (fun o H4 => o = some (-1) ∧ H4 = H3) I3 ⟨1, rfl, -1, rfl, rfl, rfl⟩) ?_
  rintro vst s4 ⟨o, H4, I4, ps, rfl, rfl⟩
  have I5 : Inv C.X pins σ H4 { s4 with heap := s4.heap.push { cls := .type "slice", data := .fields #[vl, vu, vst] } } := I4.kept (t' := s4.toks) fun b ob q => Heap.get?_push_of_some _ q
  obtain ⟨its, r, ht, hz⟩ := I5.tuple (SqT.of (f.zh _ _ h1))
  have hlen := r.length
  have hdl := dps_len h2
  have e1 : backD its none = its.reverse := back_rev its
  refine tail_any (ops := [.ref a, .ref s4.heap.objs.size]) ht.typeIs PyProof.Rows.slot_tuple_getitem.lookup ?_ (by with_unfolding_all rfl)
  refine getItem_tuple_back ht (Heap.IsSliceOf.new _ vl vu vst) pl pu ps ?_ (by rw [e1, List.length_reverse]; omega)
  have np := I5.hok.fresh (Nat.le_refl _)
  refine ⟨.ref _, _, I5.laid (t' := s4.toks) (o := .tup vs.reverse) (fun b ob q => Heap.get?_push_of_some _ q) (Nat.le_refl _) ?_, rfl, (kt.next f).tup (Fr.refl f.zh f.notF) fd np (dps_rev h2) hq⟩
  refine ⟨by rw [List.length_reverse]; omega, its.reverse, ?_, by rw [e1]; exact IsTup.new _ _⟩
  have vb := Vals.back r none
  rw [back_rev, back_rev] at vb
  exact vb
end
end PL

set_option Elab.async false
set_option linter.all false
set_option maxRecDepth 100000
/-! sets of texts: made of a list, sorted -/
namespace PL
open PySem PySem.Spec PyProof.Rows L2
section
variable {P : Program} {w : World} {A : Around} {E : Value → Shared → Prop} {s : Shared}
/-- at a stands a set that holds just the texts l -/
structure SOk (P : Program) (w : World) (h : Heap) (a : Addr) (l : List Str) : Prop where
  nd : l.Nodup
  few : l.length + 1 < scanBound
  ex : ∃ D : Froz.SD, h.get? a = some (Froz.sObj "set" D) ∧ Froz.TxOk P w D l ∧ Ris D.2.2.place.toList ∧ (w.params.followText "set-order" = true ∨ D.2.2.led = true)
theorem SOk.same {h h' : Heap} {a : Addr} {l : List Str} (x : SOk P w h a l) (k : ∀ o, h.get? a = some o → h'.get? a = some o) : SOk P w h' a l :=
  ⟨x.nd, x.few, let ⟨D, h1, r⟩ := x.ex; ⟨D, k _ h1, r⟩⟩
theorem tail_more {ep : Nat} {es1 : Array (Int × Value)} {t2 : SetTable} {wd : Bool} (hr : Ris t2.place.toList) (hl : w.params.followText "set-order" = true ∨ t2.led = true) :
    Ris (Froz.tailTx ep es1 t2 wd).2.2.place.toList ∧ (w.params.followText "set-order" = true ∨ (Froz.tailTx ep es1 t2 wd).2.2.led = true) := by
  unfold Froz.tailTx
  split
  · exact ⟨relayAll_ris t2 es1 _, hl.imp id fun z => by show (relayAll t2 es1 _).2.1.led = true; rw [relayAll_led]; exact z⟩
  · exact ⟨hr, hl⟩
theorem add_more {D : Froz.SD} {h : Int} {v : Value} (hr : Ris D.2.2.place.toList) (hl : w.params.followText "set-order" = true ∨ D.2.2.led = true) :
    Ris (Froz.addTx h v D).2.2.place.toList ∧ (w.params.followText "set-order" = true ∨ (Froz.addTx h v D).2.2.led = true) := by
  have r1 := layNew_ris D.2.2 D.1 h v hr
  have l1 := layNew_led D.2.2 D.1 h v
  unfold Froz.addTx
  refine tail_more ?_ ?_
  · split
    · exact r1
    · exact r1
  · refine hl.imp id fun z => ?_
    split
    · show (layNew D.2.2 D.1 h v).2.1.led = true
      rw [l1]; exact z
    · rw [l1]; exact z
/-- one text more -/
theorem set_add_str {a : Addr} {l : List Str} {k : Str} {u : Tok} {Q : Bool → Shared → Prop} (x : SOk P w s.heap a l) (room : l.length + 2 < scanBound)
    (h : ∀ b h' l', Heap.SameBut a s.heap h' → SOk P w h' a l' → (∀ y, y ∈ l' ↔ y ∈ l ∨ y = k) → l'.length ≤ l.length + 1 → Q b { s with heap := h' }) :
    wpAny (model P w) A (setAddHashed a (.str k u) (hashStr w k)) Q E s := by
  obtain ⟨D, ho, F, hr, hl⟩ := x.ex
  by_cases hk : k ∈ l
  · obtain ⟨es, ep, t⟩ := D
    have hd : (Froz.sObj "set" (es, ep, t)).data = .set es ep t := rfl
    have hkey : (strKind P w).is k (.str k u) = true := Froz.is_str k u
    have hb0 : es.size < scanBound := by have e1 : es.size = l.length := F.sz; omega
    have q := h false s.heap l (Heap.SameBut.refl a s.heap) x (fun y => ⟨.inl, fun z => z.elim id fun e => e ▸ hk⟩) (by omega)
    obtain ⟨e0, he0, hp0⟩ := (F.mem k).mp hk
    unfold setAddHashed setAddHashedIn
    apply wpAny_holding
    apply wpAny_bind
    apply wpAny_setState_of ho hd F.fit
    dsimp only
    rw [byScan_of (x := Value.str k u) rfl hb0 F.el]
    simp only [↓reduceIte]
    unfold setAddByScan
    apply wpAny_bind
    apply wpAny_bind
    apply wpAny_rule
    apply wpAny_bind
    apply wpAny_setScan_of (knd := strKind P w) (k := k) hkey ho hd F.fit F.el
    cases hfi : List.findIdx? (fun e => (strKind P w).is k e.2) es.toList with
    | none => exact absurd hp0 (by rw [List.findIdx?_eq_none_iff.mp hfi e0 he0]; exact Bool.false_ne_true)
    | some j => exact wpAny_pure (wpAny_pure q)
  · refine Froz.add_x ho F hk (by omega) ?_
    have more := add_more (h := hashStr w k) (v := .str k u) hr hl
    refine h true _ (k :: l) (Heap.SameBut.update s.heap a _) ⟨List.nodup_cons.mpr ⟨hk, x.nd⟩, by simpa using room, _, Froz.get_upd _ ho rfl, Froz.add_ok u F, more.1, more.2⟩ (fun y => ?_) (by simp)
    rw [List.mem_cons]
    exact Or.comm
end
end PL

set_option Elab.async false
set_option linter.all false
set_option maxRecDepth 100000
/-! set(a list of texts) -/
namespace PL
open PySem PySem.Spec PyProof.Rows L2
section
variable {P : Program} {w : World} {A : Around} {E : Value → Shared → Prop} {s : Shared}
/-- what a list of texts is walked into -/
theorem set_upd_strs {I S : Addr} {fp wr : List Addr} {G : Array GenState → Array GenState → Prop} {n : Nat} {Pv : Nat → Value → Prop} {St : Nat → Shared → Prop} {R : Result → Shared → Prop} (walk : WalksS P w A.in1 I fp wr G n Pv St) (off : S ∉ fp)
    (zs : List Str) (hn : n = zs.length) (few : zs.length + 3 < scanBound) (val : ∀ i v, Pv i v → ∃ z u, zs[i]? = some z ∧ v = .str z u) :
    ∀ (k i : Nat) (s : Shared) (l : List Str), n - i = k → i ≤ n → St i s → SOk P w s.heap S l → l.length ≤ i → (∀ y, y ∈ l ↔ y ∈ zs.take i) →
      (∀ s' l', Moved (S :: wr) G s s' → SOk P w s'.heap S l' → (∀ y, y ∈ l' ↔ y ∈ zs) → R (.ok (.ret .none)) s') → codeAny (model P w) A (.builtin "set.update.loop" ⟨[.ref S, .ref I], []⟩) R s := by
  have offw : S ∉ wr := fun z => off (walk.sub _ z)
  intro k
  induction k with
  | zero =>
    intro i s l e1 e2 st ok len mem fin
    obtain rfl : i = n := by omega
    apply codeAny_builtin PyProof.Rows.F.entry_set_update_loop
    rw [Around.under_plainId PyProof.Rows.F.plain_set_update_loop _]
    show wpAny (model P w) A.in1 (pyNext (Value.ref I) >>= _) _ _ s
    apply wpAny_bind
    apply walk.done s _ _ st
    intro s' mv
    apply wpAny_pure
    refine fin s' l ⟨fun b o hb e => mv.heap b o (fun z => hb (List.mem_cons_of_mem _ z)) e, mv.gens, mv.drawn, mv.os, mv.toks⟩ (ok.same fun o e => mv.heap S o offw e) fun y => ?_
    rw [mem y, hn, List.take_length]
  | succ k ih =>
    intro i s l e1 e2 st ok len mem fin
    have lt : i < n := by omega
    apply codeAny_builtin PyProof.Rows.F.entry_set_update_loop
    rw [Around.under_plainId PyProof.Rows.F.plain_set_update_loop _]
    show wpAny (model P w) A.in1 (pyNext (Value.ref I) >>= _) _ _ s
    apply wpAny_bind
    apply walk.item i s _ _ lt st
    intro v s1 pv st1 mv
    obtain ⟨z, u, hz, rfl⟩ := val i v pv
    have ok1 : SOk P w s1.heap S l := ok.same fun o e => mv.heap S o offw e
    show wpAny (model P w) A.in1 (holding [Value.str z u] (setAdd S (Value.str z u)) >>= _) _ _ s1
    apply wpAny_bind
    apply wpAny_holding
    unfold setAdd
    apply wpAny_holding
    apply wpAny_bind
    apply (strKind P w).pyHash (k := z) (Froz.is_str _ _)
    apply set_add_str (s := { s1 with toks := s1.toks + 1 }) ok1 (by omega)
    intro b h' l' sb ok2 mem2 len2
    apply wpAny_pure
    refine ⟨plainId_quiet PyProof.Rows.F.plain_set_update_loop _, ?_⟩
    refine ih (i + 1) _ l' (by omega) lt (walk.frame _ s1 _ _ st1 (Nat.le_add_right _ _) fun b hb o e => ?_) ok2 (by omega) (fun y => ?_) fun s2 l2 mv2 ok3 mem3 => ?_
    · rw [sb.2 b (fun z => off (z ▸ hb))]; exact e
    · rw [mem2 y, mem y, List.take_add_one, hz]
      simp
    · refine fin s2 l2 ⟨fun b o hb e => ?_, walk.gtrans _ _ _ mv.gens mv2.gens, mv2.drawn.trans mv.drawn, mv2.os.trans mv.os, Nat.le_trans mv.toks (Nat.le_trans (Nat.le_succ _) mv2.toks)⟩ ok3 mem3
      have h1 := mv.heap b o (fun z => hb (List.mem_cons_of_mem _ z)) e
      refine mv2.heap b o hb ?_
      exact (sb.2 b fun z => hb (by rw [z]; exact List.mem_cons_self)).trans h1
abbrev set0 (w : World) : Obj := { cls := .type "set", dict := none, data := .set #[] 0 (.fresh 0 0 (!w.params.followText "set-order")) }
theorem sok_new {h : Heap} {a : Addr} (e : h.get? a = some (set0 w)) : SOk P w h a [] := by
  refine ⟨List.nodup_nil, by decide, (#[], 0, .fresh 0 0 (!w.params.followText "set-order")), e, Froz.TxOk.nil (by rfl), List.Pairwise.nil, ?_⟩
  show _ ∨ (!w.params.followText "set-order") = true
  cases w.params.followText "set-order"
  · exact Or.inr rfl
  · exact Or.inl rfl
set_option maxHeartbeats 3200000 in
/-- set(xs) -/
theorem call_set_strs {l : Addr} {items : Array Value} (zs : List Str) {Q : Value → Shared → Prop} (calm : A.handled = none) (hl : s.heap.IsList l items) (hit : ∀ (i : Nat) (v : Value), items[i]? = some v → ∃ z u, zs[i]? = some z ∧ v = Value.str z u) (hsz : items.size = zs.length) (few : zs.length + 3 < scanBound)
    (h : ∀ (h' : Heap) (tk : Nat) (l' : List Str), SOk P w h' s.heap.objs.size l' → (∀ y, y ∈ l' ↔ y ∈ zs) → (∀ b o, s.heap.get? b = some o → h'.get? b = some o) → Q (.ref s.heap.objs.size) { s with heap := h', toks := tk }) :
    wpAny (model P w) A (call (.type "set") [.ref l]) Q E s := by
  obtain ⟨c, tl, m1⟩ := F.called_set.mro
  have m2 := F.called_set.made; have m3 := F.called_set.sub; have m4 := F.called_set.notType; have m5 := F.called_set.canCreate
  have m6 := F.typeCall_set_1 (.ref l)
  apply wpAny_call
  apply codeAny_of_tree
  show wpAny _ _ (callAny (Value.type "set") _) _ _ _
  refine wpAny_pure ⟨Code.quiet_builtin _ (by decide +kernel), ?_⟩
  apply codeAny_builtin F.entry_type_call
  rw [Around.under_plain (weight_type_call_type "set" [.ref l] []) rfl]
  repeat (any_goals (first | assumption | wp_step))
  have born := code_set_led1 (P := P) (w := w) (A := A.in1) (s := s) (.ref l) (E := E) (Q₁ := fun obj s₁ => obj = .ref s.heap.objs.size ∧ s₁ = { s with heap := s.heap.push (set0 w) }) ⟨rfl, rfl⟩
  refine codeAny_mono born ?_
  rintro (e | fl) s₁ hr
  · exact hr
  cases fl with
  | ret obj =>
    obtain ⟨rfl, rfl⟩ := hr
    have at0 : (s.heap.push (set0 w)).get? s.heap.objs.size = some (set0 w) := Heap.get?_push_size _ rfl
    have ty0 : Shared.TypeIs { s with heap := s.heap.push (set0 w) } (.ref s.heap.objs.size) "set" := ⟨_, at0, rfl⟩
    have n1 := F.called_set.init.lookup; have n2 := F.called_set.init.bind (.ref s.heap.objs.size)
    repeat (any_goals (first | assumption | wp_step))
    refine codeAny_mono (codeAny_call_builtin (R := wants (fun r s₂ => r = .none ∧ ∃ h' tk l', s₂ = { s with heap := h', toks := tk } ∧ SOk P w h' s.heap.objs.size l' ∧ (∀ y, y ∈ l' ↔ y ∈ zs) ∧ (∀ b o, s.heap.get? b = some o → h'.get? b = some o)) E)
      F.called_set.init.plain F.entry_set_init (check_set_init_1 ty0 ?_)) ?_
    · obtain ⟨ol, ho, hc, nl, hdt⟩ := id hl
      obtain ⟨ocls, odict, odata, oslots⟩ := ol
      simp only at hc hdt
      subst hc; subst hdt
      have ho' : (s.heap.push (set0 w)).get? l = some { cls := .type "list", dict := odict, data := .seq items nl, slots := oslots } := Heap.get?_push_of_some _ ho
      have q1 := F.sub_list_set; have q2 := F.sub_list_frozenset
      have q3 : (Value.type "list" == Value.type "dict") = false := by decide
      have hl1 : (s.heap.push (set0 w)).IsList l items := ⟨_, ho', rfl, nl, rfl⟩
      have below : l < s.heap.objs.size := Heap.lt_size ho
      have size1 : (s.heap.push (set0 w)).objs.size = s.heap.objs.size + 1 := Heap.size_push ..
      unfold Builtin.«set.__init__» noKeywords Builtin.Frozenset.updateFrom
      generalize hPI : pyIter = PI
      wp_walk
      subst hPI
      apply wpAny_pyIter_list hl1
      apply wpAny_bind
      apply wpAny_runValue
      have calm3 : A.in1.in1.in1.handled = none := by simp [calm]
      have apart : l ≠ (s.heap.push (set0 w)).objs.size := by rw [size1]; exact Nat.ne_of_lt (Nat.lt_succ_of_lt below)
      have away : s.heap.objs.size ∉ [(s.heap.push (set0 w)).objs.size, l] := by
        rw [size1]
        simp only [List.mem_cons, List.not_mem_nil, or_false, not_or]
        exact ⟨Nat.ne_of_lt (Nat.lt_succ_self _), Nat.ne_of_gt below⟩
      refine set_upd_strs (Walks.list calm3 _ l apart items).toS away zs hsz few hit (items.size - 0) 0 _ [] rfl (Nat.zero_le _) ⟨⟨_, Heap.get?_push_size _ rfl, rfl, rfl⟩, hl1.push _⟩ ?ok (Nat.le_refl _) (by simp) ?fin
      case ok => exact sok_new (Heap.get?_push_of_some _ at0)
      case fin =>
        intro s' l' mv ok mem
        obtain ⟨h', g', d', tk', os'⟩ := s'
        obtain rfl : g' = s.gens := mv.gens
        obtain rfl : d' = s.drawn := mv.drawn
        obtain rfl : os' = s.os := mv.os
        refine wpAny_pure (wpAny_pure ⟨rfl, h', tk', l', rfl, ok, mem, fun b o e => ?_⟩)
        have lt := Heap.lt_size e
        refine mv.heap b o ?_ (Heap.get?_push_of_some _ (Heap.get?_push_of_some _ e))
        intro m
        simp only [List.mem_cons, List.mem_singleton, List.not_mem_nil, or_false] at m
        rw [size1] at m
        rcases m with m | m
        · exact absurd (m ▸ lt) (Nat.lt_irrefl _)
        · exact absurd (m ▸ lt) (Nat.not_lt_of_le (Nat.le_succ _))
    · rintro (e | fl) s₂ hr
      · exact hr
      cases fl with
      | ret r =>
        obtain ⟨rfl, h', tk, l', rfl, ok, mem, kp⟩ := hr
        repeat (any_goals (first | assumption | wp_step))
        exact h _ _ _ ok mem kp
      | next => exact hr.elim
      | brk => exact hr.elim
      | cont => exact hr.elim
  | next => exact hr.elim
  | brk => exact hr.elim
  | cont => exact hr.elim
end
end PL

set_option Elab.async false
set_option linter.all false
set_option maxRecDepth 100000
/-! sorted(set(texts)) -/
namespace PL
open PySem PySem.Spec PyProof.Rows L2
section
variable {P : Program} {w : World} {A : Around} {E : Value → Shared → Prop} {s : Shared}
theorem strs_of : ∀ (vs : List Value), (∀ v ∈ vs, ∃ k u, v = Value.str k u) → ∃ ss, StrsAre vs ss ∧ ∀ k, k ∈ ss ↔ ∃ u, Value.str k u ∈ vs
  | [], _ => ⟨[], .nil, fun k => by simp⟩
  | v :: vs, h => by
    obtain ⟨k, u, rfl⟩ := h v List.mem_cons_self
    obtain ⟨ss, h1, h2⟩ := strs_of vs fun x hx => h x (List.mem_cons_of_mem _ hx)
    refine ⟨k :: ss, .cons k u h1, fun k' => ?_⟩
    rw [List.mem_cons, h2 k']
    constructor
    · rintro (e | ⟨u', hu⟩)
      · exact ⟨u, by rw [e]; exact List.mem_cons_self⟩
      · exact ⟨u', List.mem_cons_of_mem _ hu⟩
    · rintro ⟨u', hu⟩
      rcases List.mem_cons.mp hu with e | e
      · injection e with e1 _
        exact .inl e1
      · exact .inr ⟨u', e⟩
theorem strs_len {vs : List Value} {ss : List Str} (h : StrsAre vs ss) : vs.length = ss.length := by
  induction h with
  | nil => rfl
  | cons y t _ ih => simp [ih]
theorem perm_of_len : ∀ (l ys : List Str), l.Nodup → (∀ x ∈ l, x ∈ ys) → ys.length = l.length → ys.Perm l
  | [], ys, _, _, e => by
    have : ys = [] := List.eq_nil_of_length_eq_zero e
    rw [this]
  | a :: l, ys, nd, sub, e => by
    obtain ⟨na, nd'⟩ := List.nodup_cons.mp nd
    have ha := sub a List.mem_cons_self
    have p1 : ys.Perm (a :: ys.erase a) := List.perm_cons_erase ha
    have ih := perm_of_len l (ys.erase a) nd' (fun x hx => (List.mem_erase_of_ne (fun z : x = a => na (by rw [← z]; exact hx))).mpr (sub x (List.mem_cons_of_mem _ hx))) (by rw [List.length_erase_of_mem ha, e]; simp)
    exact p1.trans (ih.cons a)
/-- sorted(a set of texts) -/
theorem sorted_setS {a : Addr} {l : List Str} {Q : Value → Shared → Prop} (x : SOk P w s.heap a l) (calm : A.handled = none)
    (h : ∀ s' p (out : Array Value) (c : Nat) (ys : List Str), (∀ b o, s.heap.get? b = some o → s'.heap.get? b = some o) → s'.gens = s.gens → s'.os = s.os → s.heap.objs.size ≤ p →
      s'.heap.get? p = some (seqObj "list" out c) → StrsAre out.toList ys → (∀ y, y ∈ ys ↔ y ∈ l) → ys.length = l.length → sortedS ys = true → Q (.ref p) s') :
    wpAny (model P w) A (call (.builtin "sorted") [.ref a]) Q E s := by
  obtain ⟨⟨es, ep, t⟩, ho, F, hr, hl⟩ := x.ex
  have few := x.few
  have sz : es.size = l.length := F.sz
  apply Calls.call_function_entry kind_sorted plain_sorted entry_sorted (args_sorted1 _)
  unfold Builtin.«sorted»
  apply wpAny_bind (m := checkCount "sorted" 1 1 _)
  apply wpAny_pure
  apply wpAny_bind
  apply collect_set (A := A.in1) calm ⟨_, ho, rfl, rfl⟩ F.fit (show es.size < scanBound by omega) hr hl
  intro s1 vs k1 hz g1 o1 pm
  have allS : ∀ v ∈ vs, ∃ k u, v = Value.str k u := fun v hv => by
    obtain ⟨e, he, rfl⟩ := List.mem_map.mp (pm.mem_iff.mp hv)
    obtain ⟨⟨k, hk, _⟩, _⟩ := F.el e he
    obtain ⟨u, eu⟩ := Value.isStrOf_shape (x := k) (v := e.2) hk
    exact ⟨k, u, eu⟩
  obtain ⟨ss, hS, mem⟩ := strs_of vs allS
  have vl : vs.length = l.length := by rw [pm.length_eq, List.length_map, Array.length_toList, sz]
  have memL : ∀ y, y ∈ ss ↔ y ∈ l := fun y => by
    rw [mem y, F.mem y]
    constructor
    · rintro ⟨u, hu⟩
      obtain ⟨e, he, ee⟩ := List.mem_map.mp (pm.mem_iff.mp hu)
      exact ⟨e, he, by rw [ee]; exact Froz.is_str y u⟩
    · rintro ⟨e, he, q⟩
      obtain ⟨u, eu⟩ := Value.isStrOf_shape (x := y) (v := e.2) q
      exact ⟨u, pm.mem_iff.mpr (List.mem_map.mpr ⟨e, he, eu⟩)⟩
  have lim : vs.length ≤ sizeLine := by
    have e1 : scanBound = 4096 := rfl
    rw [sizeLine_eq]; omega
  apply wpAny_bind
  apply wpAny_newList _ lim
  have hoL : (s1.heap.push (seqObj "list" vs.toArray 0)).get? s1.heap.objs.size = some (seqObj "list" vs.toArray 0) := Heap.get?_push_size _ rfl
  apply wpAny_bind
  apply wpAny_holding
  refine wpAny_call_entry slot_list_sort ⟨_, hoL, rfl⟩ entry_list_sort (list_sort_treeKAny strKind_oneLt hoL hS.keysOf (fun v₁ v₂ rest e => keyKind_strs (by rw [← e]; exact hS)) lim ?_) (args_list_sort _)
  intro st' hp hs
  obtain ⟨ys, y1, y2, y3⟩ := sorted_out_str hS hp hs
  refine ⟨_, rfl, wpAny_pure ⟨_, rfl, ?_⟩⟩
  obtain ⟨c, hc⟩ := sortedHeap_at (vs := vs) (out := (arrOf st').map (·.2)) hoL
  refine h _ s1.heap.objs.size _ c ys (fun b u e => ?_) g1 o1 hz hc y1 (fun y => (y2.mem_iff).trans (memL y)) (by rw [y2.length_eq, ← strs_len hS, vl]) y3
  have q := k1 b u e
  have lt := Heap.lt_size q
  show (sortedHeap (s1.heap.push (seqObj "list" vs.toArray 0)) s1.heap.objs.size vs _).get? b = some u
  rw [sortedHeap_old (Nat.ne_of_lt lt) (by rw [size_push']; exact Nat.lt_succ_of_lt lt)]
  exact Heap.get?_push_of_some _ q
end
section
variable {X : Cx}
/-- a set of texts, tracked -/
def SetS (P : Program) (w : World) (a : Addr) (l : List Str) : HO := .ext fun h => SOk P w h a l
theorem setS_new {P : Program} {w : World} {H : Hp} {h : Heap} {a : Addr} {l : List Str} (x : SOk P w h a l) : ObjOk P w H h a (SetS P w a l) :=
  ⟨x, let ⟨D, e, _⟩ := x.ex; ⟨_, e⟩, fun h1 h2 y k => SOk.same y k⟩
theorem cr_setS (hc : X.calm = true) : CallR X (.type "set") (fun xs H Q => ∃ (l : Addr) (zs : List Str), xs = [.ref l] ∧ SqL X.K H l (zs.map V.str) ∧ zs.length + 3 < scanBound ∧
    ∀ p l', H p = none → (∀ y, y ∈ l' ↔ y ∈ zs) → l'.Nodup → Q (.ref p) (upd H p (SetS X.prog X.w p l'))) := by
  intro pins s σ H xs us Q I r ⟨l, zs, e, hl, few, q⟩
  subst e
  obtain ⟨its, rv, pl, _⟩ := I.list hl
  rw [Vals.ref1 r]
  have len := rv.length
  rw [List.length_map] at len
  have get : ∀ (i : Nat) (v : Value), its.toArray[i]? = some v → ∃ z u, zs[i]? = some z ∧ v = Value.str z u := fun i v hv => by
    have hv' : its[i]? = some v := by simpa using hv
    cases e : zs[i]? with
    | none =>
      have : its[i]? = none := rv.none_of (by rw [List.getElem?_map, e]; rfl)
      rw [this] at hv'; cases hv'
    | some z =>
      obtain ⟨u, e1, e2⟩ := rv.get (i := i) (x := V.str z) (by rw [List.getElem?_map, e]; rfl)
      rw [e1] at hv'
      cases hv'
      obtain ⟨t, e3⟩ := e2
      exact ⟨z, t, rfl, e3⟩
  refine call_set_strs zs (I.ok.hd hc) pl.isList get (by rw [List.size_toArray]; exact len.symm) few fun h' tk l' ok mem kp => ?_
  have np : H s.heap.objs.size = none := I.hok.fresh (Nat.le_refl _)
  exact ⟨.ref _, _, I.laid (t' := tk) (o := SetS X.prog X.w s.heap.objs.size l') kp (Nat.le_refl _) (setS_new ok), rfl, q _ l' np mem ok.nd⟩
theorem vals_strs : ∀ {vs : List Value} {ss : List Str}, StrsAre vs ss → Vals (ss.map V.str) vs
  | _, _, .nil => .nil
  | _, _, .cons y t h => .cons ⟨t, rfl⟩ (vals_strs h)
theorem cr_sortedSetS (hc : X.calm = true) : CallR X (.builtin "sorted") (fun xs H Q => ∃ (a : Addr) (l : List Str), xs = [.ref a] ∧ H a = some (SetS X.prog X.w a l) ∧
    ∀ p ys, H p = none → (∀ y, y ∈ ys ↔ y ∈ l) → ys.length = l.length → sortedS ys = true → Q (.ref p) (upd H p (.lst (ys.map V.str)))) := by
  intro pins s σ H xs us Q I r ⟨a, l, e, ha, q⟩
  subst e
  rw [Vals.ref1 r]
  have x : SOk X.prog X.w s.heap a l := (I.hok a _ ha).1
  refine sorted_setS x (I.ok.hd hc) fun s' p out c ys kp g o hp at' hs mem len srt => ?_
  have np : H p = none := I.hok.fresh hp
  have lim : (ys.map V.str).length ≤ sizeLine := by
    have e1 : scanBound = 4096 := rfl
    have := x.few
    rw [List.length_map, sizeLine_eq]; omega
  have J : Inv X pins σ (upd H p (.lst (ys.map V.str))) s' := by
    refine I.call' (ch := []) o (Un.laid kp hp np) (I.hok.laid kp hp ⟨lim, out.toList, c, vals_strs hs, at'⟩) (by rw [g]; exact I.bare) (fun _ z => nomatch z)
  exact ⟨.ref p, _, J, rfl, q p ys np mem len srt⟩
end
section
variable {C : Cp}
/-- sorted(set(texts)) -/
def wSrtSet (w : W) : W := fun ρ q e => w ρ (fun s => ∃ zs : List Str, s.lst = some (zs.map PyData.str) ∧ zs.length + 3 < scanBound ∧
  ∀ ys : List Str, (∀ y, y ∈ ys ↔ y ∈ zs) → ys.Nodup → sortedS ys = true → q (.dat (.list (ys.map PyData.str)))) e
theorem e_srtSet {a : Expr} {w : W} {p1 p2 c1 c2 : Pos} (hc : C.X.calm = true) (hu : C.X.A.units + 64 < cLine) (hg1 : Gl C.X "sorted") (hm1 : C.X.mg "sorted" = none) (hg2 : Gl C.X "set") (hm2 : C.X.mg "set" = none) (ha : E C a w)
    (hs1 : starEach [a] C.X.env = (false, eval a C.X.env) :: starEach [] C.X.env := by rfl) (hp1 : (backTo c2 (starEach [] C.X.env)).any (·.1) = false := by rfl)
    (hs2 : starEach [.Call (.Name "set" p2) [a] [] c2] C.X.env = (false, eval (.Call (.Name "set" p2) [a] [] c2) C.X.env) :: starEach [] C.X.env := by rfl) (hp2 : (backTo c1 (starEach [] C.X.env)).any (·.1) = false := by rfl) :
    E C (.Call (.Name "sorted" p1) [.Call (.Name "set" p2) [a] [] c2] [] c1) (wSrtSet w) := by
  refine weakE (pe_callB (cr_sortedSetS hc) hg1 hm1 (by decide +kernel) (pa_cons (pe_callTy (cr_setS hc) hg2 hm2 (by decide +kernel) (pa_cons ha pa_nil hs1) (by decide) (by decide) hs1 hp1) pa_nil hs2) (by decide) (by decide) hs2 hp2) ?_
  rintro σ H Q ⟨Z, ρ, q, ex, st, hw, k, ke⟩
  refine ⟨Z, ρ, _, ex, st, hw, ?_, ke⟩
  rintro s v H1 Z1 f1 fd1 sv ⟨zs, e1, few, hq⟩
  obtain ⟨b, ws, rfl, h1, h2⟩ := sv.lst f1.zh fd1 e1
  have ew := dps_strs' zs h2
  subst ew
  refine ⟨b, zs, rfl, SqL.of h1, few, fun p l' np mem nd => ?_⟩
  refine ⟨p, l', rfl, upd_same, fun r ys nr mem2 len2 srt => ?_⟩
  have perm := perm_of_len l' ys nd (fun x hx => (mem2 x).mpr hx) len2
  obtain ⟨f2, zp⟩ := Fr.madeH (o := SetS C.X.prog C.X.w p l') (Fr.refl f1.zh f1.notF) np
  have fd2 := fd1.made (o := SetS C.X.prog C.X.w p l') np
  exact (k.next (f1.trans f2)).lst (Fr.refl f2.zh f2.notF) fd2 nr (dps_strs ys) (hq ys (fun y => (mem2 y).trans (mem y)) (perm.nodup_iff.mpr nd) srt)
end
end PL

set_option Elab.async false
set_option linter.all false
set_option maxRecDepth 100000
set_option maxHeartbeats 4000000
/-! () * n -/
namespace PL
open PySem PySem.Spec PyProof.Rows L2
theorem mul_empty (l : Addr) (n : Nat) (dd : Option Addr) (sl : Array (Option Value)) (x : Int) (u : Tok) (c0 : (decide (x < -(2 ^ 63)) || decide (x ≥ 2 ^ 63)) = false) :
    Meets (Builtin.«tuple.__mul__» ⟨[.ref l, .int x u], []⟩) (fun _ R s =>
      s.heap.get? l = some { cls := .type "tuple", dict := dd, data := .seq #[] n, slots := sl } ∧ R (.ok (.ret (Value.ref l))) s) :=
  .of_wp fun prog w A R s h => by
    obtain ⟨hp, g, d, tk, os⟩ := s
    obtain ⟨hl, h⟩ := h
    have f1 := AutoSeq1.idx_int
    wp_walk using wpAny_loadPart' hl
    repeat (first
      | (refine wpAny_ite_false (decide_eq_false (by rw [c0]; exact Bool.false_ne_true)) ?_; wp_walk using wpAny_loadPart' hl)
      | (refine wpAny_ite_true (by rfl) ?_; wp_walk using wpAny_loadPart' hl))
    exact ⟨_, rfl, h⟩
section
variable {X : Cx}
theorem op_repT0 : OpR X (binaryOp .Mult) (fun x y H Q => ∃ l k, x = .ref l ∧ y = .int k ∧ SqT X.K H l [] ∧ 2 ≤ k ∧ k ≤ 1000 ∧ Q (.ref l) H) := by
  intro pins s σ H x y v u Q I rx ry h
  obtain ⟨l, k, rfl, rfl, hT, h1, h2, q⟩ := h
  cases rx
  obtain ⟨t, rfl⟩ := ry
  obtain ⟨its, r, ⟨⟨cls, dd, data, sl⟩, ho, hc, n, hd⟩, hs⟩ := I.tuple hT
  simp only at hc hd
  subst hc hd
  have hle : its = [] := List.eq_nil_of_length_eq_zero r.length.symm
  subst hle
  have c0 : (decide (k < -(2 ^ 63)) || decide (k ≥ 2 ^ 63)) = false := by
    rw [decide_eq_false (by omega), decide_eq_false (by omega)] <;> rfl
  refine wpAny_binaryOp_repeat_ref (T := "tuple") (U := "int") (by decide) ⟨_, ho, rfl⟩ (fun s' => typeIs_int s' k t) noFill_tuple_mul F.fills_int_mul F.slot_int_rmul repeat_tuple F.slot_int_index.lookup
    (call_meets F.slot_int_rmul (typeIs_int s k t) F.entry_int_rmul (F.args_int_rmul_2 _ _) (int_rmul_tuple k t l #[] n dd sl)
      ⟨ho, rfl, ⟨_, ho, rfl⟩, call_meets F.slot_tuple_mul ⟨_, ho, rfl⟩ F.entry_tuple_mul (F.args_tuple_mul_2 _ _) (mul_empty l n dd sl k t c0) ⟨ho, ?_⟩⟩)
  exact ⟨.ref l, H, I, rfl, q⟩
end
section
variable {C : Cp}
def oMulT : O2 := fun x y q => match x, y with
  | .dat (.int i), .dat (.int j) => CMul i j ∧ q (.dat (.int (i * j)))
  | .dat (.tuple xs), .dat (.int k) => 2 ≤ k ∧ k ≤ 1000 ∧ xs.length ≤ 1000 ∧ q (.dat (.tuple (List.replicate k.toNat xs).flatten))
  | _, _ => False
theorem o_mulT : Op C (binaryOp .Mult) oMulT := by
  intro pins s σ H x y v u Q I rx ry ⟨Z, s1, s2, q, a, sv1, sv2, ho⟩
  unfold oMulT at ho
  split at ho
  · exact o_mul pins s σ H x y v u Q I rx ry ⟨Z, _, _, q, a, sv1, sv2, ho⟩
  · rename_i xs k
    by_cases hx : xs = []
    · subst hx
      have sv1' := sv1
      cases (show Dq Z x (.tuple []) from sv1) with
      | @tup b vs _ e1 e2 =>
      cases e2
      cases (show Dq Z y (.int k) from sv2)
      refine op_repT0 pins s σ H _ _ v u Q I rx ry ⟨b, k, rfl, rfl, SqT.of (a.fr.zh _ _ e1), ho.1, ho.2.1, a.ret (s := .dat (.tuple [])) (Dq.tup e1 .nil) ?_⟩
      have := ho.2.2.2
      rwa [show (List.replicate k.toNat ([] : List D)).flatten = [] by simp] at this
    · exact o_mul pins s σ H x y v u Q I rx ry ⟨Z, _, _, q, a, sv1, sv2, hx, ho⟩
  · exact ho.elim
end
end PL

set_option Elab.async false
set_option linter.all false
set_option maxRecDepth 100000
/-! sorted(set(a tuple of texts)) -/
namespace PL
open PySem PySem.Spec PyProof.Rows L2
section
variable {P : Program} {w : World} {A : Around} {E : Value → Shared → Prop} {s : Shared}
set_option maxHeartbeats 3200000 in
/-- set(a tuple of texts) -/
theorem call_set_strsT {l : Addr} {items : Array Value} (zs : List Str) {Q : Value → Shared → Prop} (calm : A.handled = none) (hl : s.heap.IsTuple l items) (hit : ∀ (i : Nat) (v : Value), items[i]? = some v → ∃ z u, zs[i]? = some z ∧ v = Value.str z u) (hsz : items.size = zs.length) (few : zs.length + 3 < scanBound)
    (h : ∀ (h' : Heap) (tk : Nat) (l' : List Str), SOk P w h' s.heap.objs.size l' → (∀ y, y ∈ l' ↔ y ∈ zs) → (∀ b o, s.heap.get? b = some o → h'.get? b = some o) → Q (.ref s.heap.objs.size) { s with heap := h', toks := tk }) :
    wpAny (model P w) A (call (.type "set") [.ref l]) Q E s := by
  obtain ⟨c, tl, m1⟩ := F.called_set.mro
  have m2 := F.called_set.made; have m3 := F.called_set.sub; have m4 := F.called_set.notType; have m5 := F.called_set.canCreate
  have m6 := F.typeCall_set_1 (.ref l)
  apply wpAny_call
  apply codeAny_of_tree
  show wpAny _ _ (callAny (Value.type "set") _) _ _ _
  refine wpAny_pure ⟨Code.quiet_builtin _ (by decide +kernel), ?_⟩
  apply codeAny_builtin F.entry_type_call
  rw [Around.under_plain (weight_type_call_type "set" [.ref l] []) rfl]
  repeat (any_goals (first | assumption | wp_step))
  have born := code_set_led1 (P := P) (w := w) (A := A.in1) (s := s) (.ref l) (E := E) (Q₁ := fun obj s₁ => obj = .ref s.heap.objs.size ∧ s₁ = { s with heap := s.heap.push (set0 w) }) ⟨rfl, rfl⟩
  refine codeAny_mono born ?_
  rintro (e | fl) s₁ hr
  · exact hr
  cases fl with
  | ret obj =>
    obtain ⟨rfl, rfl⟩ := hr
    have at0 : (s.heap.push (set0 w)).get? s.heap.objs.size = some (set0 w) := Heap.get?_push_size _ rfl
    have ty0 : Shared.TypeIs { s with heap := s.heap.push (set0 w) } (.ref s.heap.objs.size) "set" := ⟨_, at0, rfl⟩
    have n1 := F.called_set.init.lookup; have n2 := F.called_set.init.bind (.ref s.heap.objs.size)
    repeat (any_goals (first | assumption | wp_step))
    refine codeAny_mono (codeAny_call_builtin (R := wants (fun r s₂ => r = .none ∧ ∃ h' tk l', s₂ = { s with heap := h', toks := tk } ∧ SOk P w h' s.heap.objs.size l' ∧ (∀ y, y ∈ l' ↔ y ∈ zs) ∧ (∀ b o, s.heap.get? b = some o → h'.get? b = some o)) E)
      F.called_set.init.plain F.entry_set_init (check_set_init_1 ty0 ?_)) ?_
    · obtain ⟨ol, ho, hc, nl, hdt⟩ := id hl
      obtain ⟨ocls, odict, odata, oslots⟩ := ol
      simp only at hc hdt
      subst hc; subst hdt
      have ho' : (s.heap.push (set0 w)).get? l = some { cls := .type "tuple", dict := odict, data := .seq items nl, slots := oslots } := Heap.get?_push_of_some _ ho
      have q1 := F.sub_tuple_set; have q2 := F.sub_tuple_frozenset
      have q3 : (Value.type "tuple" == Value.type "dict") = false := by decide
      have hl1 : (s.heap.push (set0 w)).IsTuple l items := ⟨_, ho', rfl, nl, rfl⟩
      have below : l < s.heap.objs.size := Heap.lt_size ho
      have size1 : (s.heap.push (set0 w)).objs.size = s.heap.objs.size + 1 := Heap.size_push ..
      unfold Builtin.«set.__init__» noKeywords Builtin.Frozenset.updateFrom
      generalize hPI : pyIter = PI
      wp_walk
      subst hPI
      apply wpAny_pyIter_tuple hl1
      apply wpAny_bind
      apply wpAny_runValue
      have calm3 : A.in1.in1.in1.handled = none := by simp [calm]
      have apart : l ≠ (s.heap.push (set0 w)).objs.size := by rw [size1]; exact Nat.ne_of_lt (Nat.lt_succ_of_lt below)
      have away : s.heap.objs.size ∉ [(s.heap.push (set0 w)).objs.size, l] := by
        rw [size1]
        simp only [List.mem_cons, List.not_mem_nil, or_false, not_or]
        exact ⟨Nat.ne_of_lt (Nat.lt_succ_self _), Nat.ne_of_gt below⟩
      refine set_upd_strs (Walks.tuple calm3 _ l apart items).toS away zs hsz few hit (items.size - 0) 0 _ [] rfl (Nat.zero_le _) ⟨⟨_, Heap.get?_push_size _ rfl, rfl, rfl⟩, hl1.push _⟩ ?ok (Nat.le_refl _) (by simp) ?fin
      case ok => exact sok_new (Heap.get?_push_of_some _ at0)
      case fin =>
        intro s' l' mv ok mem
        obtain ⟨h', g', d', tk', os'⟩ := s'
        obtain rfl : g' = s.gens := mv.gens
        obtain rfl : d' = s.drawn := mv.drawn
        obtain rfl : os' = s.os := mv.os
        refine wpAny_pure (wpAny_pure ⟨rfl, h', tk', l', rfl, ok, mem, fun b o e => ?_⟩)
        have lt := Heap.lt_size e
        refine mv.heap b o ?_ (Heap.get?_push_of_some _ (Heap.get?_push_of_some _ e))
        intro m
        simp only [List.mem_cons, List.mem_singleton, List.not_mem_nil, or_false] at m
        rw [size1] at m
        rcases m with m | m
        · exact absurd (m ▸ lt) (Nat.lt_irrefl _)
        · exact absurd (m ▸ lt) (Nat.not_lt_of_le (Nat.le_succ _))
    · rintro (e | fl) s₂ hr
      · exact hr
      cases fl with
      | ret r =>
        obtain ⟨rfl, h', tk, l', rfl, ok, mem, kp⟩ := hr
        repeat (any_goals (first | assumption | wp_step))
        exact h _ _ _ ok mem kp
      | next => exact hr.elim
      | brk => exact hr.elim
      | cont => exact hr.elim
  | next => exact hr.elim
  | brk => exact hr.elim
  | cont => exact hr.elim
end
section
variable {X : Cx}
theorem cr_setST (hc : X.calm = true) : CallR X (.type "set") (fun xs H Q => ∃ (l : Addr) (zs : List Str), xs = [.ref l] ∧ SqT X.K H l (zs.map V.str) ∧ zs.length + 3 < scanBound ∧
    ∀ p l', H p = none → (∀ y, y ∈ l' ↔ y ∈ zs) → l'.Nodup → Q (.ref p) (upd H p (SetS X.prog X.w p l'))) := by
  intro pins s σ H xs us Q I r ⟨l, zs, e, hl, few, q⟩
  subst e
  obtain ⟨its, rv, pl, _⟩ := I.tuple hl
  rw [Vals.ref1 r]
  have len := rv.length
  rw [List.length_map] at len
  have get : ∀ (i : Nat) (v : Value), its.toArray[i]? = some v → ∃ z u, zs[i]? = some z ∧ v = Value.str z u := fun i v hv => by
    have hv' : its[i]? = some v := by simpa using hv
    cases e : zs[i]? with
    | none =>
      have : its[i]? = none := rv.none_of (by rw [List.getElem?_map, e]; rfl)
      rw [this] at hv'; cases hv'
    | some z =>
      obtain ⟨u, e1, e2⟩ := rv.get (i := i) (x := V.str z) (by rw [List.getElem?_map, e]; rfl)
      rw [e1] at hv'
      cases hv'
      obtain ⟨t, e3⟩ := e2
      exact ⟨z, t, rfl, e3⟩
  refine call_set_strsT zs (I.ok.hd hc) pl get (by rw [List.size_toArray]; exact len.symm) few fun h' tk l' ok mem kp => ?_
  have np : H s.heap.objs.size = none := I.hok.fresh (Nat.le_refl _)
  exact ⟨.ref _, _, I.laid (t' := tk) (o := SetS X.prog X.w s.heap.objs.size l') kp (Nat.le_refl _) (setS_new ok), rfl, q _ l' np mem ok.nd⟩
end
section
variable {X : Cx}
theorem cr_setA (hc : X.calm = true) : CallR X (.type "set") (fun xs H Q => ∃ (l : Addr) (zs : List Str), xs = [.ref l] ∧ (SqL X.K H l (zs.map V.str) ∨ SqT X.K H l (zs.map V.str)) ∧ zs.length + 3 < scanBound ∧
    ∀ p l', H p = none → (∀ y, y ∈ l' ↔ y ∈ zs) → l'.Nodup → Q (.ref p) (upd H p (SetS X.prog X.w p l'))) := by
  intro pins s σ H xs us Q I r ⟨l, zs, e, hl, few, q⟩
  rcases hl with hl | hl
  · exact cr_setS hc pins s σ H xs us Q I r ⟨l, zs, e, hl, few, q⟩
  · exact cr_setST hc pins s σ H xs us Q I r ⟨l, zs, e, hl, few, q⟩
end
section
variable {C : Cp}
def wSrtSetT (w : W) : W := fun ρ q e => w ρ (fun s => ∃ zs : List Str, s.seq = some (zs.map PyData.str) ∧ zs.length + 3 < scanBound ∧
  ∀ ys : List Str, (∀ y, y ∈ ys ↔ y ∈ zs) → ys.Nodup → sortedS ys = true → q (.dat (.list (ys.map PyData.str)))) e
theorem e_srtSetT {a : Expr} {w : W} {p1 p2 c1 c2 : Pos} (hc : C.X.calm = true) (hu : C.X.A.units + 64 < cLine) (hg1 : Gl C.X "sorted") (hm1 : C.X.mg "sorted" = none) (hg2 : Gl C.X "set") (hm2 : C.X.mg "set" = none) (ha : E C a w)
    (hs1 : starEach [a] C.X.env = (false, eval a C.X.env) :: starEach [] C.X.env := by rfl) (hp1 : (backTo c2 (starEach [] C.X.env)).any (·.1) = false := by rfl)
    (hs2 : starEach [.Call (.Name "set" p2) [a] [] c2] C.X.env = (false, eval (.Call (.Name "set" p2) [a] [] c2) C.X.env) :: starEach [] C.X.env := by rfl) (hp2 : (backTo c1 (starEach [] C.X.env)).any (·.1) = false := by rfl) :
    E C (.Call (.Name "sorted" p1) [.Call (.Name "set" p2) [a] [] c2] [] c1) (wSrtSetT w) := by
  refine weakE (pe_callB (cr_sortedSetS hc) hg1 hm1 (by decide +kernel) (pa_cons (pe_callTy (cr_setA hc) hg2 hm2 (by decide +kernel) (pa_cons ha pa_nil hs1) (by decide) (by decide) hs1 hp1) pa_nil hs2) (by decide) (by decide) hs2 hp2) ?_
  rintro σ H Q ⟨Z, ρ, q, ex, st, hw, k, ke⟩
  refine ⟨Z, ρ, _, ex, st, hw, ?_, ke⟩
  rintro s v H1 Z1 f1 fd1 sv ⟨zs, e1, few, hq⟩
  obtain ⟨b, ws, rfl, h1, h2⟩ := sv.seq f1.zh e1 C.X.K
  have ew := dps_strs' zs h2
  subst ew
  refine ⟨b, zs, rfl, h1, few, fun p l' np mem nd => ?_⟩
  refine ⟨p, l', rfl, upd_same, fun r ys nr mem2 len2 srt => ?_⟩
  have perm := perm_of_len l' ys nd (fun x hx => (mem2 x).mpr hx) len2
  obtain ⟨f2, zp⟩ := Fr.madeH (o := SetS C.X.prog C.X.w p l') (Fr.refl f1.zh f1.notF) np
  have fd2 := fd1.made (o := SetS C.X.prog C.X.w p l') np
  exact (k.next (f1.trans f2)).lst (Fr.refl f2.zh f2.notF) fd2 nr (dps_strs ys) (hq ys (fun y => (mem2 y).trans (mem y)) (perm.nodup_iff.mpr nd) srt)
end
end PL

set_option Elab.async false
set_option linter.all false
set_option maxRecDepth 100000
set_option maxHeartbeats 4000000
/-! the script, as what a def reads; the feed that is made of it; plain promises of L2 without guards -/
namespace PL
open PySem PySem.Spec PyProof.Rows L2
/-- the script, seen from the heap H0 -/
def fdS (K : PySem.W.Frag) (H0 : Hp) (a : Addr) (ns : List Int) : Fd where
  ref := .ref a
  cs := ns.map PyData.int
  own := fun b => H0 a ≠ none ∧ b = a
  ok := fun H => SqL K H0 a (ns.map V.int) ∧ (H0 a ≠ none → H a = H0 a)
  away := fun H p h np k => by
    obtain ⟨k1, rfl⟩ := k
    rw [h.2 k1] at np
    exact k1 np
  here := fun H H' h k => ⟨h.1, fun q => (k a ⟨q, rfl⟩).trans (h.2 q)⟩
  ro := fun _ _ => False
  reads := fun _ _ _ _ h => h.elim
def FamS (K : PySem.W.Frag) (x : Fd) : Prop := ∃ H0 a ns, x = fdS K H0 a ns
theorem fdS_seq {K : PySem.W.Frag} {H0 H : Hp} {a : Addr} {ns : List Int} (h : (fdS K H0 a ns).ok H) : SqL K H a (ns.map V.int) := by
  obtain ⟨h1, h2⟩ := h
  rcases h1 with h1 | h1
  · have ne : H0 a ≠ none := by
      rcases h1 with e | ⟨o, e⟩ <;> rw [e] <;> simp
    refine .inl ?_
    rcases h1 with e | ⟨o, e⟩
    · exact .inl ((h2 ne).trans e)
    · exact .inr ⟨o, (h2 ne).trans e⟩
  · exact .inr h1
section
variable {C : Cp}
/-- script[:n] -/
def wScr (i : Nat) (n : Int) : W := fun ρ q _ => ∃ ns : List Int, ρ[i]? = some (some (S.feed (ns.map PyData.int))) ∧ ∀ ns' : List Int, ns'.length ≤ ns.length → q (.dat (.list (ns'.map PyData.int)))
theorem int_map {ns : List Int} {lo hi : Option Int} : ∃ ns' : List Int, cutV (ns.map V.int) lo hi = ns'.map V.int ∧ ns'.length ≤ ns.length := by
  unfold cutV
  refine ⟨_, by rw [← List.map_drop, ← List.map_take], ?_⟩
  rw [List.length_take, List.length_drop]
  omega
theorem dps_zs {Z : Hp} : ∀ ns : List Int, Dqs Z (ns.map V.int) (ns.map PyData.int)
  | [] => .nil
  | n :: r => .cons (Dq.int n) (dps_zs r)
theorem e_scr {i : Nat} {x : Str} {p p2 pos : Pos} {n : Int} {k j} {kp : Pos} (hF : ∀ y, C.F = some y → FamS C.X.K y) (hv : PE C.X (.Name x p) (tVar i)) : E C (.Subscript (.Name x p) (.Slice none (some (.Constant (.int n) j kp)) none p2) pos) (wScr i k) :=
  weakE (pe_slice sl_list hv po_none (po_some pe_int)) fun σ H Q ⟨Z, ρ, q, ex, st, ⟨ns, e, hq⟩, kt, ke⟩ => by
    obtain ⟨v, e1, y, ey, e2, e3⟩ := st.env i _ e
    obtain ⟨H0, a, ms, rfl⟩ := hF y ey
    have ok : (fdS C.X.K H0 a ms).ok H := st.fd _ ey
    have em : ms = ns := by
      have : ms.map PyData.int = ns.map PyData.int := e3
      exact (List.map_inj_right (fun x y h => by cases h; rfl)).mp this
    subst em
    subst e2
    refine ⟨_, e1, n, rfl, a, _, rfl, fdS_seq ok, fun c nc => ?_⟩
    obtain ⟨ns', e4, hl⟩ := int_map (ns := ms) (lo := none) (hi := some n)
    rw [e4]
    exact kt.lst (Fr.refl st.fr.zh st.fr.notF) st.fd nc (dps_zs ns') (hq ns' hl)
end
/-- a call of a def that has a promise without guards -/
theorem pe_callG {X : Cx} {sp : Sp} {E : XK} {k : Nat} {f : Addr} {fd : FuncData} {ps : List Str} {x : Str} {p pos : Pos} {a : Expr} {es : List Expr} {t : TA} {CX : CXT} (F : FnG X.prog X.w X.K X.mg X.base CX k f fd ps sp) (hr : Room k X.A) (hgd : X.A.guards = some []) (hg : Gl X x)
    (hm : X.mg x = some (.ref f)) (hk : PySem.W.keepIn X.K (.ref f) = true) (hb : Binds X.K fd ps []) (hx : Passes CX X E) (ha : PA X (a :: es) t)
    (hdb : (x == ("__debug__" : Str)) = false := by decide) (he : starEach (a :: es) X.env = (false, eval a X.env) :: starEach es X.env := by rfl)
    (hpl : (backTo pos (starEach es X.env)).any (·.1) = false := by rfl) : PE X (.Call (.Name x p) (a :: es) [] pos) (fun σ H Q => t σ H fun vs H1 => sp vs H1 Q E) := by
  constructor
  intro pins s σ H Q I h
  apply wpAny_Call_Name_kw
  apply ld_glob I hg hm _ hdb
  apply PySem.W.callWith_K (h₀ := X.base) I.ok.mod.kin hk _ he hpl
  refine thn (ha.run pos pins s σ H _ I h) fun us s1 ⟨vs, H1, I1, rv, hq⟩ => ⟨I1.kIn, ?_⟩
  have rv2 : Vals vs (us ++ []) := by rw [List.append_nil]; exact rv
  exact run_g (args := ⟨us, []⟩) F hr hgd hx I1 (hb s1 us I1.kIn (by rw [List.append_nil, ← rv.length]; exact F.len vs H1 Q E hq)) rv2 hq
end PL

set_option Elab.async false
set_option linter.all false
set_option maxRecDepth 100000
set_option maxHeartbeats 4000000
/-! the end, for a law whose promise speaks of a frame without guards -/
namespace PL
open PySem PySem.Spec PyProof.Rows L2
/-- what is tracked at the law's entry: the script, where it is no object of the text's own -/
def H0 (K : PySem.W.Frag) (a : Addr) (vs : List Value) (ns : List Int) : Hp := fun b =>
  if b = a ∧ K.lookup a = none then some (.frz { cls := .type "list", data := .seq vs.toArray } (.lst (ns.map V.int)))
  else none
theorem H0_at {K : PySem.W.Frag} {a b : Addr} {vs : List Value} {ns : List Int} {u : HO} (h : H0 K a vs ns b = some u) :
    b = a ∧ K.lookup a = none ∧ u = .frz { cls := .type "list", data := .seq vs.toArray } (.lst (ns.map V.int)) := by
  unfold H0 at h
  split at h
  · rename_i c
    exact ⟨c.1, c.2, (Option.some.inj h).symm⟩
  · cases h
theorem H0_off {K : PySem.W.Frag} {a b : Addr} {vs : List Value} {ns : List Int} (h : ¬ (b = a ∧ K.lookup a = none)) : H0 K a vs ns b = none := if_neg h
section
variable {P : Program} {w : World} {K : PySem.W.Frag} {mg mb : Str → Option Value} {k : Nat} {fa a : Addr} {fd : FuncData} {x : Str} {sp : Sp} {st : Shared}
  {vs : List Value} {ns : List Int}
theorem enter_law (guarded : callerA.guards = some []) (room : Room k callerA)
    (known : K.In st.heap)
    (globals : st.heap.Ns mainGlobals mg)
    (builtins : st.heap.Ns builtinsNs mb) (boot : ∀ y : Str, y ≠ "__name__" → mb y = bootBuiltins y)
    (free : st.heap.NoLimit) (still : st.gens = #[])
    (script : st.heap.get? a = some { cls := .type "list", data := .seq vs.toArray }) (whole : IntsAre vs ns) (few : ns.length ≤ sizeLine)
    (promise : ∀ base : Heap, FnG P w K mg base CX0 k fa fd [x] sp)
    (binds : ∀ (t : Shared) (u : Value), BindsTo t fd ⟨[u], []⟩ [(x, u)])
    (meets : ∀ H : Hp, SqL K H a (ns.map V.int) → sp [.ref a] H (fun v _ => v = .bl true) E0) :
    codeAny (model P w) callerA (.call (.ref fa) ⟨[.ref a], []⟩)
      (fun r t => r = .ok (.ret (.bool true)) ∧ OldK st.heap t.heap ∧ t.os = st.os ∧ AllBare t.gens) st := by
  have rv : Vals (ns.map V.int) vs := vals_ints whole
  have len : vs.length = ns.length := by rw [whole.length]
  -- what a namespace is, the script is not
  have apart : ∀ {b : Addr} {o : Obj} {es : Array DictEntry} {ep : Nat}, st.heap.get? b = some o → o.data = .dict es ep →
      H0 K a vs ns b = none := fun {b o es ep} e d => H0_off fun c => by
    rw [c.1, script] at e
    have e' := congrArg Obj.data (Option.some.inj e)
    rw [d] at e'
    cases e'
  have nsOf : ∀ {b : Addr} {m : Str → Option Value}, st.heap.Ns b m → (hidT st.heap (H0 K a vs ns)).Ns b m := by
    rintro b m ⟨o, es, ep, e, d, r⟩
    exact ⟨o, es, ep, hidT_get e (apart e d), d, r⟩
  have known' : K.In (hidT st.heap (H0 K a vs ns)) := fun b o e => hidT_get (known b o e) (H0_off fun c => by
    rw [c.1, c.2] at e
    cases e)
  have ok : HOk P w (H0 K a vs ns) st.heap := fun b u e => by
    obtain ⟨rfl, _, rfl⟩ := H0_at e
    refine ⟨script, ?_⟩
    exact ⟨by rw [List.length_map]; exact few, vs, _, rv, script⟩
  have seq : SqL K (H0 K a vs ns) a (ns.map V.int) := by
    cases own : K.lookup a with
    | none => exact .inl (.inr ⟨_, if_pos ⟨rfl, own⟩⟩)
    | some o =>
      have e := known a o own
      rw [script] at e
      cases e
      exact .inr ⟨_, vs.toArray, _, own, rfl, rfl, rfl, by rw [List.size_toArray, len]; exact few, by simpa using rv⟩
  have entry : Env0 P w K mg (hidT st.heap (H0 K a vs ns)) callerA [] st (H0 K a vs ns) := by
    constructor
    · rfl
    · exact ⟨known', nsOf globals, ⟨mb, nsOf builtins, boot⟩, by
        obtain ⟨mc, h1, h2⟩ := free
        exact ⟨mc, nsOf h1, h2⟩⟩
    · exact fun b o e => of_hidT e
    · exact Nat.le_of_eq (hidT_size _ _)
    · trivial
    · intro b hb
      cases hb
    · exact ok
    · exact .of_eq still
  have run := (promise (hidT st.heap (H0 K a vs ns))).run callerA [] st (H0 K a vs ns) ⟨[.ref a], []⟩ [.ref a] [.ref a] _ E0
    room guarded entry (binds st (.ref a)) (.cons rfl .nil) (meets _ seq)
  refine codeAny_mono run ?_
  intro r t h
  match r, h with
  | .error e, h => exact h.elim
  | .ok .next, h => exact h.elim
  | .ok .brk, h => exact h.elim
  | .ok .cont, h => exact h.elim
  | .ok (.ret u), h =>
    obtain ⟨v, H', os, bare, un, hok', rel, q⟩ := h
    have q' : v = .bl true := q
    subst q'
    obtain rfl : u = Value.bool true := rel
    refine ⟨rfl, OldK.of_keep ?_, os, bare⟩
    intro b o e
    cases tracked : H0 K a vs ns b with
    | none =>
      refine un.keep b o e tracked ?_ ?_
      · intro z
        cases z
      · simp
    | some u =>
      obtain ⟨_, _, rfl⟩ := H0_at tracked
      have later := (hok' b _ (un.frzs b _ _ tracked)).1
      have before := (ok b _ tracked).1
      rw [e] at before
      cases before
      exact later
end
end PL

set_option Elab.async false
set_option linter.all false
set_option maxRecDepth 100000
set_option maxHeartbeats 4000000
namespace K00
open PySem PySem.Spec PyProof.Rows L2 PL
def topS (i : Nat) : Stmt := PySem.Challenge.pw_nearhours_k00_whole_kinds_judged.main.body.getD i (.Pass ⟨0, 0, 0, 0⟩)
structure Bis (mg : Str → Option Value) : Prop where
  abs : mg "abs" = none
  all : mg "all" = none
  bool : mg "bool" = none
  gcd : mg "gcd" = some (.builtin "math.gcd")
  int : mg "int" = none
  isinstance : mg "isinstance" = none
  len : mg "len" = none
  list : mg "list" = none
  range : mg "range" = none
  repr : mg "repr" = none
  set : mg "set" = none
  sorted : mg "sorted" = none
  str : mg "str" = none
  tuple : mg "tuple" = none
def XV0 : XVt := fun _ _ _ _ _ => False
abbrev fkeys : List Str := ["spot", "left", "turn"]
abbrev fam : Fd → Prop := FamD fkeys

/-! ### small data -/
def Sm (a : Nat) : Nat → D → Prop
  | _, .none => True
  | _, .bool _ => True
  | _, .int _ => True
  | _, .str z => PyData.strOk z = true ∧ z.length ≤ 100
  | n + 1, .tuple ds => ds.length ≤ a ∧ ∀ x ∈ ds, Sm a n x
  | n + 1, .list ds => ds.length ≤ a ∧ ∀ x ∈ ds, Sm a n x
  | _, _ => False
theorem Sm.mono {a b : Nat} (h : a ≤ b) : ∀ {n m : Nat} {d : D}, n ≤ m → Sm a n d → Sm b m d := by
  intro n
  induction n with
  | zero =>
    intro m d _ s
    cases d <;> simp only [Sm] at s <;> cases m <;> simp only [Sm] <;> exact s
  | succ n ih =>
    intro m d hm s
    obtain ⟨m, rfl⟩ : ∃ k, m = k + 1 := ⟨m - 1, by omega⟩
    cases d <;> simp only [Sm] at s ⊢
    · exact s
    · exact ⟨by omega, fun x hx => ih (by omega) (s.2 x hx)⟩
    · exact ⟨by omega, fun x hx => ih (by omega) (s.2 x hx)⟩
theorem canAll {ds : List D} (h : ∀ x ∈ ds, x.canLay0 = true) : PyData.canLayAll0 ds = true := by
  induction ds with
  | nil => rfl
  | cons x r ih =>
    simp only [PyData.canLayAll0, Bool.and_eq_true]
    exact ⟨h x (by simp), ih fun y hy => h y (by simp [hy])⟩
theorem depAll {ds : List D} {n : Nat} (h : ∀ x ∈ ds, x.depth ≤ n) : PyData.depthAll ds ≤ n := by
  induction ds with
  | nil => exact Nat.zero_le _
  | cons x r ih =>
    simp only [PyData.depthAll]
    exact Nat.max_le.mpr ⟨h x (by simp), ih fun y hy => h y (by simp [hy])⟩
theorem Sm.lay {a : Nat} : ∀ {n : Nat} {d : D}, Sm a n d → d.canLay0 = true ∧ d.depth ≤ n := by
  intro n
  induction n with
  | zero => intro d s; cases d <;> simp only [Sm] at s <;> simp [PyData.canLay0, PyData.depth, s]
  | succ n ih =>
    intro d s
    cases d <;> simp only [Sm] at s <;> simp only [PyData.canLay0, PyData.depth]
    · exact ⟨trivial, by omega⟩
    · exact ⟨trivial, by omega⟩
    · exact ⟨trivial, by omega⟩
    · exact ⟨s.1, by omega⟩
    · exact ⟨canAll fun x hx => (ih (s.2 x hx)).1, Nat.succ_le_succ (depAll fun x hx => (ih (s.2 x hx)).2)⟩
    · exact ⟨canAll fun x hx => (ih (s.2 x hx)).1, Nat.succ_le_succ (depAll fun x hx => (ih (s.2 x hx)).2)⟩
theorem Sm.shaped {a n : Nat} {d : D} (s : Sm a n d) (h : n ≤ 64) : SeqAt.shaped d = true := by
  unfold SeqAt.shaped
  rw [s.lay.1, decide_eq_true (Nat.le_trans s.lay.2 h)]; rfl
theorem shInt (i : Int) : SeqAt.shaped (.int i) = true := by rfl
theorem shNil : SeqAt.shaped (.list []) = true := by rfl
theorem shNilT : SeqAt.shaped (.tuple []) = true := by rfl
theorem wMap_of {f : D → (Option D → Prop) → Prop} {g : D → Option D} : ∀ {ds : List D} {q : List D → Prop}, (∀ d ∈ ds, ∀ q', q' (g d) → f d q') → q (ds.filterMap g) → wMap f ds q
  | [], q, _, h => h
  | d :: r, q, hf, h => by
    refine hf d (by simp) _ ?_
    refine wMap_of (g := g) (fun x hx => hf x (by simp [hx])) ?_
    rw [List.filterMap_cons] at h
    cases e : g d with
    | none => rw [e] at h; exact h
    | some x => rw [e] at h; exact h
theorem fm_some {α β : Type} (g : α → β) : ∀ ds : List α, ds.filterMap (fun d => some (g d)) = ds.map g
  | [] => rfl
  | d :: r => by rw [List.filterMap_cons]; simp [fm_some g r]
theorem eqv_nil (xs : List D) : PyData.eqv (.list xs) (.list []) = xs.isEmpty := by cases xs <;> rfl
theorem eqv_nilT (xs : List D) : PyData.eqv (.tuple xs) (.tuple []) = xs.isEmpty := by cases xs <;> rfl
theorem eqv_int (i j : Int) : PyData.eqv (.int i) (.int j) = (i == j) := by rfl
/-! ### the answers -/
def isInt : D → Bool
  | .int _ => true
  | _ => false
def isNum : D → Bool
  | .int i => decide (0 ≤ i)
  | _ => false
def az (c : Nat) : Bool := decide (97 ≤ c ∧ c ≤ 122)
def isNam : D → Bool
  | .str z => decide (1 ≤ z.length ∧ z.length ≤ 8) && z.cps.toList.all az
  | _ => false
def ascS : List Str → Bool
  | a :: b :: r => strLt a b && ascS (b :: r)
  | _ => true
def strD : D → Str
  | .str z => z
  | _ => default
def isTow : D → Bool
  | .tuple ds => !ds.isEmpty && (ds.all isNam && ascS (ds.map strD))
  | _ => false
def isTup (d : D) (n : Int) : Bool := match d with
  | .tuple ds => (ds.length : Int) == n
  | _ => false
def arInt (d : D) (n : Int) : Bool := match d with
  | .tuple ds => (ds.length : Int) == n && ds.all isInt
  | _ => false
def isFra : D → Bool
  | .tuple [.int i, .int j] => decide (1 ≤ j) && Nat.gcd i.natAbs j.natAbs == 1
  | _ => false
theorem isNam_str {d : D} (h : isNam d = true) : ∃ z, d = .str z := by
  cases d <;> simp [isNam] at h
  exact ⟨_, rfl⟩
theorem all_nam {ds : List D} (h : ds.all isNam = true) : ∃ zs : List Str, ds = zs.map PyData.str := by
  induction ds with
  | nil => exact ⟨[], rfl⟩
  | cons d r ih =>
    rw [List.all_cons, Bool.and_eq_true] at h
    obtain ⟨z, rfl⟩ := isNam_str h.1
    obtain ⟨zs, rfl⟩ := ih h.2
    exact ⟨z :: zs, rfl⟩
theorem map_strD (zs : List Str) : (zs.map PyData.str).map strD = zs := by
  rw [List.map_map]
  exact List.map_id' zs
theorem ascS_range : ∀ zs : List Str, ascS zs = (List.range (zs.length - 1)).all fun k => strLt (zs.getD k default) (zs.getD (k + 1) default)
  | [] => rfl
  | [a] => rfl
  | a :: b :: r => by
    rw [show (a :: b :: r).length - 1 = (b :: r).length - 1 + 1 by simp, List.range_succ_eq_map, List.all_cons, List.all_map]
    rw [show ascS (a :: b :: r) = (strLt a b && ascS (b :: r)) from rfl, ascS_range (b :: r)]
    rfl
theorem asc_ltr : ∀ c < 128, Unicode.isAlpha c = true → Unicode.isUpper c = false → Unicode.isTitle c = false → az c = true := by decide +kernel
theorem az_ltr : ∀ c < 128, az c = true → Unicode.isAlpha c = true ∧ Unicode.isLower c = true ∧ Unicode.isUpper c = false ∧ Unicode.isTitle c = false := by decide +kernel
theorem nam_iff (z : Str) (hz : 1 ≤ z.length) : (Txt.isascii z && (Txt.isalpha z && Txt.islower z)) = z.cps.toList.all az := by
  have hl : z.cps.toList.length = z.length := by simp [Str.length]
  have e1 : ∀ p : Nat → Bool, z.cps.all p = z.cps.toList.all p := fun p => by simp
  have e2 : ∀ p : Nat → Bool, z.cps.any p = z.cps.toList.any p := fun p => by simp
  unfold Txt.isascii Txt.isalpha Txt.islower
  rw [e1, e1, e2, e2]
  generalize z.cps.toList = l at hl
  rw [Bool.eq_iff_iff]
  simp only [Bool.and_eq_true, decide_eq_true_eq, List.all_eq_true, List.any_eq_true, Bool.not_eq_true', List.any_eq_false, Bool.or_eq_true, not_or, Bool.not_eq_true]
  constructor
  · rintro ⟨h1, ⟨_, h2⟩, _, h3⟩ c hc
    exact asc_ltr c (h1 c hc) (h2 c hc) (h3 c hc).1 (h3 c hc).2
  · intro h
    have lt : ∀ c ∈ l, c < 128 := fun c hc => by
      have := h c hc
      simp only [az, decide_eq_true_eq] at this
      omega
    have all := fun c hc => az_ltr c (lt c hc) (h c hc)
    refine ⟨lt, ⟨by omega, fun c hc => (all c hc).1⟩, ?_, fun c hc => ⟨(all c hc).2.2.1, (all c hc).2.2.2⟩⟩
    cases l with
    | nil => simp at hl; omega
    | cons c r => exact ⟨c, by simp, (all c (by simp)).2.1⟩

end K00

set_option Elab.async false
set_option linter.all false
set_option maxRecDepth 100000
set_option maxHeartbeats 4000000
namespace K00
open PySem PySem.Spec PyProof.Rows L2 PL

theorem mem_rangeD {lo : Int} {n : Nat} {d : D} (h : d ∈ rangeD lo n) : ∃ k : Nat, k < n ∧ d = .int (lo + k) := by
  unfold rangeD at h
  rw [List.mem_map] at h
  obtain ⟨k, hk, rfl⟩ := h
  exact ⟨k, List.mem_range.mp hk, rfl⟩
theorem len_rangeD (lo : Int) (n : Nat) : (rangeD lo n).length = n := by simp [rangeD]
theorem map_rangeD (lo : Int) (n : Nat) (g : D → D) : (rangeD lo n).map g = (List.range n).map fun (k : Nat) => g (.int (lo + k)) := by
  unfold rangeD
  rw [List.map_map]; rfl
theorem Sm.elems {a n : Nat} {ds : List D} (h : Sm a n (.tuple ds)) : ds.length ≤ a ∧ ∀ x ∈ ds, Sm a n x := by
  cases n with
  | zero => exact h.elim
  | succ n => exact ⟨h.1, fun x hx => Sm.mono (Nat.le_refl a) (Nat.le_succ n) (h.2 x hx)⟩
theorem Sm.str {a n : Nat} {z : Str} (h : Sm a n (.str z)) : PyData.strOk z = true ∧ z.length ≤ 100 := by cases n <;> exact h
theorem Sm.str_size {a n : Nat} {z : Str} (h : Sm a n (.str z)) : z.length ≤ sizeLine := by have := h.str.2; rw [sizeLine_eq]; omega
theorem size100 {n : Nat} (h : n ≤ 100) : n ≤ sizeLine := by rw [sizeLine_eq]; omega
theorem str_get {zs : List Str} {j : Nat} (h : j < zs.length) : atI (zs.map PyData.str) (j : Int) = some (.str (zs.getD j default)) := by
  apply atI_nat
  rw [List.getElem?_map, List.getElem?_eq_getElem h, List.getD_eq_getElem?_getD, List.getElem?_eq_getElem h]; rfl

/-! ### is_integer -/
abbrev s_is_integer : Stmt := topS 2
abbrev N_is_integer : List Str := ["thing"]
abbrev ps_is_integer : List Str := ["thing"]
theorem sc_is_integer : FnScope N_is_integer ps_is_integer (defScope s_is_integer) := ⟨rfl, rfl, rfl, by decide +kernel, rfl, by decide +kernel, by decide +kernel⟩
def ws_is_integer : WS := (wRet (wAnd (wIs "int" (wVar 0)) (wNot (wIs "bool" (wVar 0)))))
def wf_is_integer : WF := fun ss q _ => ∃ d, ss = [S.dat d] ∧ q (.dat (.bool (isInt d)))
theorem v_is_integer : ∀ ss q e, ss.length = 1 → wf_is_integer ss q e → wBody 1 ws_is_integer ss q noX := by
  rintro ss q e - ⟨d, rfl, hq⟩
  simp only [ws_is_integer, wBody, start', wSeq, wNx, wRet, wRetN, wIf, wSet, wOwn, wApp, wPar, wAsg, gTp, gC, gN, gNm, wFor, wLoop, wDrop, wVar, wD, wNil, wCons, wTup, wLst, wNew, wLstN, wAddN, wBi, w2, wIs, wT, wTru, tru, wNotB, wAndB, wOrB, wAnd, wOr, wNot, wIfE, wChain, oInt, oSub, oDiv, oMod, oPow, oOrd, oLt, oLe, oGt, oGe, oAdd, oMul, oEq, oInSign, oLen, oInt1, oAbs, oGcd, oList, oTuple, oAll, oRepr, oNeg, wM0, oM0, oIx, oSl, wSl, wPart, wNoPart, wIt, oIter, wRng1, wRng2, wCall, wJoin, wRev, wFint, wFcells, wFset, S.lst, S.data, S.seq, S.lent, S.frz, wipe', setAll, sel1, wYes, List.map_cons, List.map_nil, List.length_cons, List.length_nil, List.replicate_succ, List.replicate_zero, List.cons_append, List.nil_append, List.append_nil, List.getElem?_cons_zero, List.getElem?_cons_succ, List.set_cons_zero, List.set_cons_succ, List.all_cons, List.all_nil, Nat.reduceAdd, Nat.reduceSub, Nat.sub_self, Nat.sub_zero, Option.some.injEq, exists_eq_left', exists_eq_left, exists_eq_right, S.dat.injEq, PyData.bool.injEq, PyData.int.injEq, PyData.str.injEq, PyData.tuple.injEq, PyData.list.injEq, Bool.and_true, Bool.true_and, true_and, and_true, if_true, if_false, Bool.false_eq_true, Bool.not_true, Bool.not_false, reduceCtorEq, false_and, and_false, exists_false, Bool.and_self, exists_const]
  cases d <;> simp [isTy, tyN, isInt] at hq ⊢ <;> exact hq
theorem b_is_integer {P : Program} {w : World} {K : PySem.W.Frag} {mg : Str → Option Value} {base : Heap} (M : Bis mg)
    {f : Addr} {cdv : Value} {A : Around} {outer : List Env} {s : Shared} {H Z : Hp} {E : XK} {Fo : Option Fd} (hr : Room 0 (A.deeper (envOfC "is_integer" (defScope s_is_integer) s.heap.objs.size f cdv))) (hgd : A.guards = some []) (hF : ∀ y, Fo = some y → fam y) :
    Sts (cpOf (cxOf CX0 P w K mg base N_is_integer "is_integer" (defScope s_is_integer) f cdv A outer s H E).nox Fo H Z (fun _ _ _ => False) XV0) (defBody s_is_integer) ws_is_integer :=
  (ss_one (s_ret (e_and (e_is (T := "int") (e_var 0 (pv 0)) (by decide +kernel) (by rfl) M.isinstance (by rfl) M.int (by decide +kernel)) (e_one (e_not (e_is (T := "bool") (e_var 0 (pv 0)) (by decide +kernel) (by rfl) M.isinstance (by rfl) M.bool (by decide +kernel)))))))
/-! ### is_number -/
abbrev s_is_number : Stmt := topS 3
abbrev N_is_number : List Str := ["thing"]
abbrev ps_is_number : List Str := ["thing"]
theorem sc_is_number : FnScope N_is_number ps_is_number (defScope s_is_number) := ⟨rfl, rfl, rfl, by decide +kernel, rfl, by decide +kernel, by decide +kernel⟩
def ws_is_number : WS := (wRet (wAnd (wCall wf_is_integer (wCons (wVar 0) wNil)) (w2 oGe (wVar 0) (wD (.int 0)))))
def wf_is_number : WF := fun ss q _ => ∃ d, ss = [S.dat d] ∧ q (.dat (.bool (isNum d)))
theorem v_is_number : ∀ ss q e, ss.length = 1 → wf_is_number ss q e → wBody 1 ws_is_number ss q noX := by
  rintro ss q e - ⟨d, rfl, hq⟩
  simp only [ws_is_number, wf_is_integer, wBody, start', wSeq, wNx, wRet, wRetN, wIf, wSet, wOwn, wApp, wPar, wAsg, gTp, gC, gN, gNm, wFor, wLoop, wDrop, wVar, wD, wNil, wCons, wTup, wLst, wNew, wLstN, wAddN, wBi, w2, wIs, wT, wTru, tru, wNotB, wAndB, wOrB, wAnd, wOr, wNot, wIfE, wChain, oInt, oSub, oDiv, oMod, oPow, oOrd, oLt, oLe, oGt, oGe, oAdd, oMul, oEq, oInSign, oLen, oInt1, oAbs, oGcd, oList, oTuple, oAll, oRepr, oNeg, wM0, oM0, oIx, oSl, wSl, wPart, wNoPart, wIt, oIter, wRng1, wRng2, wCall, wJoin, wRev, wFint, wFcells, wFset, S.lst, S.data, S.seq, S.lent, S.frz, wipe', setAll, sel1, wYes, List.map_cons, List.map_nil, List.length_cons, List.length_nil, List.replicate_succ, List.replicate_zero, List.cons_append, List.nil_append, List.append_nil, List.getElem?_cons_zero, List.getElem?_cons_succ, List.set_cons_zero, List.set_cons_succ, List.all_cons, List.all_nil, Nat.reduceAdd, Nat.reduceSub, Nat.sub_self, Nat.sub_zero, Option.some.injEq, exists_eq_left', exists_eq_left, exists_eq_right, S.dat.injEq, PyData.bool.injEq, PyData.int.injEq, PyData.str.injEq, PyData.tuple.injEq, PyData.list.injEq, Bool.and_true, Bool.true_and, true_and, and_true, if_true, if_false, Bool.false_eq_true, Bool.not_true, Bool.not_false, reduceCtorEq, false_and, and_false, exists_false, Bool.and_self, exists_const]
  cases d <;> simp [isInt, isNum] at hq ⊢ <;> exact hq
theorem b_is_number {P : Program} {w : World} {K : PySem.W.Frag} {mg : Str → Option Value} {base : Heap} (M : Bis mg) (D_is_integer : Def P w K mg base fam XV0 "is_integer" 1 ps_is_integer wf_is_integer)
    {f : Addr} {cdv : Value} {A : Around} {outer : List Env} {s : Shared} {H Z : Hp} {E : XK} {Fo : Option Fd} (hr : Room 1 (A.deeper (envOfC "is_number" (defScope s_is_number) s.heap.objs.size f cdv))) (hgd : A.guards = some []) (hF : ∀ y, Fo = some y → fam y) :
    Sts (cpOf (cxOf CX0 P w K mg base N_is_number "is_number" (defScope s_is_number) f cdv A outer s H E).nox Fo H Z (fun _ _ _ => False) XV0) (defBody s_is_number) ws_is_number :=
  (ss_one (s_ret (e_and (e_callD D_is_integer hF (hr.mono (by decide)) hgd (by rfl) (fun _ _ _ _ _ _ _ h => h.elim) (a_cons (e_var 0 (pv 0)) a_nil)) (e_one (e_cmp o_ge (e_var 0 (pv 0)) e_int rfl)))))
/-! ### is_name -/
abbrev s_is_name : Stmt := topS 4
abbrev N_is_name : List Str := ["thing"]
abbrev ps_is_name : List Str := ["thing"]
theorem sc_is_name : FnScope N_is_name ps_is_name (defScope s_is_name) := ⟨rfl, rfl, rfl, by decide +kernel, rfl, by decide +kernel, by decide +kernel⟩
def ws_is_name : WS := (wSeq (wIf (wOrB (wNotB (wTru (wIs "str" (wVar 0)))) (wNotB (wChain oLe oLe (wD (.int 1)) (wBi oLen (wCons (wVar 0) wNil)) (wD (.int 8))))) (wRet (wD (.bool false))) wNx)
    (wRet (wAnd (wM0 (oM0 fun z => .bool (Txt.isascii z)) (wVar 0)) (wAnd (wM0 (oM0 fun z => .bool (Txt.isalpha z)) (wVar 0)) (wM0 (oM0 fun z => .bool (Txt.islower z)) (wVar 0))))))
def wf_is_name : WF := fun ss q _ => ∃ d a n, ss = [S.dat d] ∧ Sm a n d ∧ q (.dat (.bool (isNam d)))
theorem v_is_name : ∀ ss q e, ss.length = 1 → wf_is_name ss q e → wBody 1 ws_is_name ss q noX := by
  rintro ss q e - ⟨d, a, n, rfl, hs, hq⟩
  simp only [ws_is_name, wBody, start', wSeq, wNx, wRet, wRetN, wIf, wSet, wOwn, wApp, wPar, wAsg, gTp, gC, gN, gNm, wFor, wLoop, wDrop, wVar, wD, wNil, wCons, wTup, wLst, wNew, wLstN, wAddN, wBi, w2, wIs, wT, wTru, tru, wNotB, wAndB, wOrB, wAnd, wOr, wNot, wIfE, wChain, oInt, oSub, oDiv, oMod, oPow, oOrd, oLt, oLe, oGt, oGe, oAdd, oMul, oEq, oInSign, oLen, oInt1, oAbs, oGcd, oList, oTuple, oAll, oRepr, oNeg, wM0, oM0, oIx, oSl, wSl, wPart, wNoPart, wIt, oIter, wRng1, wRng2, wCall, wJoin, wRev, wFint, wFcells, wFset, S.lst, S.data, S.seq, S.lent, S.frz, wipe', setAll, sel1, wYes, List.map_cons, List.map_nil, List.length_cons, List.length_nil, List.replicate_succ, List.replicate_zero, List.cons_append, List.nil_append, List.append_nil, List.getElem?_cons_zero, List.getElem?_cons_succ, List.set_cons_zero, List.set_cons_succ, List.all_cons, List.all_nil, Nat.reduceAdd, Nat.reduceSub, Nat.sub_self, Nat.sub_zero, Option.some.injEq, exists_eq_left', exists_eq_left, exists_eq_right, S.dat.injEq, PyData.bool.injEq, PyData.int.injEq, PyData.str.injEq, PyData.tuple.injEq, PyData.list.injEq, Bool.and_true, Bool.true_and, true_and, and_true, if_true, if_false, Bool.false_eq_true, Bool.not_true, Bool.not_false, reduceCtorEq, false_and, and_false, exists_false, Bool.and_self, exists_const]
  cases d with
  | str z =>
    have hl : z.length ≤ sizeLine := hs.str_size
    have x1 : (1 : Int) ≤ (z.length : Int) ↔ 1 ≤ z.length := by omega
    have x2 : (z.length : Int) ≤ (8 : Int) ↔ z.length ≤ 8 := by omega
    have ht : isTy "str" (.str z) = true := by rfl
    rw [if_neg (by rw [ht]; decide)]
    refine ⟨hl, _, rfl, ?_⟩
    by_cases h1 : 1 ≤ z.length
    · rw [if_pos (decide_eq_true (x1.mpr h1))]
      refine ⟨_, rfl, ?_⟩
      by_cases h8 : z.length ≤ 8
      · rw [if_neg (by rw [decide_eq_true (x2.mpr h8)]; decide)]
        have e2 : isNam (.str z) = (Txt.isascii z && (Txt.isalpha z && Txt.islower z)) := by rw [nam_iff z h1]; simp [isNam, h1, h8]
        rw [e2] at hq
        refine ⟨_, rfl, ?_⟩
        cases y1 : Txt.isascii z with
        | false => rw [y1] at hq; exact hq
        | true =>
          rw [y1, Bool.true_and] at hq
          refine ⟨_, rfl, ?_⟩
          cases y2 : Txt.isalpha z with
          | false => rw [y2] at hq; exact hq
          | true => rw [y2, Bool.true_and] at hq; exact ⟨rfl, hq⟩
      · rw [if_pos (by rw [decide_eq_false (fun h => h8 (x2.mp h))]; decide)]
        have e2 : isNam (.str z) = false := by simp [isNam, h8]
        rw [e2] at hq
        exact hq
    · rw [if_neg (by rw [decide_eq_false (fun h => h1 (x1.mp h))]; decide)]
      have e2 : isNam (.str z) = false := by simp only [isNam]; rw [decide_eq_false (fun h => h1 h.1)]; rfl
      rw [e2] at hq
      exact hq
  | _ => simp [isTy, tyN, isNam] at hq ⊢ <;> exact hq
theorem b_is_name {P : Program} {w : World} {K : PySem.W.Frag} {mg : Str → Option Value} {base : Heap} (M : Bis mg)
    {f : Addr} {cdv : Value} {A : Around} {outer : List Env} {s : Shared} {H Z : Hp} {E : XK} {Fo : Option Fd} (hr : Room 0 (A.deeper (envOfC "is_name" (defScope s_is_name) s.heap.objs.size f cdv))) (hgd : A.guards = some []) (hF : ∀ y, Fo = some y → fam y) :
    Sts (cpOf (cxOf CX0 P w K mg base N_is_name "is_name" (defScope s_is_name) f cdv A outer s H E).nox Fo H Z (fun _ _ _ => False) XV0) (defBody s_is_name) ws_is_name :=
  (ss_cons (s_if (TW.t (tw_or (t_not (t_tru (e_is (T := "str") (e_var 0 (pv 0)) (by decide +kernel) (by rfl) M.isinstance (by rfl) M.str (by decide +kernel)))) (tw_or1 (t_not (t_chain o_le o_le e_int (e_bi b_len (by rfl) M.len (by decide +kernel) (a_cons (e_var 0 (pv 0)) a_nil)) e_int))))) (ss_one (s_ret e_bl)) ss_nil)
    (ss_one (s_ret (e_and (e_isascii (e_var 0 (pv 0))) (e_and (e_isalpha (e_var 0 (pv 0))) (e_one (e_islower (e_var 0 (pv 0)))))))))
/-! ### is_ascending -/
abbrev s_is_ascending : Stmt := topS 9
abbrev N_is_ascending : List Str := ["row", "k"]
abbrev ps_is_ascending : List Str := ["row"]
theorem sc_is_ascending : FnScope N_is_ascending ps_is_ascending (defScope s_is_ascending) := ⟨rfl, rfl, rfl, by decide +kernel, rfl, by decide +kernel, by decide +kernel⟩
def ws_is_ascending : WS := (wRet (wBi (oAll fun bs => bs.all id) (wCons (wNew (wLc [1] [1] sel1 (wRng2 (wCons (wD (.int 1)) (wCons (wBi oLen (wCons (wVar 0) wNil)) wNil))) wYes (w2 oLt (w2 oIx (wVar 0) (w2 oSub (wVar 1) (wD (.int 1)))) (w2 oIx (wVar 0) (wVar 1))))) wNil)))
def wf_is_ascending : WF := fun ss q _ => ∃ zs : List Str, ss = [S.dat (.tuple (zs.map PyData.str))] ∧ zs.length ≤ 100 ∧ q (.dat (.bool (ascS zs)))
theorem v_is_ascending : ∀ ss q e, ss.length = 1 → wf_is_ascending ss q e → wBody 2 ws_is_ascending ss q noX := by
  rintro ss q e - ⟨zs, rfl, hz, hq⟩
  simp only [ws_is_ascending, wLc, wBody, start', wSeq, wNx, wRet, wRetN, wIf, wSet, wOwn, wApp, wPar, wAsg, gTp, gC, gN, gNm, wFor, wLoop, wDrop, wVar, wD, wNil, wCons, wTup, wLst, wNew, wLstN, wAddN, wBi, w2, wIs, wT, wTru, tru, wNotB, wAndB, wOrB, wAnd, wOr, wNot, wIfE, wChain, oInt, oSub, oDiv, oMod, oPow, oOrd, oLt, oLe, oGt, oGe, oAdd, oMul, oEq, oInSign, oLen, oInt1, oAbs, oGcd, oList, oTuple, oAll, oRepr, oNeg, wM0, oM0, oIx, oSl, wSl, wPart, wNoPart, wIt, oIter, wRng1, wRng2, wCall, wJoin, wRev, wFint, wFcells, wFset, S.lst, S.data, S.seq, S.lent, S.frz, wipe', setAll, sel1, wYes, List.map_cons, List.map_nil, List.length_cons, List.length_nil, List.replicate_succ, List.replicate_zero, List.cons_append, List.nil_append, List.append_nil, List.getElem?_cons_zero, List.getElem?_cons_succ, List.set_cons_zero, List.set_cons_succ, List.all_cons, List.all_nil, Nat.reduceAdd, Nat.reduceSub, Nat.sub_self, Nat.sub_zero, Option.some.injEq, exists_eq_left', exists_eq_left, exists_eq_right, S.dat.injEq, PyData.bool.injEq, PyData.int.injEq, PyData.str.injEq, PyData.tuple.injEq, PyData.list.injEq, Bool.and_true, Bool.true_and, true_and, and_true, if_true, if_false, Bool.false_eq_true, Bool.not_true, Bool.not_false, reduceCtorEq, false_and, and_false, exists_false, Bool.and_self, exists_const]
  have hn : ((zs.length : Int) - 1).toNat = zs.length - 1 := by omega
  refine ⟨1, zs.length, by simp, ⟨by decide, by decide, by omega, by omega⟩, ?_, ?_⟩
  · rw [len_rangeD]; exact size100 (by omega)
  refine wMap_of (g := fun d => some (match d with | .int i => .bool (strLt (zs.getD (i - 1).toNat default) (zs.getD i.toNat default)) | _ => .none)) ?_ ?_
  · intro d hd q' hq'
    obtain ⟨k, hk, rfl⟩ := mem_rangeD hd
    rw [hn] at hk
    dsimp only at hq'
    rw [show ((1 : Int) + (k : Int) - 1).toNat = k by omega, show ((1 : Int) + (k : Int)).toNat = k + 1 by omega] at hq'
    exact ⟨.str (zs.getD k default), by rw [show (1 : Int) + (k : Int) - 1 = ((k : Nat) : Int) by omega, str_get (by omega)],
      .str (zs.getD (k + 1) default), by rw [show (1 : Int) + (k : Int) = ((k + 1 : Nat) : Int) by omega, str_get (by omega)], _, rfl, hq'⟩
  · rw [fm_some, map_rangeD, hn]
    refine ⟨(List.range (zs.length - 1)).map fun k => strLt (zs.getD k default) (zs.getD (k + 1) default), ?_, ?_⟩
    · rw [List.map_map]
      refine List.map_congr_left fun k hk => ?_
      simp only [Function.comp]
      rw [show ((1 : Int) + (k : Int) - 1).toNat = k by omega, show ((1 : Int) + (k : Int)).toNat = k + 1 by omega]
    · rw [ascS_range] at hq
      rw [List.all_map]
      exact hq
theorem b_is_ascending {P : Program} {w : World} {K : PySem.W.Frag} {mg : Str → Option Value} {base : Heap} (M : Bis mg)
    {f : Addr} {cdv : Value} {A : Around} {outer : List Env} {s : Shared} {H Z : Hp} {E : XK} {Fo : Option Fd} (hr : Room 0 (A.deeper (envOfC "is_ascending" (defScope s_is_ascending) s.heap.objs.size f cdv))) (hgd : A.guards = some []) (hF : ∀ y, Fo = some y → fam y) :
    Sts (cpOf (cxOf CX0 P w K mg base N_is_ascending "is_ascending" (defScope s_is_ascending) f cdv A outer s H E).nox Fo H Z (fun _ _ _ => False) XV0) (defBody s_is_ascending) ws_is_ascending :=
  (ss_one (s_ret (e_bi (b_all rfl) (by rfl) M.all (by decide +kernel) (a_cons (e_new (n_lc rfl sc_is_ascending.nd (i_rng2 (by rfl) M.range (a_cons e_int (a_cons (e_bi b_len (by rfl) M.len (by decide +kernel) (a_cons (e_var 0 (pv 0)) a_nil)) a_nil))) (blkOk_by (own := [("k", 1)]) (N := N_is_ascending) (sc := defScope s_is_ascending) (by decide +kernel)) (tg_name 1) (by decide) (fun _ _ _ _ _ => (pg_name (i := 1) sc_is_ascending.nd rfl (Or.inl rfl))) (fun _ _ _ _ _ => ts_nil) (fun _ _ _ _ _ => (e_cmp o_lt (e_ix (e_var 0 (pv 0)) (e_op o_sub (e_var 1 (pv 1)) e_int) (fun _ _ => rfl)) (e_ix (e_var 0 (pv 0)) (e_var 1 (pv 1)) (fun _ _ => rfl)) rfl)))) a_nil))))
/-! ### is_towers -/
abbrev s_is_towers : Stmt := topS 5
abbrev N_is_towers : List Str := ["thing", "name"]
abbrev ps_is_towers : List Str := ["thing"]
theorem sc_is_towers : FnScope N_is_towers ps_is_towers (defScope s_is_towers) := ⟨rfl, rfl, rfl, by decide +kernel, rfl, by decide +kernel, by decide +kernel⟩
def ws_is_towers : WS := (wSeq (wIf (wOrB (wNotB (wTru (wIs "tuple" (wVar 0)))) (wT (w2 (oEq false) (wBi oLen (wCons (wVar 0) wNil)) (wD (.int 0))))) (wRet (wD (.bool false))) wNx)
    (wRet (wAnd (wBi (oAll fun bs => bs.all id) (wCons (wNew (wLc [1] [1] sel1 (wIt (wVar 0)) wYes (wCall wf_is_name (wCons (wVar 1) wNil)))) wNil)) (wCall wf_is_ascending (wCons (wVar 0) wNil)))))
def wf_is_towers : WF := fun ss q _ => ∃ d a n, ss = [S.dat d] ∧ Sm a n d ∧ a ≤ 100 ∧ q (.dat (.bool (isTow d)))
theorem v_is_towers : ∀ ss q e, ss.length = 1 → wf_is_towers ss q e → wBody 2 ws_is_towers ss q noX := by
  rintro ss q e - ⟨d, a, n, rfl, hs, ha, hq⟩
  simp only [ws_is_towers, wf_is_name, wf_is_ascending, wLc, wBody, start', wSeq, wNx, wRet, wRetN, wIf, wSet, wOwn, wApp, wPar, wAsg, gTp, gC, gN, gNm, wFor, wLoop, wDrop, wVar, wD, wNil, wCons, wTup, wLst, wNew, wLstN, wAddN, wBi, w2, wIs, wT, wTru, tru, wNotB, wAndB, wOrB, wAnd, wOr, wNot, wIfE, wChain, oInt, oSub, oDiv, oMod, oPow, oOrd, oLt, oLe, oGt, oGe, oAdd, oMul, oEq, oInSign, oLen, oInt1, oAbs, oGcd, oList, oTuple, oAll, oRepr, oNeg, wM0, oM0, oIx, oSl, wSl, wPart, wNoPart, wIt, oIter, wRng1, wRng2, wCall, wJoin, wRev, wFint, wFcells, wFset, S.lst, S.data, S.seq, S.lent, S.frz, wipe', setAll, sel1, wYes, List.map_cons, List.map_nil, List.length_cons, List.length_nil, List.replicate_succ, List.replicate_zero, List.cons_append, List.nil_append, List.append_nil, List.getElem?_cons_zero, List.getElem?_cons_succ, List.set_cons_zero, List.set_cons_succ, List.all_cons, List.all_nil, Nat.reduceAdd, Nat.reduceSub, Nat.sub_self, Nat.sub_zero, Option.some.injEq, exists_eq_left', exists_eq_left, exists_eq_right, S.dat.injEq, PyData.bool.injEq, PyData.int.injEq, PyData.str.injEq, PyData.tuple.injEq, PyData.list.injEq, Bool.and_true, Bool.true_and, true_and, and_true, if_true, if_false, Bool.false_eq_true, Bool.not_true, Bool.not_false, reduceCtorEq, false_and, and_false, exists_false, Bool.and_self, exists_const]
  cases d with
  | tuple ds =>
    obtain ⟨hl, hx⟩ := hs.elems
    rw [if_neg (by rw [show isTy "tuple" (.tuple ds) = true from rfl]; decide)]
    refine ⟨_, _, rfl, rfl, shInt _, shInt _, ?_⟩
    rw [eqv_int]
    cases ds with
    | nil => exact hq
    | cons d r =>
      rw [if_neg (by simp; omega)]
      refine ⟨size100 (Nat.le_trans hl ha), ?_⟩
      refine wMap_of (g := fun d => some (.bool (isNam d))) (fun x h q' hq' => ⟨x, a, n, rfl, hx x h, hq'⟩) ?_
      rw [fm_some]
      refine ⟨(d :: r).map isNam, by rw [List.map_map]; rfl, ?_⟩
      have e1 : ((d :: r).map isNam).all id = (d :: r).all isNam := by rw [List.all_map]; rfl
      rw [e1]
      have e2 : isTow (.tuple (d :: r)) = ((d :: r).all isNam && ascS ((d :: r).map strD)) := by rfl
      rw [e2] at hq
      cases y1 : (d :: r).all isNam with
      | false => rw [y1] at hq; exact hq
      | true =>
        rw [y1, Bool.true_and] at hq
        obtain ⟨zs, e3⟩ := all_nam y1
        rw [e3, map_strD] at hq
        refine ⟨zs, by rw [e3], ?_, hq⟩
        have := congrArg List.length e3
        rw [List.length_map] at this
        omega
  | _ => simp [isTy, tyN, isTow] at hq ⊢ <;> exact hq
theorem b_is_towers {P : Program} {w : World} {K : PySem.W.Frag} {mg : Str → Option Value} {base : Heap} (M : Bis mg) (D_is_ascending : Def P w K mg base fam XV0 "is_ascending" 1 ps_is_ascending wf_is_ascending) (D_is_name : Def P w K mg base fam XV0 "is_name" 1 ps_is_name wf_is_name)
    {f : Addr} {cdv : Value} {A : Around} {outer : List Env} {s : Shared} {H Z : Hp} {E : XK} {Fo : Option Fd} (hr : Room 1 (A.deeper (envOfC "is_towers" (defScope s_is_towers) s.heap.objs.size f cdv))) (hgd : A.guards = some []) (hF : ∀ y, Fo = some y → fam y) :
    Sts (cpOf (cxOf CX0 P w K mg base N_is_towers "is_towers" (defScope s_is_towers) f cdv A outer s H E).nox Fo H Z (fun _ _ _ => False) XV0) (defBody s_is_towers) ws_is_towers :=
  (ss_cons (s_if (TW.t (tw_or (t_not (t_tru (e_is (T := "tuple") (e_var 0 (pv 0)) (by decide +kernel) (by rfl) M.isinstance (by rfl) M.tuple (by decide +kernel)))) (tw_or1 (t_cmp (o_eq hr.units) (e_bi b_len (by rfl) M.len (by decide +kernel) (a_cons (e_var 0 (pv 0)) a_nil)) e_int rfl)))) (ss_one (s_ret e_bl)) ss_nil)
    (ss_one (s_ret (e_and (e_bi (b_all rfl) (by rfl) M.all (by decide +kernel) (a_cons (e_new (n_lc rfl sc_is_towers.nd (i_any (e_var 0 (pv 0))) (blkOk_by (own := [("name", 1)]) (N := N_is_towers) (sc := defScope s_is_towers) (by decide +kernel)) (tg_name 1) (by decide) (fun _ _ _ _ _ => (pg_name (i := 1) sc_is_towers.nd rfl (Or.inl rfl))) (fun _ _ _ _ _ => ts_nil) (fun _ _ _ _ _ => (e_callD D_is_name hF (hr.mono (by decide)) hgd (by rfl) (fun _ _ _ _ _ _ _ h => h.elim) (a_cons (e_var 1 (pv 1)) a_nil))))) a_nil)) (e_one (e_callD D_is_ascending hF (hr.mono (by decide)) hgd (by rfl) (fun _ _ _ _ _ _ _ h => h.elim) (a_cons (e_var 0 (pv 0)) a_nil)))))))
/-! ### is_tuple -/
abbrev s_is_tuple : Stmt := topS 7
abbrev N_is_tuple : List Str := ["thing", "many"]
abbrev ps_is_tuple : List Str := ["thing", "many"]
theorem sc_is_tuple : FnScope N_is_tuple ps_is_tuple (defScope s_is_tuple) := ⟨rfl, rfl, rfl, by decide +kernel, rfl, by decide +kernel, by decide +kernel⟩
def ws_is_tuple : WS := (wRet (wAnd (wIs "tuple" (wVar 0)) (w2 (oEq false) (wBi oLen (wCons (wVar 0) wNil)) (wVar 1))))
def wf_is_tuple : WF := fun ss q _ => ∃ d i, ss = [S.dat d, S.dat (.int i)] ∧ q (.dat (.bool (isTup d i)))
theorem v_is_tuple : ∀ ss q e, ss.length = 2 → wf_is_tuple ss q e → wBody 2 ws_is_tuple ss q noX := by
  rintro ss q e - ⟨d, i, rfl, hq⟩
  simp only [ws_is_tuple, wBody, start', wSeq, wNx, wRet, wRetN, wIf, wSet, wOwn, wApp, wPar, wAsg, gTp, gC, gN, gNm, wFor, wLoop, wDrop, wVar, wD, wNil, wCons, wTup, wLst, wNew, wLstN, wAddN, wBi, w2, wIs, wT, wTru, tru, wNotB, wAndB, wOrB, wAnd, wOr, wNot, wIfE, wChain, oInt, oSub, oDiv, oMod, oPow, oOrd, oLt, oLe, oGt, oGe, oAdd, oMul, oEq, oInSign, oLen, oInt1, oAbs, oGcd, oList, oTuple, oAll, oRepr, oNeg, wM0, oM0, oIx, oSl, wSl, wPart, wNoPart, wIt, oIter, wRng1, wRng2, wCall, wJoin, wRev, wFint, wFcells, wFset, S.lst, S.data, S.seq, S.lent, S.frz, wipe', setAll, sel1, wYes, List.map_cons, List.map_nil, List.length_cons, List.length_nil, List.replicate_succ, List.replicate_zero, List.cons_append, List.nil_append, List.append_nil, List.getElem?_cons_zero, List.getElem?_cons_succ, List.set_cons_zero, List.set_cons_succ, List.all_cons, List.all_nil, Nat.reduceAdd, Nat.reduceSub, Nat.sub_self, Nat.sub_zero, Option.some.injEq, exists_eq_left', exists_eq_left, exists_eq_right, S.dat.injEq, PyData.bool.injEq, PyData.int.injEq, PyData.str.injEq, PyData.tuple.injEq, PyData.list.injEq, Bool.and_true, Bool.true_and, true_and, and_true, if_true, if_false, Bool.false_eq_true, Bool.not_true, Bool.not_false, reduceCtorEq, false_and, and_false, exists_false, Bool.and_self, exists_const]
  cases d <;> simp [isTy, tyN, isTup, shInt, eqv_int] at hq ⊢ <;> exact hq
theorem b_is_tuple {P : Program} {w : World} {K : PySem.W.Frag} {mg : Str → Option Value} {base : Heap} (M : Bis mg)
    {f : Addr} {cdv : Value} {A : Around} {outer : List Env} {s : Shared} {H Z : Hp} {E : XK} {Fo : Option Fd} (hr : Room 0 (A.deeper (envOfC "is_tuple" (defScope s_is_tuple) s.heap.objs.size f cdv))) (hgd : A.guards = some []) (hF : ∀ y, Fo = some y → fam y) :
    Sts (cpOf (cxOf CX0 P w K mg base N_is_tuple "is_tuple" (defScope s_is_tuple) f cdv A outer s H E).nox Fo H Z (fun _ _ _ => False) XV0) (defBody s_is_tuple) ws_is_tuple :=
  (ss_one (s_ret (e_and (e_is (T := "tuple") (e_var 0 (pv 0)) (by decide +kernel) (by rfl) M.isinstance (by rfl) M.tuple (by decide +kernel)) (e_one (e_cmp (o_eq hr.units) (e_bi b_len (by rfl) M.len (by decide +kernel) (a_cons (e_var 0 (pv 0)) a_nil)) (e_var 1 (pv 1)) rfl)))))
/-! ### are_integers -/
abbrev s_are_integers : Stmt := topS 8
abbrev N_are_integers : List Str := ["thing", "many", "number"]
abbrev ps_are_integers : List Str := ["thing", "many"]
theorem sc_are_integers : FnScope N_are_integers ps_are_integers (defScope s_are_integers) := ⟨rfl, rfl, rfl, by decide +kernel, rfl, by decide +kernel, by decide +kernel⟩
def ws_are_integers : WS := (wRet (wAnd (wCall wf_is_tuple (wCons (wVar 0) (wCons (wVar 1) wNil))) (wBi (oAll fun bs => bs.all id) (wCons (wNew (wLc [2] [2] sel1 (wIt (wVar 0)) wYes (wCall wf_is_integer (wCons (wVar 2) wNil)))) wNil))))
def wf_are_integers : WF := fun ss q _ => ∃ d i a n, ss = [S.dat d, S.dat (.int i)] ∧ Sm a n d ∧ a ≤ 100 ∧ q (.dat (.bool (arInt d i)))
theorem v_are_integers : ∀ ss q e, ss.length = 2 → wf_are_integers ss q e → wBody 3 ws_are_integers ss q noX := by
  rintro ss q e - ⟨d, i, a, n, rfl, hs, ha, hq⟩
  simp only [ws_are_integers, wf_is_tuple, wf_is_integer, wLc, wBody, start', wSeq, wNx, wRet, wRetN, wIf, wSet, wOwn, wApp, wPar, wAsg, gTp, gC, gN, gNm, wFor, wLoop, wDrop, wVar, wD, wNil, wCons, wTup, wLst, wNew, wLstN, wAddN, wBi, w2, wIs, wT, wTru, tru, wNotB, wAndB, wOrB, wAnd, wOr, wNot, wIfE, wChain, oInt, oSub, oDiv, oMod, oPow, oOrd, oLt, oLe, oGt, oGe, oAdd, oMul, oEq, oInSign, oLen, oInt1, oAbs, oGcd, oList, oTuple, oAll, oRepr, oNeg, wM0, oM0, oIx, oSl, wSl, wPart, wNoPart, wIt, oIter, wRng1, wRng2, wCall, wJoin, wRev, wFint, wFcells, wFset, S.lst, S.data, S.seq, S.lent, S.frz, wipe', setAll, sel1, wYes, List.map_cons, List.map_nil, List.length_cons, List.length_nil, List.replicate_succ, List.replicate_zero, List.cons_append, List.nil_append, List.append_nil, List.getElem?_cons_zero, List.getElem?_cons_succ, List.set_cons_zero, List.set_cons_succ, List.all_cons, List.all_nil, Nat.reduceAdd, Nat.reduceSub, Nat.sub_self, Nat.sub_zero, Option.some.injEq, exists_eq_left', exists_eq_left, exists_eq_right, S.dat.injEq, PyData.bool.injEq, PyData.int.injEq, PyData.str.injEq, PyData.tuple.injEq, PyData.list.injEq, Bool.and_true, Bool.true_and, true_and, and_true, if_true, if_false, Bool.false_eq_true, Bool.not_true, Bool.not_false, reduceCtorEq, false_and, and_false, exists_false, Bool.and_self, exists_const]
  refine ⟨d, i, rfl, ?_⟩
  cases d with
  | tuple ds =>
    obtain ⟨hl, hx⟩ := hs.elems
    have e1 : arInt (.tuple ds) i = (isTup (.tuple ds) i && ds.all isInt) := rfl
    rw [e1] at hq
    cases y1 : isTup (.tuple ds) i with
    | false => rw [y1] at hq; exact hq
    | true =>
      rw [y1, Bool.true_and] at hq
      refine ⟨size100 (Nat.le_trans hl ha), wMap_of (g := fun d => some (.bool (isInt d))) (fun x h q' hq' => ⟨x, rfl, hq'⟩) ?_⟩
      rw [fm_some]
      refine ⟨ds.map isInt, by rw [List.map_map]; rfl, ?_⟩
      rw [List.all_map]
      exact hq
  | _ => simp [isTup, arInt] at hq ⊢ <;> exact hq
theorem b_are_integers {P : Program} {w : World} {K : PySem.W.Frag} {mg : Str → Option Value} {base : Heap} (M : Bis mg) (D_is_integer : Def P w K mg base fam XV0 "is_integer" 1 ps_is_integer wf_is_integer) (D_is_tuple : Def P w K mg base fam XV0 "is_tuple" 1 ps_is_tuple wf_is_tuple)
    {f : Addr} {cdv : Value} {A : Around} {outer : List Env} {s : Shared} {H Z : Hp} {E : XK} {Fo : Option Fd} (hr : Room 1 (A.deeper (envOfC "are_integers" (defScope s_are_integers) s.heap.objs.size f cdv))) (hgd : A.guards = some []) (hF : ∀ y, Fo = some y → fam y) :
    Sts (cpOf (cxOf CX0 P w K mg base N_are_integers "are_integers" (defScope s_are_integers) f cdv A outer s H E).nox Fo H Z (fun _ _ _ => False) XV0) (defBody s_are_integers) ws_are_integers :=
  (ss_one (s_ret (e_and (e_callD D_is_tuple hF (hr.mono (by decide)) hgd (by rfl) (fun _ _ _ _ _ _ _ h => h.elim) (a_cons (e_var 0 (pv 0)) (a_cons (e_var 1 (pv 1)) a_nil))) (e_one (e_bi (b_all rfl) (by rfl) M.all (by decide +kernel) (a_cons (e_new (n_lc rfl sc_are_integers.nd (i_any (e_var 0 (pv 0))) (blkOk_by (own := [("number", 2)]) (N := N_are_integers) (sc := defScope s_are_integers) (by decide +kernel)) (tg_name 2) (by decide) (fun _ _ _ _ _ => (pg_name (i := 2) sc_are_integers.nd rfl (Or.inl rfl))) (fun _ _ _ _ _ => ts_nil) (fun _ _ _ _ _ => (e_callD D_is_integer hF (hr.mono (by decide)) hgd (by rfl) (fun _ _ _ _ _ _ _ h => h.elim) (a_cons (e_var 2 (pv 2)) a_nil))))) a_nil))))))
/-! ### is_fraction -/
abbrev s_is_fraction : Stmt := topS 6
abbrev N_is_fraction : List Str := ["thing"]
abbrev ps_is_fraction : List Str := ["thing"]
theorem sc_is_fraction : FnScope N_is_fraction ps_is_fraction (defScope s_is_fraction) := ⟨rfl, rfl, rfl, by decide +kernel, rfl, by decide +kernel, by decide +kernel⟩
def ws_is_fraction : WS := (wSeq (wIf (wNotB (wTru (wCall wf_are_integers (wCons (wVar 0) (wCons (wD (.int 2)) wNil))))) (wRet (wD (.bool false))) wNx)
    (wRet (wAnd (w2 oGe (w2 oIx (wVar 0) (wD (.int 1))) (wD (.int 1))) (w2 (oEq false) (wBi oGcd (wCons (w2 oIx (wVar 0) (wD (.int 0))) (wCons (w2 oIx (wVar 0) (wD (.int 1))) wNil))) (wD (.int 1))))))
theorem arInt_two {d : D} (h : arInt d 2 = true) : ∃ i j, d = .tuple [.int i, .int j] := by
  cases d with
  | tuple ds =>
    simp only [arInt, Bool.and_eq_true, beq_iff_eq] at h
    obtain ⟨h1, h2⟩ := h
    match ds, h1, h2 with
    | [.int i, .int j], _, _ => exact ⟨i, j, rfl⟩
  | _ => simp [arInt] at h
theorem isFra_two {d : D} (h : arInt d 2 = false) : isFra d = false := by
  unfold isFra
  split
  · simp [arInt, isInt] at h
  · rfl
theorem eqv_gcd (n : Nat) : PyData.eqv (.int (n : Int)) (.int 1) = (n == 1) := by
  rw [eqv_int, Bool.eq_iff_iff, beq_iff_eq, beq_iff_eq]; omega
def wf_is_fraction : WF := fun ss q _ => ∃ d a n, ss = [S.dat d] ∧ Sm a n d ∧ a ≤ 100 ∧ q (.dat (.bool (isFra d)))
theorem v_is_fraction : ∀ ss q e, ss.length = 1 → wf_is_fraction ss q e → wBody 1 ws_is_fraction ss q noX := by
  rintro ss q e - ⟨d, a, n, rfl, hs, ha, hq⟩
  simp only [ws_is_fraction, wf_are_integers, wBody, start', wSeq, wNx, wRet, wRetN, wIf, wSet, wOwn, wApp, wPar, wAsg, gTp, gC, gN, gNm, wFor, wLoop, wDrop, wVar, wD, wNil, wCons, wTup, wLst, wNew, wLstN, wAddN, wBi, w2, wIs, wT, wTru, tru, wNotB, wAndB, wOrB, wAnd, wOr, wNot, wIfE, wChain, oInt, oSub, oDiv, oMod, oPow, oOrd, oLt, oLe, oGt, oGe, oAdd, oMul, oEq, oInSign, oLen, oInt1, oAbs, oGcd, oList, oTuple, oAll, oRepr, oNeg, wM0, oM0, oIx, oSl, wSl, wPart, wNoPart, wIt, oIter, wRng1, wRng2, wCall, wJoin, wRev, wFint, wFcells, wFset, S.lst, S.data, S.seq, S.lent, S.frz, wipe', setAll, sel1, wYes, List.map_cons, List.map_nil, List.length_cons, List.length_nil, List.replicate_succ, List.replicate_zero, List.cons_append, List.nil_append, List.append_nil, List.getElem?_cons_zero, List.getElem?_cons_succ, List.set_cons_zero, List.set_cons_succ, List.all_cons, List.all_nil, Nat.reduceAdd, Nat.reduceSub, Nat.sub_self, Nat.sub_zero, Option.some.injEq, exists_eq_left', exists_eq_left, exists_eq_right, S.dat.injEq, PyData.bool.injEq, PyData.int.injEq, PyData.str.injEq, PyData.tuple.injEq, PyData.list.injEq, Bool.and_true, Bool.true_and, true_and, and_true, if_true, if_false, Bool.false_eq_true, Bool.not_true, Bool.not_false, reduceCtorEq, false_and, and_false, exists_false, Bool.and_self, exists_const]
  refine ⟨d, 2, a, n, rfl, hs, ha, ?_⟩
  cases h : arInt d 2 with
  | false =>
    rw [isFra_two h] at hq
    exact hq
  | true =>
    obtain ⟨i, j, rfl⟩ := arInt_two h
    refine ⟨_, rfl, _, rfl, ?_⟩
    rw [show isFra (.tuple [.int i, .int j]) = (decide (1 ≤ j) && Nat.gcd i.natAbs j.natAbs == 1) from rfl] at hq
    cases h1 : decide (1 ≤ j) with
    | false => rw [h1] at hq; exact hq
    | true =>
      rw [h1, Bool.true_and] at hq
      refine ⟨_, rfl, _, rfl, _, _, rfl, rfl, shInt _, shInt _, ?_⟩
      rw [eqv_gcd]
      exact hq
theorem b_is_fraction {P : Program} {w : World} {K : PySem.W.Frag} {mg : Str → Option Value} {base : Heap} (M : Bis mg) (D_are_integers : Def P w K mg base fam XV0 "are_integers" 2 ps_are_integers wf_are_integers)
    {f : Addr} {cdv : Value} {A : Around} {outer : List Env} {s : Shared} {H Z : Hp} {E : XK} {Fo : Option Fd} (hr : Room 2 (A.deeper (envOfC "is_fraction" (defScope s_is_fraction) s.heap.objs.size f cdv))) (hgd : A.guards = some []) (hF : ∀ y, Fo = some y → fam y) :
    Sts (cpOf (cxOf CX0 P w K mg base N_is_fraction "is_fraction" (defScope s_is_fraction) f cdv A outer s H E).nox Fo H Z (fun _ _ _ => False) XV0) (defBody s_is_fraction) ws_is_fraction :=
  (ss_cons (s_if (t_not (t_tru (e_callD D_are_integers hF (hr.mono (by decide)) hgd (by rfl) (fun _ _ _ _ _ _ _ h => h.elim) (a_cons (e_var 0 (pv 0)) (a_cons e_int a_nil))))) (ss_one (s_ret e_bl)) ss_nil)
    (ss_one (s_ret (e_and (e_cmp o_ge (e_ix (e_var 0 (pv 0)) e_int (fun _ _ => rfl)) e_int rfl) (e_one (e_cmp (o_eq hr.units) (e_bf b_gcd (by rfl) M.gcd (a_cons (e_ix (e_var 0 (pv 0)) e_int (fun _ _ => rfl)) (a_cons (e_ix (e_var 0 (pv 0)) e_int (fun _ _ => rfl)) a_nil))) e_int rfl))))))
end K00

set_option Elab.async false
set_option linter.all false
set_option maxRecDepth 100000
set_option maxHeartbeats 4000000
namespace K00
open PySem PySem.Spec PyProof.Rows L2 PL

/-! ### texts in order -/
theorem strLt_irr (a : Str) : strLt a a = false := by
  unfold strLt
  exact decide_eq_false (List.lt_irrefl _)
theorem strLt_trans {a b c : Str} (h : strLt a b = true) (k : strLt b c = true) : strLt a c = true := by
  unfold strLt at *
  exact decide_eq_true (List.lt_trans (of_decide_eq_true h) (of_decide_eq_true k))
theorem str_ext {a b : Str} (h : a.cps.toList = b.cps.toList) : a = b := by
  cases a; cases b
  simp only [Str.mk.injEq]
  exact Array.toList_inj.mp h
theorem strLt_tri {a b : Str} (h : strLt b a = false) (ne : a ≠ b) : strLt a b = true := by
  unfold strLt at *
  have h' := of_decide_eq_false h
  rw [List.not_lt] at h'
  refine decide_eq_true ?_
  rcases List.le_iff_lt_or_eq.mp h' with h1 | h1
  · exact h1
  · exact absurd (str_ext h1) ne
theorem ascS_pw : ∀ {zs : List Str}, ascS zs = true → zs.Pairwise fun a b => strLt a b = true
  | [], _ => List.Pairwise.nil
  | [a], _ => List.pairwise_singleton _ _
  | a :: b :: r, h => by
    rw [show ascS (a :: b :: r) = (strLt a b && ascS (b :: r)) from rfl, Bool.and_eq_true] at h
    have p := ascS_pw h.2
    refine List.pairwise_cons.mpr ⟨fun x hx => ?_, p⟩
    rcases List.mem_cons.mp hx with rfl | hx
    · exact h.1
    · exact strLt_trans h.1 ((List.pairwise_cons.mp p).1 x hx)
theorem asc_of_risingS : ∀ {a : Str} {r : List Str}, risingS a r = true → (a :: r).Nodup → ascS (a :: r) = true
  | a, [], _, _ => rfl
  | a, b :: r, h, nd => by
    rw [show risingS a (b :: r) = (!ltCps b.cps.toList a.cps.toList && risingS b r) from rfl, Bool.and_eq_true] at h
    rw [show ascS (a :: b :: r) = (strLt a b && ascS (b :: r)) from rfl, Bool.and_eq_true]
    refine ⟨strLt_tri ?_ ?_, asc_of_risingS h.2 (List.nodup_cons.mp nd).2⟩
    · rw [ltCps_eq] at h
      simpa [strLt] using h.1
    · rintro rfl
      simp at nd
theorem asc_of_sorted {zs : List Str} (h : sortedS zs = true) (nd : zs.Nodup) : ascS zs = true := by
  cases zs with
  | nil => rfl
  | cons a r => exact asc_of_risingS h nd
theorem uniq : ∀ {xs ys : List Str}, (xs.Pairwise fun a b => strLt a b = true) → (ys.Pairwise fun a b => strLt a b = true) → (∀ y, y ∈ ys ↔ y ∈ xs) → xs = ys
  | [], [], _, _, _ => rfl
  | [], y :: ys, _, _, h => by have := (h y).mp (by simp); simp at this
  | x :: xs, [], _, _, h => by have := (h x).mpr (by simp); simp at this
  | x :: xs, y :: ys, p, k, h => by
    have p' := List.pairwise_cons.mp p
    have k' := List.pairwise_cons.mp k
    have e : x = y := by
      rcases List.mem_cons.mp ((h x).mpr (by simp)) with e | h1
      · exact e
      rcases List.mem_cons.mp ((h y).mp (by simp)) with e | h2
      · exact e.symm
      have := strLt_trans (k'.1 x h1) (p'.1 y h2)
      rw [strLt_irr] at this; cases this
    subst e
    refine congrArg (x :: ·) (uniq p'.2 k'.2 fun z => ⟨fun hz => ?_, fun hz => ?_⟩)
    · rcases List.mem_cons.mp ((h z).mp (by simp [hz])) with e | h1
      · subst e
        have := k'.1 z hz
        rw [strLt_irr] at this; cases this
      · exact h1
    · rcases List.mem_cons.mp ((h z).mpr (by simp [hz])) with e | h1
      · subst e
        have := p'.1 z hz
        rw [strLt_irr] at this; cases this
      · exact h1
theorem pw_nodup {zs : List Str} (p : zs.Pairwise fun a b => strLt a b = true) : zs.Nodup :=
  p.imp fun {a b} h e => by subst e; rw [strLt_irr] at h; cases h
theorem same_iff {zs ys : List Str} (m : ∀ y, y ∈ ys ↔ y ∈ zs) (nd : ys.Nodup) (so : sortedS ys = true) : decide (zs = ys) = ascS zs := by
  have ay := asc_of_sorted so nd
  by_cases h : zs = ys
  · subst h; rw [decide_eq_true rfl, ay]
  · rw [decide_eq_false h]
    cases e : ascS zs with
    | false => rfl
    | true => exact absurd (uniq (ascS_pw e) (ascS_pw ay) m) h
theorem eqv_strs : ∀ xs ys : List Str, PyData.eqvAll (xs.map PyData.str) (ys.map PyData.str) = decide (xs = ys)
  | [], [] => rfl
  | [], y :: ys => rfl
  | x :: xs, [] => rfl
  | x :: xs, y :: ys => by
    rw [List.map_cons, List.map_cons, show PyData.eqvAll (.str x :: xs.map PyData.str) (.str y :: ys.map PyData.str) = ((x == y) && PyData.eqvAll (xs.map PyData.str) (ys.map PyData.str)) from rfl, eqv_strs xs ys, Bool.eq_iff_iff]
    simp
theorem eqv_strl (xs ys : List Str) : PyData.eqv (.list (xs.map PyData.str)) (.list (ys.map PyData.str)) = decide (xs = ys) := eqv_strs xs ys
theorem sh_list {ds : List D} (h : ∀ x ∈ ds, x.canLay0 = true ∧ x.depth ≤ 63) : SeqAt.shaped (.list ds) = true := by
  unfold SeqAt.shaped
  rw [Bool.and_eq_true]
  exact ⟨canAll fun x hx => (h x hx).1, decide_eq_true (Nat.succ_le_succ (depAll fun x hx => (h x hx).2))⟩
theorem sh_tup {ds : List D} (h : ∀ x ∈ ds, x.canLay0 = true ∧ x.depth ≤ 63) : SeqAt.shaped (.tuple ds) = true := by
  unfold SeqAt.shaped
  rw [Bool.and_eq_true]
  exact ⟨canAll fun x hx => (h x hx).1, decide_eq_true (Nat.succ_le_succ (depAll fun x hx => (h x hx).2))⟩
/-! ### the letters -/
def sgOf : D → Nat
  | .str z => z.cps.toList.headD 0
  | _ => 0
theorem az_mem (c : Nat) : decide (c ∈ (Str.ofString "abcdefghijklmnopqrstuvwxyz").cps.toList) = az c := by
  rw [show (Str.ofString "abcdefghijklmnopqrstuvwxyz").cps.toList = List.range' 97 26 from by decide +kernel]
  unfold az
  rw [Bool.eq_iff_iff, decide_eq_true_eq, decide_eq_true_eq, List.mem_range'_1]
  omega
def gSign (d : D) : Option D := if az (sgOf d) = true then none else some d
theorem signs_all : ∀ l : List Nat, ((l.map fun c => (PyData.str ⟨#[c]⟩ : D)).filterMap gSign).isEmpty = l.all az
  | [] => rfl
  | c :: r => by
    rw [List.map_cons, List.filterMap_cons, List.all_cons, ← signs_all r]
    have e : gSign (PyData.str ⟨#[c]⟩) = if az c = true then none else some (PyData.str ⟨#[c]⟩) := rfl
    rw [e]
    cases az c <;> rfl
theorem sign_ok {z : Str} (h : PyData.strOk z = true) {d : D} (hd : d ∈ signsD z) : ∃ c, d = .str ⟨#[c]⟩ ∧ d.canLay0 = true ∧ d.depth ≤ 63 := by
  unfold signsD at hd
  rw [List.mem_map] at hd
  obtain ⟨c, hc, rfl⟩ := hd
  refine ⟨c, rfl, ?_, Nat.zero_le _⟩
  unfold PyData.strOk at h
  rw [Array.all_eq_true'] at h
  have := h c (by simpa using hc)
  show PyData.strOk ⟨#[c]⟩ = true
  simpa [PyData.strOk] using this

end K00

set_option Elab.async false
set_option linter.all false
set_option maxRecDepth 100000
set_option maxHeartbeats 4000000
namespace K00
open PySem PySem.Spec PyProof.Rows L2 PL
/-! ### _law_is_integer -/
abbrev s__law_is_integer : Stmt := topS 16
abbrev N__law_is_integer : List Str := ["_law_item"]
abbrev ps__law_is_integer : List Str := ["_law_item"]
theorem sc__law_is_integer : FnScope N__law_is_integer ps__law_is_integer (defScope s__law_is_integer) := ⟨rfl, rfl, rfl, by decide +kernel, rfl, by decide +kernel, by decide +kernel⟩
def ws__law_is_integer : WS := (wRet (wAnd (wIs "int" (wVar 0)) (wNot (wIs "bool" (wVar 0)))))
def wf__law_is_integer : WF := fun ss q _ => ∃ d, ss = [S.dat d] ∧ q (.dat (.bool (isInt d)))
theorem v__law_is_integer : ∀ ss q e, ss.length = 1 → wf__law_is_integer ss q e → wBody 1 ws__law_is_integer ss q noX := by
  rintro ss q e - ⟨d, rfl, hq⟩
  simp only [ws__law_is_integer, wBody, start', wSeq, wNx, wRet, wRetN, wIf, wSet, wOwn, wApp, wPar, wAsg, gTp, gC, gN, gNm, wFor, wLoop, wDrop, wVar, wD, wNil, wCons, wTup, wLst, wNew, wLstN, wAddN, wBi, w2, wIs, wT, wTru, tru, wNotB, wAndB, wOrB, wAnd, wOr, wNot, wIfE, wChain, oInt, oSub, oDiv, oMod, oPow, oOrd, oLt, oLe, oGt, oGe, oAdd, oMul, oEq, oInSign, oLen, oInt1, oAbs, oGcd, oList, oTuple, oAll, oRepr, oNeg, wM0, oM0, oIx, oSl, wSl, wPart, wNoPart, wIt, oIter, wRng1, wRng2, wCall, wJoin, wRev, wFint, wFcells, wFset, S.lst, S.data, S.seq, S.lent, S.frz, wipe', setAll, sel1, wYes, List.map_cons, List.map_nil, List.length_cons, List.length_nil, List.replicate_succ, List.replicate_zero, List.cons_append, List.nil_append, List.append_nil, List.getElem?_cons_zero, List.getElem?_cons_succ, List.set_cons_zero, List.set_cons_succ, List.all_cons, List.all_nil, Nat.reduceAdd, Nat.reduceSub, Nat.sub_self, Nat.sub_zero, Option.some.injEq, exists_eq_left', exists_eq_left, exists_eq_right, S.dat.injEq, PyData.bool.injEq, PyData.int.injEq, PyData.str.injEq, PyData.tuple.injEq, PyData.list.injEq, Bool.and_true, Bool.true_and, true_and, and_true, if_true, if_false, Bool.false_eq_true, Bool.not_true, Bool.not_false, reduceCtorEq, false_and, and_false, exists_false, Bool.and_self, exists_const]
  cases d <;> simp [isTy, tyN, isInt] at hq ⊢ <;> exact hq
theorem b__law_is_integer {P : Program} {w : World} {K : PySem.W.Frag} {mg : Str → Option Value} {base : Heap} (M : Bis mg)
    {f : Addr} {cdv : Value} {A : Around} {outer : List Env} {s : Shared} {H Z : Hp} {E : XK} {Fo : Option Fd} (hr : Room 0 (A.deeper (envOfC "_law_is_integer" (defScope s__law_is_integer) s.heap.objs.size f cdv))) (hgd : A.guards = some []) (hF : ∀ y, Fo = some y → fam y) :
    Sts (cpOf (cxOf CX0 P w K mg base N__law_is_integer "_law_is_integer" (defScope s__law_is_integer) f cdv A outer s H E).nox Fo H Z (fun _ _ _ => False) XV0) (defBody s__law_is_integer) ws__law_is_integer :=
  (ss_one (s_ret (e_and (e_is (T := "int") (e_var 0 (pv 0)) (by decide +kernel) (by rfl) M.isinstance (by rfl) M.int (by decide +kernel)) (e_one (e_not (e_is (T := "bool") (e_var 0 (pv 0)) (by decide +kernel) (by rfl) M.isinstance (by rfl) M.bool (by decide +kernel)))))))
/-! ### _law_is_name -/
abbrev s__law_is_name : Stmt := topS 17
abbrev N__law_is_name : List Str := ["_law_item", "_law_sign"]
abbrev ps__law_is_name : List Str := ["_law_item"]
theorem sc__law_is_name : FnScope N__law_is_name ps__law_is_name (defScope s__law_is_name) := ⟨rfl, rfl, rfl, by decide +kernel, rfl, by decide +kernel, by decide +kernel⟩
def ws__law_is_name : WS := (wSeq (wIf (wOrB (wNotB (wTru (wIs "str" (wVar 0)))) (wOrB (wT (w2 oLt (wBi oLen (wCons (wVar 0) wNil)) (wD (.int 1)))) (wT (w2 oGt (wBi oLen (wCons (wVar 0) wNil)) (wD (.int 8)))))) (wRet (wD (.bool false))) wNx)
    (wRet (w2 (oEq false) (wNew (wLc [1] [1] sel1 (wIt (wVar 0)) (wT (w2 (oInSign true) (wVar 1) (wD (.str (Str.ofString "abcdefghijklmnopqrstuvwxyz"))))) (wVar 1))) (wNew (wLstN wNil)))))
def wf__law_is_name : WF := fun ss q _ => ∃ d a n, ss = [S.dat d] ∧ Sm a n d ∧ q (.dat (.bool (isNam d)))
theorem v__law_is_name : ∀ ss q e, ss.length = 1 → wf__law_is_name ss q e → wBody 2 ws__law_is_name ss q noX := by
  rintro ss q e - ⟨d, a, n, rfl, hs, hq⟩
  simp only [ws__law_is_name, wLc, wBody, start', wSeq, wNx, wRet, wRetN, wIf, wSet, wOwn, wApp, wPar, wAsg, gTp, gC, gN, gNm, wFor, wLoop, wDrop, wVar, wD, wNil, wCons, wTup, wLst, wNew, wLstN, wAddN, wBi, w2, wIs, wT, wTru, tru, wNotB, wAndB, wOrB, wAnd, wOr, wNot, wIfE, wChain, oInt, oSub, oDiv, oMod, oPow, oOrd, oLt, oLe, oGt, oGe, oAdd, oMul, oEq, oInSign, oLen, oInt1, oAbs, oGcd, oList, oTuple, oAll, oRepr, oNeg, wM0, oM0, oIx, oSl, wSl, wPart, wNoPart, wIt, oIter, wRng1, wRng2, wCall, wJoin, wRev, wFint, wFcells, wFset, S.lst, S.data, S.seq, S.lent, S.frz, wipe', setAll, sel1, wYes, List.map_cons, List.map_nil, List.length_cons, List.length_nil, List.replicate_succ, List.replicate_zero, List.cons_append, List.nil_append, List.append_nil, List.getElem?_cons_zero, List.getElem?_cons_succ, List.set_cons_zero, List.set_cons_succ, List.all_cons, List.all_nil, Nat.reduceAdd, Nat.reduceSub, Nat.sub_self, Nat.sub_zero, Option.some.injEq, exists_eq_left', exists_eq_left, exists_eq_right, S.dat.injEq, PyData.bool.injEq, PyData.int.injEq, PyData.str.injEq, PyData.tuple.injEq, PyData.list.injEq, Bool.and_true, Bool.true_and, true_and, and_true, if_true, if_false, Bool.false_eq_true, Bool.not_true, Bool.not_false, reduceCtorEq, false_and, and_false, exists_false, Bool.and_self, exists_const]
  cases d with
  | str z =>
    have hl : z.length ≤ sizeLine := hs.str_size
    have x1 : (z.length : Int) < (1 : Int) ↔ ¬ 1 ≤ z.length := by omega
    have x2 : (8 : Int) < (z.length : Int) ↔ ¬ z.length ≤ 8 := by omega
    rw [if_neg (by rw [show isTy "str" (.str z) = true from rfl]; decide)]
    refine ⟨hl, _, rfl, ?_⟩
    by_cases h1 : 1 ≤ z.length
    · rw [if_neg (by rw [decide_eq_false (fun h => x1.mp h h1)]; decide)]
      refine ⟨hl, _, rfl, ?_⟩
      by_cases h8 : z.length ≤ 8
      · rw [if_neg (by rw [decide_eq_false (fun h => x2.mp h h8)]; decide)]
        have ls : (signsD z).length = z.length := by simp [signsD, Str.length]
        refine ⟨size100 (by omega), wMap_of (g := gSign) ?_ ?_⟩
        · intro d hd q' hq'
          obtain ⟨c, rfl, _⟩ := sign_ok hs.str.1 hd
          refine ⟨c, rfl, _, rfl, ?_⟩
          rw [az_mem]
          have e : gSign (PyData.str ⟨#[c]⟩) = if az c = true then none else some (PyData.str ⟨#[c]⟩) := rfl
          rw [e] at hq'
          cases hz : az c <;> rw [hz] at hq' <;> exact hq'
        · refine ⟨[], rfl, Nat.zero_le _, _, _, rfl, rfl, sh_list fun x hx => ?_, shNil, ?_⟩
          · obtain ⟨y, hy, e⟩ := List.mem_filterMap.mp hx
            obtain ⟨c, rfl, h3⟩ := sign_ok hs.str.1 hy
            have e' : (if az c = true then none else some (PyData.str ⟨#[c]⟩)) = some x := e
            cases hz : az c <;> rw [hz] at e' <;> cases e'
            exact h3
          · rw [eqv_nil, show signsD z = z.cps.toList.map fun c => (PyData.str ⟨#[c]⟩ : D) from rfl, signs_all]
            rw [show isNam (.str z) = (decide (1 ≤ z.length ∧ z.length ≤ 8) && z.cps.toList.all az) from rfl, decide_eq_true ⟨h1, h8⟩] at hq
            exact hq
      · rw [if_pos (decide_eq_true (x2.mpr h8))]
        rw [show isNam (.str z) = (decide (1 ≤ z.length ∧ z.length ≤ 8) && z.cps.toList.all az) from rfl, decide_eq_false (fun h => h8 h.2)] at hq
        exact hq
    · rw [if_pos (decide_eq_true (x1.mpr h1))]
      rw [show isNam (.str z) = (decide (1 ≤ z.length ∧ z.length ≤ 8) && z.cps.toList.all az) from rfl, decide_eq_false (fun h => h1 h.1)] at hq
      exact hq
  | _ => simp [isTy, tyN, isNam] at hq ⊢ <;> exact hq
theorem b__law_is_name {P : Program} {w : World} {K : PySem.W.Frag} {mg : Str → Option Value} {base : Heap} (M : Bis mg)
    {f : Addr} {cdv : Value} {A : Around} {outer : List Env} {s : Shared} {H Z : Hp} {E : XK} {Fo : Option Fd} (hr : Room 0 (A.deeper (envOfC "_law_is_name" (defScope s__law_is_name) s.heap.objs.size f cdv))) (hgd : A.guards = some []) (hF : ∀ y, Fo = some y → fam y) :
    Sts (cpOf (cxOf CX0 P w K mg base N__law_is_name "_law_is_name" (defScope s__law_is_name) f cdv A outer s H E).nox Fo H Z (fun _ _ _ => False) XV0) (defBody s__law_is_name) ws__law_is_name :=
  (ss_cons (s_if (TW.t (tw_or (t_not (t_tru (e_is (T := "str") (e_var 0 (pv 0)) (by decide +kernel) (by rfl) M.isinstance (by rfl) M.str (by decide +kernel)))) (tw_or (t_cmp o_lt (e_bi b_len (by rfl) M.len (by decide +kernel) (a_cons (e_var 0 (pv 0)) a_nil)) e_int rfl) (tw_or1 (t_cmp o_gt (e_bi b_len (by rfl) M.len (by decide +kernel) (a_cons (e_var 0 (pv 0)) a_nil)) e_int rfl))))) (ss_one (s_ret e_bl)) ss_nil)
    (ss_one (s_ret (e_cmp (o_eq hr.units) (e_new (n_lc rfl sc__law_is_name.nd (i_any (e_var 0 (pv 0))) (blkOk_by (own := [("_law_sign", 1)]) (N := N__law_is_name) (sc := defScope s__law_is_name) (by decide +kernel)) (tg_name 1) (by decide) (fun _ _ _ _ _ => (pg_name (i := 1) sc__law_is_name.nd rfl (Or.inl rfl))) (fun _ _ _ _ _ => (ts_one (t_cmp o_notInSign (e_var 1 (pv 1)) e_str rfl))) (fun _ _ _ _ _ => (e_var 1 (pv 1))))) (e_new (n_lst a_nil)) rfl))))
/-! ### _law_is_towers -/
abbrev s__law_is_towers : Stmt := topS 18
abbrev N__law_is_towers : List Str := ["_law_item", "_law_name"]
abbrev ps__law_is_towers : List Str := ["_law_item"]
theorem sc__law_is_towers : FnScope N__law_is_towers ps__law_is_towers (defScope s__law_is_towers) := ⟨rfl, rfl, rfl, by decide +kernel, rfl, by decide +kernel, by decide +kernel⟩
def ws__law_is_towers : WS := (wSeq (wIf (wOrB (wNotB (wTru (wIs "tuple" (wVar 0)))) (wOrB (wT (w2 (oEq false) (wVar 0) (wTup wNil))) (wT (w2 (oEq true) (wNew (wLc [1] [1] sel1 (wIt (wVar 0)) (wNotB (wTru (wCall wf__law_is_name (wCons (wVar 1) wNil)))) (wVar 1))) (wNew (wLstN wNil)))))) (wRet (wD (.bool false))) wNx)
    (wRet (w2 (oEq false) (wBi oList (wCons (wVar 0) wNil)) (wSrtSetT (wVar 0)))))
theorem kept {f : D → Bool} : ∀ ds : List D, (ds.filterMap fun d => if (!f d) = true then some d else none).isEmpty = ds.all f
  | [] => rfl
  | d :: r => by
    rw [List.filterMap_cons, List.all_cons, ← kept r]
    cases f d <;> rfl
theorem kept_mem {f : D → Bool} {ds : List D} {x : D} (h : x ∈ ds.filterMap fun d => if (!f d) = true then some d else none) : x ∈ ds := by
  obtain ⟨y, hy, e⟩ := List.mem_filterMap.mp h
  cases hz : f y <;> rw [hz] at e <;> cases e
  exact hy
def wf__law_is_towers : WF := fun ss q _ => ∃ d a n, ss = [S.dat d] ∧ Sm a n d ∧ a ≤ 100 ∧ n ≤ 63 ∧ q (.dat (.bool (isTow d)))
theorem v__law_is_towers : ∀ ss q e, ss.length = 1 → wf__law_is_towers ss q e → wBody 2 ws__law_is_towers ss q noX := by
  rintro ss q e - ⟨d, a, n, rfl, hs, ha, hn, hq⟩
  simp only [ws__law_is_towers, wf__law_is_name, wSrtSetT, wLc, wBody, start', wSeq, wNx, wRet, wRetN, wIf, wSet, wOwn, wApp, wPar, wAsg, gTp, gC, gN, gNm, wFor, wLoop, wDrop, wVar, wD, wNil, wCons, wTup, wLst, wNew, wLstN, wAddN, wBi, w2, wIs, wT, wTru, tru, wNotB, wAndB, wOrB, wAnd, wOr, wNot, wIfE, wChain, oInt, oSub, oDiv, oMod, oPow, oOrd, oLt, oLe, oGt, oGe, oAdd, oMul, oEq, oInSign, oLen, oInt1, oAbs, oGcd, oList, oTuple, oAll, oRepr, oNeg, wM0, oM0, oIx, oSl, wSl, wPart, wNoPart, wIt, oIter, wRng1, wRng2, wCall, wJoin, wRev, wFint, wFcells, wFset, S.lst, S.data, S.seq, S.lent, S.frz, wipe', setAll, sel1, wYes, List.map_cons, List.map_nil, List.length_cons, List.length_nil, List.replicate_succ, List.replicate_zero, List.cons_append, List.nil_append, List.append_nil, List.getElem?_cons_zero, List.getElem?_cons_succ, List.set_cons_zero, List.set_cons_succ, List.all_cons, List.all_nil, Nat.reduceAdd, Nat.reduceSub, Nat.sub_self, Nat.sub_zero, Option.some.injEq, exists_eq_left', exists_eq_left, exists_eq_right, S.dat.injEq, PyData.bool.injEq, PyData.int.injEq, PyData.str.injEq, PyData.tuple.injEq, PyData.list.injEq, Bool.and_true, Bool.true_and, true_and, and_true, if_true, if_false, Bool.false_eq_true, Bool.not_true, Bool.not_false, reduceCtorEq, false_and, and_false, exists_false, Bool.and_self, exists_const]
  cases d with
  | tuple ds =>
    obtain ⟨hl, hx⟩ := hs.elems
    have hlay : ∀ x ∈ ds, x.canLay0 = true ∧ x.depth ≤ 63 := fun x h => ⟨(hx x h).lay.1, Nat.le_trans (hx x h).lay.2 hn⟩
    rw [if_neg (by rw [show isTy "tuple" (.tuple ds) = true from rfl]; decide)]
    refine ⟨[], rfl, Nat.zero_le _, _, _, rfl, rfl, hs.shaped (by omega), shNilT, ?_⟩
    rw [eqv_nilT]
    have e2 : isTow (.tuple ds) = (!ds.isEmpty && (ds.all isNam && ascS (ds.map strD))) := rfl
    rw [e2] at hq
    cases hz : ds.isEmpty with
    | true => rw [hz] at hq; exact hq
    | false =>
      rw [hz] at hq
      rw [if_neg (by decide)]
      refine ⟨size100 (Nat.le_trans hl ha), wMap_of (g := fun d => if (!isNam d) = true then some d else none) ?_ ?_⟩
      · intro d hd q' hq'
        refine ⟨d, a, n, rfl, hx d hd, ?_⟩
        cases hk : isNam d <;> rw [hk] at hq' <;> exact hq'
      · refine ⟨[], rfl, Nat.zero_le _, _, _, rfl, rfl, sh_list fun x h => hlay x (kept_mem h), shNil, ?_⟩
        rw [eqv_nil, kept]
        cases y1 : ds.all isNam with
        | false => rw [y1] at hq; exact hq
        | true =>
          rw [y1] at hq
          rw [if_neg (by decide)]
          obtain ⟨zs, rfl⟩ := all_nam y1
          rw [map_strD] at hq
          rw [List.length_map] at hl
          refine ⟨zs, rfl, Nat.lt_of_le_of_lt (show zs.length + 3 ≤ 103 by omega) (by decide +kernel), ?_⟩
          intro ys m nd so
          refine ⟨_, _, rfl, rfl, sh_list hlay, sh_list fun x h => ?_, ?_⟩
          · rw [List.mem_map] at h
            obtain ⟨y, hy, rfl⟩ := h
            exact hlay _ (List.mem_map.mpr ⟨y, (m y).mp hy, rfl⟩)
          · rw [eqv_strl, same_iff m nd so]
            exact hq
  | _ => simp [isTy, tyN, isTow] at hq ⊢ <;> exact hq
theorem b__law_is_towers {P : Program} {w : World} {K : PySem.W.Frag} {mg : Str → Option Value} {base : Heap} (M : Bis mg) (D__law_is_name : Def P w K mg base fam XV0 "_law_is_name" 1 ps__law_is_name wf__law_is_name)
    {f : Addr} {cdv : Value} {A : Around} {outer : List Env} {s : Shared} {H Z : Hp} {E : XK} {Fo : Option Fd} (hr : Room 1 (A.deeper (envOfC "_law_is_towers" (defScope s__law_is_towers) s.heap.objs.size f cdv))) (hgd : A.guards = some []) (hF : ∀ y, Fo = some y → fam y) :
    Sts (cpOf (cxOf CX0 P w K mg base N__law_is_towers "_law_is_towers" (defScope s__law_is_towers) f cdv A outer s H E).nox Fo H Z (fun _ _ _ => False) XV0) (defBody s__law_is_towers) ws__law_is_towers :=
  (ss_cons (s_if (TW.t (tw_or (t_not (t_tru (e_is (T := "tuple") (e_var 0 (pv 0)) (by decide +kernel) (by rfl) M.isinstance (by rfl) M.tuple (by decide +kernel)))) (tw_or (t_cmp (o_eq hr.units) (e_var 0 (pv 0)) (e_tup a_nil) rfl) (tw_or1 (t_cmp (o_ne hr.units) (e_new (n_lc rfl sc__law_is_towers.nd (i_any (e_var 0 (pv 0))) (blkOk_by (own := [("_law_name", 1)]) (N := N__law_is_towers) (sc := defScope s__law_is_towers) (by decide +kernel)) (tg_name 1) (by decide) (fun _ _ _ _ _ => (pg_name (i := 1) sc__law_is_towers.nd rfl (Or.inl rfl))) (fun _ _ _ _ _ => (ts_one (t_not (t_tru (e_callD D__law_is_name hF (hr.mono (by decide)) hgd (by rfl) (fun _ _ _ _ _ _ _ h => h.elim) (a_cons (e_var 1 (pv 1)) a_nil)))))) (fun _ _ _ _ _ => (e_var 1 (pv 1))))) (e_new (n_lst a_nil)) rfl))))) (ss_one (s_ret e_bl)) ss_nil)
    (ss_one (s_ret (e_cmp (o_eq hr.units) (e_ty b_list (by rfl) M.list (by decide +kernel) (a_cons (e_var 0 (pv 0)) a_nil)) (e_srtSetT rfl hr.units (by rfl) M.sorted (by rfl) M.set (e_var 0 (pv 0))) rfl))))
/-! ### _law_is_fraction -/
abbrev s__law_is_fraction : Stmt := topS 21
abbrev N__law_is_fraction : List Str := ["_law_item", "_law_one", "_law_top", "_law_rest"]
abbrev ps__law_is_fraction : List Str := ["_law_item"]
theorem sc__law_is_fraction : FnScope N__law_is_fraction ps__law_is_fraction (defScope s__law_is_fraction) := ⟨rfl, rfl, rfl, by decide +kernel, rfl, by decide +kernel, by decide +kernel⟩
def ws__law_is_fraction : WS := (wSeq (wIf (wOrB (wNotB (wTru (wIs "tuple" (wVar 0)))) (wOrB (wT (w2 (oEq true) (wBi oLen (wCons (wVar 0) wNil)) (wD (.int 2)))) (wT (w2 (oEq true) (wNew (wLc [1] [1] sel1 (wIt (wVar 0)) (wNotB (wTru (wCall wf__law_is_integer (wCons (wVar 1) wNil)))) (wVar 1))) (wNew (wLstN wNil)))))) (wRet (wD (.bool false))) wNx)
    (wSeq (wPar 2 3 (wCons (wBi oAbs (wCons (w2 oIx (wVar 0) (wD (.int 0))) wNil)) (wCons (w2 oIx (wVar 0) (wD (.int 1))) wNil)))
    (wSeq (wIf (wT (w2 oLt (wVar 3) (wD (.int 1)))) (wRet (wD (.bool false))) wNx)
    (wSeq (wWhile (wT (w2 (oEq true) (wVar 2) (wD (.int 0)))) (wPar 2 3 (wCons (w2 oMod (wBi oInt1 (wCons (wVar 3) wNil)) (wVar 2)) (wCons (wVar 2) wNil))))
    (wRet (w2 (oEq false) (wVar 3) (wD (.int 1))))))))
theorem isFra_not {d : D} (h : ¬ ∃ i j, d = .tuple [.int i, .int j]) : isFra d = false := by
  unfold isFra
  split
  · exact absurd ⟨_, _, rfl⟩ h
  · rfl
def wf__law_is_fraction : WF := fun ss q _ => ∃ d a n, ss = [S.dat d] ∧ Sm a n d ∧ a ≤ 100 ∧ n ≤ 63 ∧ q (.dat (.bool (isFra d)))
theorem v__law_is_fraction : ∀ ss q e, ss.length = 1 → wf__law_is_fraction ss q e → wBody 4 ws__law_is_fraction ss q noX := by
  rintro ss q e - ⟨d, a, n, rfl, hs, ha, hn, hq⟩
  simp only [ws__law_is_fraction, wf__law_is_integer, wLc, wBody, start', wSeq, wNx, wRet, wRetN, wIf, wSet, wOwn, wApp, wPar, wAsg, gTp, gC, gN, gNm, wFor, wLoop, wDrop, wVar, wD, wNil, wCons, wTup, wLst, wNew, wLstN, wAddN, wBi, w2, wIs, wT, wTru, tru, wNotB, wAndB, wOrB, wAnd, wOr, wNot, wIfE, wChain, oInt, oSub, oDiv, oMod, oPow, oOrd, oLt, oLe, oGt, oGe, oAdd, oMul, oEq, oInSign, oLen, oInt1, oAbs, oGcd, oList, oTuple, oAll, oRepr, oNeg, wM0, oM0, oIx, oSl, wSl, wPart, wNoPart, wIt, oIter, wRng1, wRng2, wCall, wJoin, wRev, wFint, wFcells, wFset, S.lst, S.data, S.seq, S.lent, S.frz, wipe', setAll, sel1, wYes, List.map_cons, List.map_nil, List.length_cons, List.length_nil, List.replicate_succ, List.replicate_zero, List.cons_append, List.nil_append, List.append_nil, List.getElem?_cons_zero, List.getElem?_cons_succ, List.set_cons_zero, List.set_cons_succ, List.all_cons, List.all_nil, Nat.reduceAdd, Nat.reduceSub, Nat.sub_self, Nat.sub_zero, Option.some.injEq, exists_eq_left', exists_eq_left, exists_eq_right, S.dat.injEq, PyData.bool.injEq, PyData.int.injEq, PyData.str.injEq, PyData.tuple.injEq, PyData.list.injEq, Bool.and_true, Bool.true_and, true_and, and_true, if_true, if_false, Bool.false_eq_true, Bool.not_true, Bool.not_false, reduceCtorEq, false_and, and_false, exists_false, Bool.and_self, exists_const]
  cases d with
  | tuple ds =>
    obtain ⟨hl, hx⟩ := hs.elems
    have hlay : ∀ x ∈ ds, x.canLay0 = true ∧ x.depth ≤ 63 := fun x h => ⟨(hx x h).lay.1, Nat.le_trans (hx x h).lay.2 hn⟩
    rw [if_neg (by rw [show isTy "tuple" (.tuple ds) = true from rfl]; decide)]
    refine ⟨_, _, rfl, rfl, shInt _, shInt _, ?_⟩
    rw [eqv_int]
    by_cases h2 : ds.length = 2
    · rw [if_neg (by rw [h2]; decide)]
      refine ⟨size100 (Nat.le_trans hl ha), wMap_of (g := fun d => if (!isInt d) = true then some d else none) ?_ ?_⟩
      · intro d hd q' hq'
        refine ⟨d, rfl, ?_⟩
        cases hk : isInt d <;> rw [hk] at hq' <;> exact hq'
      · refine ⟨[], rfl, Nat.zero_le _, _, _, rfl, rfl, sh_list fun x h => hlay x (kept_mem h), shNil, ?_⟩
        rw [eqv_nil, kept]
        cases y1 : ds.all isInt with
        | false =>
          rw [isFra_not (by rintro ⟨i, j, e⟩; cases e; simp [isInt] at y1)] at hq
          exact hq
        | true =>
          rw [if_neg (by decide)]
          obtain ⟨i, j, e⟩ : ∃ i j, ds = [.int i, .int j] := by
            match ds, h2, y1 with
            | [.int i, .int j], _, _ => exact ⟨i, j, rfl⟩
          subst e
          refine ⟨.int i, rfl, .int j, rfl, _, _, rfl, rfl, rfl, _, rfl, ?_⟩
          rw [show isFra (.tuple [.int i, .int j]) = (decide (1 ≤ j) && Nat.gcd i.natAbs j.natAbs == 1) from rfl] at hq
          by_cases hj : 1 ≤ j
          · rw [if_neg (by rw [decide_eq_false (by omega)]; decide)]
            rw [decide_eq_true hj, Bool.true_and] at hq
            refine ⟨fun ρ => ∃ (t r : Nat) (x y : Option S), ρ = [x, y, some (.dat (.int (t : Int))), some (.dat (.int (r : Int)))] ∧ Nat.gcd t r = Nat.gcd i.natAbs j.natAbs,
              fun ρ => match ρ with | [_, _, some (.dat (.int t)), _] => t.toNat | _ => 0, ⟨i.natAbs, j.natAbs, some (.dat (.tuple [.int i, .int j])), none, ?_, rfl⟩, ?_⟩
            · have e1 : (if i < 0 then -i else i) = ((i.natAbs : Nat) : Int) := by split <;> omega
              have e2 : j = ((j.natAbs : Nat) : Int) := by omega
              rw [e1, ← e2]
            · rintro ρ ⟨t, r, x, y, rfl, g⟩
              simp only [wBody, start', wSeq, wNx, wRet, wRetN, wIf, wSet, wOwn, wApp, wPar, wAsg, gTp, gC, gN, gNm, wFor, wLoop, wDrop, wVar, wD, wNil, wCons, wTup, wLst, wNew, wLstN, wAddN, wBi, w2, wIs, wT, wTru, tru, wNotB, wAndB, wOrB, wAnd, wOr, wNot, wIfE, wChain, oInt, oSub, oDiv, oMod, oPow, oOrd, oLt, oLe, oGt, oGe, oAdd, oMul, oEq, oInSign, oLen, oInt1, oAbs, oGcd, oList, oTuple, oAll, oRepr, oNeg, wM0, oM0, oIx, oSl, wSl, wPart, wNoPart, wIt, oIter, wRng1, wRng2, wCall, wJoin, wRev, wFint, wFcells, wFset, S.lst, S.data, S.seq, S.lent, S.frz, wipe', setAll, sel1, wYes, List.map_cons, List.map_nil, List.length_cons, List.length_nil, List.replicate_succ, List.replicate_zero, List.cons_append, List.nil_append, List.append_nil, List.getElem?_cons_zero, List.getElem?_cons_succ, List.set_cons_zero, List.set_cons_succ, List.all_cons, List.all_nil, Nat.reduceAdd, Nat.reduceSub, Nat.sub_self, Nat.sub_zero, Option.some.injEq, exists_eq_left', exists_eq_left, exists_eq_right, S.dat.injEq, PyData.bool.injEq, PyData.int.injEq, PyData.str.injEq, PyData.tuple.injEq, PyData.list.injEq, Bool.and_true, Bool.true_and, true_and, and_true, if_true, if_false, Bool.false_eq_true, Bool.not_true, Bool.not_false, reduceCtorEq, false_and, and_false, exists_false, Bool.and_self, exists_const]
              refine ⟨_, _, rfl, rfl, shInt _, shInt _, ?_⟩
              rw [eqv_int]
              by_cases h0 : t = 0
              · subst h0
                rw [if_neg (by simp)]
                refine ⟨_, _, rfl, rfl, shInt _, shInt _, ?_⟩
                rw [eqv_gcd]
                rw [Nat.gcd_zero_left] at g
                rw [g]
                exact hq
              · rw [if_pos (by simp; omega)]
                refine ⟨by omega, ?_⟩
                have em : (r : Int) % (t : Int) = ((r % t : Nat) : Int) := by omega
                have lt : r % t < t := Nat.mod_lt _ (by omega)
                refine ⟨_, _, rfl, rfl, rfl, ⟨r % t, t, x, y, by rw [em], ?_⟩, ?_⟩
                · rw [← g, Nat.gcd_rec t r]
                · show ((r : Int) % (t : Int)).toNat < ((t : Nat) : Int).toNat
                  rw [em]; omega
          · rw [if_pos (decide_eq_true (by omega))]
            rw [decide_eq_false hj] at hq
            exact hq
    · rw [if_pos (by simp only [Bool.not_eq_true', beq_eq_false_iff_ne]; omega)]
      rw [isFra_not (by rintro ⟨i, j, e⟩; cases e; exact h2 rfl)] at hq
      exact hq
  | _ => simp [isTy, tyN, isFra] at hq ⊢ <;> exact hq
theorem b__law_is_fraction {P : Program} {w : World} {K : PySem.W.Frag} {mg : Str → Option Value} {base : Heap} (M : Bis mg) (D__law_is_integer : Def P w K mg base fam XV0 "_law_is_integer" 1 ps__law_is_integer wf__law_is_integer)
    {f : Addr} {cdv : Value} {A : Around} {outer : List Env} {s : Shared} {H Z : Hp} {E : XK} {Fo : Option Fd} (hr : Room 1 (A.deeper (envOfC "_law_is_fraction" (defScope s__law_is_fraction) s.heap.objs.size f cdv))) (hgd : A.guards = some []) (hF : ∀ y, Fo = some y → fam y) :
    Sts (cpOf (cxOf CX0 P w K mg base N__law_is_fraction "_law_is_fraction" (defScope s__law_is_fraction) f cdv A outer s H E).nox Fo H Z (fun _ _ _ => False) XV0) (defBody s__law_is_fraction) ws__law_is_fraction :=
  (ss_cons (s_if (TW.t (tw_or (t_not (t_tru (e_is (T := "tuple") (e_var 0 (pv 0)) (by decide +kernel) (by rfl) M.isinstance (by rfl) M.tuple (by decide +kernel)))) (tw_or (t_cmp (o_ne hr.units) (e_bi b_len (by rfl) M.len (by decide +kernel) (a_cons (e_var 0 (pv 0)) a_nil)) e_int rfl) (tw_or1 (t_cmp (o_ne hr.units) (e_new (n_lc rfl sc__law_is_fraction.nd (i_any (e_var 0 (pv 0))) (blkOk_by (own := [("_law_one", 1)]) (N := N__law_is_fraction) (sc := defScope s__law_is_fraction) (by decide +kernel)) (tg_name 1) (by decide) (fun _ _ _ _ _ => (pg_name (i := 1) sc__law_is_fraction.nd rfl (Or.inl rfl))) (fun _ _ _ _ _ => (ts_one (t_not (t_tru (e_callD D__law_is_integer hF (hr.mono (by decide)) hgd (by rfl) (fun _ _ _ _ _ _ _ h => h.elim) (a_cons (e_var 1 (pv 1)) a_nil)))))) (fun _ _ _ _ _ => (e_var 1 (pv 1))))) (e_new (n_lst a_nil)) rfl))))) (ss_one (s_ret e_bl)) ss_nil)
    (ss_cons (s_par (i := 2) (j := 3) rfl sc__law_is_fraction.nd rfl rfl (by decide) rfl rfl (a_cons (e_bi b_abs (by rfl) M.abs (by decide +kernel) (a_cons (e_ix (e_var 0 (pv 0)) e_int (fun _ _ => rfl)) a_nil)) (a_cons (e_ix (e_var 0 (pv 0)) e_int (fun _ _ => rfl)) a_nil)) (by rfl))
    (ss_cons (s_if (t_cmp o_lt (e_var 3 (pv 3)) e_int rfl) (ss_one (s_ret e_bl)) ss_nil)
    (ss_cons (s_while PassesOwn.never (t_cmp (o_ne hr.units) (e_var 2 (pv 2)) e_int rfl) (ss_one (s_par (i := 2) (j := 3) rfl sc__law_is_fraction.nd rfl rfl (by decide) rfl rfl (a_cons (e_op o_mod (e_ty b_int (by rfl) M.int (by decide +kernel) (a_cons (e_var 3 (pv 3)) a_nil)) (e_var 2 (pv 2))) (a_cons (e_var 2 (pv 2)) a_nil)) (by rfl))))
    (ss_one (s_ret (e_cmp (o_eq hr.units) (e_var 3 (pv 3)) e_int rfl)))))))
/-! ### _law_is_right -/
abbrev s__law_is_right : Stmt := topS 22
abbrev N__law_is_right : List Str := ["_law_item", "_law_is_whole", "_law_due", "_law_told", "_law_named"]
abbrev ps__law_is_right : List Str := ["_law_item"]
theorem sc__law_is_right : FnScope N__law_is_right ps__law_is_right (defScope s__law_is_right) := ⟨rfl, rfl, rfl, by decide +kernel, rfl, by decide +kernel, by decide +kernel⟩
def ws__law_is_right : WS := (wSeq (wSet 1 (wCall wf__law_is_integer (wCons (wVar 0) wNil)))
    (wSeq (wSet 2 (wNew (wLstN (wCons (wVar 1) (wCons (wAnd (wVar 1) (w2 oGe (wVar 0) (wD (.int 0)))) (wCons (wCall wf__law_is_name (wCons (wVar 0) wNil)) (wCons (wCall wf__law_is_towers (wCons (wVar 0) wNil)) (wCons (wCall wf__law_is_fraction (wCons (wVar 0) wNil)) wNil))))))))
    (wSeq (wSet 3 (wNew (wLstN (wCons (wCall wf_is_integer (wCons (wVar 0) wNil)) (wCons (wCall wf_is_number (wCons (wVar 0) wNil)) (wCons (wCall wf_is_name (wCons (wVar 0) wNil)) (wCons (wCall wf_is_towers (wCons (wVar 0) wNil)) (wCons (wCall wf_is_fraction (wCons (wVar 0) wNil)) wNil))))))))
    (wSeq (wSet 4 (wNew (wLstN (wCons (wCall wf_is_integer (wCons (wVar 0) wNil)) (wCons (wCall wf_is_number (wCons (wVar 0) wNil)) (wCons (wCall wf_is_name (wCons (wVar 0) wNil)) (wCons (wCall wf_is_towers (wCons (wVar 0) wNil)) wNil)))))))
    (wRet (wAnd (w2 (oEq false) (wBi oRepr (wCons (wVar 3) wNil)) (wBi oRepr (wCons (wVar 2) wNil))) (w2 (oEq false) (wBi oRepr (wCons (w2 oAdd (wVar 4) (wNew (wLstN (wCons (wCall wf_is_fraction (wCons (wVar 0) wNil)) wNil)))) wNil)) (wBi oRepr (wCons (wVar 2) wNil)))))))))
structure Five (d : D) : Prop where
  sh : PyData.showable d = true
  ok : SeqAt.shaped d = true
  lim : (PyData.shown d).length ≤ sizeLine
  st : SeqAt.shaped (.str (PyData.shown d)) = true
theorem fiveB (a b c d e : Bool) : Five (.list [.bool a, .bool b, .bool c, .bool d, .bool e]) := by
  have h : ∀ a b c d e : Bool, PyData.showable (.list [.bool a, .bool b, .bool c, .bool d, .bool e]) = true ∧ SeqAt.shaped (.list [.bool a, .bool b, .bool c, .bool d, .bool e]) = true ∧ (PyData.shown (.list [.bool a, .bool b, .bool c, .bool d, .bool e])).length ≤ 100 ∧ SeqAt.shaped (.str (PyData.shown (.list [.bool a, .bool b, .bool c, .bool d, .bool e]))) = true := by decide +kernel
  obtain ⟨h1, h2, h3, h4⟩ := h a b c d e
  exact ⟨h1, h2, size100 h3, h4⟩
theorem eqv_same (x : Str) : PyData.eqv (.str x) (.str x) = true := by
  show (x == x) = true
  simp
def wf__law_is_right : WF := fun ss q _ => ∃ d a n, ss = [S.dat d] ∧ Sm a n d ∧ a ≤ 100 ∧ n ≤ 63 ∧ q (.dat (.bool true))
theorem v__law_is_right : ∀ ss q e, ss.length = 1 → wf__law_is_right ss q e → wBody 5 ws__law_is_right ss q noX := by
  rintro ss q e - ⟨d, a, n, rfl, hs, ha, hn, hq⟩
  simp only [ws__law_is_right, wf__law_is_integer, wf__law_is_name, wf__law_is_towers, wf__law_is_fraction, wf_is_integer, wf_is_number, wf_is_name, wf_is_towers, wf_is_fraction, wLc, wBody, start', wSeq, wNx, wRet, wRetN, wIf, wSet, wOwn, wApp, wPar, wAsg, gTp, gC, gN, gNm, wFor, wLoop, wDrop, wVar, wD, wNil, wCons, wTup, wLst, wNew, wLstN, wAddN, wBi, w2, wIs, wT, wTru, tru, wNotB, wAndB, wOrB, wAnd, wOr, wNot, wIfE, wChain, oInt, oSub, oDiv, oMod, oPow, oOrd, oLt, oLe, oGt, oGe, oAdd, oMul, oEq, oInSign, oLen, oInt1, oAbs, oGcd, oList, oTuple, oAll, oRepr, oNeg, wM0, oM0, oIx, oSl, wSl, wPart, wNoPart, wIt, oIter, wRng1, wRng2, wCall, wJoin, wRev, wFint, wFcells, wFset, S.lst, S.data, S.seq, S.lent, S.frz, wipe', setAll, sel1, wYes, List.map_cons, List.map_nil, List.length_cons, List.length_nil, List.replicate_succ, List.replicate_zero, List.cons_append, List.nil_append, List.append_nil, List.getElem?_cons_zero, List.getElem?_cons_succ, List.set_cons_zero, List.set_cons_succ, List.all_cons, List.all_nil, Nat.reduceAdd, Nat.reduceSub, Nat.sub_self, Nat.sub_zero, Option.some.injEq, exists_eq_left', exists_eq_left, exists_eq_right, S.dat.injEq, PyData.bool.injEq, PyData.int.injEq, PyData.str.injEq, PyData.tuple.injEq, PyData.list.injEq, Bool.and_true, Bool.true_and, true_and, and_true, if_true, if_false, Bool.false_eq_true, Bool.not_true, Bool.not_false, reduceCtorEq, false_and, and_false, exists_false, Bool.and_self, exists_const]
  refine ⟨d, rfl, ?_⟩
  cases hi : isInt d with
  | false =>
    have hu : isNum d = false := by cases d <;> simp [isInt] at hi <;> rfl
    refine ⟨d, a, n, rfl, hs, d, a, n, rfl, hs, ha, hn, d, a, n, rfl, hs, ha, hn, [.bool false, .bool false, .bool (isNam d), .bool (isTow d), .bool (isFra d)], rfl, size100 (by simp), ?_⟩
    refine ⟨d, rfl, d, rfl, d, a, n, rfl, hs, d, a, n, rfl, hs, ha, d, a, n, rfl, hs, ha, [.bool (isInt d), .bool (isNum d), .bool (isNam d), .bool (isTow d), .bool (isFra d)], rfl, size100 (by simp), ?_⟩
    refine ⟨d, rfl, d, rfl, d, a, n, rfl, hs, d, a, n, rfl, hs, ha, [.bool (isInt d), .bool (isNum d), .bool (isNam d), .bool (isTow d)], rfl, size100 (by simp), ?_⟩
    rw [hi, hu]
    have f := fiveB false false (isNam d) (isTow d) (isFra d)
    refine ⟨f.sh, f.ok, f.lim, f.sh, f.ok, f.lim, _, _, rfl, rfl, f.st, f.st, ?_⟩
    rw [eqv_same, if_pos rfl]
    refine ⟨d, a, n, rfl, hs, ha, [.bool (isFra d)], rfl, size100 (by simp), _, _, rfl, rfl, size100 (by simp), f.sh, f.ok, f.lim, f.sh, f.ok, f.lim, _, _, rfl, rfl, f.st, f.st, ?_⟩
    rw [show ([.bool false, .bool false, .bool (isNam d), .bool (isTow d)] ++ [.bool (isFra d)] : List D) = [.bool false, .bool false, .bool (isNam d), .bool (isTow d), .bool (isFra d)] from rfl, eqv_same]
    exact hq
  | true =>
    obtain ⟨i, rfl⟩ : ∃ i, d = .int i := by cases d <;> simp [isInt] at hi; exact ⟨_, rfl⟩
    have hu : isNum (.int i) = decide (0 ≤ i) := rfl
    generalize hd : (PyData.int i : D) = d at *
    generalize hv : decide (0 ≤ i) = v at *
    rw [if_pos rfl]
    subst hd
    refine ⟨.int i, a, n, rfl, hs, .int i, a, n, rfl, hs, ha, hn, .int i, a, n, rfl, hs, ha, hn, [.bool true, .bool v, .bool (isNam (.int i)), .bool (isTow (.int i)), .bool (isFra (.int i))], by rw [hv]; rfl, size100 (by simp), ?_⟩
    refine ⟨.int i, rfl, .int i, rfl, .int i, a, n, rfl, hs, .int i, a, n, rfl, hs, ha, .int i, a, n, rfl, hs, ha, [.bool (isInt (.int i)), .bool (isNum (.int i)), .bool (isNam (.int i)), .bool (isTow (.int i)), .bool (isFra (.int i))], rfl, size100 (by simp), ?_⟩
    refine ⟨.int i, rfl, .int i, rfl, .int i, a, n, rfl, hs, .int i, a, n, rfl, hs, ha, [.bool (isInt (.int i)), .bool (isNum (.int i)), .bool (isNam (.int i)), .bool (isTow (.int i))], rfl, size100 (by simp), ?_⟩
    rw [hi, hu]
    have f := fiveB true v (isNam (.int i)) (isTow (.int i)) (isFra (.int i))
    refine ⟨f.sh, f.ok, f.lim, f.sh, f.ok, f.lim, _, _, rfl, rfl, f.st, f.st, ?_⟩
    rw [eqv_same, if_pos rfl]
    refine ⟨.int i, a, n, rfl, hs, ha, [.bool (isFra (.int i))], rfl, size100 (by simp), _, _, rfl, rfl, size100 (by simp), f.sh, f.ok, f.lim, f.sh, f.ok, f.lim, _, _, rfl, rfl, f.st, f.st, ?_⟩
    rw [show ([.bool true, .bool v, .bool (isNam (.int i)), .bool (isTow (.int i))] ++ [.bool (isFra (.int i))] : List D) = [.bool true, .bool v, .bool (isNam (.int i)), .bool (isTow (.int i)), .bool (isFra (.int i))] from rfl, eqv_same]
    exact hq
theorem b__law_is_right {P : Program} {w : World} {K : PySem.W.Frag} {mg : Str → Option Value} {base : Heap} (M : Bis mg) (D__law_is_fraction : Def P w K mg base fam XV0 "_law_is_fraction" 2 ps__law_is_fraction wf__law_is_fraction) (D__law_is_integer : Def P w K mg base fam XV0 "_law_is_integer" 1 ps__law_is_integer wf__law_is_integer) (D__law_is_name : Def P w K mg base fam XV0 "_law_is_name" 1 ps__law_is_name wf__law_is_name) (D__law_is_towers : Def P w K mg base fam XV0 "_law_is_towers" 2 ps__law_is_towers wf__law_is_towers) (D_is_fraction : Def P w K mg base fam XV0 "is_fraction" 3 ps_is_fraction wf_is_fraction) (D_is_integer : Def P w K mg base fam XV0 "is_integer" 1 ps_is_integer wf_is_integer) (D_is_name : Def P w K mg base fam XV0 "is_name" 1 ps_is_name wf_is_name) (D_is_number : Def P w K mg base fam XV0 "is_number" 2 ps_is_number wf_is_number) (D_is_towers : Def P w K mg base fam XV0 "is_towers" 2 ps_is_towers wf_is_towers)
    {f : Addr} {cdv : Value} {A : Around} {outer : List Env} {s : Shared} {H Z : Hp} {E : XK} {Fo : Option Fd} (hr : Room 3 (A.deeper (envOfC "_law_is_right" (defScope s__law_is_right) s.heap.objs.size f cdv))) (hgd : A.guards = some []) (hF : ∀ y, Fo = some y → fam y) :
    Sts (cpOf (cxOf CX0 P w K mg base N__law_is_right "_law_is_right" (defScope s__law_is_right) f cdv A outer s H E).nox Fo H Z (fun _ _ _ => False) XV0) (defBody s__law_is_right) ws__law_is_right :=
  (ss_cons (s_set (i := 1) sc__law_is_right.nd rfl (.inl rfl) (e_callD D__law_is_integer hF (hr.mono (by decide)) hgd (by rfl) (fun _ _ _ _ _ _ _ h => h.elim) (a_cons (e_var 0 (pv 0)) a_nil)))
    (ss_cons (s_set (i := 2) sc__law_is_right.nd rfl (.inl rfl) (e_new (n_lst (a_cons (e_var 1 (pv 1)) (a_cons (e_and (e_var 1 (pv 1)) (e_one (e_cmp o_ge (e_var 0 (pv 0)) e_int rfl))) (a_cons (e_callD D__law_is_name hF (hr.mono (by decide)) hgd (by rfl) (fun _ _ _ _ _ _ _ h => h.elim) (a_cons (e_var 0 (pv 0)) a_nil)) (a_cons (e_callD D__law_is_towers hF (hr.mono (by decide)) hgd (by rfl) (fun _ _ _ _ _ _ _ h => h.elim) (a_cons (e_var 0 (pv 0)) a_nil)) (a_cons (e_callD D__law_is_fraction hF (hr.mono (by decide)) hgd (by rfl) (fun _ _ _ _ _ _ _ h => h.elim) (a_cons (e_var 0 (pv 0)) a_nil)) a_nil))))))))
    (ss_cons (s_set (i := 3) sc__law_is_right.nd rfl (.inl rfl) (e_new (n_lst (a_cons (e_callD D_is_integer hF (hr.mono (by decide)) hgd (by rfl) (fun _ _ _ _ _ _ _ h => h.elim) (a_cons (e_var 0 (pv 0)) a_nil)) (a_cons (e_callD D_is_number hF (hr.mono (by decide)) hgd (by rfl) (fun _ _ _ _ _ _ _ h => h.elim) (a_cons (e_var 0 (pv 0)) a_nil)) (a_cons (e_callD D_is_name hF (hr.mono (by decide)) hgd (by rfl) (fun _ _ _ _ _ _ _ h => h.elim) (a_cons (e_var 0 (pv 0)) a_nil)) (a_cons (e_callD D_is_towers hF (hr.mono (by decide)) hgd (by rfl) (fun _ _ _ _ _ _ _ h => h.elim) (a_cons (e_var 0 (pv 0)) a_nil)) (a_cons (e_callD D_is_fraction hF (hr.mono (by decide)) hgd (by rfl) (fun _ _ _ _ _ _ _ h => h.elim) (a_cons (e_var 0 (pv 0)) a_nil)) a_nil))))))))
    (ss_cons (s_set (i := 4) sc__law_is_right.nd rfl (.inl rfl) (e_new (n_lst (a_cons (e_callDK D_is_integer hF (hr.mono (by decide)) hgd (by rfl) (fun _ _ _ _ _ _ _ h => h.elim) (k_cons (e_var 0 (pv 0)) k_nil)) (a_cons (e_callDK D_is_number hF (hr.mono (by decide)) hgd (by rfl) (fun _ _ _ _ _ _ _ h => h.elim) (k_cons (e_var 0 (pv 0)) k_nil)) (a_cons (e_callDK D_is_name hF (hr.mono (by decide)) hgd (by rfl) (fun _ _ _ _ _ _ _ h => h.elim) (k_cons (e_var 0 (pv 0)) k_nil)) (a_cons (e_callDK D_is_towers hF (hr.mono (by decide)) hgd (by rfl) (fun _ _ _ _ _ _ _ h => h.elim) (k_cons (e_var 0 (pv 0)) k_nil)) a_nil)))))))
    (ss_one (s_ret (e_and (e_cmp (o_eq hr.units) (e_bi (b_repr hgd (u66 hr)) (by rfl) M.repr (by decide +kernel) (a_cons (e_var 3 (pv 3)) a_nil)) (e_bi (b_repr hgd (u66 hr)) (by rfl) M.repr (by decide +kernel) (a_cons (e_var 2 (pv 2)) a_nil)) rfl) (e_one (e_cmp (o_eq hr.units) (e_bi (b_repr hgd (u66 hr)) (by rfl) M.repr (by decide +kernel) (a_cons (e_op o_add (e_var 4 (pv 4)) (e_new (n_lst (a_cons (e_callDK D_is_fraction hF (hr.mono (by decide)) hgd (by rfl) (fun _ _ _ _ _ _ _ h => h.elim) (k_cons (e_var 0 (pv 0)) k_nil)) a_nil)))) a_nil)) (e_bi (b_repr hgd (u66 hr)) (by rfl) M.repr (by decide +kernel) (a_cons (e_var 2 (pv 2)) a_nil)) rfl)))))))))
end K00

set_option Elab.async false
set_option linter.all false
set_option maxRecDepth 100000
set_option maxHeartbeats 4000000
namespace K00
open PySem PySem.Spec PyProof.Rows L2 PL

def unD : List S → Option (List D)
  | [] => some []
  | .dat d :: r => (unD r).map (d :: ·)
  | _ => none
theorem unD_nil : unD [] = some [] := rfl
theorem unD_cons (d : D) (r : List S) : unD (.dat d :: r) = (unD r).map (d :: ·) := rfl
theorem unD_map : ∀ ds : List D, unD (ds.map S.dat) = some ds
  | [] => rfl
  | d :: r => by rw [List.map_cons, unD_cons, unD_map r]; rfl
theorem unD_eq : ∀ {ss : List S} {ds : List D}, unD ss = some ds → ss = ds.map S.dat
  | [], ds, h => by cases h; rfl
  | .dat d :: r, ds, h => by
    rw [unD_cons] at h
    cases e : unD r with
    | none => rw [e] at h; cases h
    | some x => rw [e] at h; cases h; rw [List.map_cons, unD_eq e]
theorem exD {ss : List S} {P : List D → Prop} : (∃ ds, ss = List.map S.dat ds ∧ P ds) ↔ ∃ ds, unD ss = some ds ∧ P ds :=
  ⟨fun ⟨ds, e, h⟩ => ⟨ds, by rw [e, unD_map], h⟩, fun ⟨ds, e, h⟩ => ⟨ds, unD_eq e, h⟩⟩
theorem lim (n : Nat) (h : n ≤ 100) : (n ≤ sizeLine) = True := eq_true (size100 h)
theorem cpow {j : Int} (h : 0 ≤ j ∧ j ≤ 1000000) : CPow 10 j := ⟨h.1, h.2, by decide⟩
def smB (a : Nat) : Nat → D → Bool
  | _, .none => true
  | _, .bool _ => true
  | _, .int _ => true
  | _, .str z => PyData.strOk z && decide (z.length ≤ 100)
  | n + 1, .tuple ds => decide (ds.length ≤ a) && ds.all (smB a n)
  | n + 1, .list ds => decide (ds.length ≤ a) && ds.all (smB a n)
  | _, _ => false
theorem smB_ok {a : Nat} : ∀ {n : Nat} {d : D}, smB a n d = true → Sm a n d := by
  intro n
  induction n with
  | zero =>
    intro d h
    cases d <;> simp only [smB, Sm, Bool.and_eq_true, decide_eq_true_eq, Bool.false_eq_true] at h ⊢
    exact h
  | succ n ih =>
    intro d h
    cases d <;> simp only [smB, Sm, Bool.and_eq_true, decide_eq_true_eq, Bool.false_eq_true, List.all_eq_true] at h ⊢
    · exact h
    · exact ⟨h.1, fun x hx => ih (h.2 x hx)⟩
    · exact ⟨h.1, fun x hx => ih (h.2 x hx)⟩
theorem smB_all {a n : Nat} {ds : List D} (h : ds.all (smB a n) = true) : ∀ d ∈ ds, Sm a n d := fun d hd => smB_ok (List.all_eq_true.mp h d hd)

/-! ### _law_draw -/
abbrev s__law_draw : Stmt := topS 14
abbrev N__law_draw : List Str := ["_law_feed_here", "_law_wide", "_law_figure", "_law_cell", "_law_mixed"]
abbrev ps__law_draw : List Str := ["_law_feed_here", "_law_wide"]
theorem sc__law_draw : FnScope N__law_draw ps__law_draw (defScope s__law_draw) := ⟨rfl, rfl, rfl, by decide +kernel, rfl, by decide +kernel, by decide +kernel⟩
def ws__law_draw : WS := (wSeq (wFset 0 (w2 oAdd (wFint 0) (wD (.int 1))))
    (wSeq (wIf (wT (w2 (oEq false) (wFcells 0) (wNew (wLstN wNil)))) (wRet (w2 oMod (wBi oInt1 (wCons (w2 oAdd (w2 oMulT (wD (.int 11)) (wFint 0)) (wD (.int 5))) wNil)) (wVar 1))) wNx)
    (wSeq (wIf (wT (w2 oGt (wFint 0) (wD (.int 0)))) (wSeq (wSet 2 (w2 oMod (wBi oInt1 (wCons (wFint 0) wNil)) (wVar 1)))
    (wSeq (wFset 0 (w2 oDiv (wFint 0) (wVar 1)))
    (wRet (wVar 2)))) wNx)
    (wSeq (wSet 3 (w2 oIx (wFcells 0) (w2 oMod (wBi oInt1 (wCons (wFint 0) wNil)) (wBi oLen (wCons (wFcells 0) wNil)))))
    (wSeq (wFset 0 (w2 oAdd (wFint 0) (wD (.int 1))))
    (wSeq (wIf (wAndB (wT (w2 oGe (wVar 3) (w2 oPow (wD (.int 10)) (wD (.int 18))))) (wT (w2 oLe (wFint 0) (wBi oLen (wCons (wFcells 0) wNil))))) (wSeq (wFset 0 (w2 oDiv (wVar 3) (wVar 1)))
    (wRet (w2 oMod (wBi oInt1 (wCons (wVar 3) wNil)) (wVar 1)))) wNx)
    (wSeq (wSet 4 (w2 oMod (wBi oInt1 (wCons (w2 oAdd (w2 oAdd (w2 oMulT (w2 oMod (wBi oInt1 (wCons (wVar 3) wNil)) (wD (.int 910003))) (wD (.int 41))) (w2 oMulT (wD (.int 51001)) (wFint 0))) (wD (.int 3001))) wNil)) (wD (.int 2147478943))))
    (wSeq (wSet 4 (w2 oMod (wBi oInt1 (wCons (w2 oAdd (w2 oAdd (w2 oMulT (wVar 4) (wVar 4)) (w2 oMulT (wD (.int 1103)) (wFint 0))) (wD (.int 3025))) wNil)) (wD (.int 2147478811))))
    (wRet (w2 oMod (wBi oInt1 (wCons (w2 oDiv (w2 oMod (wBi oInt1 (wCons (w2 oAdd (w2 oMulT (wVar 4) (wVar 4)) (w2 oMulT (wD (.int 1103)) (wVar 4))) wNil)) (wD (.int 2147478943))) (wD (.int 128))) wNil)) (wVar 1)))))))))))
theorem sh_ints (zs : List Int) : SeqAt.shaped (.list (zs.map PyData.int)) = true := sh_list fun x hx => by
  rw [List.mem_map] at hx
  obtain ⟨z, _, rfl⟩ := hx
  exact ⟨rfl, Nat.zero_le _⟩
def wf__law_draw : WF := fun ss q _ => ∃ (zs : List Int) (n : Int), ss = [S.feed (zs.map PyData.int), S.dat (.int n)] ∧ 0 < n ∧ n < 2 ^ 30 ∧ ∀ k : Int, 0 ≤ k → k < n → q (.dat (.int k))
theorem v__law_draw : ∀ ss q e, ss.length = 2 → wf__law_draw ss q e → wBody 5 ws__law_draw ss q noX := by
  rintro ss q e - ⟨zs, n, rfl, h0, h1, hq⟩
  have qm : ∀ m : Int, q (.dat (.int (m % n))) := fun m => hq _ (Int.emod_nonneg m (by omega)) (Int.emod_lt_of_pos m h0)
  have cd : ∀ i : Int, CDiv i n := fun i => ⟨h0, by omega⟩
  simp only [ws__law_draw, wLc, wBody, start', wSeq, wNx, wRet, wRetN, wIf, wSet, wOwn, wApp, wPar, wAsg, gTp, gC, gN, gNm, wFor, wLoop, wDrop, wVar, wD, wNil, wCons, wTup, wLst, wNew, wLstN, wAddN, wBi, w2, wIs, wT, wTru, tru, wNotB, wAndB, wOrB, wAnd, wOr, wNot, wIfE, wChain, oInt, oSub, oDiv, oMod, oPow, oOrd, oLt, oLe, oGt, oGe, oAdd, oMul, oMulT, oEq, oInSign, oLen, oInt1, oAbs, oGcd, oList, oTuple, oAll, oRepr, oNeg, wM0, oM0, oIx, oSl, wSl, wPart, wNoPart, wIt, oIter, wRng1, wRng2, wCall, wJoin, wRev, wFint, wFcells, wFset, S.lst, S.data, S.seq, S.lent, S.frz, wipe', setAll, sel1, wYes, List.map_cons, List.map_nil, List.length_cons, List.length_nil, List.replicate_succ, List.replicate_zero, List.cons_append, List.nil_append, List.append_nil, List.getElem?_cons_zero, List.getElem?_cons_succ, List.set_cons_zero, List.set_cons_succ, List.all_cons, List.all_nil, Nat.reduceAdd, Nat.reduceSub, Nat.sub_self, Nat.sub_zero, Option.some.injEq, exists_eq_left', exists_eq_left, exists_eq_right, S.dat.injEq, S.feed.injEq, PyData.bool.injEq, PyData.int.injEq, PyData.str.injEq, PyData.tuple.injEq, PyData.list.injEq, Bool.and_true, Bool.true_and, true_and, and_true, if_true, if_false, Bool.false_eq_true, Bool.not_true, Bool.not_false, reduceCtorEq, false_and, and_false, exists_false, Bool.and_self, exists_const]
  intro t1
  refine ⟨_, _, rfl, rfl, [], rfl, Nat.zero_le _, _, _, rfl, rfl, sh_ints zs, shNil, ?_⟩
  rw [eqv_nil]
  have c1 : ∀ x y : Int, CMul (x % 2147478943) y := fun x y => Or.inl ⟨by omega, by omega⟩
  have c2 : ∀ x y : Int, CMul (x % 2147478811) y := fun x y => Or.inl ⟨by omega, by omega⟩
  have c3 : ∀ y : Int, CMul 1103 y := fun y => Or.inl ⟨by omega, by omega⟩
  have c4 : ∀ y : Int, CMul 51001 y := fun y => Or.inl ⟨by omega, by omega⟩
  have c5 : ∀ x : Int, CMul x 41 := fun y => Or.inr ⟨by omega, by omega⟩
  have c6 : ∀ x : Int, CDiv x 128 := fun y => ⟨by omega, by omega⟩
  split
  · intro z
    exact ⟨Or.inl ⟨by omega, by omega⟩, h0, qm _⟩
  · rename_i ne
    have hl : 0 < zs.length := by
      cases zs with
      | nil => exact absurd rfl ne
      | cons a r => exact Nat.succ_pos _
    intro z2
    split
    · intro z3
      exact ⟨h0, fun z4 => ⟨cd _, _, _, rfl, rfl, qm _⟩⟩
    · intro z3
      have hl' : (List.map PyData.int zs).length = zs.length := List.length_map ..
      rw [hl']
      have lo := Int.emod_nonneg z3 (show (zs.length : Int) ≠ 0 by omega)
      have up := Int.emod_lt_of_pos z3 (show (0 : Int) < zs.length by omega)
      obtain ⟨j, hj⟩ : ∃ j : Nat, z3 % (zs.length : Int) = (j : Int) := ⟨(z3 % (zs.length : Int)).toNat, by omega⟩
      rw [hj] at up ⊢
      have hj' : j < zs.length := by omega
      refine ⟨by omega, .int zs[j], atI_nat (by rw [List.getElem?_map, List.getElem?_eq_getElem hj']; rfl), fun z4 => ⟨_, _, rfl, rfl, cpow (by decide), _, rfl, ?_⟩⟩
      split
      · intro z5
        split
        · exact ⟨cd _, _, _, rfl, rfl, h0, rfl, qm _⟩
        · exact ⟨by omega, c5 _, fun z => ⟨c4 _, by omega, c1 _ _, fun z => ⟨c3 _, by omega, c2 _ _, c3 _, by omega, c6 _, h0, qm _⟩⟩⟩
      · exact ⟨by omega, c5 _, fun z => ⟨c4 _, by omega, c1 _ _, fun z => ⟨c3 _, by omega, c2 _ _, c3 _, by omega, c6 _, h0, qm _⟩⟩⟩
theorem b__law_draw {P : Program} {w : World} {K : PySem.W.Frag} {mg : Str → Option Value} {base : Heap} (M : Bis mg)
    {f : Addr} {cdv : Value} {A : Around} {outer : List Env} {s : Shared} {H Z : Hp} {E : XK} {Fo : Option Fd} (hr : Room 0 (A.deeper (envOfC "_law_draw" (defScope s__law_draw) s.heap.objs.size f cdv))) (hgd : A.guards = some []) (hF : ∀ y, Fo = some y → fam y) :
    Sts (cpOf (cxOf CX0 P w K mg base N__law_draw "_law_draw" (defScope s__law_draw) f cdv A outer s H E).nox Fo H Z (fun _ _ _ => False) XV0) (defBody s__law_draw) ws__law_draw :=
  (ss_cons (s_fset hF (hu_of hr) (pv 0) (by decide) (by decide) (e_op o_add (e_fint hF (hu_of hr) (pv 0) (by decide)) e_int))
    (ss_cons (s_if (t_cmp (o_eq hr.units) (e_fcells hF (hu_of hr) (pv 0)) (e_new (n_lst a_nil)) rfl) (ss_one (s_ret (e_op o_mod (e_ty b_int (by rfl) M.int (by decide +kernel) (a_cons (e_op o_add (e_op o_mulT e_int (e_fint hF (hu_of hr) (pv 0) (by decide))) e_int) a_nil)) (e_var 1 (pv 1))))) ss_nil)
    (ss_cons (s_if (t_cmp o_gt (e_fint hF (hu_of hr) (pv 0) (by decide)) e_int rfl) (ss_cons (s_set (i := 2) sc__law_draw.nd rfl (.inl rfl) (e_op o_mod (e_ty b_int (by rfl) M.int (by decide +kernel) (a_cons (e_fint hF (hu_of hr) (pv 0) (by decide)) a_nil)) (e_var 1 (pv 1))))
    (ss_cons (s_fset hF (hu_of hr) (pv 0) (by decide) (by decide) (e_op o_div (e_fint hF (hu_of hr) (pv 0) (by decide)) (e_var 1 (pv 1))))
    (ss_one (s_ret (e_var 2 (pv 2)))))) ss_nil)
    (ss_cons (s_set (i := 3) sc__law_draw.nd rfl (.inl rfl) (e_ix (e_fcells hF (hu_of hr) (pv 0)) (e_op o_mod (e_ty b_int (by rfl) M.int (by decide +kernel) (a_cons (e_fint hF (hu_of hr) (pv 0) (by decide)) a_nil)) (e_bi b_len (by rfl) M.len (by decide +kernel) (a_cons (e_fcells hF (hu_of hr) (pv 0)) a_nil))) (fun _ _ => rfl)))
    (ss_cons (s_fset hF (hu_of hr) (pv 0) (by decide) (by decide) (e_op o_add (e_fint hF (hu_of hr) (pv 0) (by decide)) e_int))
    (ss_cons (s_if (TW.t (tw_and (t_cmp o_ge (e_var 3 (pv 3)) (e_op o_pow e_int e_int) rfl) (tw_and1 (t_cmp o_le (e_fint hF (hu_of hr) (pv 0) (by decide)) (e_bi b_len (by rfl) M.len (by decide +kernel) (a_cons (e_fcells hF (hu_of hr) (pv 0)) a_nil)) rfl)))) (ss_cons (s_fset hF (hu_of hr) (pv 0) (by decide) (by decide) (e_op o_div (e_var 3 (pv 3)) (e_var 1 (pv 1))))
    (ss_one (s_ret (e_op o_mod (e_ty b_int (by rfl) M.int (by decide +kernel) (a_cons (e_var 3 (pv 3)) a_nil)) (e_var 1 (pv 1)))))) ss_nil)
    (ss_cons (s_set (i := 4) sc__law_draw.nd rfl (.inl rfl) (e_op o_mod (e_ty b_int (by rfl) M.int (by decide +kernel) (a_cons (e_op o_add (e_op o_add (e_op o_mulT (e_op o_mod (e_ty b_int (by rfl) M.int (by decide +kernel) (a_cons (e_var 3 (pv 3)) a_nil)) e_int) e_int) (e_op o_mulT e_int (e_fint hF (hu_of hr) (pv 0) (by decide)))) e_int) a_nil)) e_int))
    (ss_cons (s_set (i := 4) sc__law_draw.nd rfl (.inl rfl) (e_op o_mod (e_ty b_int (by rfl) M.int (by decide +kernel) (a_cons (e_op o_add (e_op o_add (e_op o_mulT (e_var 4 (pv 4)) (e_var 4 (pv 4))) (e_op o_mulT e_int (e_fint hF (hu_of hr) (pv 0) (by decide)))) e_int) a_nil)) e_int))
    (ss_one (s_ret (e_op o_mod (e_ty b_int (by rfl) M.int (by decide +kernel) (a_cons (e_op o_div (e_op o_mod (e_ty b_int (by rfl) M.int (by decide +kernel) (a_cons (e_op o_add (e_op o_mulT (e_var 4 (pv 4)) (e_var 4 (pv 4))) (e_op o_mulT e_int (e_var 4 (pv 4)))) a_nil)) e_int) e_int) a_nil)) (e_var 1 (pv 1)))))))))))))
/-! ### _law_pick -/
abbrev s__law_pick : Stmt := topS 15
abbrev N__law_pick : List Str := ["_law_feed_here", "_law_some"]
abbrev ps__law_pick : List Str := ["_law_feed_here", "_law_some"]
theorem sc__law_pick : FnScope N__law_pick ps__law_pick (defScope s__law_pick) := ⟨rfl, rfl, rfl, by decide +kernel, rfl, by decide +kernel, by decide +kernel⟩
def ws__law_pick : WS := (wRet (w2 oIx (wVar 1) (wCall wf__law_draw (wCons (wVar 0) (wCons (wBi oLen (wCons (wVar 1) wNil)) wNil)))))
def wf__law_pick : WF := fun ss q _ => ∃ (zs : List Int) (ds : List D), ss = [S.feed (zs.map PyData.int), S.dat (.list ds)] ∧ ds ≠ [] ∧ ds.length ≤ 100 ∧ ∀ d ∈ ds, q (.dat d)
theorem v__law_pick : ∀ ss q e, ss.length = 2 → wf__law_pick ss q e → wBody 2 ws__law_pick ss q noX := by
  rintro ss q e - ⟨zs, ds, rfl, h0, h1, hq⟩
  have hl : 0 < ds.length := by cases ds with | nil => exact absurd rfl h0 | cons a r => exact Nat.succ_pos _
  simp only [ws__law_pick, wf__law_draw, wBody, start', wSeq, wNx, wRet, wRetN, wIf, wSet, wOwn, wApp, wPar, wAsg, gTp, gC, gN, gNm, wFor, wLoop, wDrop, wVar, wD, wNil, wCons, wTup, wLst, wNew, wLstN, wAddN, wBi, w2, wIs, wT, wTru, tru, wNotB, wAndB, wOrB, wAnd, wOr, wNot, wIfE, wChain, oInt, oSub, oDiv, oMod, oPow, oOrd, oLt, oLe, oGt, oGe, oAdd, oMul, oMulT, oEq, oInSign, oLen, oInt1, oAbs, oGcd, oList, oTuple, oAll, oRepr, oNeg, wM0, oM0, oIx, oSl, wSl, wPart, wNoPart, wIt, oIter, wRng1, wRng2, wCall, wJoin, wRev, wFint, wFcells, wFset, S.lst, S.data, S.seq, S.lent, S.frz, wipe', setAll, sel1, wYes, List.map_cons, List.map_nil, List.length_cons, List.length_nil, List.replicate_succ, List.replicate_zero, List.cons_append, List.nil_append, List.append_nil, List.getElem?_cons_zero, List.getElem?_cons_succ, List.set_cons_zero, List.set_cons_succ, List.all_cons, List.all_nil, Nat.reduceAdd, Nat.reduceSub, Nat.sub_self, Nat.sub_zero, Option.some.injEq, exists_eq_left', exists_eq_left, exists_eq_right, S.dat.injEq, S.feed.injEq, PyData.bool.injEq, PyData.int.injEq, PyData.str.injEq, PyData.tuple.injEq, PyData.list.injEq, Bool.and_true, Bool.true_and, true_and, and_true, if_true, if_false, Bool.false_eq_true, Bool.not_true, Bool.not_false, reduceCtorEq, false_and, and_false, exists_false, Bool.and_self, exists_const]
  refine ⟨zs, _, rfl, by omega, by omega, fun k k0 k1 => ?_⟩
  obtain ⟨j, rfl⟩ : ∃ j : Nat, k = (j : Int) := ⟨k.toNat, by omega⟩
  have hj : j < ds.length := by omega
  exact ⟨ds[j], atI_nat (List.getElem?_eq_getElem hj), hq _ (List.getElem_mem hj)⟩
theorem b__law_pick {P : Program} {w : World} {K : PySem.W.Frag} {mg : Str → Option Value} {base : Heap} (M : Bis mg) (D__law_draw : Def P w K mg base fam XV0 "_law_draw" 1 ps__law_draw wf__law_draw)
    {f : Addr} {cdv : Value} {A : Around} {outer : List Env} {s : Shared} {H Z : Hp} {E : XK} {Fo : Option Fd} (hr : Room 1 (A.deeper (envOfC "_law_pick" (defScope s__law_pick) s.heap.objs.size f cdv))) (hgd : A.guards = some []) (hF : ∀ y, Fo = some y → fam y) :
    Sts (cpOf (cxOf CX0 P w K mg base N__law_pick "_law_pick" (defScope s__law_pick) f cdv A outer s H E).nox Fo H Z (fun _ _ _ => False) XV0) (defBody s__law_pick) ws__law_pick :=
  (ss_one (s_ret (e_ix (e_var 1 (pv 1)) (e_callD D__law_draw hF (hr.mono (by decide)) hgd (by rfl) (fun _ _ _ _ _ _ _ h => h.elim) (a_cons (e_var 0 (pv 0)) (a_cons (e_bi b_len (by rfl) M.len (by decide +kernel) (a_cons (e_var 1 (pv 1)) a_nil)) a_nil))) (fun _ _ => rfl))))
/-! ### _law_odd -/
abbrev s__law_odd : Stmt := topS 19
abbrev N__law_odd : List Str := ["_law_feed_here", "_law_some"]
abbrev ps__law_odd : List Str := ["_law_feed_here"]
theorem sc__law_odd : FnScope N__law_odd ps__law_odd (defScope s__law_odd) := ⟨rfl, rfl, rfl, by decide +kernel, rfl, by decide +kernel, by decide +kernel⟩
def ws__law_odd : WS := (wSeq (wSet 1 (wNew (wLstN (wCons (wD .none) (wCons (wD (.bool true)) (wCons (wD (.bool false)) (wCons (wD (.int 0)) (wCons (wD (.int 1)) (wCons (wM0 oNeg (wD (.int 1))) (wCons (wD (.int 2)) (wCons (w2 oPow (wD (.int 10)) (wD (.int 59))) (wCons (wD (.str (Str.ofString ""))) (wCons (wD (.str (Str.ofString "a"))) (wCons (wD (.str (Str.ofString "b"))) (wCons (wD (.str (Str.ofString "A"))) (wCons (wD (.str (Str.ofString "a b"))) (wCons (wD (.str (Str.ofString "abcdefghi"))) (wCons (wTup wNil) (wCons (wNew (wLstN wNil)) (wCons (wTup (wCons (wD (.int 0)) wNil)) (wCons (wTup (wCons (wD (.str (Str.ofString "a"))) wNil)) wNil)))))))))))))))))))))
    (wSeq (wSet 1 (w2 oAdd (wVar 1) (wNew (wLstN (wCons (wNew (wLstN (wCons (wD (.str (Str.ofString "a"))) (wCons (wD (.str (Str.ofString "b"))) wNil)))) (wCons (wTup (wCons (wD (.int 0)) (wCons (wD (.int 1)) wNil))) (wCons (wTup (wCons (wD (.str (Str.ofString "a"))) (wCons (wD (.str (Str.ofString "b"))) wNil))) (wCons (wTup (wCons (wD (.str (Str.ofString "b"))) (wCons (wD (.str (Str.ofString "a"))) wNil))) (wCons (wD (.str (Str.ofString "zz"))) (wCons (wD (.str (Str.ofString "c"))) (wCons (wTup (wCons (wD (.str (Str.ofString "a"))) (wCons (wD (.str (Str.ofString "b"))) (wCons (wD (.int 0)) (wCons (wD (.int 1)) wNil))))) (wCons (wTup (wCons (wTup wNil) wNil)) (wCons (wD (.str (Str.ofString "-"))) (wCons (wD (.str (Str.ofString "a-"))) wNil))))))))))))))
    (wRet (wCall wf__law_pick (wCons (wVar 0) (wCons (wVar 1) wNil))))))
def wf__law_odd : WF := fun ss q _ => ∃ (zs : List Int), ss = [S.feed (zs.map PyData.int)] ∧ ∀ d, Sm 4 2 d → q (.dat d)
theorem v__law_odd : ∀ ss q e, ss.length = 1 → wf__law_odd ss q e → wBody 2 ws__law_odd ss q noX := by
  rintro ss q e - ⟨zs, rfl, hq⟩
  simp only [ws__law_odd, wf__law_pick, exD, unD_nil, unD_cons, Option.map_some, sizeLine_eq, Nat.reduceLeDiff, wBody, start', wSeq, wNx, wRet, wRetN, wIf, wSet, wOwn, wApp, wPar, wAsg, gTp, gC, gN, gNm, wFor, wLoop, wDrop, wVar, wD, wNil, wCons, wTup, wLst, wNew, wLstN, wAddN, wBi, w2, wIs, wT, wTru, tru, wNotB, wAndB, wOrB, wAnd, wOr, wNot, wIfE, wChain, oInt, oSub, oDiv, oMod, oPow, oOrd, oLt, oLe, oGt, oGe, oAdd, oMul, oMulT, oEq, oInSign, oLen, oInt1, oAbs, oGcd, oList, oTuple, oAll, oRepr, oNeg, wM0, oM0, oIx, oSl, wSl, wPart, wNoPart, wIt, oIter, wRng1, wRng2, wCall, wJoin, wRev, wFint, wFcells, wFset, S.lst, S.data, S.seq, S.lent, S.frz, wipe', setAll, sel1, wYes, List.map_cons, List.map_nil, List.length_cons, List.length_nil, List.replicate_succ, List.replicate_zero, List.cons_append, List.nil_append, List.append_nil, List.getElem?_cons_zero, List.getElem?_cons_succ, List.set_cons_zero, List.set_cons_succ, List.all_cons, List.all_nil, Nat.reduceAdd, Nat.reduceSub, Nat.sub_self, Nat.sub_zero, Option.some.injEq, exists_eq_left', exists_eq_left, exists_eq_right, S.dat.injEq, S.feed.injEq, PyData.bool.injEq, PyData.int.injEq, PyData.str.injEq, PyData.tuple.injEq, PyData.list.injEq, Bool.and_true, Bool.true_and, true_and, and_true, if_true, if_false, Bool.false_eq_true, Bool.not_true, Bool.not_false, reduceCtorEq, false_and, and_false, exists_false, Bool.and_self, exists_const]
  refine ⟨cpow (by decide), _, _, rfl, rfl, by decide, zs, _, rfl, by simp, by simp, fun d hd => hq d (smB_all (by decide +kernel) d hd)⟩
theorem b__law_odd {P : Program} {w : World} {K : PySem.W.Frag} {mg : Str → Option Value} {base : Heap} (M : Bis mg) (D__law_pick : Def P w K mg base fam XV0 "_law_pick" 2 ps__law_pick wf__law_pick)
    {f : Addr} {cdv : Value} {A : Around} {outer : List Env} {s : Shared} {H Z : Hp} {E : XK} {Fo : Option Fd} (hr : Room 2 (A.deeper (envOfC "_law_odd" (defScope s__law_odd) s.heap.objs.size f cdv))) (hgd : A.guards = some []) (hF : ∀ y, Fo = some y → fam y) :
    Sts (cpOf (cxOf CX0 P w K mg base N__law_odd "_law_odd" (defScope s__law_odd) f cdv A outer s H E).nox Fo H Z (fun _ _ _ => False) XV0) (defBody s__law_odd) ws__law_odd :=
  (ss_cons (s_set (i := 1) sc__law_odd.nd rfl (.inl rfl) (e_new (n_lst (a_cons e_non (a_cons e_bl (a_cons e_bl (a_cons e_int (a_cons e_int (a_cons (e_neg e_int) (a_cons e_int (a_cons (e_op o_pow e_int e_int) (a_cons e_str (a_cons e_str (a_cons e_str (a_cons e_str (a_cons e_str (a_cons e_str (a_cons (e_tup a_nil) (a_cons (e_new (n_lst a_nil)) (a_cons (e_tup (a_cons e_int a_nil)) (a_cons (e_tup (a_cons e_str a_nil)) a_nil)))))))))))))))))))))
    (ss_cons (s_set (i := 1) sc__law_odd.nd rfl (.inl rfl) (e_op o_add (e_var 1 (pv 1)) (e_new (n_lst (a_cons (e_new (n_lst (a_cons e_str (a_cons e_str a_nil)))) (a_cons (e_tup (a_cons e_int (a_cons e_int a_nil))) (a_cons (e_tup (a_cons e_str (a_cons e_str a_nil))) (a_cons (e_tup (a_cons e_str (a_cons e_str a_nil))) (a_cons e_str (a_cons e_str (a_cons (e_tup (a_cons e_str (a_cons e_str (a_cons e_int (a_cons e_int a_nil))))) (a_cons (e_tup (a_cons (e_tup a_nil) a_nil)) (a_cons e_str (a_cons e_str a_nil))))))))))))))
    (ss_one (s_ret (e_callD D__law_pick hF (hr.mono (by decide)) hgd (by rfl) (fun _ _ _ _ _ _ _ h => h.elim) (a_cons (e_var 0 (pv 0)) (a_cons (e_var 1 (pv 1)) a_nil)))))))
/-! ### _law_fixed -/
abbrev s__law_fixed : Stmt := topS 23
abbrev N__law_fixed : List Str := ["_law_some"]
abbrev ps__law_fixed : List Str := []
theorem sc__law_fixed : FnScope N__law_fixed ps__law_fixed (defScope s__law_fixed) := ⟨rfl, rfl, rfl, by decide +kernel, rfl, by decide +kernel, by decide +kernel⟩
def ws__law_fixed : WS := (wSeq (wOwn 0 (wLstN (wCons (wD (.int 0)) (wCons (wD (.int 1)) (wCons (wM0 oNeg (wD (.int 1))) (wCons (w2 oPow (wD (.int 10)) (wD (.int 59))) (wCons (wM0 oNeg (w2 oPow (wD (.int 10)) (wD (.int 59)))) (wCons (wD (.bool true)) (wCons (wD (.bool false)) (wCons (wD .none) (wCons (wD (.str (Str.ofString ""))) (wCons (wD (.str (Str.ofString "a"))) (wCons (wD (.str (Str.ofString "abcdefgh"))) (wCons (wD (.str (Str.ofString "abcdefghi"))) (wCons (wD (.str (Str.ofString "A"))) (wCons (wD (.str (Str.ofString "a1"))) (wCons (wD (.str (Str.ofString "a b"))) (wCons (wD (.str (Str.ofString " a"))) wNil))))))))))))))))))
    (wSeq (wOwn 0 (wAddN (wVar 0) (wNew (wLstN (wCons (wTup wNil) (wCons (wTup (wCons (wD (.str (Str.ofString "a"))) wNil)) (wCons (wTup (wCons (wD (.str (Str.ofString "a"))) (wCons (wD (.str (Str.ofString "b"))) wNil))) (wCons (wTup (wCons (wD (.str (Str.ofString "b"))) (wCons (wD (.str (Str.ofString "a"))) wNil))) (wCons (wTup (wCons (wD (.str (Str.ofString "a"))) (wCons (wD (.str (Str.ofString "a"))) wNil))) (wCons (wNew (wLstN (wCons (wD (.str (Str.ofString "a"))) wNil))) (wCons (wTup (wCons (wD (.str (Str.ofString "a"))) (wCons (wD (.str (Str.ofString "B"))) wNil))) (wCons (wTup (wCons (wD (.str (Str.ofString "a"))) (wCons (wD (.int 1)) wNil))) (wCons (wTup (wCons (wD (.str (Str.ofString "abcdefghi"))) wNil)) (wCons (wTup (wCons (wD .none) wNil)) wNil))))))))))))))
    (wSeq (wOwn 0 (wAddN (wVar 0) (wNew (wLstN (wCons (wTup (wCons (wD (.int 0)) (wCons (wD (.int 1)) wNil))) (wCons (wTup (wCons (wD (.int 0)) (wCons (wD (.int 2)) wNil))) (wCons (wTup (wCons (wD (.int 1)) (wCons (wD (.int 1)) wNil))) (wCons (wTup (wCons (wD (.int 2)) (wCons (wD (.int 2)) wNil))) (wCons (wTup (wCons (wM0 oNeg (wD (.int 1))) (wCons (wD (.int 2)) wNil))) (wCons (wTup (wCons (wD (.int 1)) (wCons (wM0 oNeg (wD (.int 2))) wNil))) (wCons (wTup (wCons (wD (.int 3)) (wCons (wD (.int 0)) wNil))) (wCons (wTup (wCons (wD (.int 0)) (wCons (wD (.int 0)) wNil))) (wCons (wTup (wCons (wD (.int 2)) (wCons (wD (.int 4)) wNil))) (wCons (wTup (wCons (wD (.int 7)) (wCons (wD (.int 3)) wNil))) (wCons (wTup (wCons (wM0 oNeg (wD (.int 4))) (wCons (wD (.int 6)) wNil))) (wCons (wTup (wCons (wM0 oNeg (wD (.int 9))) (wCons (wD (.int 4)) wNil))) wNil))))))))))))))))
    (wSeq (wOwn 0 (wAddN (wVar 0) (wNew (wLstN (wCons (wTup (wCons (wD (.bool true)) (wCons (wD (.int 1)) wNil))) (wCons (wTup (wCons (wD (.int 1)) (wCons (wD (.bool true)) wNil))) (wCons (wTup (wCons (wD (.bool false)) (wCons (wD (.int 1)) wNil))) (wCons (wTup (wCons (wD (.int 1)) (wCons (wD (.int 2)) (wCons (wD (.int 3)) wNil)))) (wCons (wTup (wCons (wD (.int 1)) wNil)) (wCons (wNew (wLstN (wCons (wD (.int 1)) (wCons (wD (.int 2)) wNil)))) (wCons (wTup (wCons (wD (.str (Str.ofString "1"))) (wCons (wD (.int 2)) wNil))) (wCons (wTup (wCons (w2 oPow (wD (.int 10)) (wD (.int 59))) (wCons (w2 oPow (wD (.int 10)) (wD (.int 58))) wNil))) (wCons (wD (.str (Str.ofString "ab"))) wNil)))))))))))))
    (wSeq (wApp 0 (wD (.str (Str.ofString "_a"))))
    (wRet (w2 oAdd (wVar 0) (wNew (wLstN (wCons (wTup (wCons (w2 oPow (wD (.int 10)) (wD (.int 59))) (wCons (wD (.int 3)) wNil))) (wCons (wTup (wCons (w2 oSub (w2 oPow (wD (.int 10)) (wD (.int 59))) (wD (.int 1))) (wCons (wD (.int 9)) wNil))) (wCons (wTup (wCons (wTup (wCons (wD (.int 1)) (wCons (wD (.int 2)) wNil))) (wCons (wD (.int 3)) wNil))) (wCons (wTup (wCons (wD (.str (Str.ofString "a"))) (wCons (wD (.str (Str.ofString "ab"))) (wCons (wD (.str (Str.ofString "b"))) wNil)))) (wCons (wTup (wCons (wD (.str (Str.ofString "ab"))) (wCons (wD (.str (Str.ofString "a"))) wNil))) (wCons (wD (.str (Str.ofString "-"))) (wCons (wTup (wCons (wD (.int 0)) (wCons (wM0 oNeg (wD (.int 1))) wNil))) wNil))))))))))))))))
def wf__law_fixed : WF := fun ss q _ => ss = [] ∧ ∀ ds, (∀ d ∈ ds, Sm 4 2 d) → ds.length ≤ 100 → q (.dat (.list ds))
theorem v__law_fixed : ∀ ss q e, ss.length = 0 → wf__law_fixed ss q e → wBody 1 ws__law_fixed ss q noX := by
  rintro ss q e - ⟨rfl, hq⟩
  simp only [ws__law_fixed, exD, unD_nil, unD_cons, Option.map_some, sizeLine_eq, Nat.reduceLeDiff, wBody, start', wSeq, wNx, wRet, wRetN, wIf, wSet, wOwn, wApp, wPar, wAsg, gTp, gC, gN, gNm, wFor, wLoop, wDrop, wVar, wD, wNil, wCons, wTup, wLst, wNew, wLstN, wAddN, wBi, w2, wIs, wT, wTru, tru, wNotB, wAndB, wOrB, wAnd, wOr, wNot, wIfE, wChain, oInt, oSub, oDiv, oMod, oPow, oOrd, oLt, oLe, oGt, oGe, oAdd, oMul, oMulT, oEq, oInSign, oLen, oInt1, oAbs, oGcd, oList, oTuple, oAll, oRepr, oNeg, wM0, oM0, oIx, oSl, wSl, wPart, wNoPart, wIt, oIter, wRng1, wRng2, wCall, wJoin, wRev, wFint, wFcells, wFset, S.lst, S.data, S.seq, S.lent, S.frz, wipe', setAll, sel1, wYes, List.map_cons, List.map_nil, List.length_cons, List.length_nil, List.replicate_succ, List.replicate_zero, List.cons_append, List.nil_append, List.append_nil, List.getElem?_cons_zero, List.getElem?_cons_succ, List.set_cons_zero, List.set_cons_succ, List.all_cons, List.all_nil, Nat.reduceAdd, Nat.reduceSub, Nat.sub_self, Nat.sub_zero, Option.some.injEq, exists_eq_left', exists_eq_left, exists_eq_right, S.dat.injEq, S.feed.injEq, PyData.bool.injEq, PyData.int.injEq, PyData.str.injEq, PyData.tuple.injEq, PyData.list.injEq, Bool.and_true, Bool.true_and, true_and, and_true, if_true, if_false, Bool.false_eq_true, Bool.not_true, Bool.not_false, reduceCtorEq, false_and, and_false, exists_false, Bool.and_self, exists_const]
  refine ⟨cpow (by decide), cpow (by decide), _, _, rfl, rfl, by decide +kernel, _, _, rfl, rfl, by decide +kernel, cpow (by decide), cpow (by decide), _, _, rfl, rfl, by decide +kernel, _, rfl, by decide +kernel, cpow (by decide), cpow (by decide), _, _, rfl, rfl, by decide +kernel, hq _ (smB_all (by decide +kernel)) (by decide +kernel)⟩
theorem b__law_fixed {P : Program} {w : World} {K : PySem.W.Frag} {mg : Str → Option Value} {base : Heap} (M : Bis mg)
    {f : Addr} {cdv : Value} {A : Around} {outer : List Env} {s : Shared} {H Z : Hp} {E : XK} {Fo : Option Fd} (hr : Room 0 (A.deeper (envOfC "_law_fixed" (defScope s__law_fixed) s.heap.objs.size f cdv))) (hgd : A.guards = some []) (hF : ∀ y, Fo = some y → fam y) :
    Sts (cpOf (cxOf CX0 P w K mg base N__law_fixed "_law_fixed" (defScope s__law_fixed) f cdv A outer s H E).nox Fo H Z (fun _ _ _ => False) XV0) (defBody s__law_fixed) ws__law_fixed :=
  (ss_cons (s_own (i := 0) sc__law_fixed.nd rfl (.inl rfl) (n_lst (a_cons e_int (a_cons e_int (a_cons (e_neg e_int) (a_cons (e_op o_pow e_int e_int) (a_cons (e_neg (e_op o_pow e_int e_int)) (a_cons e_bl (a_cons e_bl (a_cons e_non (a_cons e_str (a_cons e_str (a_cons e_str (a_cons e_str (a_cons e_str (a_cons e_str (a_cons e_str (a_cons e_str a_nil))))))))))))))))))
    (ss_cons (s_own (i := 0) sc__law_fixed.nd rfl (.inl rfl) (n_add (e_var 0 (pv 0)) (e_new (n_lst (a_cons (e_tup a_nil) (a_cons (e_tup (a_cons e_str a_nil)) (a_cons (e_tup (a_cons e_str (a_cons e_str a_nil))) (a_cons (e_tup (a_cons e_str (a_cons e_str a_nil))) (a_cons (e_tup (a_cons e_str (a_cons e_str a_nil))) (a_cons (e_new (n_lst (a_cons e_str a_nil))) (a_cons (e_tup (a_cons e_str (a_cons e_str a_nil))) (a_cons (e_tup (a_cons e_str (a_cons e_int a_nil))) (a_cons (e_tup (a_cons e_str a_nil)) (a_cons (e_tup (a_cons e_non a_nil)) a_nil))))))))))))))
    (ss_cons (s_own (i := 0) sc__law_fixed.nd rfl (.inl rfl) (n_add (e_var 0 (pv 0)) (e_new (n_lst (a_cons (e_tup (a_cons e_int (a_cons e_int a_nil))) (a_cons (e_tup (a_cons e_int (a_cons e_int a_nil))) (a_cons (e_tup (a_cons e_int (a_cons e_int a_nil))) (a_cons (e_tup (a_cons e_int (a_cons e_int a_nil))) (a_cons (e_tup (a_cons (e_neg e_int) (a_cons e_int a_nil))) (a_cons (e_tup (a_cons e_int (a_cons (e_neg e_int) a_nil))) (a_cons (e_tup (a_cons e_int (a_cons e_int a_nil))) (a_cons (e_tup (a_cons e_int (a_cons e_int a_nil))) (a_cons (e_tup (a_cons e_int (a_cons e_int a_nil))) (a_cons (e_tup (a_cons e_int (a_cons e_int a_nil))) (a_cons (e_tup (a_cons (e_neg e_int) (a_cons e_int a_nil))) (a_cons (e_tup (a_cons (e_neg e_int) (a_cons e_int a_nil))) a_nil))))))))))))))))
    (ss_cons (s_own (i := 0) sc__law_fixed.nd rfl (.inl rfl) (n_add (e_var 0 (pv 0)) (e_new (n_lst (a_cons (e_tup (a_cons e_bl (a_cons e_int a_nil))) (a_cons (e_tup (a_cons e_int (a_cons e_bl a_nil))) (a_cons (e_tup (a_cons e_bl (a_cons e_int a_nil))) (a_cons (e_tup (a_cons e_int (a_cons e_int (a_cons e_int a_nil)))) (a_cons (e_tup (a_cons e_int a_nil)) (a_cons (e_new (n_lst (a_cons e_int (a_cons e_int a_nil)))) (a_cons (e_tup (a_cons e_str (a_cons e_int a_nil))) (a_cons (e_tup (a_cons (e_op o_pow e_int e_int) (a_cons (e_op o_pow e_int e_int) a_nil))) (a_cons e_str a_nil)))))))))))))
    (ss_cons (s_app (pv 0) e_str)
    (ss_one (s_ret (e_op o_add (e_var 0 (pv 0)) (e_new (n_lst (a_cons (e_tup (a_cons (e_op o_pow e_int e_int) (a_cons e_int a_nil))) (a_cons (e_tup (a_cons (e_op o_sub (e_op o_pow e_int e_int) e_int) (a_cons e_int a_nil))) (a_cons (e_tup (a_cons (e_tup (a_cons e_int (a_cons e_int a_nil))) (a_cons e_int a_nil))) (a_cons (e_tup (a_cons e_str (a_cons e_str (a_cons e_str a_nil)))) (a_cons (e_tup (a_cons e_str (a_cons e_str a_nil))) (a_cons e_str (a_cons (e_tup (a_cons e_int (a_cons (e_neg e_int) a_nil))) a_nil)))))))))))))))))
end K00

set_option Elab.async false
set_option linter.all false
set_option maxRecDepth 100000
set_option maxHeartbeats 4000000
namespace K00
open PySem PySem.Spec PyProof.Rows L2 PL

theorem Sm.list {a n : Nat} {ds : List D} (h : Sm a n (.tuple ds)) : Sm a n (.list ds) := by
  cases n with
  | zero => exact h.elim
  | succ n => exact h
theorem join2 {a n : Nat} {A B : List D} (hA : ∀ x ∈ A, Sm a (n + 2) x) (hB : ∀ x ∈ B, Sm a (n + 2) x) (l : A.length + B.length ≤ a) : Sm a (n + 3) (.tuple (A ++ B)) := by
  refine ⟨by rw [List.length_append]; exact l, fun x hx => ?_⟩
  rcases List.mem_append.mp hx with h | h
  · exact hA x h
  · exact hB x h
theorem join3 {a n : Nat} {A B C : List D} (hA : ∀ x ∈ A, Sm a (n + 2) x) (hB : ∀ x ∈ B, Sm a (n + 2) x) (hC : ∀ x ∈ C, Sm a (n + 2) x) (l : A.length + B.length + C.length ≤ a) : Sm a (n + 3) (.tuple (A ++ B ++ C)) :=
  join2 (fun x hx => (List.mem_append.mp hx).elim (hA x) (hB x)) hC (by rw [List.length_append]; exact l)

theorem cut_mem {ds : List D} {lo hi : Option Int} {x : D} (h : x ∈ PL.cutD ds lo hi) : x ∈ ds := List.mem_of_mem_drop (List.mem_of_mem_take h)
theorem cut_to (ds : List D) (k : Nat) : (PL.cutD ds none (some (k : Int))).length ≤ k := by
  unfold PL.cutD
  rw [List.length_take, List.length_drop]
  simp only [HT.sIx]
  split <;> (try split) <;> omega
theorem cut_from (ds : List D) (k : Nat) : (PL.cutD ds (some (k : Int)) none).length ≤ ds.length - k := by
  unfold PL.cutD
  rw [List.length_take, List.length_drop]
  simp only [HT.sIx]
  split <;> (try split) <;> omega
theorem cut_mid (ds : List D) (k j : Nat) : (PL.cutD ds (some (k : Int)) (some ((k : Int) + (j : Int)))).length ≤ j ∧ (PL.cutD ds (some (k : Int)) (some ((k : Int) + (j : Int)))).length ≤ ds.length - k := by
  unfold PL.cutD
  rw [List.length_take, List.length_drop]
  simp only [HT.sIx]
  constructor <;> split <;> (try split) <;> (try split) <;> omega

abbrev s__law_bent : Stmt := topS 20
abbrev N__law_bent : List Str := ["_law_feed_here", "_law_item", "_law_deep", "_law_k", "_law_mode"]
abbrev ps__law_bent : List Str := ["_law_feed_here", "_law_item", "_law_deep"]
theorem sc__law_bent : FnScope N__law_bent ps__law_bent (defScope s__law_bent) := ⟨rfl, rfl, rfl, by decide +kernel, rfl, by decide +kernel, by decide +kernel⟩
def w1_bent (wf__law_bent : WF) : WS := (wIf (wAndB (wTru (wIs "tuple" (wVar 1))) (wAndB (wT (w2 (oEq true) (wVar 1) (wTup wNil))) (wAndB (wT (w2 oGt (wVar 2) (wD (.int 0)))) (wT (w2 oGt (wCall wf__law_draw (wCons (wVar 0) (wCons (wD (.int 6)) wNil))) (wD (.int 0))))))) (wSeq (wSet 3 (wCall wf__law_draw (wCons (wVar 0) (wCons (wBi oLen (wCons (wVar 1) wNil)) wNil))))
    (wRet (w2 oAdd (w2 oAdd (wSl (wVar 1) wNoPart (wPart (wVar 3))) (wTup (wCons (wCall wf__law_bent (wCons (wVar 0) (wCons (w2 oIx (wVar 1) (wVar 3)) (wCons (w2 oSub (wVar 2) (wD (.int 1))) wNil)))) wNil))) (wSl (wVar 1) (wPart (w2 oAdd (wVar 3) (wD (.int 1)))) wNoPart)))) wNx)
def w2_bent : WS := (wIf (wAndB (wTru (wIs "tuple" (wVar 1))) (wT (w2 oGt (wCall wf__law_draw (wCons (wVar 0) (wCons (wD (.int 4)) wNil))) (wD (.int 0))))) (wSeq (wPar 3 4 (wCons (wCall wf__law_draw (wCons (wVar 0) (wCons (w2 oAdd (wBi oLen (wCons (wVar 1) wNil)) (wD (.int 1))) wNil))) (wCons (wCall wf__law_draw (wCons (wVar 0) (wCons (wD (.int 6)) wNil))) wNil)))
    (wSeq (wIf (wT (w2 (oEq false) (wVar 4) (wD (.int 0)))) (wRet (wBi oList (wCons (wVar 1) wNil))) wNx)
    (wSeq (wIf (wT (w2 (oEq false) (wVar 4) (wD (.int 1)))) (wRet (w2 oAdd (w2 oAdd (wSl (wVar 1) wNoPart (wPart (wVar 3))) (wRev (wSl (wVar 1) (wPart (wVar 3)) (wPart (w2 oAdd (wVar 3) (wD (.int 2))))))) (wSl (wVar 1) (wPart (w2 oAdd (wVar 3) (wD (.int 2)))) wNoPart))) wNx)
    (wSeq (wIf (wT (w2 (oEq false) (wVar 4) (wD (.int 2)))) (wRet (w2 oAdd (w2 oAdd (wSl (wVar 1) wNoPart (wPart (wVar 3))) (w2 oMulT (wSl (wVar 1) (wPart (wVar 3)) (wPart (w2 oAdd (wVar 3) (wD (.int 1))))) (wD (.int 2)))) (wSl (wVar 1) (wPart (w2 oAdd (wVar 3) (wD (.int 1)))) wNoPart))) wNx)
    (wRet (wIfE (wT (w2 oLt (wVar 4) (wD (.int 5)))) (w2 oAdd (wSl (wVar 1) wNoPart (wPart (wVar 3))) (wSl (wVar 1) (wPart (w2 oAdd (wVar 3) (wD (.int 1)))) wNoPart)) (w2 oAdd (w2 oAdd (wSl (wVar 1) wNoPart (wPart (wVar 3))) (wTup (wCons (wCall wf__law_odd (wCons (wVar 0) wNil)) wNil))) (wSl (wVar 1) (wPart (wVar 3)) wNoPart)))))))) wNx)
def w3_bent : WS := (wIf (wAndB (wTru (wIs "int" (wVar 1))) (wAndB (wNotB (wTru (wIs "bool" (wVar 1)))) (wT (w2 oGt (wCall wf__law_draw (wCons (wVar 0) (wCons (wD (.int 3)) wNil))) (wD (.int 0)))))) (wRet (w2 oAdd (wVar 1) (wCall wf__law_pick (wCons (wVar 0) (wCons (wNew (wLstN (wCons (wD (.int 1)) (wCons (wM0 oNeg (wD (.int 1))) (wCons (wD (.int 7)) (wCons (wM0 oNeg (wD (.int 9))) wNil)))))) wNil))))) wNx)
def w4_bent : WS := (wRet (wCall wf__law_odd (wCons (wVar 0) wNil)))
def ws__law_bent (wf__law_bent : WF) : WS := wSeq (w1_bent wf__law_bent) (wSeq w2_bent (wSeq w3_bent w4_bent))
theorem b__law_bent {P : Program} {w : World} {K : PySem.W.Frag} {mg : Str → Option Value} {base : Heap} {wf__law_bent : WF} {lv : Nat} (h3 : 3 ≤ lv) (M : Bis mg) (D__law_bent : Def P w K mg base fam XV0 "_law_bent" lv ps__law_bent wf__law_bent) (D__law_draw : Def P w K mg base fam XV0 "_law_draw" 1 ps__law_draw wf__law_draw) (D__law_odd : Def P w K mg base fam XV0 "_law_odd" 3 ps__law_odd wf__law_odd) (D__law_pick : Def P w K mg base fam XV0 "_law_pick" 2 ps__law_pick wf__law_pick)
    {f : Addr} {cdv : Value} {A : Around} {outer : List Env} {s : Shared} {H Z : Hp} {E : XK} {Fo : Option Fd} (hr : Room lv (A.deeper (envOfC "_law_bent" (defScope s__law_bent) s.heap.objs.size f cdv))) (hgd : A.guards = some []) (hF : ∀ y, Fo = some y → fam y) :
    Sts (cpOf (cxOf CX0 P w K mg base N__law_bent "_law_bent" (defScope s__law_bent) f cdv A outer s H E).nox Fo H Z (fun _ _ _ => False) XV0) (defBody s__law_bent) (ws__law_bent wf__law_bent) :=
  (ss_cons (s_if (TW.t (tw_and (t_tru (e_is (T := "tuple") (e_var 1 (pv 1)) (by decide +kernel) (by rfl) M.isinstance (by rfl) M.tuple (by decide +kernel))) (tw_and (t_cmp (o_ne hr.units) (e_var 1 (pv 1)) (e_tup a_nil) rfl) (tw_and (t_cmp o_gt (e_var 2 (pv 2)) e_int rfl) (tw_and1 (t_cmp o_gt (e_callD D__law_draw hF (hr.mono (by omega)) hgd (by rfl) (fun _ _ _ _ _ _ _ h => h.elim) (a_cons (e_var 0 (pv 0)) (a_cons e_int a_nil))) e_int rfl)))))) (ss_cons (s_set (i := 3) sc__law_bent.nd rfl (.inl rfl) (e_callD D__law_draw hF (hr.mono (by omega)) hgd (by rfl) (fun _ _ _ _ _ _ _ h => h.elim) (a_cons (e_var 0 (pv 0)) (a_cons (e_bi b_len (by rfl) M.len (by decide +kernel) (a_cons (e_var 1 (pv 1)) a_nil)) a_nil))))
    (ss_one (s_ret (e_op o_add (e_op o_add (e_sl (e_var 1 (pv 1)) o_none (o_some (e_var 3 (pv 3)))) (e_tup (a_cons (e_callD D__law_bent hF (hr.mono (by omega)) hgd (by rfl) (fun _ _ _ _ _ _ _ h => h.elim) (a_cons (e_var 0 (pv 0)) (a_cons (e_ix (e_var 1 (pv 1)) (e_var 3 (pv 3)) (fun _ _ => rfl)) (a_cons (e_op o_sub (e_var 2 (pv 2)) e_int) a_nil)))) a_nil))) (e_sl (e_var 1 (pv 1)) (o_some (e_op o_add (e_var 3 (pv 3)) e_int)) o_none))))) ss_nil)
    (ss_cons (s_if (TW.t (tw_and (t_tru (e_is (T := "tuple") (e_var 1 (pv 1)) (by decide +kernel) (by rfl) M.isinstance (by rfl) M.tuple (by decide +kernel))) (tw_and1 (t_cmp o_gt (e_callD D__law_draw hF (hr.mono (by omega)) hgd (by rfl) (fun _ _ _ _ _ _ _ h => h.elim) (a_cons (e_var 0 (pv 0)) (a_cons e_int a_nil))) e_int rfl)))) (ss_cons (s_par (i := 3) (j := 4) rfl sc__law_bent.nd rfl rfl (by decide) rfl rfl (a_cons (e_callD D__law_draw hF (hr.mono (by omega)) hgd (by rfl) (fun _ _ _ _ _ _ _ h => h.elim) (a_cons (e_var 0 (pv 0)) (a_cons (e_op o_add (e_bi b_len (by rfl) M.len (by decide +kernel) (a_cons (e_var 1 (pv 1)) a_nil)) e_int) a_nil))) (a_cons (e_callD D__law_draw hF (hr.mono (by omega)) hgd (by rfl) (fun _ _ _ _ _ _ _ h => h.elim) (a_cons (e_var 0 (pv 0)) (a_cons e_int a_nil))) a_nil)) (by rfl))
    (ss_cons (s_if (t_cmp (o_eq hr.units) (e_var 4 (pv 4)) e_int rfl) (ss_one (s_ret (e_ty b_list (by rfl) M.list (by decide +kernel) (a_cons (e_var 1 (pv 1)) a_nil)))) ss_nil)
    (ss_cons (s_if (t_cmp (o_eq hr.units) (e_var 4 (pv 4)) e_int rfl) (ss_one (s_ret (e_op o_add (e_op o_add (e_sl (e_var 1 (pv 1)) o_none (o_some (e_var 3 (pv 3)))) (e_rev (e_sl (e_var 1 (pv 1)) (o_some (e_var 3 (pv 3))) (o_some (e_op o_add (e_var 3 (pv 3)) e_int))))) (e_sl (e_var 1 (pv 1)) (o_some (e_op o_add (e_var 3 (pv 3)) e_int)) o_none)))) ss_nil)
    (ss_cons (s_if (t_cmp (o_eq hr.units) (e_var 4 (pv 4)) e_int rfl) (ss_one (s_ret (e_op o_add (e_op o_add (e_sl (e_var 1 (pv 1)) o_none (o_some (e_var 3 (pv 3)))) (e_op o_mulT (e_sl (e_var 1 (pv 1)) (o_some (e_var 3 (pv 3))) (o_some (e_op o_add (e_var 3 (pv 3)) e_int))) e_int)) (e_sl (e_var 1 (pv 1)) (o_some (e_op o_add (e_var 3 (pv 3)) e_int)) o_none)))) ss_nil)
    (ss_one (s_ret (e_if (t_cmp o_lt (e_var 4 (pv 4)) e_int rfl) (e_op o_add (e_sl (e_var 1 (pv 1)) o_none (o_some (e_var 3 (pv 3)))) (e_sl (e_var 1 (pv 1)) (o_some (e_op o_add (e_var 3 (pv 3)) e_int)) o_none)) (e_op o_add (e_op o_add (e_sl (e_var 1 (pv 1)) o_none (o_some (e_var 3 (pv 3)))) (e_tup (a_cons (e_callD D__law_odd hF (hr.mono (by omega)) hgd (by rfl) (fun _ _ _ _ _ _ _ h => h.elim) (a_cons (e_var 0 (pv 0)) a_nil)) a_nil))) (e_sl (e_var 1 (pv 1)) (o_some (e_var 3 (pv 3))) o_none))))))))) ss_nil)
    (ss_cons (s_if (TW.t (tw_and (t_tru (e_is (T := "int") (e_var 1 (pv 1)) (by decide +kernel) (by rfl) M.isinstance (by rfl) M.int (by decide +kernel))) (tw_and (t_not (t_tru (e_is (T := "bool") (e_var 1 (pv 1)) (by decide +kernel) (by rfl) M.isinstance (by rfl) M.bool (by decide +kernel)))) (tw_and1 (t_cmp o_gt (e_callD D__law_draw hF (hr.mono (by omega)) hgd (by rfl) (fun _ _ _ _ _ _ _ h => h.elim) (a_cons (e_var 0 (pv 0)) (a_cons e_int a_nil))) e_int rfl))))) (ss_one (s_ret (e_op o_add (e_var 1 (pv 1)) (e_callD D__law_pick hF (hr.mono (by omega)) hgd (by rfl) (fun _ _ _ _ _ _ _ h => h.elim) (a_cons (e_var 0 (pv 0)) (a_cons (e_new (n_lst (a_cons e_int (a_cons (e_neg e_int) (a_cons e_int (a_cons (e_neg e_int) a_nil)))))) a_nil)))))) ss_nil)
    (ss_one (s_ret (e_callD D__law_odd hF (hr.mono (by omega)) hgd (by rfl) (fun _ _ _ _ _ _ _ h => h.elim) (a_cons (e_var 0 (pv 0)) a_nil)))))))

def wfB (k : Nat) : WF := fun ss q _ => ∃ (zs : List Int) (d : D) (a n : Nat), ss = [S.feed (zs.map PyData.int), S.dat d, S.dat (.int (k : Int))] ∧ Sm a n d ∧ 4 ≤ a ∧ a ≤ 50 ∧ n ≤ 50 ∧ ∀ d', Sm (a + 1) (n + 3) d' → q (.dat d')
def wfP : Nat → WF
  | 0 => fun _ _ _ => False
  | k + 1 => wfB k
structure Good (q : S → Prop) (a n : Nat) : Prop where
  k : ∀ d', Sm (a + 1) (n + 3) d' → q (.dat d')
theorem Good.odd {q : S → Prop} {a n : Nat} (g : Good q a n) (h : 4 ≤ a) : ∀ d', Sm 4 2 d' → q (.dat d') := fun d' h' => g.k d' (h'.mono (by omega) (by omega))
theorem t4_bent {P : Po} {zs : List Int} {r : Env'} {a n : Nat} (g : Good P.rt a n) (ha : 4 ≤ a) : w4_bent P (some (.feed (zs.map PyData.int)) :: r) := by
  have odd := g.odd ha
  simp only [w4_bent, wf__law_odd, exD, unD_nil, unD_cons, Option.map_some, sizeLine_eq, Nat.reduceLeDiff, wBody, start', wSeq, wNx, wRet, wRetN, wIf, wSet, wOwn, wApp, wPar, wAsg, gTp, gC, gN, gNm, wFor, wLoop, wDrop, wVar, wD, wNil, wCons, wTup, wLst, wNew, wLstN, wAddN, wBi, w2, wIs, wT, wTru, tru, wNotB, wAndB, wOrB, wAnd, wOr, wNot, wIfE, wChain, oInt, oSub, oDiv, oMod, oPow, oOrd, oLt, oLe, oGt, oGe, oAdd, oMul, oMulT, oEq, oInSign, oLen, oInt1, oAbs, oGcd, oList, oTuple, oAll, oRepr, oNeg, wM0, oM0, oIx, oSl, wSl, wPart, wNoPart, wIt, oIter, wRng1, wRng2, wCall, wJoin, wRev, wFint, wFcells, wFset, S.lst, S.data, S.seq, S.lent, S.frz, wipe', setAll, sel1, wYes, List.map_cons, List.map_nil, List.length_cons, List.length_nil, List.replicate_succ, List.replicate_zero, List.cons_append, List.nil_append, List.append_nil, List.getElem?_cons_zero, List.getElem?_cons_succ, List.set_cons_zero, List.set_cons_succ, List.all_cons, List.all_nil, Nat.reduceAdd, Nat.reduceSub, Nat.sub_self, Nat.sub_zero, Option.some.injEq, exists_eq_left', exists_eq_left, exists_eq_right, S.dat.injEq, S.feed.injEq, PyData.bool.injEq, PyData.int.injEq, PyData.str.injEq, PyData.tuple.injEq, PyData.list.injEq, Bool.and_true, Bool.true_and, true_and, and_true, if_true, if_false, Bool.false_eq_true, Bool.not_true, Bool.not_false, reduceCtorEq, false_and, and_false, exists_false, Bool.and_self, exists_const]
  exact ⟨zs, rfl, odd⟩
theorem t3_bent {P : Po} {zs : List Int} {d : D} {r : Env'} {a n : Nat} (g : Good P.rt a n) (ha : 4 ≤ a) : wSeq w3_bent w4_bent P (some (.feed (zs.map PyData.int)) :: some (.dat d) :: r) := by
  have t4 := t4_bent (zs := zs) (r := some (.dat d) :: r) g ha
  show w3_bent { P with nx := w4_bent P } _
  generalize w4_bent P = w at t4
  simp only [w3_bent, wf__law_draw, wf__law_pick, exD, unD_nil, unD_cons, Option.map_some, sizeLine_eq, Nat.reduceLeDiff, wBody, start', wSeq, wNx, wRet, wRetN, wIf, wSet, wOwn, wApp, wPar, wAsg, gTp, gC, gN, gNm, wFor, wLoop, wDrop, wVar, wD, wNil, wCons, wTup, wLst, wNew, wLstN, wAddN, wBi, w2, wIs, wT, wTru, tru, wNotB, wAndB, wOrB, wAnd, wOr, wNot, wIfE, wChain, oInt, oSub, oDiv, oMod, oPow, oOrd, oLt, oLe, oGt, oGe, oAdd, oMul, oMulT, oEq, oInSign, oLen, oInt1, oAbs, oGcd, oList, oTuple, oAll, oRepr, oNeg, wM0, oM0, oIx, oSl, wSl, wPart, wNoPart, wIt, oIter, wRng1, wRng2, wCall, wJoin, wRev, wFint, wFcells, wFset, S.lst, S.data, S.seq, S.lent, S.frz, wipe', setAll, sel1, wYes, List.map_cons, List.map_nil, List.length_cons, List.length_nil, List.replicate_succ, List.replicate_zero, List.cons_append, List.nil_append, List.append_nil, List.getElem?_cons_zero, List.getElem?_cons_succ, List.set_cons_zero, List.set_cons_succ, List.all_cons, List.all_nil, Nat.reduceAdd, Nat.reduceSub, Nat.sub_self, Nat.sub_zero, Option.some.injEq, exists_eq_left', exists_eq_left, exists_eq_right, S.dat.injEq, S.feed.injEq, PyData.bool.injEq, PyData.int.injEq, PyData.str.injEq, PyData.tuple.injEq, PyData.list.injEq, Bool.and_true, Bool.true_and, true_and, and_true, if_true, if_false, Bool.false_eq_true, Bool.not_true, Bool.not_false, reduceCtorEq, false_and, and_false, exists_false, Bool.and_self, exists_const]
  cases d with
  | int i =>
    have e1 : isTy "int" (.int i) = true := rfl
    have e2 : (!isTy "bool" (.int i)) = true := rfl
    rw [if_pos e1, if_pos e2]
    refine ⟨zs, 3, rfl, by omega, by omega, fun k k0 k1 => ?_⟩
    split
    · refine ⟨zs, _, rfl, by simp, by simp, ?_⟩
      intro d hd
      simp only [List.mem_cons, List.not_mem_nil, or_false] at hd
      rcases hd with rfl | rfl | rfl | rfl <;> exact g.k _ (by simp [Sm])
    · exact t4
  | _ => simp [isTy, tyN]; exact t4
theorem t2_bent {P : Po} {zs : List Int} {d : D} {o x y : Option S} {a n : Nat} (g : Good P.rt a n) (hs : Sm a n d) (ha : 4 ≤ a) (ha2 : a ≤ 50) (hn : n ≤ 50) : wSeq w2_bent (wSeq w3_bent w4_bent) P [some (.feed (zs.map PyData.int)), some (.dat d), o, x, y] := by
  have t3 := t3_bent (zs := zs) (d := d) (r := [o, x, y]) g ha
  have odd := g.odd ha
  show w2_bent { P with nx := wSeq w3_bent w4_bent P } _
  generalize wSeq w3_bent w4_bent P = w at t3
  cases d with
  | tuple ds =>
    simp (maxSteps := 1000000) only [w2_bent, wf__law_draw, wf__law_odd, exD, unD_nil, unD_cons, Option.map_some, sizeLine_eq, Nat.reduceLeDiff, show isTy "tuple" (.tuple ds) = true from rfl, wBody, start', wSeq, wNx, wRet, wRetN, wIf, wSet, wOwn, wApp, wPar, wAsg, gTp, gC, gN, gNm, wFor, wLoop, wDrop, wVar, wD, wNil, wCons, wTup, wLst, wNew, wLstN, wAddN, wBi, w2, wIs, wT, wTru, tru, wNotB, wAndB, wOrB, wAnd, wOr, wNot, wIfE, wChain, oInt, oSub, oDiv, oMod, oPow, oOrd, oLt, oLe, oGt, oGe, oAdd, oMul, oMulT, oEq, oInSign, oLen, oInt1, oAbs, oGcd, oList, oTuple, oAll, oRepr, oNeg, wM0, oM0, oIx, oSl, wSl, wPart, wNoPart, wIt, oIter, wRng1, wRng2, wCall, wJoin, wRev, wFint, wFcells, wFset, S.lst, S.data, S.seq, S.lent, S.frz, wipe', setAll, sel1, wYes, List.map_cons, List.map_nil, List.length_cons, List.length_nil, List.replicate_succ, List.replicate_zero, List.cons_append, List.nil_append, List.append_nil, List.getElem?_cons_zero, List.getElem?_cons_succ, List.set_cons_zero, List.set_cons_succ, List.all_cons, List.all_nil, Nat.reduceAdd, Nat.reduceSub, Nat.sub_self, Nat.sub_zero, Option.some.injEq, exists_eq_left', exists_eq_left, exists_eq_right, S.dat.injEq, S.feed.injEq, PyData.bool.injEq, PyData.int.injEq, PyData.str.injEq, PyData.tuple.injEq, PyData.list.injEq, Bool.and_true, Bool.true_and, true_and, and_true, if_true, if_false, Bool.false_eq_true, Bool.not_true, Bool.not_false, reduceCtorEq, false_and, and_false, exists_false, Bool.and_self, exists_const]
    obtain ⟨hl, hx⟩ := hs.elems
    refine ⟨zs, 4, rfl, by omega, by omega, fun k1 _ _ => ?_⟩
    split
    · refine ⟨zs, _, rfl, by omega, by omega, fun k k0 kl => ?_⟩
      refine ⟨zs, 6, rfl, by omega, by omega, fun m m0 m6 => ?_⟩
      obtain ⟨k, rfl⟩ : ∃ j : Nat, k = (j : Int) := ⟨k.toNat, by omega⟩
      have kl' : k ≤ ds.length := by omega
      refine ⟨_, _, rfl, rfl, rfl, ?_⟩
      refine ⟨_, _, rfl, rfl, shInt _, shInt _, ?_⟩
      rw [eqv_int]
      split
      · exact g.k _ (hs.list.mono (by omega) (by omega))
      refine ⟨_, _, rfl, rfl, shInt _, shInt _, ?_⟩
      rw [eqv_int]
      have sub : ∀ {lo hi : Option Int}, ∀ x ∈ PL.cutD ds lo hi, Sm (a + 1) (n + 2) x := fun x h => (hx x (cut_mem h)).mono (by omega) (by omega)
      have L := cut_to ds k
      have M1 : (PL.cutD ds (some (k : Int)) (some ((k : Int) + 1))).length ≤ 1 ∧ (PL.cutD ds (some (k : Int)) (some ((k : Int) + 1))).length ≤ ds.length - k := cut_mid ds k 1
      have M2 : (PL.cutD ds (some (k : Int)) (some ((k : Int) + 2))).length ≤ 2 ∧ (PL.cutD ds (some (k : Int)) (some ((k : Int) + 2))).length ≤ ds.length - k := cut_mid ds k 2
      have F0 := cut_from ds k
      have F1 : (PL.cutD ds (some ((k : Int) + 1)) none).length ≤ ds.length - (k + 1) := cut_from ds (k + 1)
      have F2 : (PL.cutD ds (some ((k : Int) + 2)) none).length ≤ ds.length - (k + 2) := cut_from ds (k + 2)
      split
      · refine ⟨_, rfl, _, rfl, by omega, by simp only [List.length_reverse]; omega, by simp only [List.length_append, List.length_reverse]; omega, g.k _ (join3 sub (fun x h => sub x (List.mem_reverse.mp h)) sub ?_)⟩
        simp only [List.length_reverse]; omega
      refine ⟨_, _, rfl, rfl, shInt _, shInt _, ?_⟩
      rw [eqv_int]
      split
      · have e : ∀ C : List D, (List.replicate (Int.toNat 2) C).flatten = C ++ C := fun C => by
          rw [show Int.toNat 2 = 2 from rfl]
          simp [List.replicate]
        simp only [e]
        refine ⟨_, rfl, _, rfl, by omega, by omega, by omega, by simp only [List.length_append]; omega, by simp only [List.length_append]; omega, g.k _ (join3 sub (fun x h => (List.mem_append.mp h).elim (sub x) (sub x)) sub ?_)⟩
        simp only [List.length_append]; omega
      refine ⟨_, rfl, ?_⟩
      split
      · exact ⟨_, rfl, by omega, g.k _ (join2 sub sub (by omega))⟩
      · refine ⟨_, rfl, zs, rfl, fun d hd => ⟨by omega, _, rfl, by simp only [List.length_append, List.length_cons, List.length_nil]; omega, g.k _ (join3 sub (fun x h => ?_) sub ?_)⟩⟩
        · rw [List.mem_singleton] at h
          subst h
          exact hd.mono (by omega) (by omega)
        · simp only [List.length_cons, List.length_nil]; omega
    · exact t3
  | _ => simp (maxSteps := 1000000) [w2_bent, wIf, wAndB, wTru, wIs, wVar, tru, isTy, tyN]; exact t3
theorem v_bent (k : Nat) : ∀ ss q e, ss.length = 3 → wfB k ss q e → wBody 5 (ws__law_bent (wfP k)) ss q noX := by
  rintro ss q e - ⟨zs, d, a, n, rfl, hs, ha, ha2, hn, hq⟩
  have g : Good q a n := ⟨hq⟩
  show w1_bent (wfP k) { nx := wSeq w2_bent (wSeq w3_bent w4_bent) { nx := fun _ => q (.dat .none), rt := q, ex := noX }, rt := q, ex := noX } [some (.feed (zs.map PyData.int)), some (.dat d), some (.dat (.int (k : Int))), none, none]
  have t2 := t2_bent (P := { nx := fun _ => q (.dat .none), rt := q, ex := noX }) (zs := zs) (o := some (.dat (.int (k : Int)))) (x := none) (y := none) g hs ha ha2 hn
  generalize wSeq w2_bent (wSeq w3_bent w4_bent) { nx := fun _ => q (.dat .none), rt := q, ex := noX } = w at t2
  cases d with
  | tuple ds =>
    simp (maxSteps := 1000000) only [w1_bent, wf__law_draw, exD, unD_nil, unD_cons, Option.map_some, sizeLine_eq, Nat.reduceLeDiff, show isTy "tuple" (.tuple ds) = true from rfl, wBody, start', wSeq, wNx, wRet, wRetN, wIf, wSet, wOwn, wApp, wPar, wAsg, gTp, gC, gN, gNm, wFor, wLoop, wDrop, wVar, wD, wNil, wCons, wTup, wLst, wNew, wLstN, wAddN, wBi, w2, wIs, wT, wTru, tru, wNotB, wAndB, wOrB, wAnd, wOr, wNot, wIfE, wChain, oInt, oSub, oDiv, oMod, oPow, oOrd, oLt, oLe, oGt, oGe, oAdd, oMul, oMulT, oEq, oInSign, oLen, oInt1, oAbs, oGcd, oList, oTuple, oAll, oRepr, oNeg, wM0, oM0, oIx, oSl, wSl, wPart, wNoPart, wIt, oIter, wRng1, wRng2, wCall, wJoin, wRev, wFint, wFcells, wFset, S.lst, S.data, S.seq, S.lent, S.frz, wipe', setAll, sel1, wYes, List.map_cons, List.map_nil, List.length_cons, List.length_nil, List.replicate_succ, List.replicate_zero, List.cons_append, List.nil_append, List.append_nil, List.getElem?_cons_zero, List.getElem?_cons_succ, List.set_cons_zero, List.set_cons_succ, List.all_cons, List.all_nil, Nat.reduceAdd, Nat.reduceSub, Nat.sub_self, Nat.sub_zero, Option.some.injEq, exists_eq_left', exists_eq_left, exists_eq_right, S.dat.injEq, S.feed.injEq, PyData.bool.injEq, PyData.int.injEq, PyData.str.injEq, PyData.tuple.injEq, PyData.list.injEq, Bool.and_true, Bool.true_and, true_and, and_true, if_true, if_false, Bool.false_eq_true, Bool.not_true, Bool.not_false, reduceCtorEq, false_and, and_false, exists_false, Bool.and_self, exists_const]
    cases n with
    | zero => exact hs.elim
    | succ n =>
    have hsh := hs.shaped (by omega)
    obtain ⟨hl, hx⟩ := hs
    refine ⟨_, _, rfl, rfl, hsh, shNilT, ?_⟩
    rw [eqv_nilT]
    split
    · rename_i hne
      have ne : 0 < ds.length := by
        cases ds with
        | nil => simp at hne
        | cons x r => exact Nat.succ_pos _
      split
      · rename_i hk
        have hk' := of_decide_eq_true hk
        refine ⟨zs, 6, rfl, by omega, by omega, fun k1 _ _ => ?_⟩
        split
        · refine ⟨zs, _, rfl, by omega, by omega, fun j j0 jl => ?_⟩
          obtain ⟨j, rfl⟩ : ∃ m : Nat, j = (m : Int) := ⟨j.toNat, by omega⟩
          have hj : j < ds.length := by omega
          cases k with
          | zero => exact absurd hk' (by decide)
          | succ k =>
          refine ⟨ds[j], atI_nat (List.getElem?_eq_getElem hj), ?_⟩
          rw [show wfP (k + 1) = wfB k from rfl]
          have sub : ∀ {lo hi : Option Int}, ∀ x ∈ PL.cutD ds lo hi, Sm (a + 1) (n + 1 + 2) x := fun x h => (hx x (cut_mem h)).mono (by omega) (by omega)
          have L := cut_to ds j
          have F1 : (PL.cutD ds (some ((j : Int) + 1)) none).length ≤ ds.length - (j + 1) := cut_from ds (j + 1)
          refine ⟨zs, ds[j], a, n, by rw [show ((k + 1 : Nat) : Int) - 1 = (k : Int) by omega], hx _ (List.getElem_mem hj), ha, ha2, by omega, fun d' hd' => ?_⟩
          refine ⟨[d'], rfl, by simp, by simp only [List.length_cons, List.length_nil]; omega, by simp only [List.length_append, List.length_cons, List.length_nil]; omega, hq _ (join3 sub (fun x h => ?_) sub ?_)⟩
          · rw [List.mem_singleton] at h
            subst h
            exact hd'.mono (by omega) (by omega)
          · simp only [List.length_cons, List.length_nil]; omega
        · exact t2
      · exact t2
    · exact t2
  | _ => simp (maxSteps := 1000000) [w1_bent, wIf, wAndB, wTru, wIs, wVar, tru, isTy, tyN]; exact t2
end K00

set_option Elab.async false
set_option linter.all false
set_option maxRecDepth 100000
set_option maxHeartbeats 4000000
namespace K00
open PySem PySem.Spec PyProof.Rows L2 PL
abbrev s_law : Stmt := topS 24
abbrev N_law : List Str := ["_law_script", "_law_feed_here", "_law_item", "_law_lap", "_law_top", "_law_rest", "_law_names", "_law_k"]
abbrev ps_law : List Str := ["_law_script"]
theorem sc_law : FnScope N_law ps_law (defScope s_law) := ⟨rfl, rfl, rfl, by decide +kernel, rfl, by decide +kernel, by decide +kernel⟩
abbrev wf__law_bent : WF := wfB 2
def l1_law : WS := (wPar 4 5 (wCons (w2 oSub (wCall wf__law_draw (wCons (wVar 1) (wCons (wD (.int 25)) wNil))) (wD (.int 12))) (wCons (wCall wf__law_draw (wCons (wVar 1) (wCons (wD (.int 9)) wNil))) wNil)))
def l2_law : WS := (wSet 6 (wNew (wLc [7] [7] sel1 (wRng1 (wCons (wCall wf__law_draw (wCons (wVar 1) (wCons (wD (.int 4)) wNil))) wNil)) wYes (wCall wf__law_pick (wCons (wVar 1) (wCons (wNew (wLstN (wCons (wD (.str (Str.ofString "a"))) (wCons (wD (.str (Str.ofString "b"))) (wCons (wD (.str (Str.ofString "ab"))) (wCons (wD (.str (Str.ofString "c"))) (wCons (wD (.str (Str.ofString "z"))) (wCons (wD (.str (Str.ofString "aa"))) (wCons (wD (.str (Str.ofString "abcdefgh"))) wNil))))))))) wNil))))))
def l3_law : WS := (wSet 2 (wCall wf__law_pick (wCons (wVar 1) (wCons (wNew (wLstN (wCons (wVar 4) (wCons (wTup (wCons (wVar 4) (wCons (wVar 5) wNil))) (wCons (wBi oTuple (wCons (wVar 6) wNil)) (wCons (wBi oTuple (wCons (wSrtSetT (wVar 6)) wNil)) (wCons (wJoin (wD (.str (Str.ofString ""))) (wVar 6)) wNil))))))) wNil))))
def l4_law : WS := (wIf (wOrB (wNotB (wTru (wCall wf__law_is_right (wCons (wVar 2) wNil)))) (wNotB (wTru (wCall wf__law_is_right (wCons (wCall wf__law_bent (wCons (wVar 1) (wCons (wVar 2) (wCons (wD (.int 2)) wNil)))) wNil))))) (wRet (wD (.bool false))) wNx)
def lf_law : WS := (wIf (wT (w2 (oEq true) (wNew (wLc [2] [2] sel1 (wIt (wCall wf__law_fixed wNil)) (wNotB (wTru (wCall wf__law_is_right (wCons (wVar 2) wNil)))) (wVar 2))) (wNew (wLstN wNil)))) (wRet (wD (.bool false))) wNx)
def lb_law : WS := wSeq l1_law (wSeq l2_law (wSeq l3_law l4_law))
def ws_law : WS := wSeq lf_law (wSeq (wFor (wRng1 (wCons (wD (.int 30)) wNil)) (gNm 3) lb_law) (wRet (wD (.bool true))))
def tryBody : Stmt → List Stmt
  | .Try b _ _ _ _ => b
  | _ => []
abbrev body_law : List Stmt := tryBody ((defBody s_law).getD 1 (.Pass ⟨0, 0, 0, 0⟩))
theorem b_law {P : Program} {w : World} {K : PySem.W.Frag} {mg : Str → Option Value} {base : Heap} (M : Bis mg) (D__law_bent : Def P w K mg base fam XV0 "_law_bent" 6 ps__law_bent wf__law_bent) (D__law_draw : Def P w K mg base fam XV0 "_law_draw" 1 ps__law_draw wf__law_draw) (D__law_fixed : Def P w K mg base fam XV0 "_law_fixed" 1 ps__law_fixed wf__law_fixed) (D__law_is_right : Def P w K mg base fam XV0 "_law_is_right" 4 ps__law_is_right wf__law_is_right) (D__law_pick : Def P w K mg base fam XV0 "_law_pick" 2 ps__law_pick wf__law_pick)
    {f : Addr} {cdv : Value} {A : Around} {outer : List Env} {s : Shared} {H : Hp} {E : XK} (hr : Room 6 (A.deeper (envOfC "law" (defScope s_law) s.heap.objs.size f cdv))) (hgd : A.guards = some []) {Fo : Option Fd} {H0 Z0 : Hp} (hF : ∀ y, Fo = some y → fam y) :
    Sts (cpOf (cxOf CX0 P w K mg base N_law "law" (defScope s_law) f cdv A outer s H E).nox Fo H0 Z0 (fun _ _ _ => False) XV0) body_law ws_law :=
  (ss_cons (s_if (t_cmp (o_ne hr.units) (e_new (n_lc rfl sc_law.nd (i_any (e_callD0 D__law_fixed rfl hF (hr.mono (by decide)) hgd (by rfl) (fun _ _ _ _ _ _ _ h => h.elim))) (blkOk_by (own := [("_law_item", 2)]) (N := N_law) (sc := defScope s_law) (by decide +kernel)) (tg_name 2) (by decide) (fun _ _ _ _ _ => (pg_name (i := 2) sc_law.nd rfl (Or.inl rfl))) (fun _ _ _ _ _ => (ts_one (t_not (t_tru (e_callD D__law_is_right hF (hr.mono (by decide)) hgd (by rfl) (fun _ _ _ _ _ _ _ h => h.elim) (a_cons (e_var 2 (pv 2)) a_nil)))))) (fun _ _ _ _ _ => (e_var 2 (pv 2))))) (e_new (n_lst a_nil)) rfl) (ss_one (s_ret e_bl)) ss_nil)
    (ss_cons (s_for PassesOwn.never rfl (i_rng1 (by rfl) M.range (a_cons e_int a_nil)) (fun _ => (g_nm (i := 3) sc_law.nd rfl (.inl rfl))) (fun _ => (ss_cons (s_par (i := 4) (j := 5) rfl sc_law.nd rfl rfl (by decide) rfl rfl (a_cons (e_op o_sub (e_callD D__law_draw hF (hr.mono (by decide)) hgd (by rfl) (fun _ _ _ _ _ _ _ h => h.elim) (a_cons (e_var 1 (pv 1)) (a_cons e_int a_nil))) e_int) (a_cons (e_callD D__law_draw hF (hr.mono (by decide)) hgd (by rfl) (fun _ _ _ _ _ _ _ h => h.elim) (a_cons (e_var 1 (pv 1)) (a_cons e_int a_nil))) a_nil)) (by rfl))
    (ss_cons (s_lcSet (i := 6) rfl sc_law.nd rfl rfl (sw_true rfl rfl rfl (by decide +kernel)) (i_rng1 (by rfl) M.range (a_cons (e_callD D__law_draw hF (hr.mono (by decide)) hgd (by rfl) (fun _ _ _ _ _ _ _ h => h.elim) (a_cons (e_var 1 (pv 1)) (a_cons e_int a_nil))) a_nil)) (blkOk_by (own := [("_law_k", 7)]) (N := N_law) (sc := defScope s_law) (by decide +kernel)) (tg_name 7) (by decide) (fun _ _ _ _ _ => (pg_name (i := 7) sc_law.nd rfl (Or.inl rfl))) (fun _ _ _ _ _ => ts_nil) (fun _ _ _ _ _ => (e_callD D__law_pick hF (hr.mono (by decide)) hgd (by rfl) (fun _ _ _ _ _ _ _ h => h.elim) (a_cons (e_var 1 (pv 1)) (a_cons (e_new (n_lst (a_cons e_str (a_cons e_str (a_cons e_str (a_cons e_str (a_cons e_str (a_cons e_str (a_cons e_str a_nil))))))))) a_nil)))))
    (ss_cons (s_set (i := 2) sc_law.nd rfl (.inl rfl) (e_callD D__law_pick hF (hr.mono (by decide)) hgd (by rfl) (fun _ _ _ _ _ _ _ h => h.elim) (a_cons (e_var 1 (pv 1)) (a_cons (e_new (n_lst (a_cons (e_var 4 (pv 4)) (a_cons (e_tup (a_cons (e_var 4 (pv 4)) (a_cons (e_var 5 (pv 5)) a_nil))) (a_cons (e_ty b_tuple (by rfl) M.tuple (by decide +kernel) (a_cons (e_var 6 (pv 6)) a_nil)) (a_cons (e_ty b_tuple (by rfl) M.tuple (by decide +kernel) (a_cons (e_srtSetT rfl hr.units (by rfl) M.sorted (by rfl) M.set (e_var 6 (pv 6))) a_nil)) (a_cons (e_join e_str (e_var 6 (pv 6))) a_nil))))))) a_nil))))
    (ss_one (s_if (TW.t (tw_or (t_not (t_tru (e_callD D__law_is_right hF (hr.mono (by decide)) hgd (by rfl) (fun _ _ _ _ _ _ _ h => h.elim) (a_cons (e_var 2 (pv 2)) a_nil)))) (tw_or1 (t_not (t_tru (e_callD D__law_is_right hF (hr.mono (by decide)) hgd (by rfl) (fun _ _ _ _ _ _ _ h => h.elim) (a_cons (e_callD D__law_bent hF (hr.mono (by decide)) hgd (by rfl) (fun _ _ _ _ _ _ _ h => h.elim) (a_cons (e_var 1 (pv 1)) (a_cons (e_var 2 (pv 2)) (a_cons e_int a_nil)))) a_nil))))))) (ss_one (s_ret e_bl)) ss_nil)))))))
    (ss_one (s_ret e_bl))))

theorem wMap_any {f : D → (Option D → Prop) → Prop} {R : D → Prop} : ∀ {ds : List D} {q : List D → Prop}, (∀ d ∈ ds, ∀ q' : Option D → Prop, (∀ x, R x → q' (some x)) → f d q') → (∀ out : List D, out.length = ds.length → (∀ x ∈ out, R x) → q out) → wMap f ds q
  | [], q, _, h => h [] rfl fun x hx => nomatch hx
  | d :: r, q, hf, h => by
    refine hf d (by simp) _ fun x hx => ?_
    refine wMap_any (R := R) (fun y hy => hf y (by simp [hy])) fun out e ho => ?_
    refine h (x :: out) (by simp [e]) fun y hy => ?_
    rcases List.mem_cons.mp hy with rfl | hy
    · exact hx
    · exact ho y hy
def Z7 : List Str := [Str.ofString "a", Str.ofString "b", Str.ofString "ab", Str.ofString "c", Str.ofString "z", Str.ofString "aa", Str.ofString "abcdefgh"]
theorem names_of : ∀ {out : List D}, (∀ x ∈ out, ∃ z, z ∈ Z7 ∧ x = .str z) → ∃ zs : List Str, out = zs.map PyData.str ∧ ∀ z ∈ zs, z ∈ Z7
  | [], _ => ⟨[], rfl, fun z hz => nomatch hz⟩
  | x :: r, h => by
    obtain ⟨z, hz, rfl⟩ := h x (by simp)
    obtain ⟨zs, rfl, hs⟩ := names_of (out := r) fun y hy => h y (by simp [hy])
    refine ⟨z :: zs, rfl, fun y hy => ?_⟩
    rcases List.mem_cons.mp hy with rfl | hy
    · exact hz
    · exact hs y hy
def okJ (zs : List Str) : Bool := PyData.strOk (Txt.join (Str.ofString "") zs) && decide ((Txt.join (Str.ofString "") zs).length ≤ 100)
theorem okJ_all (zs : List Str) (hl : zs.length ≤ 3) (h : ∀ z ∈ zs, z ∈ Z7) : okJ zs = true := by
  match zs, hl, h with
  | [], _, _ => decide +kernel
  | [a], _, h => exact (show ∀ a ∈ Z7, okJ [a] = true by decide +kernel) a (h a (by simp))
  | [a, b], _, h => exact (show ∀ a ∈ Z7, ∀ b ∈ Z7, okJ [a, b] = true by decide +kernel) a (h a (by simp)) b (h b (by simp))
  | [a, b, c], _, h => exact (show ∀ a ∈ Z7, ∀ b ∈ Z7, ∀ c ∈ Z7, okJ [a, b, c] = true by decide +kernel) a (h a (by simp)) b (h b (by simp)) c (h c (by simp))
theorem z7_ok : ∀ z ∈ Z7, PyData.strOk z = true ∧ z.length ≤ 8 := by decide +kernel
theorem z7_len {zs : List Str} (h : ∀ z ∈ zs, z ∈ Z7) : (zs.map (·.length)).sum ≤ 8 * zs.length := by
  induction zs with
  | nil => simp
  | cons z r ih =>
    have h1 := (z7_ok z (h z (by simp))).2
    have h2 := ih fun y hy => h y (by simp [hy])
    simp only [List.map_cons, List.sum_cons, List.length_cons]
    omega
theorem nodup_len : ∀ {ys ns : List Str}, ys.Nodup → (∀ y ∈ ys, y ∈ ns) → ys.length ≤ ns.length
  | [], _, _, _ => Nat.zero_le _
  | y :: r, ns, nd, h => by
    obtain ⟨h1, h2⟩ := List.nodup_cons.mp nd
    have e := (List.perm_cons_erase (h y (by simp))).length_eq
    have ih := nodup_len h2 (ns := ns.erase y) fun x hx => (List.mem_erase_of_ne (fun z : x = y => h1 (z ▸ hx))).mpr (h x (by simp [hx]))
    rw [List.length_cons] at e ⊢
    omega
/-- what the laps keep -/
def Lap (o : Option S) (zs : List Int) (ρ : Env') : Prop := ∃ x2 x3 x4 x5 x6 x7, ρ = [o, some (.feed (zs.map PyData.int)), x2, x3, x4, x5, x6, x7]
theorem q1_law {P : Po} {o x2 x3 x4 x5 x6 x7 : Option S} {zs : List Int} (h : ∀ i j : Int, P.nx [o, some (.feed (zs.map PyData.int)), x2, x3, some (.dat (.int i)), some (.dat (.int j)), x6, x7]) : l1_law P [o, some (.feed (zs.map PyData.int)), x2, x3, x4, x5, x6, x7] := by
  simp only [l1_law, wf__law_draw, wBody, start', wSeq, wNx, wRet, wRetN, wIf, wSet, wOwn, wApp, wPar, wAsg, gTp, gC, gN, gNm, wFor, wLoop, wDrop, wVar, wD, wNil, wCons, wTup, wLst, wNew, wLstN, wAddN, wBi, w2, wIs, wT, wTru, tru, wNotB, wAndB, wOrB, wAnd, wOr, wNot, wIfE, wChain, oInt, oSub, oDiv, oMod, oPow, oOrd, oLt, oLe, oGt, oGe, oAdd, oMul, oMulT, oEq, oInSign, oLen, oInt1, oAbs, oGcd, oList, oTuple, oAll, oRepr, oNeg, wM0, oM0, oIx, oSl, wSl, wPart, wNoPart, wIt, oIter, wRng1, wRng2, wCall, wJoin, wRev, wFint, wFcells, wFset, S.lst, S.data, S.seq, S.lent, S.frz, wipe', setAll, sel1, wYes, List.map_cons, List.map_nil, List.length_cons, List.length_nil, List.replicate_succ, List.replicate_zero, List.cons_append, List.nil_append, List.append_nil, List.getElem?_cons_zero, List.getElem?_cons_succ, List.set_cons_zero, List.set_cons_succ, List.all_cons, List.all_nil, Nat.reduceAdd, Nat.reduceSub, Nat.sub_self, Nat.sub_zero, Option.some.injEq, exists_eq_left', exists_eq_left, exists_eq_right, S.dat.injEq, S.feed.injEq, PyData.bool.injEq, PyData.int.injEq, PyData.str.injEq, PyData.tuple.injEq, PyData.list.injEq, Bool.and_true, Bool.true_and, true_and, and_true, if_true, if_false, Bool.false_eq_true, Bool.not_true, Bool.not_false, reduceCtorEq, false_and, and_false, exists_false, Bool.and_self, exists_const]
  exact ⟨zs, 25, rfl, by omega, by omega, fun k _ _ => ⟨zs, 9, rfl, by omega, by omega, fun m _ _ => ⟨_, _, rfl, rfl, rfl, h _ _⟩⟩⟩
theorem q2_law {P : Po} {o x2 x3 x4 x5 x6 x7 : Option S} {zs : List Int} (h : ∀ ns : List Str, ns.length ≤ 3 → (∀ z ∈ ns, z ∈ Z7) → P.nx [o, some (.feed (zs.map PyData.int)), x2, x3, x4, x5, some (.dat (.list (ns.map PyData.str))), x7]) : l2_law P [o, some (.feed (zs.map PyData.int)), x2, x3, x4, x5, x6, x7] := by
  simp only [l2_law, wf__law_draw, wf__law_pick, wLc, exD, unD_nil, unD_cons, Option.map_some, sizeLine_eq, Nat.reduceLeDiff, wBody, start', wSeq, wNx, wRet, wRetN, wIf, wSet, wOwn, wApp, wPar, wAsg, gTp, gC, gN, gNm, wFor, wLoop, wDrop, wVar, wD, wNil, wCons, wTup, wLst, wNew, wLstN, wAddN, wBi, w2, wIs, wT, wTru, tru, wNotB, wAndB, wOrB, wAnd, wOr, wNot, wIfE, wChain, oInt, oSub, oDiv, oMod, oPow, oOrd, oLt, oLe, oGt, oGe, oAdd, oMul, oMulT, oEq, oInSign, oLen, oInt1, oAbs, oGcd, oList, oTuple, oAll, oRepr, oNeg, wM0, oM0, oIx, oSl, wSl, wPart, wNoPart, wIt, oIter, wRng1, wRng2, wCall, wJoin, wRev, wFint, wFcells, wFset, S.lst, S.data, S.seq, S.lent, S.frz, wipe', setAll, sel1, wYes, List.map_cons, List.map_nil, List.length_cons, List.length_nil, List.replicate_succ, List.replicate_zero, List.cons_append, List.nil_append, List.append_nil, List.getElem?_cons_zero, List.getElem?_cons_succ, List.set_cons_zero, List.set_cons_succ, List.all_cons, List.all_nil, Nat.reduceAdd, Nat.reduceSub, Nat.sub_self, Nat.sub_zero, Option.some.injEq, exists_eq_left', exists_eq_left, exists_eq_right, S.dat.injEq, S.feed.injEq, PyData.bool.injEq, PyData.int.injEq, PyData.str.injEq, PyData.tuple.injEq, PyData.list.injEq, Bool.and_true, Bool.true_and, true_and, and_true, if_true, if_false, Bool.false_eq_true, Bool.not_true, Bool.not_false, reduceCtorEq, false_and, and_false, exists_false, Bool.and_self, exists_const]
  refine ⟨zs, 4, rfl, by omega, by omega, fun k k0 k4 => ⟨k, rfl, by omega, by omega, by rw [len_rangeD]; omega, ?_⟩⟩
  refine wMap_any (R := fun x => ∃ z, z ∈ Z7 ∧ x = .str z) (fun d _ q' hq' => ⟨zs, _, rfl, by simp, by simp, fun x hx => hq' x ?_⟩) fun out e ho => ?_
  · obtain ⟨z, hz, e⟩ := List.mem_map.mp (show x ∈ Z7.map PyData.str from hx)
    exact ⟨z, hz, e.symm⟩
  · obtain ⟨ns, rfl, hn⟩ := names_of ho
    rw [len_rangeD, List.length_map] at e
    exact h ns (by omega) hn
theorem q3_law {P : Po} {o x2 x3 x7 : Option S} {zs : List Int} {i j : Int} {ns : List Str} (hl : ns.length ≤ 3) (hz : ∀ z ∈ ns, z ∈ Z7) (h : ∀ d, Sm 4 2 d → P.nx [o, some (.feed (zs.map PyData.int)), some (.dat d), x3, some (.dat (.int i)), some (.dat (.int j)), some (.dat (.list (ns.map PyData.str))), x7]) : l3_law P [o, some (.feed (zs.map PyData.int)), x2, x3, some (.dat (.int i)), some (.dat (.int j)), some (.dat (.list (ns.map PyData.str))), x7] := by
  simp only [l3_law, wf__law_draw, wf__law_pick, wSrtSetT, wLc, exD, unD_nil, unD_cons, Option.map_some, sizeLine_eq, Nat.reduceLeDiff, wBody, start', wSeq, wNx, wRet, wRetN, wIf, wSet, wOwn, wApp, wPar, wAsg, gTp, gC, gN, gNm, wFor, wLoop, wDrop, wVar, wD, wNil, wCons, wTup, wLst, wNew, wLstN, wAddN, wBi, w2, wIs, wT, wTru, tru, wNotB, wAndB, wOrB, wAnd, wOr, wNot, wIfE, wChain, oInt, oSub, oDiv, oMod, oPow, oOrd, oLt, oLe, oGt, oGe, oAdd, oMul, oMulT, oEq, oInSign, oLen, oInt1, oAbs, oGcd, oList, oTuple, oAll, oRepr, oNeg, wM0, oM0, oIx, oSl, wSl, wPart, wNoPart, wIt, oIter, wRng1, wRng2, wCall, wJoin, wRev, wFint, wFcells, wFset, S.lst, S.data, S.seq, S.lent, S.frz, wipe', setAll, sel1, wYes, List.map_cons, List.map_nil, List.length_cons, List.length_nil, List.replicate_succ, List.replicate_zero, List.cons_append, List.nil_append, List.append_nil, List.getElem?_cons_zero, List.getElem?_cons_succ, List.set_cons_zero, List.set_cons_succ, List.all_cons, List.all_nil, Nat.reduceAdd, Nat.reduceSub, Nat.sub_self, Nat.sub_zero, Option.some.injEq, exists_eq_left', exists_eq_left, exists_eq_right, S.dat.injEq, S.feed.injEq, PyData.bool.injEq, PyData.int.injEq, PyData.str.injEq, PyData.tuple.injEq, PyData.list.injEq, Bool.and_true, Bool.true_and, true_and, and_true, if_true, if_false, Bool.false_eq_true, Bool.not_true, Bool.not_false, reduceCtorEq, false_and, and_false, exists_false, Bool.and_self, exists_const]
  have sl := z7_len hz
  refine ⟨ns, rfl, Nat.lt_of_le_of_lt (show ns.length + 3 ≤ 6 by omega) (by decide +kernel), fun ys m nd so => ⟨ns, rfl, ?_, zs, _, rfl, by simp, by simp, fun d hd => h d ?_⟩⟩
  · rw [show (Str.ofString "").length = 0 by decide +kernel]
    omega
  · have hy : ys.length ≤ ns.length := nodup_len nd fun y hy => (m y).mp hy
    have sm : ∀ {ls : List Str}, ls.length ≤ 3 → (∀ z ∈ ls, z ∈ Z7) → Sm 4 2 (.tuple (ls.map PyData.str)) := fun {ls} l1 l2 => by
      refine ⟨by rw [List.length_map]; omega, fun x hx => ?_⟩
      obtain ⟨z, hz', rfl⟩ := List.mem_map.mp hx
      have := z7_ok z (l2 z hz')
      exact ⟨this.1, by omega⟩
    simp only [List.mem_cons, List.not_mem_nil, or_false] at hd
    rcases hd with rfl | rfl | rfl | rfl | rfl
    · trivial
    · exact smB_ok rfl
    · exact sm hl hz
    · exact sm (by omega) fun z hz' => hz z ((m z).mp hz')
    · have := okJ_all ns hl hz
      unfold okJ at this
      rw [Bool.and_eq_true, decide_eq_true_eq] at this
      exact this
theorem q4_law {P : Po} {o x3 x4 x5 x6 x7 : Option S} {zs : List Int} {d : D} (hd : Sm 4 2 d) (h : P.nx [o, some (.feed (zs.map PyData.int)), some (.dat d), x3, x4, x5, x6, x7]) : l4_law P [o, some (.feed (zs.map PyData.int)), some (.dat d), x3, x4, x5, x6, x7] := by
  simp only [l4_law, wf__law_is_right, wfB, wBody, start', wSeq, wNx, wRet, wRetN, wIf, wSet, wOwn, wApp, wPar, wAsg, gTp, gC, gN, gNm, wFor, wLoop, wDrop, wVar, wD, wNil, wCons, wTup, wLst, wNew, wLstN, wAddN, wBi, w2, wIs, wT, wTru, tru, wNotB, wAndB, wOrB, wAnd, wOr, wNot, wIfE, wChain, oInt, oSub, oDiv, oMod, oPow, oOrd, oLt, oLe, oGt, oGe, oAdd, oMul, oMulT, oEq, oInSign, oLen, oInt1, oAbs, oGcd, oList, oTuple, oAll, oRepr, oNeg, wM0, oM0, oIx, oSl, wSl, wPart, wNoPart, wIt, oIter, wRng1, wRng2, wCall, wJoin, wRev, wFint, wFcells, wFset, S.lst, S.data, S.seq, S.lent, S.frz, wipe', setAll, sel1, wYes, List.map_cons, List.map_nil, List.length_cons, List.length_nil, List.replicate_succ, List.replicate_zero, List.cons_append, List.nil_append, List.append_nil, List.getElem?_cons_zero, List.getElem?_cons_succ, List.set_cons_zero, List.set_cons_succ, List.all_cons, List.all_nil, Nat.reduceAdd, Nat.reduceSub, Nat.sub_self, Nat.sub_zero, Option.some.injEq, exists_eq_left', exists_eq_left, exists_eq_right, S.dat.injEq, S.feed.injEq, PyData.bool.injEq, PyData.int.injEq, PyData.str.injEq, PyData.tuple.injEq, PyData.list.injEq, Bool.and_true, Bool.true_and, true_and, and_true, if_true, if_false, Bool.false_eq_true, Bool.not_true, Bool.not_false, reduceCtorEq, false_and, and_false, exists_false, Bool.and_self, exists_const]
  exact ⟨d, 4, 2, rfl, hd, by omega, by omega, zs, d, 4, 2, rfl, hd, by omega, by omega, by omega, fun d' h' => ⟨d', 5, 5, rfl, h', by omega, by omega, h⟩⟩
theorem qf_law {P : Po} {o x3 x4 x5 x6 x7 : Option S} {zs : List Int} {x2 : Option S} (h : P.nx [o, some (.feed (zs.map PyData.int)), x2, x3, x4, x5, x6, x7]) : lf_law P [o, some (.feed (zs.map PyData.int)), x2, x3, x4, x5, x6, x7] := by
  simp only [lf_law, wf__law_is_right, wf__law_fixed, wLc, exD, unD_nil, unD_cons, Option.map_some, sizeLine_eq, Nat.reduceLeDiff, wBody, start', wSeq, wNx, wRet, wRetN, wIf, wSet, wOwn, wApp, wPar, wAsg, gTp, gC, gN, gNm, wFor, wLoop, wDrop, wVar, wD, wNil, wCons, wTup, wLst, wNew, wLstN, wAddN, wBi, w2, wIs, wT, wTru, tru, wNotB, wAndB, wOrB, wAnd, wOr, wNot, wIfE, wChain, oInt, oSub, oDiv, oMod, oPow, oOrd, oLt, oLe, oGt, oGe, oAdd, oMul, oMulT, oEq, oInSign, oLen, oInt1, oAbs, oGcd, oList, oTuple, oAll, oRepr, oNeg, wM0, oM0, oIx, oSl, wSl, wPart, wNoPart, wIt, oIter, wRng1, wRng2, wCall, wJoin, wRev, wFint, wFcells, wFset, S.lst, S.data, S.seq, S.lent, S.frz, wipe', setAll, sel1, wYes, List.map_cons, List.map_nil, List.length_cons, List.length_nil, List.replicate_succ, List.replicate_zero, List.cons_append, List.nil_append, List.append_nil, List.getElem?_cons_zero, List.getElem?_cons_succ, List.set_cons_zero, List.set_cons_succ, List.all_cons, List.all_nil, Nat.reduceAdd, Nat.reduceSub, Nat.sub_self, Nat.sub_zero, Option.some.injEq, exists_eq_left', exists_eq_left, exists_eq_right, S.dat.injEq, S.feed.injEq, PyData.bool.injEq, PyData.int.injEq, PyData.str.injEq, PyData.tuple.injEq, PyData.list.injEq, Bool.and_true, Bool.true_and, true_and, and_true, if_true, if_false, Bool.false_eq_true, Bool.not_true, Bool.not_false, reduceCtorEq, false_and, and_false, exists_false, Bool.and_self, exists_const]
  intro ds hs hl
  refine ⟨by omega, wMap_of (g := fun _ => none) (fun d hd q' hq' => ⟨d, 4, 2, rfl, hs d hd, by omega, by omega, hq'⟩) ?_⟩
  have e : ds.filterMap (fun _ => (none : Option D)) = [] := by
    induction ds with
    | nil => rfl
    | cons d r ih => exact ih (fun x hx => hs x (by simp [hx])) (by simp at hl; omega)
  rw [e]
  exact ⟨_, _, rfl, rfl, shNil, shNil, by rw [eqv_nil]; exact h⟩
theorem lap_law {o : Option S} {zs : List Int} : ∀ (ds : List D) (P : Po) (ρ : Env'), Lap o zs ρ → (∀ ρ', Lap o zs ρ' → P.nx ρ') → wLoop (gNm 3) lb_law ds P ρ
  | [], P, ρ, h, k => k ρ h
  | d :: r, P, ρ, h, k => by
    obtain ⟨x2, x3, x4, x5, x6, x7, rfl⟩ := h
    show lb_law _ _
    refine q1_law fun i j => q2_law fun ns hl hz => q3_law hl hz fun d' hd' => q4_law hd' ?_
    exact lap_law r P _ ⟨_, _, _, _, _, _, rfl⟩ k
theorem v_law {P : Po} {o : Option S} {zs : List Int} (h : P.rt (.dat (.bool true))) : ws_law P [o, some (.feed (zs.map PyData.int)), none, none, none, none, none, none] := by
  refine qf_law ?_
  simp only [wSeq, wFor, wRng1, wCons, wNil, wD]
  refine ⟨30, rfl, by omega, by omega, lap_law _ _ _ ⟨_, _, _, _, _, _, rfl⟩ fun ρ' _ => ?_⟩
  exact ⟨rfl, h⟩

end K00

set_option Elab.async false
set_option linter.all false
set_option maxRecDepth 100000
set_option maxHeartbeats 4000000
namespace K00
open PySem PySem.Spec PyProof.Rows L2 PL

abbrev s__law_feed : Stmt := topS 13
abbrev N__law_feed : List Str := ["_law_script", "_law_cell"]
theorem sc__law_feed : FnScope N__law_feed ["_law_script"] (defScope s__law_feed) := ⟨rfl, rfl, rfl, by decide +kernel, rfl, by decide +kernel, by decide +kernel⟩
def cellsOf : Stmt → Expr
  | .Return (some (.Dict _ (v :: _) _)) _ => v
  | _ => .Name "" ⟨0, 0, 0, 0⟩
abbrev cellsE : Expr := cellsOf ((defBody s__law_feed).getD 0 (.Pass ⟨0, 0, 0, 0⟩))
def wCells : WL := wLc [1] [1] sel1 (wIt (wScr 0 63)) wYes (wBi oInt1 (wCons (wVar 1) wNil))
theorem dps_zs' {Z : Hp} : ∀ (zs : List Int) {vs : List V}, Dqs Z vs (zs.map PyData.int) → vs = zs.map V.int
  | [], _, h => by cases h; rfl
  | z :: r, _, h => by
    cases h with
    | cons a b =>
      cases a
      rw [List.map_cons, dps_zs' r b]
theorem v_cells {ns : List Int} {x1 : Option S} {q : List D → Prop} {e : Xn → Prop} (hl : ns.length ≤ 100) (h : ∀ zs : List Int, q (zs.map PyData.int)) : wCells [some (.feed (ns.map PyData.int)), x1] q e := by
  simp only [wCells, wLc, wScr, wBody, start', wSeq, wNx, wRet, wRetN, wIf, wSet, wOwn, wApp, wPar, wAsg, gTp, gC, gN, gNm, wFor, wLoop, wDrop, wVar, wD, wNil, wCons, wTup, wLst, wNew, wLstN, wAddN, wBi, w2, wIs, wT, wTru, tru, wNotB, wAndB, wOrB, wAnd, wOr, wNot, wIfE, wChain, oInt, oSub, oDiv, oMod, oPow, oOrd, oLt, oLe, oGt, oGe, oAdd, oMul, oMulT, oEq, oInSign, oLen, oInt1, oAbs, oGcd, oList, oTuple, oAll, oRepr, oNeg, wM0, oM0, oIx, oSl, wSl, wPart, wNoPart, wIt, oIter, wRng1, wRng2, wCall, wJoin, wRev, wFint, wFcells, wFset, S.lst, S.data, S.seq, S.lent, S.frz, wipe', setAll, sel1, wYes, List.map_cons, List.map_nil, List.length_cons, List.length_nil, List.replicate_succ, List.replicate_zero, List.cons_append, List.nil_append, List.append_nil, List.getElem?_cons_zero, List.getElem?_cons_succ, List.set_cons_zero, List.set_cons_succ, List.all_cons, List.all_nil, Nat.reduceAdd, Nat.reduceSub, Nat.sub_self, Nat.sub_zero, Option.some.injEq, exists_eq_left', exists_eq_left, exists_eq_right, S.dat.injEq, S.feed.injEq, PyData.bool.injEq, PyData.int.injEq, PyData.str.injEq, PyData.tuple.injEq, PyData.list.injEq, Bool.and_true, Bool.true_and, true_and, and_true, if_true, if_false, Bool.false_eq_true, Bool.not_true, Bool.not_false, reduceCtorEq, false_and, and_false, exists_false, Bool.and_self, exists_const]
  refine ⟨ns, rfl, fun ns' hl' => ⟨size100 (by rw [List.length_map]; omega), wMap_of (g := fun d => some d) (fun d hd q' hq' => ?_) ?_⟩⟩
  · obtain ⟨z, _, rfl⟩ := List.mem_map.mp hd
    exact ⟨_, rfl, hq'⟩
  · rw [fm_some, List.map_id']
    exact h ns'
def kvF (c : Addr) : List (Key × V) := [(.inr "cells", .ref c), (.inr "spot", .int 0), (.inr "left", .int 0), (.inr "turn", .int 0)]
theorem kvF_merge (c : Addr) : mergeK [] (kvF c) = kvF c := by rfl
theorem kvF_cells (c : Addr) : valV (kvF c) (.inr "cells" : Key) = some (.ref c) := by rfl
theorem kvF_ints (c : Addr) : ∀ k ∈ fkeys, ∃ z, valV (kvF c) (.inr k : Key) = some (.int z) := by
  intro k hk
  simp only [fkeys, List.mem_cons, List.not_mem_nil, or_false] at hk
  rcases hk with rfl | rfl | rfl <;> exact ⟨0, rfl⟩
def spFeed (K : PySem.W.Frag) : Sp := fun vs H Q _ => ∃ (a : Addr) (ns : List Int), vs = [.ref a] ∧ SqL K H a (ns.map V.int) ∧ ns.length ≤ 100 ∧
  ∀ f c cells H', OkD f c cells fkeys H' → (∀ b o, H b = some o → H' b = some o) → H f = none → H c = none → Q (.ref f) H'
section
variable {P : Program} {w : World} {K : PySem.W.Frag} {mg : Str → Option Value} {base : Heap}
theorem g_feed (M : Bis mg) {f : Addr} {fd : FuncData} (F : Fun K "_law_feed" "_law_feed" s__law_feed f fd) : FnG P w K mg base CX0 1 f fd ["_law_script"] (spFeed K) := by
  refine fg_of F sc__law_feed (fun vs H Q E ⟨a, ns, e, _⟩ => by rw [e]; rfl) fun cdv A outer s H vs Q E hr hg ⟨a, ns, ev, hS, hl, hq⟩ => ?_
  subst ev
  have hN : ∀ (Fo : Option Fd) (H0 Z0 : Hp), (∀ y, Fo = some y → FamS K y) → N (cpOf (cxOf CX0 P w K mg base N__law_feed "_law_feed" (defScope s__law_feed) f cdv A outer s H E) Fo H0 Z0 (fun _ _ _ => False) XV0) cellsE wCells := fun Fo H0 Z0 hF =>
    n_lc rfl sc__law_feed.nd (i_any (e_scr hF (pv 0))) (blkOk_by (own := [("_law_cell", 1)]) (N := N__law_feed) (sc := defScope s__law_feed) (by decide +kernel)) (tg_name 1) (by decide) (fun _ _ _ _ _ => pg_name (i := 1) sc__law_feed.nd rfl (Or.inl rfl)) (fun _ _ _ _ _ => ts_nil)
      (fun _ _ _ _ _ => e_ty b_int (by rfl) M.int (by decide +kernel) (a_cons (e_var 1 (pv 1)) a_nil))
  have hP : PE (cxOf CX0 P w K mg base N__law_feed "_law_feed" (defScope s__law_feed) f cdv A outer s H E) cellsE (fun σ H Q => ∃ (Fo : Option Fd) (H0 Z0 : Hp), (∀ y, Fo = some y → FamS K y) ∧ tPN (cpOf (cxOf CX0 P w K mg base N__law_feed "_law_feed" (defScope s__law_feed) f cdv A outer s H E) Fo H0 Z0 (fun _ _ _ => False) XV0) wCells σ H Q) :=
    ⟨fun pins s σ H Q I ⟨Fo, H0, Z0, hF, h⟩ => (hN Fo H0 Z0 hF).run pins s σ H Q I h⟩
  refine ⟨_, pss_one (ps_ret (pe_disp (pps_cons pe_str hP (pps_cons pe_str pe_int (pps_cons pe_str pe_int (pps_cons pe_str pe_int pps_nil)))) (by rfl) (by rfl) (by simp) (by decide))), ?_⟩
  intro p np
  have ap : H a ≠ none → a ≠ p := fun h e => h (by rw [e]; exact np)
  have fS : SqL K H a (ns.map V.int) ∧ (H a ≠ none → (upd H p (.dK [])) a = H a) := ⟨hS, fun h => upd_ne (ap h)⟩
  refine ⟨some (fdS K H a ns), upd H p (.dK []), (fun _ => none), (fun y e => ⟨H, a, ns, (Option.some.inj e).symm⟩), (fun _ => none), [some (.feed (ns.map PyData.int)), none], (fun ds => ∃ zs : List Int, ds = zs.map PyData.int), noX, ?_, v_cells hl fun zs => ⟨zs, rfl⟩, ?_, fun x cls d H4 Z4 _ _ _ hx => hx.elim⟩
  · refine ⟨Fr.refl (fun b o e => nomatch e) (fun b o e => nomatch e), fun x e => ?_, rfl, fun i sx e => ?_, fun i j b ds es e1 => ?_⟩
    · cases e
      exact fS
    · match i, e with
      | 0, e => cases e; exact ⟨.ref a, rfl, _, rfl, rfl, rfl⟩
      | 1, e => cases e
      | i + 2, e => cases e
    · match i, e1 with
      | 0, e => cases e
      | 1, e => cases e
      | i + 2, e => cases e
  · rintro ds vs c H' Z' fr fd' hc hc1 zc nfc dv ⟨zs, rfl⟩
    have ev := dps_zs' zs dv
    subst ev
    have cp : c ≠ p := fun e => by rw [e, upd_same] at hc1; cases hc1
    have nfp : nf (some (fdS K H a ns)) p := fun x e o => by
      cases e
      exact ap o.1 o.2.symm
    have hp : H' p = some (.dK []) := fr.keep p _ nfp upd_same
    have ok' : SqL K H a (ns.map V.int) ∧ (H a ≠ none → H' a = H a) := fd' _ rfl
    refine ⟨hp, kvF c, rfl, (show 4 ≤ 15 by decide), ?_⟩
    rw [kvF_merge]
    refine hq p c zs _ ⟨cp, ⟨kvF c, upd_same, by show 4 ≤ 100; decide, kvF_cells c, kvF_ints c⟩, by rw [upd_ne cp]; exact hc⟩ (fun b o e => ?_) np (by rw [upd_ne cp] at hc1; exact hc1)
    have bp : b ≠ p := ne_of_none e np
    rw [upd_ne bp]
    by_cases hb : b = a
    · subst hb
      rw [ok'.2 (by rw [e]; simp)]
      exact e
    · refine fr.keep b o (fun x e' o' => ?_) (by rw [upd_ne bp]; exact e)
      cases e'
      exact hb o'.2
def spLaw (K : PySem.W.Frag) : Sp := fun vs H Q _ => ∃ (a : Addr) (ns : List Int), vs = [.ref a] ∧ SqL K H a (ns.map V.int) ∧ ns.length ≤ 63 ∧ ∀ H', Q (.bl true) H'
theorem g_law (M : Bis mg) (D__law_bent : Def P w K mg base fam XV0 "_law_bent" 6 ps__law_bent wf__law_bent) (D__law_draw : Def P w K mg base fam XV0 "_law_draw" 1 ps__law_draw wf__law_draw) (D__law_fixed : Def P w K mg base fam XV0 "_law_fixed" 1 ps__law_fixed wf__law_fixed) (D__law_is_right : Def P w K mg base fam XV0 "_law_is_right" 4 ps__law_is_right wf__law_is_right) (D__law_pick : Def P w K mg base fam XV0 "_law_pick" 2 ps__law_pick wf__law_pick) {ff : Addr} {fdf : FuncData} (Ff : FnG P w K mg base CX0 1 ff fdf ["_law_script"] (spFeed K)) (mf : mg "_law_feed" = some (.ref ff)) (kf : PySem.W.keepIn K (.ref ff) = true) (bf : Binds K fdf ["_law_script"] [])
    {f : Addr} {fd : FuncData} (F : Fun K "law" "law" s_law f fd) : FnG P w K mg base CX0 7 f fd ["_law_script"] (spLaw K) := by
  refine fg_of F sc_law (fun vs H Q E ⟨a, ns, e, _⟩ => by rw [e]; rfl) fun cdv A outer s H vs Q E hr hg ⟨a, ns, ev, hS, hl, hq⟩ => ?_
  subst ev
  have hB : PSs (cxOf CX0 P w K mg base N_law "law" (defScope s_law) f cdv A outer s H E).nox body_law (fun D σ H1 => ∃ (Fo : Option Fd) (H0 Z0 : Hp), (∀ y, Fo = some y → fam y) ∧ tPS (cpOf (cxOf CX0 P w K mg base N_law "law" (defScope s_law) f cdv A outer s H E).nox Fo H0 Z0 (fun _ _ _ => False) XV0) ws_law D σ H1) :=
    ⟨fun pins s σ H D I ⟨Fo, H0, Z0, hF, h⟩ => (b_law M D__law_bent D__law_draw D__law_fixed D__law_is_right D__law_pick hr hg hF).run pins s σ H D I h⟩
  refine ⟨_, pss_cons (ps_set (i := 1) sc_law.nd rfl (.inr rfl) (pe_callG (E := E0) Ff (hr.mono (by decide)) hg (by rfl) mf kf bf (fun _ _ _ _ _ _ _ h => h.elim) (pa_cons (pv 0) pa_nil))) (pss_one (ps_try_thru0 hB)), ?_⟩
  refine ⟨.ref a, rfl, a, ns, rfl, hS, by omega, fun p c cells H' ok kp np nc => ?_⟩
  refine ⟨some (fdD p c cells fkeys), H', (fun _ => none), (fun y e => ⟨p, c, cells, (Option.some.inj e).symm⟩), (fun _ => none), [none, some (.feed (cells.map PyData.int)), none, none, none, none, none, none], { nx := fun _ => False, rt := fun s => s = .dat (.bool true), ex := noX }, ?_, v_law rfl, ?_⟩
  · refine ⟨Fr.refl (fun b o e => nomatch e) (fun b o e => nomatch e), fun x e => ?_, rfl, fun i sx e => ?_, fun i j b ds es e1 => ?_⟩
    · cases e
      exact ok
    · match i, e with
      | 0, e => cases e
      | 1, e => cases e; exact ⟨.ref p, rfl, _, rfl, rfl, rfl⟩
      | 2, e => cases e
      | 3, e => cases e
      | 4, e => cases e
      | 5, e => cases e
      | 6, e => cases e
      | 7, e => cases e
      | i + 8, e => cases e
    · match i, e1 with
      | 0, e => cases e
      | 1, e => cases e
      | 2, e => cases e
      | 3, e => cases e
      | 4, e => cases e
      | 5, e => cases e
      | 6, e => cases e
      | 7, e => cases e
      | i + 8, e => cases e
  · refine ⟨fun σ ρ H2 Z2 _ h => h.elim, fun σ ρ H2 Z2 _ h => h.elim, fun σ ρ H2 Z2 _ h => h.elim, fun sx v H2 Z2 _ _ _ sv e => ?_, fun x cls d H2 Z2 _ _ _ h => h.elim⟩
    subst e
    cases (show Dq Z2 v (.bool true) from sv)
    exact hq H2
end

end K00

set_option Elab.async false
set_option linter.all false
set_option maxRecDepth 100000
set_option maxHeartbeats 4000000
namespace K00
open PySem PySem.Spec PyProof.Rows L2 PL

/-- where the top has put a def -/
def Has (K : PySem.W.Frag) (x : Str) (st : Stmt) : Prop := ∃ (f : Addr) (oc : Value) (od an : Option Addr) (osl : Array (Option Value)) (kV doc pm cdv ct : Value),
  PySem.W.nsIn K mainGlobals x = some (some (.ref f)) ∧ K.lookup f = some ⟨oc, od, .func (PySem.W.fnOf x x (defArgs st) (defBody st) (defScope st) .none kV doc pm an cdv ct), osl⟩ ∧
  PySem.W.codeIn K cdv x = true ∧ PySem.W.keepIn K (.ref f) = true
theorem has_mk {K : PySem.W.Frag} {x : Str} {st : Stmt} {f : Addr} {oc : Value} {od an : Option Addr} {osl : Array (Option Value)} {kV doc pm cdv ct : Value} (a : PySem.W.nsIn K mainGlobals x = some (some (.ref f)))
    (l : K.lookup f = some ⟨oc, od, .func (PySem.W.fnOf x x (defArgs st) (defBody st) (defScope st) .none kV doc pm an cdv ct), osl⟩) (c : PySem.W.codeIn K cdv x = true) (k : PySem.W.keepIn K (.ref f) = true) : Has K x st :=
  ⟨f, oc, od, an, osl, kV, doc, pm, cdv, ct, a, l, c, k⟩
section
variable {P : Program} {w : World} {K : PySem.W.Frag} {mg : Str → Option Value} {base h : Heap}
theorem def_of {x : Str} {st : Stmt} {N ps : List Str} {k : Nat} {wf : WF} {ws : WS} (X : K.In h) (G : h.Ns mainGlobals mg) (has : Has K x st) (S : FnScope N ps (defScope st))
    (hb : ∀ {f : Addr} {cdv : Value} {A : Around} {outer : List Env} {s : Shared} {H Z : Hp} {E : XK} {Fo : Option Fd}, Room k (A.deeper (envOfC x (defScope st) s.heap.objs.size f cdv)) → A.guards = some [] → (∀ y, Fo = some y → fam y) →
      Sts (cpOf (cxOf CX0 P w K mg base N x (defScope st) f cdv A outer s H E).nox Fo H Z (fun _ _ _ => False) XV0) (defBody st) ws)
    (hi : ∀ ss q e, ss.length = ps.length → wf ss q e → wBody N.length ws ss q noX)
    (len : ∀ ss q e, wf ss q e → ss.length = ps.length)
    (bd : ∀ (kV doc pm : Value) (an : Option Addr) (cdv ct : Value) (us : List Value), us.length = ps.length → bindArgs (PySem.W.fnOf x x (defArgs st) (defBody st) (defScope st) .none kV doc pm an cdv ct) ⟨us, []⟩ = pure (ps.zip us))
    (bk : ∀ (kV doc pm : Value) (an : Option Addr) (cdv ct : Value) (us : List Value), us.length = ps.length → bindArgs (PySem.W.fnOf x x (defArgs st) (defBody st) (defScope st) .none kV doc pm an cdv ct) ⟨[], ps.zip us⟩ = pure (ps.zip us)) :
    Def P w K mg base fam XV0 x (k + 1) ps wf := by
  obtain ⟨f, oc, od, an, osl, kV, doc, pm, cdv, ct, a, l, c, kp⟩ := has
  have F := fun_mk l c kp
  refine ⟨⟨f, _, fp_of0 F S (fun cdv A outer s H Z E Fo hr hg hF => hb hr hg hF) hi, PySem.W.mg_of X G a, kp, F.binds bd, fun s us _ hl => .of_eq (bk _ _ _ _ _ _ us hl)⟩, len⟩

theorem d_is_integer (M : Bis mg) (X : K.In h) (G : h.Ns mainGlobals mg) (has : Has K "is_integer" s_is_integer) : Def P w K mg base fam XV0 "is_integer" 1 ps_is_integer wf_is_integer :=
  def_of X G has sc_is_integer (fun hr hg hF => b_is_integer M hr hg hF) v_is_integer (by rintro ss q e ⟨d, rfl, _⟩; rfl) (fun _ _ _ _ _ _ us hl => match us, hl with | [_], _ => rfl) (fun _ _ _ _ _ _ us hl => match us, hl with | [_], _ => rfl)
theorem d_is_number (M : Bis mg) (X : K.In h) (G : h.Ns mainGlobals mg) (has : Has K "is_number" s_is_number) (D_is_integer : Def P w K mg base fam XV0 "is_integer" 1 ps_is_integer wf_is_integer) : Def P w K mg base fam XV0 "is_number" 2 ps_is_number wf_is_number :=
  def_of X G has sc_is_number (fun hr hg hF => b_is_number M D_is_integer hr hg hF) v_is_number (by rintro ss q e ⟨d, rfl, _⟩; rfl) (fun _ _ _ _ _ _ us hl => match us, hl with | [_], _ => rfl) (fun _ _ _ _ _ _ us hl => match us, hl with | [_], _ => rfl)
theorem d_is_name (M : Bis mg) (X : K.In h) (G : h.Ns mainGlobals mg) (has : Has K "is_name" s_is_name) : Def P w K mg base fam XV0 "is_name" 1 ps_is_name wf_is_name :=
  def_of X G has sc_is_name (fun hr hg hF => b_is_name M hr hg hF) v_is_name (by rintro ss q e ⟨d, a, n, rfl, _⟩; rfl) (fun _ _ _ _ _ _ us hl => match us, hl with | [_], _ => rfl) (fun _ _ _ _ _ _ us hl => match us, hl with | [_], _ => rfl)
theorem d_is_ascending (M : Bis mg) (X : K.In h) (G : h.Ns mainGlobals mg) (has : Has K "is_ascending" s_is_ascending) : Def P w K mg base fam XV0 "is_ascending" 1 ps_is_ascending wf_is_ascending :=
  def_of X G has sc_is_ascending (fun hr hg hF => b_is_ascending M hr hg hF) v_is_ascending (by rintro ss q e ⟨zs, rfl, _⟩; rfl) (fun _ _ _ _ _ _ us hl => match us, hl with | [_], _ => rfl) (fun _ _ _ _ _ _ us hl => match us, hl with | [_], _ => rfl)
theorem d_is_towers (M : Bis mg) (X : K.In h) (G : h.Ns mainGlobals mg) (has : Has K "is_towers" s_is_towers) (D_is_ascending : Def P w K mg base fam XV0 "is_ascending" 1 ps_is_ascending wf_is_ascending) (D_is_name : Def P w K mg base fam XV0 "is_name" 1 ps_is_name wf_is_name) : Def P w K mg base fam XV0 "is_towers" 2 ps_is_towers wf_is_towers :=
  def_of X G has sc_is_towers (fun hr hg hF => b_is_towers M D_is_ascending D_is_name hr hg hF) v_is_towers (by rintro ss q e ⟨d, a, n, rfl, _⟩; rfl) (fun _ _ _ _ _ _ us hl => match us, hl with | [_], _ => rfl) (fun _ _ _ _ _ _ us hl => match us, hl with | [_], _ => rfl)
theorem d_is_tuple (M : Bis mg) (X : K.In h) (G : h.Ns mainGlobals mg) (has : Has K "is_tuple" s_is_tuple) : Def P w K mg base fam XV0 "is_tuple" 1 ps_is_tuple wf_is_tuple :=
  def_of X G has sc_is_tuple (fun hr hg hF => b_is_tuple M hr hg hF) v_is_tuple (by rintro ss q e ⟨d, i, rfl, _⟩; rfl) (fun _ _ _ _ _ _ us hl => match us, hl with | [_, _], _ => rfl) (fun _ _ _ _ _ _ us hl => match us, hl with | [_, _], _ => rfl)
theorem d_are_integers (M : Bis mg) (X : K.In h) (G : h.Ns mainGlobals mg) (has : Has K "are_integers" s_are_integers) (D_is_integer : Def P w K mg base fam XV0 "is_integer" 1 ps_is_integer wf_is_integer) (D_is_tuple : Def P w K mg base fam XV0 "is_tuple" 1 ps_is_tuple wf_is_tuple) : Def P w K mg base fam XV0 "are_integers" 2 ps_are_integers wf_are_integers :=
  def_of X G has sc_are_integers (fun hr hg hF => b_are_integers M D_is_integer D_is_tuple hr hg hF) v_are_integers (by rintro ss q e ⟨d, i, a, n, rfl, _⟩; rfl) (fun _ _ _ _ _ _ us hl => match us, hl with | [_, _], _ => rfl) (fun _ _ _ _ _ _ us hl => match us, hl with | [_, _], _ => rfl)
theorem d_is_fraction (M : Bis mg) (X : K.In h) (G : h.Ns mainGlobals mg) (has : Has K "is_fraction" s_is_fraction) (D_are_integers : Def P w K mg base fam XV0 "are_integers" 2 ps_are_integers wf_are_integers) : Def P w K mg base fam XV0 "is_fraction" 3 ps_is_fraction wf_is_fraction :=
  def_of X G has sc_is_fraction (fun hr hg hF => b_is_fraction M D_are_integers hr hg hF) v_is_fraction (by rintro ss q e ⟨d, a, n, rfl, _⟩; rfl) (fun _ _ _ _ _ _ us hl => match us, hl with | [_], _ => rfl) (fun _ _ _ _ _ _ us hl => match us, hl with | [_], _ => rfl)
theorem d__law_draw (M : Bis mg) (X : K.In h) (G : h.Ns mainGlobals mg) (has : Has K "_law_draw" s__law_draw) : Def P w K mg base fam XV0 "_law_draw" 1 ps__law_draw wf__law_draw :=
  def_of X G has sc__law_draw (fun hr hg hF => b__law_draw M hr hg hF) v__law_draw (by rintro ss q e ⟨zs, n, rfl, _⟩; rfl) (fun _ _ _ _ _ _ us hl => match us, hl with | [_, _], _ => rfl) (fun _ _ _ _ _ _ us hl => match us, hl with | [_, _], _ => rfl)
theorem d__law_pick (M : Bis mg) (X : K.In h) (G : h.Ns mainGlobals mg) (has : Has K "_law_pick" s__law_pick) (D__law_draw : Def P w K mg base fam XV0 "_law_draw" 1 ps__law_draw wf__law_draw) : Def P w K mg base fam XV0 "_law_pick" 2 ps__law_pick wf__law_pick :=
  def_of X G has sc__law_pick (fun hr hg hF => b__law_pick M D__law_draw hr hg hF) v__law_pick (by rintro ss q e ⟨zs, ds, rfl, _⟩; rfl) (fun _ _ _ _ _ _ us hl => match us, hl with | [_, _], _ => rfl) (fun _ _ _ _ _ _ us hl => match us, hl with | [_, _], _ => rfl)
theorem d__law_is_integer (M : Bis mg) (X : K.In h) (G : h.Ns mainGlobals mg) (has : Has K "_law_is_integer" s__law_is_integer) : Def P w K mg base fam XV0 "_law_is_integer" 1 ps__law_is_integer wf__law_is_integer :=
  def_of X G has sc__law_is_integer (fun hr hg hF => b__law_is_integer M hr hg hF) v__law_is_integer (by rintro ss q e ⟨d, rfl, _⟩; rfl) (fun _ _ _ _ _ _ us hl => match us, hl with | [_], _ => rfl) (fun _ _ _ _ _ _ us hl => match us, hl with | [_], _ => rfl)
theorem d__law_is_name (M : Bis mg) (X : K.In h) (G : h.Ns mainGlobals mg) (has : Has K "_law_is_name" s__law_is_name) : Def P w K mg base fam XV0 "_law_is_name" 1 ps__law_is_name wf__law_is_name :=
  def_of X G has sc__law_is_name (fun hr hg hF => b__law_is_name M hr hg hF) v__law_is_name (by rintro ss q e ⟨d, a, n, rfl, _⟩; rfl) (fun _ _ _ _ _ _ us hl => match us, hl with | [_], _ => rfl) (fun _ _ _ _ _ _ us hl => match us, hl with | [_], _ => rfl)
theorem d__law_is_towers (M : Bis mg) (X : K.In h) (G : h.Ns mainGlobals mg) (has : Has K "_law_is_towers" s__law_is_towers) (D__law_is_name : Def P w K mg base fam XV0 "_law_is_name" 1 ps__law_is_name wf__law_is_name) : Def P w K mg base fam XV0 "_law_is_towers" 2 ps__law_is_towers wf__law_is_towers :=
  def_of X G has sc__law_is_towers (fun hr hg hF => b__law_is_towers M D__law_is_name hr hg hF) v__law_is_towers (by rintro ss q e ⟨d, a, n, rfl, _⟩; rfl) (fun _ _ _ _ _ _ us hl => match us, hl with | [_], _ => rfl) (fun _ _ _ _ _ _ us hl => match us, hl with | [_], _ => rfl)
theorem d__law_odd (M : Bis mg) (X : K.In h) (G : h.Ns mainGlobals mg) (has : Has K "_law_odd" s__law_odd) (D__law_pick : Def P w K mg base fam XV0 "_law_pick" 2 ps__law_pick wf__law_pick) : Def P w K mg base fam XV0 "_law_odd" 3 ps__law_odd wf__law_odd :=
  def_of X G has sc__law_odd (fun hr hg hF => b__law_odd M D__law_pick hr hg hF) v__law_odd (by rintro ss q e ⟨zs, rfl, _⟩; rfl) (fun _ _ _ _ _ _ us hl => match us, hl with | [_], _ => rfl) (fun _ _ _ _ _ _ us hl => match us, hl with | [_], _ => rfl)
theorem d__law_is_fraction (M : Bis mg) (X : K.In h) (G : h.Ns mainGlobals mg) (has : Has K "_law_is_fraction" s__law_is_fraction) (D__law_is_integer : Def P w K mg base fam XV0 "_law_is_integer" 1 ps__law_is_integer wf__law_is_integer) : Def P w K mg base fam XV0 "_law_is_fraction" 2 ps__law_is_fraction wf__law_is_fraction :=
  def_of X G has sc__law_is_fraction (fun hr hg hF => b__law_is_fraction M D__law_is_integer hr hg hF) v__law_is_fraction (by rintro ss q e ⟨d, a, n, rfl, _⟩; rfl) (fun _ _ _ _ _ _ us hl => match us, hl with | [_], _ => rfl) (fun _ _ _ _ _ _ us hl => match us, hl with | [_], _ => rfl)
theorem d__law_fixed (M : Bis mg) (X : K.In h) (G : h.Ns mainGlobals mg) (has : Has K "_law_fixed" s__law_fixed) : Def P w K mg base fam XV0 "_law_fixed" 1 ps__law_fixed wf__law_fixed :=
  def_of X G has sc__law_fixed (fun hr hg hF => b__law_fixed M hr hg hF) v__law_fixed (by rintro ss q e ⟨rfl, _⟩; rfl) (fun _ _ _ _ _ _ us hl => match us, hl with | [], _ => rfl) (fun _ _ _ _ _ _ us hl => match us, hl with | [], _ => rfl)
theorem d__law_is_right (M : Bis mg) (X : K.In h) (G : h.Ns mainGlobals mg) (has : Has K "_law_is_right" s__law_is_right) (D__law_is_fraction : Def P w K mg base fam XV0 "_law_is_fraction" 2 ps__law_is_fraction wf__law_is_fraction) (D__law_is_integer : Def P w K mg base fam XV0 "_law_is_integer" 1 ps__law_is_integer wf__law_is_integer) (D__law_is_name : Def P w K mg base fam XV0 "_law_is_name" 1 ps__law_is_name wf__law_is_name) (D__law_is_towers : Def P w K mg base fam XV0 "_law_is_towers" 2 ps__law_is_towers wf__law_is_towers) (D_is_fraction : Def P w K mg base fam XV0 "is_fraction" 3 ps_is_fraction wf_is_fraction) (D_is_integer : Def P w K mg base fam XV0 "is_integer" 1 ps_is_integer wf_is_integer) (D_is_name : Def P w K mg base fam XV0 "is_name" 1 ps_is_name wf_is_name) (D_is_number : Def P w K mg base fam XV0 "is_number" 2 ps_is_number wf_is_number) (D_is_towers : Def P w K mg base fam XV0 "is_towers" 2 ps_is_towers wf_is_towers) : Def P w K mg base fam XV0 "_law_is_right" 4 ps__law_is_right wf__law_is_right :=
  def_of X G has sc__law_is_right (fun hr hg hF => b__law_is_right M D__law_is_fraction D__law_is_integer D__law_is_name D__law_is_towers D_is_fraction D_is_integer D_is_name D_is_number D_is_towers hr hg hF) v__law_is_right (by rintro ss q e ⟨d, a, n, rfl, _⟩; rfl) (fun _ _ _ _ _ _ us hl => match us, hl with | [_], _ => rfl) (fun _ _ _ _ _ _ us hl => match us, hl with | [_], _ => rfl)

theorem d_none (X : K.In h) (G : h.Ns mainGlobals mg) (has : Has K "_law_bent" s__law_bent) : Def P w K mg base fam XV0 "_law_bent" 3 ps__law_bent (wfP 0) := by
  obtain ⟨f, oc, od, an, osl, kV, doc, pm, cdv, ct, a, l, c, kp⟩ := has
  have F := fun_mk l c kp
  have bk : ∀ (kV doc pm : Value) (an : Option Addr) (cdv ct : Value) (us : List Value), us.length = ps__law_bent.length → bindArgs (PySem.W.fnOf "_law_bent" "_law_bent" (defArgs s__law_bent) (defBody s__law_bent) (defScope s__law_bent) .none kV doc pm an cdv ct) ⟨[], ps__law_bent.zip us⟩ = pure (ps__law_bent.zip us) := fun _ _ _ _ _ _ us hl => match us, hl with | [_, _, _], _ => rfl
  refine ⟨⟨f, _, fun Fo hF => ⟨fun vs H Q E h => h.1, fun A outer s H args us vs Q E hr hg e hb hv hs => ?_⟩, PySem.W.mg_of X G a, kp, F.binds ?_, fun s us _ hl => .of_eq ?_⟩, fun ss q e h => False.elim h⟩
  · obtain ⟨_, Z, ss, q, e, _, _, _, _, hw, _⟩ := hs
    exact False.elim hw
  · exact fun _ _ _ _ _ _ us hl => match us, hl with | [_, _, _], _ => rfl
  · exact bk _ _ _ _ _ _ us hl
theorem d_bent (M : Bis mg) (X : K.In h) (G : h.Ns mainGlobals mg) (has : Has K "_law_bent" s__law_bent) (D_draw : Def P w K mg base fam XV0 "_law_draw" 1 ps__law_draw wf__law_draw) (D_odd : Def P w K mg base fam XV0 "_law_odd" 3 ps__law_odd wf__law_odd) (D_pick : Def P w K mg base fam XV0 "_law_pick" 2 ps__law_pick wf__law_pick) :
    ∀ k : Nat, Def P w K mg base fam XV0 "_law_bent" (3 + k) ps__law_bent (wfP k)
  | 0 => d_none X G has
  | k + 1 => def_of X G has sc__law_bent (fun hr hg hF => b__law_bent (by omega) M (d_bent M X G has D_draw D_odd D_pick k) D_draw D_odd D_pick hr hg hF) (v_bent k) (by rintro ss q e ⟨zs, d, a, n, rfl, _⟩; rfl) (fun _ _ _ _ _ _ us hl => match us, hl with | [_, _, _], _ => rfl) (fun _ _ _ _ _ _ us hl => match us, hl with | [_, _, _], _ => rfl)

/-- what the top has written -/
structure Facts (K : PySem.W.Frag) : Prop where
  has_is_integer : Has K "is_integer" s_is_integer
  has_is_number : Has K "is_number" s_is_number
  has_is_name : Has K "is_name" s_is_name
  has_is_ascending : Has K "is_ascending" s_is_ascending
  has_is_towers : Has K "is_towers" s_is_towers
  has_is_tuple : Has K "is_tuple" s_is_tuple
  has_are_integers : Has K "are_integers" s_are_integers
  has_is_fraction : Has K "is_fraction" s_is_fraction
  has__law_draw : Has K "_law_draw" s__law_draw
  has__law_pick : Has K "_law_pick" s__law_pick
  has__law_is_integer : Has K "_law_is_integer" s__law_is_integer
  has__law_is_name : Has K "_law_is_name" s__law_is_name
  has__law_is_towers : Has K "_law_is_towers" s__law_is_towers
  has__law_odd : Has K "_law_odd" s__law_odd
  has__law_is_fraction : Has K "_law_is_fraction" s__law_is_fraction
  has__law_fixed : Has K "_law_fixed" s__law_fixed
  has__law_is_right : Has K "_law_is_right" s__law_is_right
  has__law_bent : Has K "_law_bent" s__law_bent
  has__law_feed : Has K "_law_feed" s__law_feed
  has_law : Has K "law" s_law
  ns_abs : PySem.W.nsIn K mainGlobals "abs" = some none
  ns_all : PySem.W.nsIn K mainGlobals "all" = some none
  ns_bool : PySem.W.nsIn K mainGlobals "bool" = some none
  ns_gcd : PySem.W.nsIn K mainGlobals "gcd" = some (some (.builtin "math.gcd"))
  ns_int : PySem.W.nsIn K mainGlobals "int" = some none
  ns_isinstance : PySem.W.nsIn K mainGlobals "isinstance" = some none
  ns_len : PySem.W.nsIn K mainGlobals "len" = some none
  ns_list : PySem.W.nsIn K mainGlobals "list" = some none
  ns_range : PySem.W.nsIn K mainGlobals "range" = some none
  ns_repr : PySem.W.nsIn K mainGlobals "repr" = some none
  ns_set : PySem.W.nsIn K mainGlobals "set" = some none
  ns_sorted : PySem.W.nsIn K mainGlobals "sorted" = some none
  ns_str : PySem.W.nsIn K mainGlobals "str" = some none
  ns_tuple : PySem.W.nsIn K mainGlobals "tuple" = some none
theorem bis_of (X : K.In h) (G : h.Ns mainGlobals mg) (F : Facts K) : Bis mg := ⟨PySem.W.mg_none_of X G F.ns_abs, PySem.W.mg_none_of X G F.ns_all, PySem.W.mg_none_of X G F.ns_bool, PySem.W.mg_of X G F.ns_gcd, PySem.W.mg_none_of X G F.ns_int, PySem.W.mg_none_of X G F.ns_isinstance, PySem.W.mg_none_of X G F.ns_len, PySem.W.mg_none_of X G F.ns_list, PySem.W.mg_none_of X G F.ns_range, PySem.W.mg_none_of X G F.ns_repr, PySem.W.mg_none_of X G F.ns_set, PySem.W.mg_none_of X G F.ns_sorted, PySem.W.mg_none_of X G F.ns_str, PySem.W.mg_none_of X G F.ns_tuple⟩
theorem promise (X : K.In h) (G : h.Ns mainGlobals mg) (F : Facts K) : ∃ (f : Addr) (fd : FuncData), mg "law" = some (.ref f) ∧ (∀ (t : Shared) (u : Value), BindsTo t fd ⟨[u], []⟩ [("_law_script", u)]) ∧ ∀ base : Heap, FnG P w K mg base CX0 7 f fd ["_law_script"] (spLaw K) := by
  have M := bis_of X G F
  obtain ⟨f, oc, od, an, osl, kV, doc, pm, cdv, ct, a, l, c, kp⟩ := F.has_law
  have FL := fun_mk l c kp
  refine ⟨f, PySem.W.fnOf "law" "law" (defArgs s_law) (defBody s_law) (defScope s_law) .none kV doc pm an cdv ct, PySem.W.mg_of X G a, fun t u => .of_eq rfl, fun base => ?_⟩
  obtain ⟨f2, oc2, od2, an2, osl2, kV2, doc2, pm2, cdv2, ct2, a2, l2, c2, kp2⟩ := F.has__law_feed
  have FF := fun_mk l2 c2 kp2
  have bf := FF.binds (ps := ["_law_script"]) (fun _ _ _ _ _ _ us hl => match us, hl with | [_], _ => rfl)
  have gf := g_feed (P := P) (w := w) (base := base) M FF
  have D_is_integer := d_is_integer (P := P) (w := w) (base := base) M X G F.has_is_integer
  have D_is_number := d_is_number (P := P) (w := w) (base := base) M X G F.has_is_number D_is_integer
  have D_is_name := d_is_name (P := P) (w := w) (base := base) M X G F.has_is_name
  have D_is_ascending := d_is_ascending (P := P) (w := w) (base := base) M X G F.has_is_ascending
  have D_is_towers := d_is_towers (P := P) (w := w) (base := base) M X G F.has_is_towers D_is_ascending D_is_name
  have D_is_tuple := d_is_tuple (P := P) (w := w) (base := base) M X G F.has_is_tuple
  have D_are_integers := d_are_integers (P := P) (w := w) (base := base) M X G F.has_are_integers D_is_integer D_is_tuple
  have D_is_fraction := d_is_fraction (P := P) (w := w) (base := base) M X G F.has_is_fraction D_are_integers
  have D__law_draw := d__law_draw (P := P) (w := w) (base := base) M X G F.has__law_draw
  have D__law_pick := d__law_pick (P := P) (w := w) (base := base) M X G F.has__law_pick D__law_draw
  have D__law_is_integer := d__law_is_integer (P := P) (w := w) (base := base) M X G F.has__law_is_integer
  have D__law_is_name := d__law_is_name (P := P) (w := w) (base := base) M X G F.has__law_is_name
  have D__law_is_towers := d__law_is_towers (P := P) (w := w) (base := base) M X G F.has__law_is_towers D__law_is_name
  have D__law_odd := d__law_odd (P := P) (w := w) (base := base) M X G F.has__law_odd D__law_pick
  have D__law_is_fraction := d__law_is_fraction (P := P) (w := w) (base := base) M X G F.has__law_is_fraction D__law_is_integer
  have D__law_fixed := d__law_fixed (P := P) (w := w) (base := base) M X G F.has__law_fixed
  have D__law_is_right := d__law_is_right (P := P) (w := w) (base := base) M X G F.has__law_is_right D__law_is_fraction D__law_is_integer D__law_is_name D__law_is_towers D_is_fraction D_is_integer D_is_name D_is_number D_is_towers
  exact g_law M (d_bent M X G F.has__law_bent D__law_draw D__law_odd D__law_pick 3) D__law_draw D__law_fixed D__law_is_right D__law_pick gf (PySem.W.mg_of X G a2) kp2 bf FL
end
theorem walk {l : PySem.W.OpenLaw} {q : Program} {loose : List Str} {XP : (Str → Option Value) → Heap → Prop} {YP : World → Heap → Prop} {d : DefRec} {K : Params → PySem.W.Frag}
    (hn : l.most = some 63) (hdf : d.params.defaults = []) (nm : d.name = "law") (known : ∀ (w : World) (h : Heap), YP w h → (K w.params).In h)
    (F : ∀ w : World, Facts (K w.params)) : PySem.W.WalkO q loose XP YP l.row.toRowW d [] (fun f vs => PySem.call f vs) := by
  refine Att.attach_call hn hdf ?_
  intro w s0 st mg mb fa o pm cd doc a vs ns G Y ho hd hcd hmg script whole few still
  have X := known w _ Y
  obtain ⟨f, fd, hm, hb, hP⟩ := promise (P := l.prog) (w := w) X G.T.g (F w)
  rw [nm, hm] at hmg
  cases hmg
  exact enter_law rfl ⟨rfl, by decide, by decide⟩ X G.T.g G.T.b G.T.builtins G.T.nolimit still script whole (size100 (by omega)) hP hb fun H hS => ⟨a, ns, rfl, hS, few, fun _ => rfl⟩

end K00

set_option Elab.async false
set_option linter.all false
set_option maxRecDepth 100000
open PySem PySem.W PyProof.Rows
set_option maxHeartbeats 0 in
theorem PySem.Challenge.cw_nearhours_k00_whole_kinds_judged_holds : PySem.Challenge.rw_nearhours_k00_whole_kinds_judged.Holds := by
  w_on; o_law; k_head; (case hw => w_witness2)
  k_fill
  refine K00.walk (l := PySem.Challenge.rw_nearhours_k00_whole_kinds_judged) rfl rfl rfl (fun w h Y => PySem.W.kIn_of Y) ?F
  case F =>
    intro w
    constructor
    case has_is_integer =>
      refine' K00.has_mk ?a ?l ?c ?k
      (case a => k_is); (case l => k_is); (case c => k_is); (case k => k_is)
    case has_is_number =>
      refine' K00.has_mk ?a ?l ?c ?k
      (case a => k_is); (case l => k_is); (case c => k_is); (case k => k_is)
    case has_is_name =>
      refine' K00.has_mk ?a ?l ?c ?k
      (case a => k_is); (case l => k_is); (case c => k_is); (case k => k_is)
    case has_is_ascending =>
      refine' K00.has_mk ?a ?l ?c ?k
      (case a => k_is); (case l => k_is); (case c => k_is); (case k => k_is)
    case has_is_towers =>
      refine' K00.has_mk ?a ?l ?c ?k
      (case a => k_is); (case l => k_is); (case c => k_is); (case k => k_is)
    case has_is_tuple =>
      refine' K00.has_mk ?a ?l ?c ?k
      (case a => k_is); (case l => k_is); (case c => k_is); (case k => k_is)
    case has_are_integers =>
      refine' K00.has_mk ?a ?l ?c ?k
      (case a => k_is); (case l => k_is); (case c => k_is); (case k => k_is)
    case has_is_fraction =>
      refine' K00.has_mk ?a ?l ?c ?k
      (case a => k_is); (case l => k_is); (case c => k_is); (case k => k_is)
    case has__law_draw =>
      refine' K00.has_mk ?a ?l ?c ?k
      (case a => k_is); (case l => k_is); (case c => k_is); (case k => k_is)
    case has__law_pick =>
      refine' K00.has_mk ?a ?l ?c ?k
      (case a => k_is); (case l => k_is); (case c => k_is); (case k => k_is)
    case has__law_is_integer =>
      refine' K00.has_mk ?a ?l ?c ?k
      (case a => k_is); (case l => k_is); (case c => k_is); (case k => k_is)
    case has__law_is_name =>
      refine' K00.has_mk ?a ?l ?c ?k
      (case a => k_is); (case l => k_is); (case c => k_is); (case k => k_is)
    case has__law_is_towers =>
      refine' K00.has_mk ?a ?l ?c ?k
      (case a => k_is); (case l => k_is); (case c => k_is); (case k => k_is)
    case has__law_odd =>
      refine' K00.has_mk ?a ?l ?c ?k
      (case a => k_is); (case l => k_is); (case c => k_is); (case k => k_is)
    case has__law_is_fraction =>
      refine' K00.has_mk ?a ?l ?c ?k
      (case a => k_is); (case l => k_is); (case c => k_is); (case k => k_is)
    case has__law_fixed =>
      refine' K00.has_mk ?a ?l ?c ?k
      (case a => k_is); (case l => k_is); (case c => k_is); (case k => k_is)
    case has__law_is_right =>
      refine' K00.has_mk ?a ?l ?c ?k
      (case a => k_is); (case l => k_is); (case c => k_is); (case k => k_is)
    case has__law_bent =>
      refine' K00.has_mk ?a ?l ?c ?k
      (case a => k_is); (case l => k_is); (case c => k_is); (case k => k_is)
    case has__law_feed =>
      refine' K00.has_mk ?a ?l ?c ?k
      (case a => k_is); (case l => k_is); (case c => k_is); (case k => k_is)
    case has_law =>
      refine' K00.has_mk ?a ?l ?c ?k
      (case a => k_is); (case l => k_is); (case c => k_is); (case k => k_is)
    case ns_abs => k_is
    case ns_all => k_is
    case ns_bool => k_is
    case ns_gcd => k_is
    case ns_int => k_is
    case ns_isinstance => k_is
    case ns_len => k_is
    case ns_list => k_is
    case ns_range => k_is
    case ns_repr => k_is
    case ns_set => k_is
    case ns_sorted => k_is
    case ns_str => k_is
    case ns_tuple => k_is
