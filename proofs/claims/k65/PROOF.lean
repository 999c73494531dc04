import PyProof.Rows.All
import HandS.ForMost
import HandS.ForExc
import HandS.CallSlots
import HandS.Lambda
import HandS.IsInst
import PyProof.FactsAll.range
import HandS.TupAny
import HandS.TupMul
import HandS.SortInts
import HandS.Zip
import HandS.Conv
import HandS.SetFor
import HandS.ExcInit
import HandS.FStr
import HandS.ExcField
import KE.KExcIs
import HandS.ExcIs
import HandS.NestedK
import HandS.Keys
import HandS.Iter
import KE.KSortKeySt
import KE.KLam
import PyProof.Rows.CallKwBuiltin
import PyProof.Rows.CallKw2
import HandS.EndOwn
import HandS.Star
import KE.GoesEnum
import PyProof.SumWalkG
import PyProof.WalksMore
import HandS.Deep
import HandS.Gcd
import KE.KMathGC
import HandS.Style
import HandS.SortOrd
import PyProof.P3Eq
import HandS.Flow
import KE.DataMinMax
import KE.SortData
import HandS.Small
import KE.DataCmp
import HandS.NoneIn
import HandS.TupSets
import KE.KeyNested
import HandS.Text
import PyProof.StrBlock2
import HandS.TryMany
import PySem.Challenge.RW_ringbeats_k65_tokens_of_texts
set_option Elab.async false
set_option linter.all false
set_option maxRecDepth 100000
namespace Sm
open PySem PySem.Spec PyProof.Rows L2 LamX

/-! ### values, boxes, outcomes -/
inductive W where
  | non | bl (b : Bool) | int (i : Int) | str (x : Str) | tup (xs : List W) | lst (xs : List W) | scr (xs : List W) | box (n : Nat) | rng (lo hi : Int) | dct (n : Nat)
inductive Cell where
  | lst (xs : List W) | dk (kvs : List (L2.Key × W)) | dt (kvs : List (List L2.Key × W))
abbrev Sto := List Cell
structure Exn where
  cls : Str
  fs : List (Str × W)
inductive Out (α : Type) where
  | val (a : α) (S : Sto) | exc (e : Exn) (S : Sto) | bad
abbrev M (α : Type) := Sto → Out α
abbrev Env := List (Option W)
inductive Fl where
  | nx (env : Env) (S : Sto) | rt (w : W) (S : Sto) | bk (env : Env) (S : Sto) | ct (env : Env) (S : Sto) | xc (e : Exn) (env : Env) (S : Sto) | bad
@[simp] def ret {α : Type} (a : α) : M α := fun S => .val a S
@[simp] def bad {α : Type} : M α := fun _ => .bad
def Out.bind {α β : Type} (o : Out α) (f : α → M β) : Out β := match o with
  | .val a S => f a S
  | .exc e S => .exc e S
  | .bad => .bad
@[simp] def bnd {α β : Type} (m : M α) (f : α → M β) : M β := fun S => (m S).bind f

/-! ### frozen sequences -/
abbrev Fr := PySem.W.Frag
/-- what kind of box an object can be -/
def kd : HO → Nat
  | .lst _ => 1
  | .dK _ => 2
  | .dT _ => 3
  | _ => 0
def kdH (H : Hp) (a : Addr) : Nat := match H a with
  | some o => kd o
  | none => 0
def KL (K : Fr) (a : Addr) (vs : List V) : Prop := ∃ (o : Obj) (its : Array Value) (n : Nat), K.lookup a = some o ∧ o.cls = .type "list" ∧ o.dict = none ∧ o.data = .seq its n ∧ its.size ≤ sizeLine ∧ Vals vs its.toList
def KT (K : Fr) (a : Addr) (vs : List V) : Prop := ∃ (o : Obj) (its : Array Value) (n : Nat), K.lookup a = some o ∧ o.cls = .type "tuple" ∧ o.data = .seq its n ∧ its.size ≤ sizeLine ∧ Vals vs its.toList
def FzL (K : Fr) (ρ δ : List Addr) (H : Hp) (a : Addr) (vs : List V) : Prop := (Rd H a (.lst vs) ∧ a ∉ ρ ∧ a ∉ δ) ∨ KL K a vs
def FzM (ρ δ : List Addr) (H : Hp) (a : Addr) (vs : List V) : Prop := H a = some (.lst vs) ∧ a ∉ ρ ∧ a ∉ δ
def FzT (_K : Fr) (ρ δ : List Addr) (H : Hp) (a : Addr) (vs : List V) : Prop := H a = some (.tup vs) ∧ a ∉ ρ ∧ a ∉ δ
def FzR (ρ δ : List Addr) (H : Hp) (a : Addr) (lo hi : Int) : Prop := H a = some (.rng lo hi) ∧ a ∉ ρ ∧ a ∉ δ
theorem FzL.sq {K : Fr} {ρ δ : List Addr} {H : Hp} {a : Addr} {vs : List V} (h : FzL K ρ δ H a vs) : SqL K H a vs := h.imp (fun x => x.1) id
theorem FzM.sq {K : Fr} {ρ δ : List Addr} {H : Hp} {a : Addr} {vs : List V} (h : FzM ρ δ H a vs) : SqL K H a vs := .inl (.inl h.1)
theorem FzT.sq {K : Fr} {ρ δ : List Addr} {H : Hp} {a : Addr} {vs : List V} (h : FzT K ρ δ H a vs) : SqT K H a vs := .inl (.inl h.1)

mutual
inductive Rep (K : Fr) (ρ δ : List Addr) (H : Hp) : W → V → Prop
  | non : Rep K ρ δ H .non .non
  | bl {b} : Rep K ρ δ H (.bl b) (.bl b)
  | int {i} : Rep K ρ δ H (.int i) (.int i)
  | str {x} : Rep K ρ δ H (.str x) (.str x)
  | tup {a ws vs} : FzT K ρ δ H a vs → Reps K ρ δ H ws vs → Rep K ρ δ H (.tup ws) (.ref a)
  | lst {a ws vs} : FzM ρ δ H a vs → Reps K ρ δ H ws vs → Rep K ρ δ H (.lst ws) (.ref a)
  | scr {a ws vs} : FzL K ρ δ H a vs → Reps K ρ δ H ws vs → Rep K ρ δ H (.scr ws) (.ref a)
  | box {n a} : ρ[n]? = some a → kdH H a = 1 → Rep K ρ δ H (.box n) (.ref a)
  | dct {n a} : ρ[n]? = some a → (kdH H a = 2 ∨ kdH H a = 3) → Rep K ρ δ H (.dct n) (.ref a)
  | rng {a lo hi} : FzR ρ δ H a lo hi → Rep K ρ δ H (.rng lo hi) (.ref a)
inductive Reps (K : Fr) (ρ δ : List Addr) (H : Hp) : List W → List V → Prop
  | nil : Reps K ρ δ H [] []
  | cons {w v ws vs} : Rep K ρ δ H w v → Reps K ρ δ H ws vs → Reps K ρ δ H (w :: ws) (v :: vs)
end

/-! ### heaps that grow -/
/-- the tables of code objects that a text's lambdas want, with the names in them -/
class TB where
  T : List (Addr × Str)
variable [TB]
abbrev NT (o : HO) : Prop := ∀ ps, o ≠ .tbl ps
theorem kdH_some {H : Hp} {a : Addr} {o : HO} (h : H a = some o) : kdH H a = kd o := by unfold kdH; rw [h]
theorem kdH_none {H : Hp} {a : Addr} (h : H a = none) : kdH H a = 0 := by unfold kdH; rw [h]
theorem kdH_ex {H : Hp} {a : Addr} (h : kdH H a ≠ 0) : ∃ o, H a = some o ∧ kd o = kdH H a := by
  cases e : H a with
  | none => exact absurd (kdH_none e) h
  | some o => exact ⟨o, rfl, (kdH_some e).symm⟩
theorem kdH_upd {H : Hp} {p a : Addr} {o : HO} (h : a ≠ p) : kdH (upd H p o) a = kdH H a := by
  unfold kdH
  rw [upd_ne h]
theorem kdH_same {H : Hp} {p : Addr} {o : HO} : kdH (upd H p o) p = kd o := kdH_some upd_same
theorem kd_nt {o : HO} (h : kd o ≠ 0) : NT o := fun ps e => by subst e; exact h rfl
structure Grow (ρ : List Addr) (H : Hp) (ρ' : List Addr) (H' : Hp) : Prop where
  ext : ∃ τ, ρ' = ρ ++ τ ∧ ∀ a ∈ τ, ∀ o, H a = some o → ∃ ps, o = .tbl ps
  keep : ∀ a o, H a = some o → a ∉ ρ → (∀ ps, o ≠ .tbl ps) → H' a = some o
  tr : ∀ a o, H a = some o → NT o → ∃ o', H' a = some o' ∧ NT o'
  tb : Tabs TB.T H → Tabs TB.T H'
  ty : ∀ a, kdH H a ≠ 0 → kdH H' a = kdH H a
theorem Grow.refl (ρ : List Addr) (H : Hp) : Grow ρ H ρ H := ⟨⟨[], by simp, by simp⟩, fun _ _ h _ _ => h, fun _ o h n => ⟨o, h, n⟩, fun t => t, fun _ _ => rfl⟩
theorem Grow.trans {ρ ρ1 ρ2 : List Addr} {H H1 H2 : Hp} (g : Grow ρ H ρ1 H1) (h : Grow ρ1 H1 ρ2 H2) : Grow ρ H ρ2 H2 := by
  obtain ⟨⟨τ, e, n⟩, k, t, tb, ty⟩ := g
  obtain ⟨⟨τ2, e2, n2⟩, k2, t2, tb2, ty2⟩ := h
  refine ⟨⟨τ ++ τ2, by rw [e2, e, List.append_assoc], fun a ha o q => ?_⟩, fun a o q hn ht => ?_, fun a o q hq => ?_, fun z => tb2 (tb z), fun a h => by have := ty a h; rw [ty2 a (by rw [this]; exact h), this]⟩
  · rcases List.mem_append.mp ha with ha | ha
    · exact n a ha o q
    · by_cases hq : NT o
      · obtain ⟨o', q', z'⟩ := t a o q hq
        obtain ⟨ps, e3⟩ := n2 a ha o' q'
        exact absurd e3 (z' ps)
      · exact Classical.byContradiction fun z => hq fun ps e3 => z ⟨ps, e3⟩
  · refine k2 a o (k a o q hn ht) (fun hm => ?_) ht
    rw [e] at hm
    rcases List.mem_append.mp hm with hm | hm
    · exact hn hm
    · obtain ⟨ps, e3⟩ := n a hm o q
      exact ht ps e3
  · obtain ⟨o', q', z'⟩ := t a o q hq
    exact t2 a o' q' z'
theorem Grow.at {ρ ρ' : List Addr} {H H' : Hp} (g : Grow ρ H ρ' H') {n : Nat} {a : Addr} (h : ρ[n]? = some a) : ρ'[n]? = some a := by
  obtain ⟨⟨τ, e, _⟩, _, _, _, _⟩ := g
  rw [e, List.getElem?_append_left (List.getElem?_eq_some_iff.mp h).1]
  exact h
theorem Grow.out {ρ ρ' : List Addr} {H H' : Hp} (g : Grow ρ H ρ' H') {a : Addr} {o : HO} (q : H a = some o) (hn : a ∉ ρ) (ht : NT o) : a ∉ ρ' := fun hm => by
  obtain ⟨⟨τ, e, n⟩, _, _, _, _⟩ := g
  rw [e] at hm
  rcases List.mem_append.mp hm with hm | hm
  · exact hn hm
  · obtain ⟨ps, e3⟩ := n a hm o q
    exact ht ps e3
theorem Rd.some {H : Hp} {a : Addr} {u : HO} (h : Rd H a u) (hu : NT u) : ∃ o, H a = some o ∧ NT o := by
  rcases h with h | ⟨o, h⟩
  · exact ⟨_, h, hu⟩
  · exact ⟨_, h, fun _ z => by cases z⟩
theorem Grow.rd {ρ ρ' : List Addr} {H H' : Hp} (g : Grow ρ H ρ' H') {a : Addr} {u : HO} (h : Rd H a u) (hn : a ∉ ρ) (ht : ∀ ps, u ≠ .tbl ps) : Rd H' a u := by
  rcases h with h | ⟨o, h⟩
  · exact .inl (g.keep _ _ h hn ht)
  · exact .inr ⟨o, g.keep _ _ h hn (fun _ z => by cases z)⟩
theorem Grow.fzL {K : Fr} {ρ ρ' δ : List Addr} {H H' : Hp} (g : Grow ρ H ρ' H') {a : Addr} {vs : List V} (h : FzL K ρ δ H a vs) : FzL K ρ' δ H' a vs := by
  rcases h with ⟨h, h1, h2⟩ | h
  · obtain ⟨o, q, z⟩ := Rd.some h (fun _ z => by cases z)
    exact .inl ⟨g.rd h h1 (fun _ z => by cases z), g.out q h1 z, h2⟩
  · exact .inr h
theorem Grow.fzM {ρ ρ' δ : List Addr} {H H' : Hp} (g : Grow ρ H ρ' H') {a : Addr} {vs : List V} (h : FzM ρ δ H a vs) : FzM ρ' δ H' a vs :=
  ⟨g.keep _ _ h.1 h.2.1 (fun _ z => by cases z), g.out h.1 h.2.1 (fun _ z => by cases z), h.2.2⟩
theorem Grow.fzR {ρ ρ' δ : List Addr} {H H' : Hp} (g : Grow ρ H ρ' H') {a : Addr} {lo hi : Int} (h : FzR ρ δ H a lo hi) : FzR ρ' δ H' a lo hi :=
  ⟨g.keep _ _ h.1 h.2.1 (fun _ z => by cases z), g.out h.1 h.2.1 (fun _ z => by cases z), h.2.2⟩
theorem Grow.fzT {K : Fr} {ρ ρ' δ : List Addr} {H H' : Hp} (g : Grow ρ H ρ' H') {a : Addr} {vs : List V} (h : FzT K ρ δ H a vs) : FzT K ρ' δ H' a vs :=
  ⟨g.keep _ _ h.1 h.2.1 (fun _ z => by cases z), g.out h.1 h.2.1 (fun _ z => by cases z), h.2.2⟩
/-- what a carrying-over needs -/
structure Car (K : Fr) (ρ δ : List Addr) (H : Hp) (ρ' δ' : List Addr) (H' : Hp) : Prop where
  l : ∀ a vs, FzL K ρ δ H a vs → FzL K ρ' δ' H' a vs
  m : ∀ a vs, FzM ρ δ H a vs → FzM ρ' δ' H' a vs
  t : ∀ a vs, FzT K ρ δ H a vs → FzT K ρ' δ' H' a vs
  b : ∀ (n : Nat) (a : Addr), ρ[n]? = some a → kdH H a ≠ 0 → ρ'[n]? = some a ∧ kdH H' a = kdH H a
  r : ∀ a lo hi, FzR ρ δ H a lo hi → FzR ρ' δ' H' a lo hi
mutual
theorem Car.rep {K : Fr} {ρ ρ' δ δ' : List Addr} {H H' : Hp} (g : Car K ρ δ H ρ' δ' H') : ∀ {w : W} {v : V}, Rep K ρ δ H w v → Rep K ρ' δ' H' w v
  | _, _, .non => .non
  | _, _, .bl => .bl
  | _, _, .int => .int
  | _, _, .str => .str
  | _, _, .tup f r => .tup (g.t _ _ f) (g.reps r)
  | _, _, .lst f r => .lst (g.m _ _ f) (g.reps r)
  | _, _, .scr f r => .scr (g.l _ _ f) (g.reps r)
  | _, _, .box h k => .box (g.b _ _ h (by rw [k]; decide)).1 ((g.b _ _ h (by rw [k]; decide)).2.trans k)
  | _, _, .dct h k => .dct (g.b _ _ h (by rcases k with k | k <;> rw [k] <;> decide)).1 (by rw [(g.b _ _ h (by rcases k with k | k <;> rw [k] <;> decide)).2]; exact k)
  | _, _, .rng h => .rng (g.r _ _ _ h)
theorem Car.reps {K : Fr} {ρ ρ' δ δ' : List Addr} {H H' : Hp} (g : Car K ρ δ H ρ' δ' H') : ∀ {ws : List W} {vs : List V}, Reps K ρ δ H ws vs → Reps K ρ' δ' H' ws vs
  | _, _, .nil => .nil
  | _, _, .cons r t => .cons (g.rep r) (g.reps t)
end
theorem Grow.car {K : Fr} {ρ ρ' δ : List Addr} {H H' : Hp} (g : Grow ρ H ρ' H') : Car K ρ δ H ρ' δ H' := ⟨fun _ _ => g.fzL, fun _ _ => g.fzM, fun _ _ => g.fzT, fun n a e h => ⟨g.at e, g.ty a h⟩, fun _ _ _ => g.fzR⟩
theorem Grow.rep {K : Fr} {ρ ρ' δ : List Addr} {H H' : Hp} (g : Grow ρ H ρ' H') {w : W} {v : V} (h : Rep K ρ δ H w v) : Rep K ρ' δ H' w v := g.car.rep h
theorem Grow.reps {K : Fr} {ρ ρ' δ : List Addr} {H H' : Hp} (g : Grow ρ H ρ' H') {ws : List W} {vs : List V} (h : Reps K ρ δ H ws vs) : Reps K ρ' δ H' ws vs := g.car.reps h
section
variable {K : Fr} {ρ δ : List Addr} {H : Hp}
theorem Reps.length {ws : List W} {vs : List V} (h : Reps K ρ δ H ws vs) : ws.length = vs.length := by
  induction ws generalizing vs with
  | nil => cases h; rfl
  | cons w ws ih => cases h with | cons r t => simp [ih t]
theorem Reps.get {ws : List W} {vs : List V} (h : Reps K ρ δ H ws vs) {i : Nat} {w : W} (e : ws[i]? = some w) : ∃ v, vs[i]? = some v ∧ Rep K ρ δ H w v := by
  induction ws generalizing vs i with
  | nil => simp at e
  | cons x ws ih =>
    cases h with
    | cons r t =>
      cases i with
      | zero => simp at e; subst e; exact ⟨_, by simp, r⟩
      | succ i => simp at e; obtain ⟨v, h1, h2⟩ := ih t e; exact ⟨v, by simpa using h1, h2⟩
theorem Reps.append {ws xs : List W} {vs ys : List V} (h : Reps K ρ δ H ws vs) (h' : Reps K ρ δ H xs ys) : Reps K ρ δ H (ws ++ xs) (vs ++ ys) := by
  induction ws generalizing vs with
  | nil => cases h; exact h'
  | cons w ws ih => cases h with | cons r t => exact .cons r (ih t)
theorem Reps.set {ws : List W} {vs : List V} (h : Reps K ρ δ H ws vs) (i : Nat) {w : W} {v : V} (r : Rep K ρ δ H w v) : Reps K ρ δ H (ws.set i w) (vs.set i v) := by
  induction ws generalizing vs i with
  | nil => cases h; exact .nil
  | cons x ws ih =>
    cases h with
    | cons r' t =>
      cases i with
      | zero => exact .cons r t
      | succ i => exact .cons r' (ih t i)
theorem Reps.take {ws : List W} {vs : List V} (h : Reps K ρ δ H ws vs) (n : Nat) : Reps K ρ δ H (ws.take n) (vs.take n) := by
  induction ws generalizing vs n with
  | nil => cases h; simp; exact .nil
  | cons x ws ih =>
    cases h with
    | cons r' t =>
      cases n with
      | zero => exact .nil
      | succ n => exact .cons r' (ih t n)
theorem Reps.drop {ws : List W} {vs : List V} (h : Reps K ρ δ H ws vs) (n : Nat) : Reps K ρ δ H (ws.drop n) (vs.drop n) := by
  induction ws generalizing vs n with
  | nil => cases h; simp; exact .nil
  | cons x ws ih =>
    cases h with
    | cons r' t =>
      cases n with
      | zero => exact .cons r' t
      | succ n => exact ih t n
theorem Reps.reverse {ws : List W} {vs : List V} (h : Reps K ρ δ H ws vs) : Reps K ρ δ H ws.reverse vs.reverse := by
  induction ws generalizing vs with
  | nil => cases h; exact .nil
  | cons w ws ih =>
    cases h with
    | cons r t =>
      rw [List.reverse_cons, List.reverse_cons]
      exact (ih t).append (.cons r .nil)
theorem Reps.ints (ns : List Int) : Reps K ρ δ H (ns.map W.int) (ns.map V.int) := by
  induction ns with
  | nil => exact .nil
  | cons n ns ih => exact .cons .int ih
/-- ints only -/
theorem Reps.ints_inv : ∀ {ns : List Int} {vs : List V}, Reps K ρ δ H (ns.map W.int) vs → vs = ns.map V.int
  | [], _, .nil => rfl
  | n :: ns, _, .cons r t => by
    cases r
    rw [Reps.ints_inv t]
    rfl
end

/-! ### the boxes -/
def RepC (K : Fr) (ρ δ : List Addr) (H : Hp) : Cell → HO → Prop
  | .lst ws, o => ∃ vs, o = .lst vs ∧ Reps K ρ δ H ws vs
  | .dk kws, o => ∃ kvs, o = .dK kvs ∧ kvs.map Prod.fst = kws.map Prod.fst ∧ Reps K ρ δ H (kws.map Prod.snd) (kvs.map Prod.snd)
  | .dt kws, o => ∃ kvs, o = .dT kvs ∧ kvs.map Prod.fst = kws.map Prod.fst ∧ Reps K ρ δ H (kws.map Prod.snd) (kvs.map Prod.snd)
theorem RepC.kd {K : Fr} {ρ δ : List Addr} {H : Hp} {c : Cell} {o : HO} (r : RepC K ρ δ H c o) : Sm.kd o ≠ 0 := by
  cases c with
  | lst ws => obtain ⟨vs, rfl, -⟩ := r; exact fun z => by cases z
  | dk kws => obtain ⟨vs, rfl, -⟩ := r; exact fun z => by cases z
  | dt kws => obtain ⟨vs, rfl, -⟩ := r; exact fun z => by cases z
structure Sts (K : Fr) (ρ δ : List Addr) (S : Sto) (H : Hp) : Prop where
  nd : ρ.Nodup
  dj : ∀ a ∈ δ, a ∉ ρ
  dl : ∀ a ∈ δ, ∃ o, H a = some o ∧ NT o
  bx : ∀ (n : Nat) (a : Addr), ρ[n]? = some a → ∃ (c : Cell) (o : HO), S[n]? = some c ∧ H a = some o ∧ RepC K ρ δ H c o
  ln : S.length = ρ.length
theorem Grow.repC {K : Fr} {ρ ρ' δ : List Addr} {H H' : Hp} (g : Grow ρ H ρ' H') : ∀ {c : Cell} {o : HO}, RepC K ρ δ H c o → RepC K ρ' δ H' c o
  | .lst ws, _, ⟨vs, e, r⟩ => ⟨vs, e, g.reps r⟩
  | .dk kws, _, ⟨vs, e, k, r⟩ => ⟨vs, e, k, g.reps r⟩
  | .dt kws, _, ⟨vs, e, k, r⟩ => ⟨vs, e, k, g.reps r⟩
section
variable {K : Fr} {ρ δ : List Addr} {S : Sto} {H : Hp}
theorem Sts.mem (s : Sts K ρ δ S H) {a : Addr} (h : a ∈ ρ) : ∃ o, H a = some o ∧ NT o := by
  obtain ⟨n, hn⟩ := List.mem_iff_getElem?.mp h
  obtain ⟨c, o, _, q, z⟩ := s.bx n a hn
  exact ⟨_, q, kd_nt z.kd⟩
theorem Sts.new (s : Sts K ρ δ S H) {p : Addr} (h : H p = none) : p ∉ ρ ∧ p ∉ δ := by
  refine ⟨fun hm => ?_, fun hm => ?_⟩
  · obtain ⟨o, q, _⟩ := s.mem hm
    rw [h] at q; cases q
  · obtain ⟨o, q, _⟩ := s.dl p hm
    rw [h] at q; cases q
/-- a new object that is no box -/
theorem tab_new {p P : Addr} {q : Str} {o : HO} (h : H p = none) (t : TabS H P q) : TabS (upd H p o) P q :=
  t.ext fun b u e => by rw [upd_ne (ne_of_none e h)]; exact e
theorem Grow.laid {p : Addr} {o : HO} (h : H p = none) : Grow ρ H ρ (upd H p o) := by
  refine ⟨⟨[], by simp, by simp⟩, fun a u q _ _ => ?_, fun a u q n => ?_, fun t p hp => tab_new h (t p hp), fun a k => kdH_upd (fun e => k (by rw [e]; exact kdH_none h))⟩
  · rw [upd_ne (ne_of_none q h)]; exact q
  · exact ⟨u, by rw [upd_ne (ne_of_none q h)]; exact q, n⟩
theorem Sts.laid (s : Sts K ρ δ S H) {p : Addr} {o : HO} (h : H p = none) : Sts K ρ δ S (upd H p o) := by
  have g : Grow ρ H ρ (upd H p o) := Grow.laid h
  refine ⟨s.nd, s.dj, fun a ha => let ⟨u, q, n⟩ := s.dl a ha; g.tr a u q n, fun n a hn => ?_, s.ln⟩
  obtain ⟨c, u, h1, h2, h3⟩ := s.bx n a hn
  exact ⟨c, u, h1, by rw [upd_ne (ne_of_none h2 h)]; exact h2, g.repC h3⟩
/-- a new box -/
theorem Grow.boxed {p : Addr} {o : HO} (h : H p = none) : Grow ρ H (ρ ++ [p]) (upd H p o) := by
  refine ⟨⟨[p], rfl, fun a ha o e => by rw [List.mem_singleton.mp ha, h] at e; cases e⟩, fun a u q _ _ => ?_, fun a u q n => ?_, fun t p hp => tab_new h (t p hp), fun a k => kdH_upd (fun e => k (by rw [e]; exact kdH_none h))⟩
  · rw [upd_ne (ne_of_none q h)]; exact q
  · exact ⟨u, by rw [upd_ne (ne_of_none q h)]; exact q, n⟩
theorem Sts.boxed (s : Sts K ρ δ S H) {p : Addr} {o : HO} {c : Cell} (h : H p = none) (r : RepC K ρ δ H c o) : Sts K (ρ ++ [p]) δ (S ++ [c]) (upd H p o) := by
  have g : Grow ρ H (ρ ++ [p]) (upd H p o) := Grow.boxed h
  obtain ⟨n1, n2⟩ := s.new h
  refine ⟨?_, fun a ha hm => ?_, fun a ha => let ⟨u, q, n⟩ := s.dl a ha; g.tr a u q n, fun n a hn => ?_, by rw [List.length_append, List.length_append, s.ln]; rfl⟩
  · exact List.nodup_append.mpr ⟨s.nd, by simp, fun a ha b hb e => by rw [List.mem_singleton] at hb; subst hb; subst e; exact n1 ha⟩
  · rcases List.mem_append.mp hm with hm | hm
    · exact s.dj a ha hm
    · rw [List.mem_singleton] at hm; subst hm; exact n2 ha
  · by_cases hl : n < ρ.length
    · rw [List.getElem?_append_left hl] at hn
      obtain ⟨c', u, h1, h2, h3⟩ := s.bx n a hn
      refine ⟨c', u, ?_, by rw [upd_ne (ne_of_none h2 h)]; exact h2, g.repC h3⟩
      rw [List.getElem?_append_left (by rw [s.ln]; exact hl)]; exact h1
    · have en : n = ρ.length := by
        have := (List.getElem?_eq_some_iff.mp hn).1
        simp at this; omega
      subst en
      rw [List.getElem?_append_right (Nat.le_refl _)] at hn
      simp at hn; subst hn
      exact ⟨c, o, by rw [← s.ln]; simp, upd_same, g.repC r⟩
/-- a box written -/
theorem tab_put {p P : Addr} {q : Str} {o : HO} (h0 : kdH H p ≠ 0) (t : TabS H P q) : TabS (upd H p o) P q := by
  obtain ⟨u, h, hb⟩ := kdH_ex h0
  rw [← hb] at h0
  obtain ⟨ps, h1, h2, h3⟩ := t
  refine ⟨ps, ?_, h2, fun pos cv hc => ?_⟩
  · rw [upd_ne (fun e => by rw [e, h] at h1; cases h1; exact h0 rfl)]; exact h1
  · obtain ⟨c, e1, e2⟩ := h3 pos cv hc
    refine ⟨c, e1, ?_⟩
    rw [upd_ne (fun e => by rw [e, h] at e2; unfold CodeO at e2; cases e2; exact h0 rfl)]; exact e2
theorem Grow.put {n : Nat} {p : Addr} {o : HO} (hp : ρ[n]? = some p) (h : kdH H p ≠ 0) (ho : kd o = kdH H p) : Grow ρ H ρ (upd H p o) := by
  have hm : p ∈ ρ := List.mem_of_getElem? hp
  have hu : ∃ u, H p = some u := let ⟨_, e, _⟩ := kdH_ex h; ⟨_, e⟩
  refine ⟨⟨[], by simp, by simp⟩, fun a u q hn _ => ?_, fun a u q nu => ?_, fun t p hp => tab_put h (t p hp), fun a _ => ?_⟩
  · rw [upd_ne (fun e => hn (by rw [e]; exact hm))]; exact q
  · by_cases e : a = p
    · subst e; exact ⟨o, upd_same, kd_nt (by rw [ho]; exact h)⟩
    · exact ⟨u, by rw [upd_ne e]; exact q, nu⟩
  · by_cases e : a = p
    · subst e; rw [kdH_same, ho]
    · exact kdH_upd e
theorem Sts.put (s : Sts K ρ δ S H) {n : Nat} {p : Addr} {o : HO} {c : Cell} (hp : ρ[n]? = some p) (ho : kd o = kdH H p) (r : RepC K ρ δ H c o) : Sts K ρ δ (S.set n c) (upd H p o) := by
  obtain ⟨c0, u0, e1, e2, e3⟩ := s.bx n p hp
  have e4 : kdH H p ≠ 0 := by rw [← ho]; exact r.kd
  have g : Grow ρ H ρ (upd H p o) := Grow.put hp e4 ho
  refine ⟨s.nd, s.dj, fun a ha => let ⟨u, q, n⟩ := s.dl a ha; g.tr a u q n, fun m a hm => ?_, by rw [List.length_set]; exact s.ln⟩
  by_cases e : m = n
  · subst e
    rw [hp] at hm; cases hm
    exact ⟨c, o, by rw [List.getElem?_set_self (List.getElem?_eq_some_iff.mp e1).1], upd_same, g.repC r⟩
  · obtain ⟨c', u, h1, h2, h3⟩ := s.bx m a hm
    have ne : a ≠ p := fun z => by
      subst z
      exact e ((List.getElem_inj s.nd).mp ((List.getElem?_eq_some_iff.mp hm).2.trans (List.getElem?_eq_some_iff.mp hp).2.symm))
    exact ⟨c', u, by rw [List.getElem?_set_ne (fun z => e z.symm)]; exact h1, by rw [upd_ne ne]; exact h2, g.repC h3⟩
/-- a hidden list, D, is made, written, and shown at the end -/
theorem Car.hide {p : Addr} {o : HO} (h : H p = none) : Car K ρ δ H ρ (p :: δ) (upd H p o) := by
  have hn : ∀ a u, Rd H a u → a ≠ p := fun a u r => by
    rcases r with q | ⟨o, q⟩
    · exact ne_of_none q h
    · exact ne_of_none q h
  have hr : ∀ a u, Rd H a u → Rd (upd H p o) a u := fun a u r => by
    have ne := hn a u r
    rcases r with r | ⟨z, r⟩
    · exact .inl (by rw [upd_ne ne]; exact r)
    · exact .inr ⟨z, by rw [upd_ne ne]; exact r⟩
  refine ⟨fun a vs f => ?_, fun a vs f => ?_, fun a vs f => ?_, fun _ a e k => ⟨e, kdH_upd (fun z => k (by rw [z]; exact kdH_none h))⟩, fun a lo hi f => ⟨by rw [upd_ne (ne_of_none f.1 h)]; exact f.1, f.2.1, by simp only [List.mem_cons, not_or]; exact ⟨ne_of_none f.1 h, f.2.2⟩⟩⟩
  · rcases f with ⟨f, f1, f2⟩ | f
    · exact .inl ⟨hr _ _ f, f1, by simp only [List.mem_cons, not_or]; exact ⟨hn _ _ f, f2⟩⟩
    · exact .inr f
  · exact ⟨by rw [upd_ne (ne_of_none f.1 h)]; exact f.1, f.2.1, by simp only [List.mem_cons, not_or]; exact ⟨ne_of_none f.1 h, f.2.2⟩⟩
  · exact ⟨by rw [upd_ne (ne_of_none f.1 h)]; exact f.1, f.2.1, by simp only [List.mem_cons, not_or]; exact ⟨ne_of_none f.1 h, f.2.2⟩⟩
theorem Car.hidden {p : Addr} {o : HO} (h : p ∈ δ) (hn : p ∉ ρ) : Car K ρ δ H ρ δ (upd H p o) := by
  have hr : ∀ a u, a ∉ δ → Rd H a u → Rd (upd H p o) a u := fun a u n r => by
    have ne : a ≠ p := fun e => n (by rw [e]; exact h)
    rcases r with r | ⟨z, r⟩
    · exact .inl (by rw [upd_ne ne]; exact r)
    · exact .inr ⟨z, by rw [upd_ne ne]; exact r⟩
  refine ⟨fun a vs f => ?_, fun a vs f => ?_, fun a vs f => ?_, fun _ a e k => ⟨e, kdH_upd (fun z => hn (by rw [← z]; exact List.mem_of_getElem? e))⟩, fun a lo hi f => ⟨by rw [upd_ne (fun e => f.2.2 (by rw [e]; exact h))]; exact f.1, f.2⟩⟩
  · rcases f with ⟨f, f1, f2⟩ | f
    · exact .inl ⟨hr _ _ f2 f, f1, f2⟩
    · exact .inr f
  · exact ⟨by rw [upd_ne (fun e => f.2.2 (by rw [e]; exact h))]; exact f.1, f.2⟩
  · exact ⟨by rw [upd_ne (fun e => f.2.2 (by rw [e]; exact h))]; exact f.1, f.2⟩
theorem Car.show {p : Addr} : Car K ρ (p :: δ) H ρ δ H := by
  refine ⟨fun a vs f => ?_, fun a vs f => ?_, fun a vs f => ?_, fun _ _ e _ => ⟨e, rfl⟩, fun a lo hi f => ⟨f.1, f.2.1, fun z => f.2.2 (List.mem_cons_of_mem _ z)⟩⟩
  · rcases f with ⟨f, f1, f2⟩ | f
    · exact .inl ⟨f, f1, fun z => f2 (List.mem_cons_of_mem _ z)⟩
    · exact .inr f
  · exact ⟨f.1, f.2.1, fun z => f.2.2 (List.mem_cons_of_mem _ z)⟩
  · exact ⟨f.1, f.2.1, fun z => f.2.2 (List.mem_cons_of_mem _ z)⟩
theorem Car.repC {ρ' δ' : List Addr} {H' : Hp} (g : Car K ρ δ H ρ' δ' H') : ∀ {c : Cell} {o : HO}, RepC K ρ δ H c o → RepC K ρ' δ' H' c o
  | .lst ws, _, ⟨vs, e, r⟩ => ⟨vs, e, g.reps r⟩
  | .dk kws, _, ⟨vs, e, k, r⟩ => ⟨vs, e, k, g.reps r⟩
  | .dt kws, _, ⟨vs, e, k, r⟩ => ⟨vs, e, k, g.reps r⟩
theorem Sts.hide (s : Sts K ρ δ S H) {p : Addr} {o : HO} (h : H p = none) (ho : NT o) : Sts K ρ (p :: δ) S (upd H p o) := by
  obtain ⟨n1, n2⟩ := s.new h
  refine ⟨s.nd, fun a ha => ?_, fun a ha => ?_, fun n a hn => ?_, s.ln⟩
  · rcases List.mem_cons.mp ha with e | ha
    · rw [e]; exact n1
    · exact s.dj a ha
  · rcases List.mem_cons.mp ha with e | ha
    · subst e; exact ⟨o, upd_same, ho⟩
    · obtain ⟨u, q, n⟩ := s.dl a ha
      exact ⟨u, by rw [upd_ne (ne_of_none q h)]; exact q, n⟩
  · obtain ⟨c, u, h1, h2, h3⟩ := s.bx n a hn
    exact ⟨c, u, h1, by rw [upd_ne (ne_of_none h2 h)]; exact h2, (Car.hide h).repC h3⟩
theorem Sts.hidden (s : Sts K ρ δ S H) {p : Addr} {o : HO} (h : p ∈ δ) (ho : NT o) : Sts K ρ δ S (upd H p o) := by
  have np : p ∉ ρ := s.dj p h
  refine ⟨s.nd, s.dj, fun a ha => ?_, fun n a hn => ?_, s.ln⟩
  · by_cases e : a = p
    · subst e; exact ⟨o, upd_same, ho⟩
    · obtain ⟨u, q, n⟩ := s.dl a ha
      exact ⟨u, by rw [upd_ne e]; exact q, n⟩
  · obtain ⟨c, u, h1, h2, h3⟩ := s.bx n a hn
    have ne : a ≠ p := fun e => np (by rw [← e]; exact List.mem_of_getElem? hn)
    exact ⟨c, u, h1, by rw [upd_ne ne]; exact h2, (Car.hidden h np).repC h3⟩
theorem Sts.show {p : Addr} (s : Sts K ρ (p :: δ) S H) : Sts K ρ δ S H :=
  ⟨s.nd, fun a ha => s.dj a (List.mem_cons_of_mem _ ha), fun a ha => s.dl a (List.mem_cons_of_mem _ ha), fun n a hn => let ⟨c, u, h1, h2, h3⟩ := s.bx n a hn; ⟨c, u, h1, h2, Car.show.repC h3⟩, s.ln⟩
theorem Grow.over {ρ' : List Addr} {H' : Hp} (g : Grow ρ H ρ' H') {p : Addr} {o : HO} (h : H p = none) (hl : ∃ vs, H' p = some (.lst vs)) : Grow ρ H ρ' (upd H' p o) := by
  refine ⟨g.ext, fun a u q hn ht => ?_, fun a u q n => ?_, fun t p hp => tab_put (by obtain ⟨vs, e⟩ := hl; rw [kdH_some e]; exact fun z => by cases z) (g.tb t p hp), fun a k => by rw [kdH_upd (fun e => k (by rw [e]; exact kdH_none h))]; exact g.ty a k⟩
  · rw [upd_ne (ne_of_none q h)]; exact g.keep a u q hn ht
  · rw [upd_ne (ne_of_none q h)]; exact g.tr a u q n
theorem Sts.lst (s : Sts K ρ δ S H) {n : Nat} {a : Addr} (hp : ρ[n]? = some a) (hk : kdH H a = 1) : ∃ ws vs, S[n]? = some (.lst ws) ∧ H a = some (.lst vs) ∧ Reps K ρ δ H ws vs := by
  obtain ⟨c, o, h1, h2, h3⟩ := s.bx n a hp
  rw [kdH_some h2] at hk
  cases c with
  | lst ws => obtain ⟨vs, rfl, r⟩ := h3; exact ⟨ws, vs, h1, h2, r⟩
  | dk ws => obtain ⟨vs, rfl, r⟩ := h3; cases hk
  | dt ws => obtain ⟨vs, rfl, r⟩ := h3; cases hk
theorem kdH_lst {a : Addr} {vs : List V} (h : H a = some (.lst vs)) : kdH H a = 1 := kdH_some h
/-- a box's list -/
theorem Sts.box (s : Sts K ρ δ S H) {n : Nat} {a : Addr} {ws : List W} (hp : ρ[n]? = some a) (hS : S[n]? = some (.lst ws)) : ∃ vs, H a = some (.lst vs) ∧ Reps K ρ δ H ws vs := by
  obtain ⟨c, o, h1, h2, h3⟩ := s.bx n a hp
  rw [hS] at h1; cases h1
  obtain ⟨vs, rfl, r⟩ := h3
  exact ⟨vs, h2, r⟩
end

/-! ### slots -/
def EnvR (K : Fr) (ρ δ : List Addr) (H : Hp) (env : Env) (σ : L2.St) : Prop := env.length = σ.length ∧ ∀ (i : Nat) (w : W), env[i]? = some (some w) → ∃ v, σ[i]? = some (some v) ∧ Rep K ρ δ H w v
section
variable {K : Fr} {ρ δ ρ' δ' : List Addr} {H H' : Hp} {env : Env} {σ : L2.St}
theorem EnvR.car (e : EnvR K ρ δ H env σ) (g : Car K ρ δ H ρ' δ' H') : EnvR K ρ' δ' H' env σ := ⟨e.1, fun i w h => let ⟨v, h1, h2⟩ := e.2 i w h; ⟨v, h1, g.rep h2⟩⟩
theorem EnvR.grow (e : EnvR K ρ δ H env σ) (g : Grow ρ H ρ' H') : EnvR K ρ' δ H' env σ := e.car g.car
theorem EnvR.set (e : EnvR K ρ δ H env σ) (i : Nat) {w : W} {v : V} (r : Rep K ρ δ H w v) : EnvR K ρ δ H (env.set i (some w)) (σ.set i (some v)) := by
  refine ⟨by simp [e.1], fun j x h => ?_⟩
  by_cases hj : i = j
  · subst hj
    by_cases hl : i < env.length
    · rw [List.getElem?_set_self hl] at h
      cases h
      exact ⟨v, List.getElem?_set_self (by rw [← e.1]; exact hl), r⟩
    · rw [List.getElem?_eq_none (by simp; omega)] at h; cases h
  · rw [List.getElem?_set_ne hj] at h ⊢
    exact e.2 j x h
theorem EnvR.unset (e : EnvR K ρ δ H env σ) (i : Nat) : EnvR K ρ δ H (env.set i none) (σ.set i none) := by
  refine ⟨by simp [e.1], fun j x h => ?_⟩
  by_cases hj : i = j
  · subst hj
    by_cases hl : i < env.length
    · rw [List.getElem?_set_self hl] at h
      cases h
    · rw [List.getElem?_eq_none (by simp; omega)] at h; cases h
  · rw [List.getElem?_set_ne hj] at h ⊢
    exact e.2 j x h
end
@[simp] def wipeE (env : Env) : List Nat → Env
  | [] => env
  | v :: vs => (wipeE env vs).set v none
theorem EnvR.wipe {K : Fr} {ρ δ : List Addr} {H : Hp} {env : Env} {σ : L2.St} (e : EnvR K ρ δ H env σ) : ∀ vs, EnvR K ρ δ H (wipeE env vs) (wipe σ vs)
  | [] => e
  | v :: vs => (e.wipe vs).unset v

/-! ### what is wanted of an outcome -/
def RepF (K : Fr) (ρ δ : List Addr) (H : Hp) : List (Str × W) → List (Str × V) → Prop
  | [], [] => True
  | (f, w) :: r, (g, v) :: t => f = g ∧ Rep K ρ δ H w v ∧ RepF K ρ δ H r t
  | _, _ => False
def RepX (mg : Str → Option Value) (K : Fr) (ρ δ : List Addr) (H : Hp) (e : Exn) (c : Value) (d : Option Addr) : Prop :=
  ∃ (C dx : Addr) (vfs : List (Str × V)), mg e.cls = some (.ref C) ∧ c = .ref C ∧ d = some dx ∧ H dx = some (.xd vfs) ∧ dx ∉ ρ ∧ dx ∉ δ ∧ RepF K ρ δ H e.fs vfs
def Post {α β : Type} (mg : Str → Option Value) (K : Fr) (ρ δ : List Addr) (H : Hp) (R : List Addr → Hp → α → β → Prop) (Q : β → Hp → Prop) (E : XK) : Out α → Prop
  | .val a S' => ∀ ρ' b H', Grow ρ H ρ' H' → Sts K ρ' δ S' H' → R ρ' H' a b → Q b H'
  | .exc e S' => ∀ ρ' c d H', Grow ρ H ρ' H' → Sts K ρ' δ S' H' → RepX mg K ρ' δ H' e c d → E c d H'
  | .bad => False
theorem Post.mono {α β : Type} {mg : Str → Option Value} {K : Fr} {ρ δ ρ1 : List Addr} {H H1 : Hp} {R : List Addr → Hp → α → β → Prop} {Q Q' : β → Hp → Prop} {E : XK} {o : Out α}
    (g : Grow ρ H ρ1 H1) (h : Post mg K ρ δ H R Q E o) (q : ∀ b H', Q b H' → Q' b H') : Post mg K ρ1 δ H1 R Q' E o := by
  cases o with
  | val a S => exact fun ρ' b H' g' s r => q _ _ (h ρ' b H' (g.trans g') s r)
  | exc e S => exact fun ρ' c d H' g' s r => h ρ' c d H' (g.trans g') s r
  | bad => exact h
/-- a step, then what goes on -/
theorem Post.bind {α β γ δ' : Type} {mg : Str → Option Value} {K : Fr} {ρ δ : List Addr} {H : Hp} {R : List Addr → Hp → α → β → Prop} {R' : List Addr → Hp → γ → δ' → Prop} {Q' : β → Hp → Prop} {Q : δ' → Hp → Prop} {E : XK} {o : Out α} {f : α → M γ}
    (h : Post mg K ρ δ H R' Q E (o.bind f)) (k : ∀ a S ρ1 b H1, o = .val a S → Grow ρ H ρ1 H1 → Sts K ρ1 δ S H1 → R ρ1 H1 a b → Post mg K ρ1 δ H1 R' Q E (f a S) → Q' b H1) : Post mg K ρ δ H R Q' E o := by
  cases o with
  | val a S =>
    intro ρ1 b H1 g s r
    exact k a S ρ1 b H1 rfl g s r (Post.mono g h fun _ _ z => z)
  | exc e S => exact h
  | bad => exact h
abbrev RW (K : Fr) (δ : List Addr) : List Addr → Hp → W → V → Prop := fun ρ H w v => Rep K ρ δ H w v
abbrev RWs (K : Fr) (δ : List Addr) : List Addr → Hp → List W → List V → Prop := fun ρ H w v => Reps K ρ δ H w v
abbrev RB : List Addr → Hp → Bool → Bool → Prop := fun _ _ a b => a = b
/-- a fact of the heap that stays -/
structure JI where
  p : List Addr → Hp → Prop
  st : ∀ ρ H ρ' H', Grow ρ H ρ' H' → p ρ H → p ρ' H'
def JTb : JI := ⟨fun _ H => Tabs TB.T H, fun _ _ _ _ g t => g.tb t⟩
def JT : JI := ⟨fun _ _ => True, fun _ _ _ _ _ _ => trivial⟩

/-! ### the judgements -/
abbrev EM (α : Type) := Env → M α
abbrev SM := Env → Sto → Fl
def SimE (X : Cx) (W0 : WX) (J : JI) (e : Expr) (m : EM W) : Prop :=
  ∃ t : TE, PE X e t ∧ ∀ ρ δ S H env σ Q, EnvR X.K ρ δ H env σ → Sts X.K ρ δ S H → J.p ρ H → Post X.mg X.K ρ δ H (RW X.K δ) Q (WE W0 σ) (m env S) → t σ H Q
def SimT (X : Cx) (W0 : WX) (J : JI) (e : Expr) (m : EM Bool) : Prop :=
  ∃ t : TT, PT X e t ∧ ∀ ρ δ S H env σ Q, EnvR X.K ρ δ H env σ → Sts X.K ρ δ S H → J.p ρ H → Post X.mg X.K ρ δ H RB Q (WE W0 σ) (m env S) → t σ H Q
def SimTW (X : Cx) (W0 : WX) (J : JI) (e : Expr) (m : EM Bool) : Prop :=
  ∃ t : TT, PW X e t ∧ ∀ ρ δ S H env σ Q, EnvR X.K ρ δ H env σ → Sts X.K ρ δ S H → J.p ρ H → Post X.mg X.K ρ δ H RB Q (WE W0 σ) (m env S) → t σ H Q
def SimA (X : Cx) (W0 : WX) (J : JI) (es : List Expr) (m : EM (List W)) : Prop :=
  ∃ t : TA, PA X es t ∧ ∀ ρ δ S H env σ Q, EnvR X.K ρ δ H env σ → Sts X.K ρ δ S H → J.p ρ H → Post X.mg X.K ρ δ H (RWs X.K δ) Q (WE W0 σ) (m env S) → t σ H Q
def PostS (mg : Str → Option Value) (K : Fr) (ρ δ : List Addr) (H : Hp) (W0 : WX) (D : Ends) : Fl → Prop
  | .nx env S => ∀ ρ' σ H', Grow ρ H ρ' H' → Sts K ρ' δ S H' → EnvR K ρ' δ H' env σ → D.nx σ H'
  | .bk env S => ∀ ρ' σ H', Grow ρ H ρ' H' → Sts K ρ' δ S H' → EnvR K ρ' δ H' env σ → D.bk σ H'
  | .ct env S => ∀ ρ' σ H', Grow ρ H ρ' H' → Sts K ρ' δ S H' → EnvR K ρ' δ H' env σ → D.ct σ H'
  | .rt w S => ∀ ρ' v H', Grow ρ H ρ' H' → Sts K ρ' δ S H' → Rep K ρ' δ H' w v → D.rt v H'
  | .xc e env S => ∀ ρ' c d σ H', Grow ρ H ρ' H' → Sts K ρ' δ S H' → EnvR K ρ' δ H' env σ → RepX mg K ρ' δ H' e c d → W0 c d σ H'
  | .bad => False
theorem PostS.mono {mg : Str → Option Value} {K : Fr} {ρ δ ρ1 : List Addr} {H H1 : Hp} {W0 : WX} {D : Ends} {f : Fl} (g : Grow ρ H ρ1 H1) (h : PostS mg K ρ δ H W0 D f) : PostS mg K ρ1 δ H1 W0 D f := by
  cases f with
  | nx env S => exact fun ρ' σ H' g' => h ρ' σ H' (g.trans g')
  | bk env S => exact fun ρ' σ H' g' => h ρ' σ H' (g.trans g')
  | ct env S => exact fun ρ' σ H' g' => h ρ' σ H' (g.trans g')
  | rt w S => exact fun ρ' v H' g' => h ρ' v H' (g.trans g')
  | xc e env S => exact fun ρ' c d σ H' g' => h ρ' c d σ H' (g.trans g')
  | bad => exact h
def SimS (X : Cx) (W0 : WX) (J : JI) (st : Stmt) (m : SM) : Prop :=
  ∃ t : TS, PS X st t ∧ ∀ ρ δ S H env σ D, EnvR X.K ρ δ H env σ → Sts X.K ρ δ S H → J.p ρ H → PostS X.mg X.K ρ δ H W0 D (m env S) → t D σ H
def SimSs (X : Cx) (W0 : WX) (J : JI) (st : List Stmt) (m : SM) : Prop :=
  ∃ t : TS, PSs X st t ∧ ∀ ρ δ S H env σ D, EnvR X.K ρ δ H env σ → Sts X.K ρ δ S H → J.p ρ H → PostS X.mg X.K ρ δ H W0 D (m env S) → t D σ H
end Sm

set_option Elab.async false
set_option linter.all false
set_option maxRecDepth 100000
namespace Sm
open PySem PySem.Spec PyProof.Rows L2 LamX
/-! ### the kind of a range, as isinstance looks it up -/
section
variable {prog : Program} {w : World} {A : Around} {E : Value → Shared → Prop} {h : Heap} {g : Array GenState} {d : Drawn} {t : Nat} {os : OsState} {a : Addr} {o : Obj} {tk : Tok}
theorem rng_ga : entryFor table "range.__getattribute__" = some Builtin.«object.__getattribute__» :=
  entryFor_alias (id' := "object.__getattribute__") (by kernel_rfl) (by first | rfl | decide +kernel) (by decide +kernel) (by kernel_rfl)
theorem rng_lk : typeLookup (.type "range") "__class__" = pure (some (.builtin "object.__class__")) := by
  rw [typeLookup_type, builtinLookup_eq_fast]
  kernel_rfl
theorem rng_ow : isSubtype (.type "range") (.type (".".intercalate ("object.__class__".cutAt '.').dropLast)) = pure true := by
  rw [F.owner_object_class, isSubtype_type]
  kernel_rfl
abbrev IsRg (h : Heap) (a : Addr) : Prop := ∃ o, h.get? a = some o ∧ o.cls = .type "range"
theorem rng_1 {R : Result → Shared → Prop} (hT : (⟨h, g, d, t, os⟩ : Shared).TypeIs (.ref a) "range") (hr : R (.ok (.ret (.type "range"))) ⟨h, g, d, t, os⟩) : codeAny (model prog w) A (.call (.builtin "getset_descriptor.__get__") ⟨[.builtin "object.__class__", .ref a, .type "range"], []⟩) R ⟨h, g, d, t, os⟩ := by
  have ow := rng_ow
  have hD : (⟨h, g, d, t, os⟩ : Shared).TypeIs (.builtin "object.__class__") "getset_descriptor" := F.typeOf_object_class
  refine codeAny_call_builtin F.slot_gs_get.plain F.entry_gs_get (F.slot_gs_get.check _ _ _ _ _ _ _ _ hD (F.args_gs_get _ _ _) ?_)
  repeat (any_goals (first | assumption | wp_step))
  refine ⟨Code.quiet_builtin _ (by decide +kernel), codeAny_builtin F.entry_object_class ?_⟩
  repeat (any_goals (first | assumption | wp_step))
theorem rng_2 {Q : Fin → Shared → Prop} (hT : (⟨h, g, d, t, os⟩ : Shared).TypeIs (.ref a) "range") (hr : Q (.done (.ret (.type "range"))) ⟨h, g, d, t, os⟩) : wpAny (model prog w) A (Builtin.«object.__getattribute__» ⟨[.ref a, .str "__class__" tk], []⟩) Q E ⟨h, g, d, t, os⟩ := by
  have lk := rng_lk
  have hD : (⟨h, g, d, t, os⟩ : Shared).TypeIs (.builtin "object.__class__") "getset_descriptor" := F.typeOf_object_class
  have l1 := F.typeOf_object_class
  have l2 := F.slot_gs_get.lookup
  have l3 := F.slot_gs_set.lookup
  repeat (any_goals (first | assumption | wp_step))
  refine rng_1 hT ?_
  repeat (any_goals (first | assumption | wp_step))
theorem rng_3 {Q : Value → Shared → Prop} (hT : (⟨h, g, d, t, os⟩ : Shared).TypeIs (.ref a) "range") (hr : Q (.type "range") ⟨h, g, d, t, os⟩) : wpAny (model prog w) A (getAttrBy (.ref a) (.str "__class__" tk) false) Q E ⟨h, g, d, t, os⟩ := by
  have l4 := F.slot_range_getattribute.lookup
  have l5 := F.slot_range_getattribute.bind (.ref a)
  repeat (any_goals (first | assumption | wp_step))
  refine codeAny_call_builtin F.slot_range_getattribute.plain rng_ga (F.slot_range_getattribute.check _ _ _ _ _ _ _ _ hT (F.args_range_getattribute_2 _ _) (rng_2 hT ?_))
  repeat (any_goals (first | assumption | wp_step))
theorem rng_cls {Q : Option Value → Shared → Prop} (hT : IsRg h a) (hq : Q (some (.type "range")) ⟨h, g, d, t + 1, os⟩) : wpAny (model prog w) A (getAttr? (.ref a) "__class__") Q E ⟨h, g, d, t, os⟩ := by
  have h3 := fun (A : Around) (E : Value → Shared → Prop) (Q : Value → Shared → Prop) (t : Nat) (tk : Tok) => rng_3 (prog := prog) (w := w) (A := A) (E := E) (h := h) (g := g) (d := d) (t := t) (os := os) (tk := tk) (Q := Q) (a := a) hT
  unfold getAttr? getAttrBy?
  repeat (any_goals (first | assumption | with_reducible apply h3 | wp_step))
end
theorem kit_rng {K : PySem.W.Frag} {a : Addr} : PySem.W.KitX K (.ref a) (.type "range") (PySem.W.KitAt a "range") :=
  PySem.W.kitx_of PySem.W.kitAt_ty (fun {_ _ _ _ _ s} p k => by obtain ⟨h, g, d, t, os⟩ := s; exact rng_cls p k)
/-- the kind of a value: as the library has it, or a range -/
def TyR (K : PySem.W.Frag) (H : Hp) (x : V) (t : Value) : Prop := TyX K H x t ∨ ∃ a lo hi, x = .ref a ∧ H a = some (.rng lo hi) ∧ t = .type "range"
def rIsR (K : PySem.W.Frag) : List V → Hp → VK → Prop := fun xs H Q => ∃ (x c : V) (t u : Value) (b : Bool), xs = [x, c] ∧ ClsV c u ∧ TyR K H x t ∧ PySem.W.kitOne K t u = some b ∧ Q (.bl b) H
theorem call_isR {X : Cx} : CallR X (.builtin "isinstance") (rIsR X.K) := by
  intro pins s σ H xs us Q I r ⟨x, c, t, u, b, e, k, ty, e1, q⟩
  rcases ty with ty | ⟨a, lo, hi, rfl, ha, rfl⟩
  · exact call_isi pins s σ H xs us Q I r ⟨x, c, t, u, b, e, k, ty, e1, q⟩
  · subst e
    obtain ⟨u1, u2, rfl, r1, r2⟩ := vals2 r
    have e2 := k.eq r2
    subst e2
    cases (show u1 = Value.ref a from r1)
    obtain ⟨t1, t2, t3, h1⟩ := (show ObjOk X.prog X.w H s.heap a (.rng lo hi) from I.hok a _ ha)
    exact PySem.W.kia_one kit_rng I.kIn ⟨_, h1, rfl⟩ e1 (fun z => nomatch z) fun tk => ⟨.bl b, H, I.tok tk, rfl, q⟩
end Sm

set_option Elab.async false
set_option linter.all false
set_option maxRecDepth 100000
namespace Sm
open PySem PySem.Spec PyProof.Rows L2 LamX
variable [TB]

abbrev PostV (X : Cx) (ρ δ : List Addr) (H : Hp) (Q : VK) (E : XK) (o : Out W) : Prop := Post X.mg X.K ρ δ H (RW X.K δ) Q E o
section
variable {X : Cx} {W0 : WX} {J : JI} {ρ δ : List Addr} {H : Hp} {S : Sto} {Q : VK} {E : XK} {w : W} {v : V}
/-- a value at the same heap -/
theorem PostV.here (h : PostV X ρ δ H Q E (.val w S)) (s : Sts X.K ρ δ S H) (r : Rep X.K ρ δ H w v) : Q v H := h ρ v H (Grow.refl _ _) s r
theorem PostV.tup {ws : List W} {vs : List V} {p : Addr} (h : PostV X ρ δ H Q E (.val (.tup ws) S)) (s : Sts X.K ρ δ S H) (r : Reps X.K ρ δ H ws vs) (hp : H p = none) : Q (.ref p) (upd H p (.tup vs)) := by
  obtain ⟨n1, n2⟩ := s.new hp
  exact h ρ _ _ (Grow.laid hp) (s.laid hp) (.tup ⟨upd_same, n1, n2⟩ ((Grow.laid hp).reps r))
theorem PostV.lst {ws : List W} {vs : List V} {p : Addr} (h : PostV X ρ δ H Q E (.val (.lst ws) S)) (s : Sts X.K ρ δ S H) (r : Reps X.K ρ δ H ws vs) (hp : H p = none) : Q (.ref p) (upd H p (.lst vs)) := by
  obtain ⟨n1, n2⟩ := s.new hp
  exact h ρ _ _ (Grow.laid hp) (s.laid hp) (.lst ⟨upd_same, n1, n2⟩ ((Grow.laid hp).reps r))
theorem PostV.box {ws : List W} {vs : List V} {p : Addr} (h : PostV X ρ δ H Q E (.val (.box S.length) (S ++ [.lst ws]))) (s : Sts X.K ρ δ S H) (r : Reps X.K ρ δ H ws vs) (hp : H p = none) : Q (.ref p) (upd H p (.lst vs)) := by
  refine h (ρ ++ [p]) _ _ (Grow.boxed hp) (s.boxed hp ⟨vs, rfl, r⟩) (.box ?_ (kdH_lst upd_same))
  rw [s.ln]; simp
theorem PostV.put {n : Nat} {a : Addr} {ws : List W} {vs : List V} (h : PostV X ρ δ H Q E (.val w (S.set n (.lst ws)))) (s : Sts X.K ρ δ S H) (ha : ρ[n]? = some a) (hk : kdH H a = 1) (r : Reps X.K ρ δ H ws vs) (rw : Rep X.K ρ δ H w v) : Q v (upd H a (.lst vs)) := by
  have g : Grow ρ H ρ (upd H a (.lst vs)) := Grow.put ha (by rw [hk]; decide) hk.symm
  exact h ρ _ _ g (s.put ha hk.symm ⟨vs, rfl, r⟩) (g.rep rw)
end

/-! ### names and constants -/
section
variable {X : Cx} {W0 : WX} {J : JI} {a b c : Expr} {pos : Pos} {ma mb mc : EM W}
@[simp] def mC (w : W) : EM W := fun _ S => .val w S
def ofO (o : Option (Option W)) (S : Sto) : Out W := match o with
  | some (some w) => .val w S
  | _ => .bad
@[simp] def mV (i : Nat) : EM W := fun env S => ofO env[i]? S
theorem sim_v (i : Nat) {x : Str} (hN : X.N[i]? = some x := by rfl) (hv : Vis X.env.scope x := by first | exact Or.inl rfl | exact Or.inr (Or.inl rfl) | exact Or.inr (Or.inr rfl)) (hd : (x == ("__debug__" : Str)) = false := by decide) (hcd : (x == ("__classdict__" : Str)) = false := by decide) : SimE X W0 J (.Name x pos) (mV i) := by
  refine ⟨_, pe_var hN hv hd hcd, fun ρ δ S H env σ Q he hs hj hp => ?_⟩
  unfold mV ofO at hp
  cases e : env[i]? with
  | none => rw [e] at hp; exact hp.elim
  | some o =>
    cases o with
    | none => rw [e] at hp; exact hp.elim
    | some w =>
      rw [e] at hp
      obtain ⟨v, h1, h2⟩ := he.2 i w e
      exact ⟨v, h1, PostV.here hp hs h2⟩
theorem sim_c {t : TE} {w : W} {v : V} (h : PE X a (tC v)) (r : ∀ ρ δ H, Rep X.K ρ δ H w v) : SimE X W0 J a (mC w) := ⟨_, h, fun ρ δ S H env σ Q he hs hj hp => PostV.here (v := v) hp hs (r ρ δ H)⟩
theorem sim_int {i j} : SimE X W0 J (.Constant (.int i) j pos) (mC (.int i)) := sim_c (t := tC (.int i)) pe_int fun _ _ _ => .int
theorem sim_bl {i j} : SimE X W0 J (.Constant (.bool i) j pos) (mC (.bl i)) := sim_c (t := tC (.bl i)) pe_bl fun _ _ _ => .bl
theorem sim_non {j} : SimE X W0 J (.Constant .none j pos) (mC .non) := sim_c (t := tC .non) pe_non fun _ _ _ => .non
theorem sim_str {i j} : SimE X W0 J (.Constant (.str i) j pos) (mC (.str i)) := sim_c (t := tC (.str i)) pe_str fun _ _ _ => .str
/-- a module's int -/
theorem sim_gint {x : Str} {i : Int} {t : Tok} (hg : Gl X x) (hm : X.mg x = some (.int i t)) (hd : (x == ("__debug__" : Str)) = false := by decide) : SimE X W0 J (.Name x pos) (mC (.int i)) :=
  sim_c (t := tC (.int i)) (pe_glob (v := V.int i) hg hm ⟨t, rfl⟩ hd) fun _ _ _ => .int

/-! ### two values -/
def OpS (X : Cx) (r : R2) (f : W → W → M W) : Prop := ∀ ρ δ S H x y v u Q E, Sts X.K ρ δ S H → Rep X.K ρ δ H x v → Rep X.K ρ δ H y u → PostV X ρ δ H Q E (f x y S) → r v u H Q
@[simp] def m2 (f : W → W → M W) (ma mb : EM W) : EM W := fun env => bnd (ma env) fun x => bnd (mb env) fun y => f x y
theorem bin_go {ta tb : TE} {r : R2} {f : W → W → M W} (ka : ∀ ρ δ S H env σ Q, EnvR X.K ρ δ H env σ → Sts X.K ρ δ S H → J.p ρ H → PostV X ρ δ H Q (WE W0 σ) (ma env S) → ta σ H Q)
    (kb : ∀ ρ δ S H env σ Q, EnvR X.K ρ δ H env σ → Sts X.K ρ δ S H → J.p ρ H → PostV X ρ δ H Q (WE W0 σ) (mb env S) → tb σ H Q) (os : OpS X r f)
    (ρ δ S H env σ Q) (he : EnvR X.K ρ δ H env σ) (hs : Sts X.K ρ δ S H) (hj : J.p ρ H) (hp : PostV X ρ δ H Q (WE W0 σ) (m2 f ma mb env S)) : ta σ H fun x H1 => tb σ H1 fun y H2 => r x y H2 Q := by
  refine ka _ _ S _ env σ _ he hs hj (Post.bind hp fun x S1 ρ1 v H1 _ g1 s1 r1 hp1 => ?_)
  refine kb _ _ S1 _ env σ _ (he.grow g1) s1 (J.st _ _ _ _ g1 hj) (Post.bind hp1 fun y S2 ρ2 u H2 _ g2 s2 r2 hp2 => ?_)
  exact os _ _ S2 _ x y v u Q _ s2 (g2.rep r1) r2 hp2
theorem sim_bin {op : Operator} {r : R2} {f : W → W → M W} (ho : OpR X (binaryOp op) r) (os : OpS X r f) (ha : SimE X W0 J a ma) (hb : SimE X W0 J b mb) : SimE X W0 J (.BinOp a op b pos) (m2 f ma mb) := by
  obtain ⟨ta, pa, ka⟩ := ha
  obtain ⟨tb, pb, kb⟩ := hb
  exact ⟨_, pe_op ho pa pb, bin_go ka kb os⟩
theorem sim_cmp {op : CmpOp} {r : R2} {f : W → W → M W} (ho : OpR X (compareOp op) r) (os : OpS X r f) (ha : SimE X W0 J a ma) (hb : SimE X W0 J b mb) (hm : behindInMarks op b = false) : SimE X W0 J (.Compare a [op] [b] pos) (m2 f ma mb) := by
  obtain ⟨ta, pa, ka⟩ := ha
  obtain ⟨tb, pb, kb⟩ := hb
  exact ⟨_, pe_cmpR ho pa pb hm, bin_go ka kb os⟩
theorem sim_ix0 {r : R2} {f : W → W → M W} (ho : IxR X r) (os : OpS X r f) (ha : SimE X W0 J a ma) (hb : SimE X W0 J b mb) (hs : PlainIx b) : SimE X W0 J (.Subscript a b pos) (m2 f ma mb) := by
  obtain ⟨ta, pa, ka⟩ := ha
  obtain ⟨tb, pb, kb⟩ := hb
  exact ⟨_, pe_ix ho pa pb hs, bin_go ka kb os⟩
/-- a bool's value as a test -/
def toB : W → M Bool
  | .bl b => ret b
  | _ => bad
@[simp] def mB (ma : EM W) : EM Bool := fun env => bnd (ma env) toB
theorem Post.toB {ρ δ : List Addr} {H : Hp} {Q : Bool → Hp → Prop} {E : XK} {S : Sto} {w : W} {v : V} (h : Post X.mg X.K ρ δ H RB Q E (toB w S)) (s : Sts X.K ρ δ S H) (r : Rep X.K ρ δ H w v) : ∃ k, v = .bl k ∧ Q k H := by
  cases r with
  | bl => exact ⟨_, rfl, h ρ _ H (Grow.refl _ _) s rfl⟩
  | _ => exact h.elim
theorem simT_of {t : TE} (pt : PT X a (tTest t)) (k : ∀ ρ δ S H env σ Q, EnvR X.K ρ δ H env σ → Sts X.K ρ δ S H → J.p ρ H → PostV X ρ δ H Q (WE W0 σ) (ma env S) → t σ H Q) : SimT X W0 J a (mB ma) := by
  refine ⟨_, pt, fun ρ δ S H env σ Q he hs hj hp => ?_⟩
  refine k _ _ S _ env σ _ he hs hj (Post.bind hp fun x S1 ρ1 v H1 _ g1 s1 r1 hp1 => ?_)
  exact Post.toB hp1 s1 r1
/-- an expression whose value is a bool, as a test (not and, or, not, comparisons) -/
theorem simT_val (ha : SimE X W0 J a ma) (he : ∀ whole, isTrue a X.env whole = (do let v ← whole; standAt a.pos; holding [v] (truthy v)) := by intro _; rfl) : SimT X W0 J a (mB ma) := by
  obtain ⟨ta, pa, ka⟩ := ha
  exact simT_of (t := ta) (pt_val pa he) ka
theorem simT_cmp {op : CmpOp} {r : R2} {f : W → W → M W} (ho : OpR X (compareOp op) r) (os : OpS X r f) (ha : SimE X W0 J a ma) (hb : SimE X W0 J b mb) (hm : behindInMarks op b = false) : SimT X W0 J (.Compare a [op] [b] pos) (mB (m2 f ma mb)) := by
  obtain ⟨ta, pa, ka⟩ := ha
  obtain ⟨tb, pb, kb⟩ := hb
  exact simT_of (pt_cmpR ho pa pb hm) (bin_go ka kb os)
/-- a op1 b op2 c -/
@[simp] def mCh (f g : W → W → M W) (ma mb mc : EM W) : EM W := fun env => bnd (ma env) fun x => bnd (mb env) fun y => bnd (f x y) fun z => bnd (toB z) fun k => if k = true then bnd (mc env) fun u => g y u else ret (.bl false)
theorem chain_go {ta tb tc : TE} {r r' : R2} {f g : W → W → M W} (ka : ∀ ρ δ S H env σ Q, EnvR X.K ρ δ H env σ → Sts X.K ρ δ S H → J.p ρ H → PostV X ρ δ H Q (WE W0 σ) (ma env S) → ta σ H Q)
    (kb : ∀ ρ δ S H env σ Q, EnvR X.K ρ δ H env σ → Sts X.K ρ δ S H → J.p ρ H → PostV X ρ δ H Q (WE W0 σ) (mb env S) → tb σ H Q)
    (kc : ∀ ρ δ S H env σ Q, EnvR X.K ρ δ H env σ → Sts X.K ρ δ S H → J.p ρ H → PostV X ρ δ H Q (WE W0 σ) (mc env S) → tc σ H Q) (os : OpS X r f) (os' : OpS X r' g)
    (ρ δ S H env σ Q) (he : EnvR X.K ρ δ H env σ) (hs : Sts X.K ρ δ S H) (hj : J.p ρ H) (hp : PostV X ρ δ H Q (WE W0 σ) (mCh f g ma mb mc env S)) : tChain r r' ta tb tc σ H Q := by
  refine ka _ _ S _ env σ _ he hs hj (Post.bind hp fun x S1 ρ1 v H1 _ g1 s1 r1 hp1 => ?_)
  refine kb _ _ S1 _ env σ _ (he.grow g1) s1 (J.st _ _ _ _ g1 hj) (Post.bind hp1 fun y S2 ρ2 u H2 _ g2 s2 r2 hp2 => ?_)
  refine os _ _ S2 _ x y v u _ _ s2 (g2.rep r1) r2 (Post.bind hp2 fun z S3 ρ3 zv H3 _ g3 s3 r3 hp3 => ?_)
  cases r3 with
  | @bl k =>
    refine ⟨k, rfl, ?_⟩
    cases k with
    | false => exact PostV.here (v := .bl false) hp3 s3 .bl
    | true =>
      refine kc _ _ S3 _ env σ _ ((he.grow g1).grow (g2.trans g3)) s3 (J.st _ _ _ _ (g1.trans (g2.trans g3)) hj) (Post.bind hp3 fun t S4 ρ4 tv H4 _ g4 s4 r4 hp4 => ?_)
      exact os' _ _ S4 _ y t u tv Q _ s4 ((g3.trans g4).rep r2) r4 hp4
  | _ => exact hp3.elim
theorem sim_chain {op op' : CmpOp} {r r' : R2} {f g : W → W → M W} (ho : OpR X (compareOp op) r) (os : OpS X r f) (ho' : OpR X (compareOp op') r') (os' : OpS X r' g) (ha : SimE X W0 J a ma) (hb : SimE X W0 J b mb) (hc : SimE X W0 J c mc)
    (hm : lastMarks [op, op'] [b, c] = false := by with_unfolding_all rfl) : SimE X W0 J (.Compare a [op, op'] [b, c] pos) (mCh f g ma mb mc) := by
  obtain ⟨ta, pa, ka⟩ := ha
  obtain ⟨tb, pb, kb⟩ := hb
  obtain ⟨tc, pc, kc⟩ := hc
  exact ⟨_, pe_chain ho ho' pa pb pc hm, chain_go ka kb kc os os'⟩
theorem simT_chain {op op' : CmpOp} {r r' : R2} {f g : W → W → M W} (ho : OpR X (compareOp op) r) (os : OpS X r f) (ho' : OpR X (compareOp op') r') (os' : OpS X r' g) (ha : SimE X W0 J a ma) (hb : SimE X W0 J b mb) (hc : SimE X W0 J c mc)
    (hm : lastMarks [op, op'] [b, c] = false := by with_unfolding_all rfl) : SimT X W0 J (.Compare a [op, op'] [b, c] pos) (mB (mCh f g ma mb mc)) := by
  obtain ⟨ta, pa, ka⟩ := ha
  obtain ⟨tb, pb, kb⟩ := hb
  obtain ⟨tc, pc, kc⟩ := hc
  exact simT_of (pt_chain ho ho' pa pb pc hm) (chain_go ka kb kc os os')

/-! ### and, or, not, if -/
@[simp] def mAndT (ta tb : EM Bool) : EM Bool := fun env => bnd (ta env) fun k => if k = true then tb env else ret false
@[simp] def mOrT (ta tb : EM Bool) : EM Bool := fun env => bnd (ta env) fun k => if k = true then ret true else tb env
@[simp] def mNotT (ta : EM Bool) : EM Bool := fun env => bnd (ta env) fun k => ret (!k)
variable {na nb : EM Bool} {rest : List Expr}
theorem simT_w (h : SimTW X W0 J a na) : SimT X W0 J a na := by
  obtain ⟨t, p, k⟩ := h
  exact ⟨t, p.pt, k⟩
theorem simW_and1 (h : SimT X W0 J a na) : SimTW X W0 J (.BoolOp .And [a] pos) na := by
  obtain ⟨t, p, k⟩ := h
  exact ⟨t, pw_and1 p, k⟩
theorem simW_or1 (h : SimT X W0 J a na) : SimTW X W0 J (.BoolOp .Or [a] pos) na := by
  obtain ⟨t, p, k⟩ := h
  exact ⟨t, pw_or1 p, k⟩
theorem simW_and (ha : SimT X W0 J a na) (hb : SimTW X W0 J (.BoolOp .And (b :: rest) pos) nb) : SimTW X W0 J (.BoolOp .And (a :: b :: rest) pos) (mAndT na nb) := by
  obtain ⟨ta, pa, ka⟩ := ha
  obtain ⟨tb, pb, kb⟩ := hb
  refine ⟨_, pw_and pa pb, fun ρ δ S H env σ Q he hs hj hp => ?_⟩
  refine ka _ _ S _ env σ _ he hs hj (Post.bind hp fun x S1 ρ1 v H1 _ g1 s1 r1 hp1 => ?_)
  have r1' : x = v := r1
  subst r1'
  cases x with
  | true => exact iteT (kb _ _ S1 _ env σ _ (he.grow g1) s1 (J.st _ _ _ _ g1 hj) hp1)
  | false => exact iteF (hp1 ρ1 _ H1 (Grow.refl _ _) s1 rfl)
theorem simW_or (ha : SimT X W0 J a na) (hb : SimTW X W0 J (.BoolOp .Or (b :: rest) pos) nb) : SimTW X W0 J (.BoolOp .Or (a :: b :: rest) pos) (mOrT na nb) := by
  obtain ⟨ta, pa, ka⟩ := ha
  obtain ⟨tb, pb, kb⟩ := hb
  refine ⟨_, pw_or pa pb, fun ρ δ S H env σ Q he hs hj hp => ?_⟩
  refine ka _ _ S _ env σ _ he hs hj (Post.bind hp fun x S1 ρ1 v H1 _ g1 s1 r1 hp1 => ?_)
  have r1' : x = v := r1
  subst r1'
  cases x with
  | true => exact iteT (hp1 ρ1 _ H1 (Grow.refl _ _) s1 rfl)
  | false => exact iteF (kb _ _ S1 _ env σ _ (he.grow g1) s1 (J.st _ _ _ _ g1 hj) hp1)
theorem simT_not (ha : SimT X W0 J a na) : SimT X W0 J (.UnaryOp .Not a pos) (mNotT na) := by
  obtain ⟨ta, pa, ka⟩ := ha
  refine ⟨_, pt_not pa, fun ρ δ S H env σ Q he hs hj hp => ?_⟩
  refine ka _ _ S _ env σ _ he hs hj (Post.bind hp fun x S1 ρ1 v H1 _ g1 s1 r1 hp1 => ?_)
  have r1' : x = v := r1
  subst r1'
  exact hp1 ρ1 _ H1 (Grow.refl _ _) s1 rfl
@[simp] def mAndV (ma mb : EM W) : EM W := fun env => bnd (ma env) fun x => bnd (toB x) fun k => if k = true then mb env else ret (.bl false)
@[simp] def mOrV (ma mb : EM W) : EM W := fun env => bnd (ma env) fun x => bnd (toB x) fun k => if k = true then ret (.bl true) else mb env
@[simp] def mNotV (ma : EM W) : EM W := fun env => bnd (ma env) fun x => bnd (toB x) fun k => ret (.bl !k)
theorem sim_one {op} (h : SimE X W0 J a ma) : SimE X W0 J (.BoolOp op [a] pos) ma := by
  obtain ⟨t, p, k⟩ := h
  exact ⟨t, pe_one p, k⟩
theorem sim_and (ha : SimE X W0 J a ma) (hb : SimE X W0 J (.BoolOp .And (b :: rest) pos) mb) : SimE X W0 J (.BoolOp .And (a :: b :: rest) pos) (mAndV ma mb) := by
  obtain ⟨ta, pa, ka⟩ := ha
  obtain ⟨tb, pb, kb⟩ := hb
  refine ⟨_, pe_and pa pb, fun ρ δ S H env σ Q he hs hj hp => ?_⟩
  refine ka _ _ S _ env σ _ he hs hj (Post.bind hp fun x S1 ρ1 v H1 _ g1 s1 r1 hp1 => ?_)
  cases r1 with
  | @bl k =>
    refine ⟨k, rfl, ?_⟩
    cases k with
    | true => exact iteT (kb _ _ S1 _ env σ _ (he.grow g1) s1 (J.st _ _ _ _ g1 hj) hp1)
    | false => exact iteF (PostV.here (v := .bl false) hp1 s1 .bl)
  | _ => exact hp1.elim
theorem sim_or (ha : SimE X W0 J a ma) (hb : SimE X W0 J (.BoolOp .Or (b :: rest) pos) mb) : SimE X W0 J (.BoolOp .Or (a :: b :: rest) pos) (mOrV ma mb) := by
  obtain ⟨ta, pa, ka⟩ := ha
  obtain ⟨tb, pb, kb⟩ := hb
  refine ⟨_, pe_or pa pb, fun ρ δ S H env σ Q he hs hj hp => ?_⟩
  refine ka _ _ S _ env σ _ he hs hj (Post.bind hp fun x S1 ρ1 v H1 _ g1 s1 r1 hp1 => ?_)
  cases r1 with
  | @bl k =>
    refine ⟨k, rfl, ?_⟩
    cases k with
    | true => exact iteT (PostV.here (v := .bl true) hp1 s1 .bl)
    | false => exact iteF (kb _ _ S1 _ env σ _ (he.grow g1) s1 (J.st _ _ _ _ g1 hj) hp1)
  | _ => exact hp1.elim
theorem sim_not (ha : SimE X W0 J a ma) : SimE X W0 J (.UnaryOp .Not a pos) (mNotV ma) := by
  obtain ⟨ta, pa, ka⟩ := ha
  refine ⟨_, pe_not pa, fun ρ δ S H env σ Q he hs hj hp => ?_⟩
  refine ka _ _ S _ env σ _ he hs hj (Post.bind hp fun x S1 ρ1 v H1 _ g1 s1 r1 hp1 => ?_)
  cases r1 with
  | @bl k => exact ⟨k, rfl, PostV.here (v := .bl !k) hp1 s1 .bl⟩
  | _ => exact hp1.elim
@[simp] def mIf (t : EM Bool) (ma mb : EM W) : EM W := fun env => bnd (t env) fun k => if k = true then ma env else mb env
theorem sim_if (hc : SimT X W0 J c na) (ha : SimE X W0 J a ma) (hb : SimE X W0 J b mb) : SimE X W0 J (.IfExp c a b pos) (mIf na ma mb) := by
  obtain ⟨tc, pc, kc⟩ := hc
  obtain ⟨ta, pa, ka⟩ := ha
  obtain ⟨tb, pb, kb⟩ := hb
  refine ⟨_, pe_ifExp pc pa pb, fun ρ δ S H env σ Q he hs hj hp => ?_⟩
  refine kc _ _ S _ env σ _ he hs hj (Post.bind hp fun x S1 ρ1 v H1 _ g1 s1 r1 hp1 => ?_)
  have r1' : x = v := r1
  subst r1'
  cases x with
  | true => exact iteT (ka _ _ S1 _ env σ _ (he.grow g1) s1 (J.st _ _ _ _ g1 hj) hp1)
  | false => exact iteF (kb _ _ S1 _ env σ _ (he.grow g1) s1 (J.st _ _ _ _ g1 hj) hp1)

/-! ### argument lists, displays, calls -/
variable {es : List Expr} {ms : EM (List W)}
@[simp] def mNil : EM (List W) := fun _ => ret []
@[simp] def mCons (ma : EM W) (ms : EM (List W)) : EM (List W) := fun env => bnd (ma env) fun x => bnd (ms env) fun xs => ret (x :: xs)
theorem sima_nil : SimA X W0 J [] mNil := ⟨_, pa_nil, fun ρ δ S H env σ Q he hs hj hp => hp ρ _ H (Grow.refl _ _) hs .nil⟩
theorem sima_cons (ha : SimE X W0 J a ma) (hr : SimA X W0 J es ms) (hs : starEach (a :: es) X.env = (false, eval a X.env) :: starEach es X.env := by rfl) : SimA X W0 J (a :: es) (mCons ma ms) := by
  obtain ⟨ta, pa, ka⟩ := ha
  obtain ⟨tr, pr, kr⟩ := hr
  refine ⟨_, pa_cons pa pr hs, fun ρ δ S H env σ Q he hs hj hp => ?_⟩
  refine ka _ _ S _ env σ _ he hs hj (Post.bind hp fun x S1 ρ1 v H1 _ g1 s1 r1 hp1 => ?_)
  refine kr _ _ S1 _ env σ _ (he.grow g1) s1 (J.st _ _ _ _ g1 hj) (Post.bind hp1 fun y S2 ρ2 u H2 _ g2 s2 r2 hp2 => ?_)
  exact hp2 ρ2 _ H2 (Grow.refl _ _) s2 (.cons (g2.rep r1) r2)
@[simp] def lim : Nat := 100000
theorem lim_ok {n : Nat} (h : n ≤ lim) : n ≤ sizeLine := Nat.le_trans h (by rw [sizeLine_eq]; decide)
theorem lim_lt {n : Nat} (h : n ≤ lim) : n < sizeLine := Nat.lt_of_le_of_lt h (by rw [sizeLine_eq]; decide)
@[simp] def wTup (xs : List W) : M W := fun S => if xs.length ≤ lim then .val (.tup xs) S else .bad
@[simp] def wLst (xs : List W) : M W := fun S => if xs.length ≤ lim then .val (.lst xs) S else .bad
@[simp] def wBox (xs : List W) : M W := fun S => if xs.length ≤ lim then .val (.box S.length) (S ++ [.lst xs]) else .bad
@[simp] def mTup (ms : EM (List W)) : EM W := fun env => bnd (ms env) wTup
@[simp] def mLst (ms : EM (List W)) : EM W := fun env => bnd (ms env) wLst
@[simp] def mBox (ms : EM (List W)) : EM W := fun env => bnd (ms env) wBox
theorem ifO {α : Type} {c : Prop} [Decidable c] {x : Out α} {R : Out α → Prop} (h : R (if c then x else .bad)) (hb : ¬ R .bad) : c ∧ R x := by
  by_cases hc : c
  · rw [if_pos hc] at h; exact ⟨hc, h⟩
  · rw [if_neg hc] at h; exact (hb h).elim
theorem PostV.if {ρ δ : List Addr} {H : Hp} {Q : VK} {E : XK} {c : Prop} [Decidable c] {x : Out W} (h : PostV X ρ δ H Q E (if c then x else .bad)) : c ∧ PostV X ρ δ H Q E x := ifO (R := PostV X ρ δ H Q E) h id
theorem sim_tup {x1} (h : SimA X W0 J es ms) : SimE X W0 J (.Tuple es x1 pos) (mTup ms) := by
  obtain ⟨t, p, k⟩ := h
  refine ⟨_, pe_tup p, fun ρ δ S H env σ Q he hs hj hp => ?_⟩
  refine k _ _ S _ env σ _ he hs hj (Post.bind hp fun x S1 ρ1 v H1 _ g1 s1 r1 hp1 => ?_)
  obtain ⟨hl, hp1⟩ := PostV.if hp1
  refine ⟨by rw [← Reps.length r1]; exact lim_ok hl, fun p np => PostV.tup hp1 s1 r1 np⟩
theorem sim_lst (h : SimA X W0 J es ms) : SimE X W0 J (.List es pos) (mLst ms) := by
  obtain ⟨t, p, k⟩ := h
  refine ⟨_, pe_lst p, fun ρ δ S H env σ Q he hs hj hp => ?_⟩
  refine k _ _ S _ env σ _ he hs hj (Post.bind hp fun x S1 ρ1 v H1 _ g1 s1 r1 hp1 => ?_)
  obtain ⟨hl, hp1⟩ := PostV.if hp1
  refine ⟨by rw [← Reps.length r1]; exact lim_ok hl, fun p np => PostV.lst hp1 s1 r1 np⟩
theorem sim_box (h : SimA X W0 J es ms) : SimE X W0 J (.List es pos) (mBox ms) := by
  obtain ⟨t, p, k⟩ := h
  refine ⟨_, pe_lst p, fun ρ δ S H env σ Q he hs hj hp => ?_⟩
  refine k _ _ S _ env σ _ he hs hj (Post.bind hp fun x S1 ρ1 v H1 _ g1 s1 r1 hp1 => ?_)
  obtain ⟨hl, hp1⟩ := PostV.if hp1
  refine ⟨by rw [← Reps.length r1]; exact lim_ok hl, fun p np => PostV.box hp1 s1 r1 np⟩
/-- a call of a built-in by values -/
def CaS (X : Cx) (r : List V → Hp → VK → Prop) (f : List W → M W) : Prop := ∀ ρ δ S H ws vs Q E, Sts X.K ρ δ S H → Reps X.K ρ δ H ws vs → PostV X ρ δ H Q E (f ws S) → r vs H Q
@[simp] def mCa (f : List W → M W) (ms : EM (List W)) : EM W := fun env => bnd (ms env) f
theorem call_go {t : TA} {r : List V → Hp → VK → Prop} {f : List W → M W} (k : ∀ ρ δ S H env σ Q, EnvR X.K ρ δ H env σ → Sts X.K ρ δ S H → J.p ρ H → Post X.mg X.K ρ δ H (RWs X.K δ) Q (WE W0 σ) (ms env S) → t σ H Q) (os : CaS X r f)
    (ρ δ S H env σ Q) (he : EnvR X.K ρ δ H env σ) (hs : Sts X.K ρ δ S H) (hj : J.p ρ H) (hp : PostV X ρ δ H Q (WE W0 σ) (mCa f ms env S)) : tCB r t σ H Q := by
  refine k _ _ S _ env σ _ he hs hj (Post.bind hp fun x S1 ρ1 v H1 _ g1 s1 r1 hp1 => ?_)
  exact os _ _ S1 _ x v Q _ s1 r1 hp1
variable {x : Str} {p : Pos}
theorem sim_callB {id : String} {r : List V → Hp → VK → Prop} {f : List W → M W} (hc : CallR X (.builtin id) r) (os : CaS X r f) (hg : Gl X x) (hm : X.mg x = none) (hv : bootBuiltins x = some (.builtin id)) (ha : SimA X W0 J (a :: es) ms) (hn : x ≠ "__name__" := by decide) (hdb : (x == ("__debug__" : Str)) = false := by decide)
    (he : starEach (a :: es) X.env = (false, eval a X.env) :: starEach es X.env := by rfl) (hpl : (backTo pos (starEach es X.env)).any (·.1) = false := by rfl) : SimE X W0 J (.Call (.Name x p) (a :: es) [] pos) (mCa f ms) := by
  obtain ⟨t, pa, k⟩ := ha
  exact ⟨_, pe_callB hc hg hm hv pa hn hdb he hpl, call_go k os⟩
theorem sim_callTy {T : String} {r : List V → Hp → VK → Prop} {f : List W → M W} (hc : CallR X (.type T) r) (os : CaS X r f) (hg : Gl X x) (hm : X.mg x = none) (hv : bootBuiltins x = some (.type T)) (ha : SimA X W0 J (a :: es) ms) (hn : x ≠ "__name__" := by decide) (hdb : (x == ("__debug__" : Str)) = false := by decide)
    (he : starEach (a :: es) X.env = (false, eval a X.env) :: starEach es X.env := by rfl) (hpl : (backTo pos (starEach es X.env)).any (·.1) = false := by rfl) : SimE X W0 J (.Call (.Name x p) (a :: es) [] pos) (mCa f ms) := by
  obtain ⟨t, pa, k⟩ := ha
  exact ⟨_, pe_callTy hc hg hm hv pa hn hdb he hpl, call_go k os⟩
/-- the promise of a def by its mirror -/
def SpM (K : Fr) (mg : Str → Option Value) (n : Nat) (fm : List W → M W) : Sp := fun vs H Q E => Tabs TB.T H ∧ ∃ ρ δ S ws, ws.length = n ∧ Sts K ρ δ S H ∧ Reps K ρ δ H ws vs ∧ Post mg K ρ δ H (RW K δ) Q E (fm ws S)
abbrev FnM (X : Cx) (k : Nat) (f : Addr) (fd : FuncData) (ps : List Str) (fm : List W → M W) : Prop := FnOk X.prog X.w X.K X.mg X.base (L2.CX X.prog X.w) k f fd ps (SpM X.K X.mg ps.length fm)
theorem sim_call {k : Nat} {f : Addr} {fd : FuncData} {ps : List Str} {fm : List W → M W} (tk : Takes X W0) (F : FnM X k f fd ps fm) (hr : Room k X.A) (hg : Gl X x) (hm : X.mg x = some (.ref f)) (hk : PySem.W.keepIn X.K (.ref f) = true) (hb : Binds X.K fd ps [])
    (ha : SimA X W0 JTb (a :: es) ms) (hdb : (x == ("__debug__" : Str)) = false := by decide) (he : starEach (a :: es) X.env = (false, eval a X.env) :: starEach es X.env := by rfl) (hpl : (backTo pos (starEach es X.env)).any (·.1) = false := by rfl) :
    SimE X W0 JTb (.Call (.Name x p) (a :: es) [] pos) (mCa (fun ws S => if ws.length = ps.length then fm ws S else .bad) ms) := by
  obtain ⟨t, pa, k⟩ := ha
  refine ⟨_, pe_callSD (E := WE W0) F hr hg hm hk hb (dvs := []) .nil (passAt tk) pa hdb he hpl, fun ρ δ S H env σ Q he hs hj hp => ?_⟩
  refine k _ _ S _ env σ _ he hs hj (Post.bind hp fun x S1 ρ1 v H1 _ g1 s1 r1 hp1 => ?_)
  obtain ⟨hl, hp1⟩ := PostV.if hp1
  exact ⟨JTb.st _ _ _ _ g1 hj, ρ1, δ, S1, x, hl, s1, by rw [List.append_nil]; exact r1, hp1⟩
end
end Sm

set_option Elab.async false
set_option linter.all false
set_option maxRecDepth 100000
namespace Sm
open PySem PySem.Spec PyProof.Rows L2 LamX
variable [TB]

/-! ### the canonical readings -/
def TEc (K : Fr) (mg : Str → Option Value) (W0 : WX) (J : JI) (m : EM W) : TE := fun σ H Q => ∃ ρ δ S env, EnvR K ρ δ H env σ ∧ Sts K ρ δ S H ∧ J.p ρ H ∧ Post mg K ρ δ H (RW K δ) Q (WE W0 σ) (m env S)
def TTc (K : Fr) (mg : Str → Option Value) (W0 : WX) (J : JI) (m : EM Bool) : TT := fun σ H Q => ∃ ρ δ S env, EnvR K ρ δ H env σ ∧ Sts K ρ δ S H ∧ J.p ρ H ∧ Post mg K ρ δ H RB Q (WE W0 σ) (m env S)
def TSc (K : Fr) (mg : Str → Option Value) (W0 : WX) (J : JI) (m : SM) : TS := fun D σ H => ∃ ρ δ S env, EnvR K ρ δ H env σ ∧ Sts K ρ δ S H ∧ J.p ρ H ∧ PostS mg K ρ δ H W0 D (m env S)
section
variable {X : Cx} {W0 : WX} {J : JI}
theorem SimE.can {e : Expr} {m : EM W} (h : SimE X W0 J e m) : PE X e (TEc X.K X.mg W0 J m) := by
  obtain ⟨t, p, k⟩ := h
  exact ⟨fun pins s σ H Q I ⟨ρ, δ, S, env, he, hs, hj, hp⟩ => p.run pins s σ H Q I (k ρ δ S H env σ Q he hs hj hp)⟩
theorem SimT.can {e : Expr} {m : EM Bool} (h : SimT X W0 J e m) : PT X e (TTc X.K X.mg W0 J m) := by
  obtain ⟨t, p, k⟩ := h
  exact ⟨fun pins s σ H Q I ⟨ρ, δ, S, env, he, hs, hj, hp⟩ => p.run pins s σ H Q I (k ρ δ S H env σ Q he hs hj hp)⟩
theorem SimSs.can {e : List Stmt} {m : SM} (h : SimSs X W0 J e m) : PSs X e (TSc X.K X.mg W0 J m) := by
  obtain ⟨t, p, k⟩ := h
  exact ⟨fun pins s σ H D I ⟨ρ, δ, S, env, he, hs, hj, hp⟩ => p.run pins s σ H D I (k ρ δ S H env σ D he hs hj hp)⟩
theorem SimE.of {e : Expr} {m : EM W} (h : PE X e (TEc X.K X.mg W0 J m)) : SimE X W0 J e m := ⟨_, h, fun ρ δ S H env σ Q he hs hj hp => ⟨ρ, δ, S, env, he, hs, hj, hp⟩⟩
end

/-! ### small statements -/
section
variable {X : Cx} {W0 : WX} {J : JI} {st : Stmt} {rest : List Stmt} {e a b c : Expr} {pos : Pos} {m n : SM} {me : EM W} {mt : EM Bool}
@[simp] def sNil : SM := fun env S => .nx env S
def Fl.then (f : Fl) (n : SM) : Fl := match f with
  | .nx env S => n env S
  | f => f
@[simp] def sSeq (m n : SM) : SM := fun env S => (m env S).then n
def ofE (o : Out W) (env : Env) (k : W → Sto → Fl) : Fl := match o with
  | .val w S => k w S
  | .exc e S => .xc e env S
  | .bad => .bad
@[simp] def sRet (me : EM W) : SM := fun env S => ofE (me env S) env fun w S => .rt w S
@[simp] def sRetN : SM := fun env S => .rt .non S
@[simp] def sExpr (me : EM W) : SM := fun env S => ofE (me env S) env fun _ S => .nx env S
@[simp] def sSet (i : Nat) (me : EM W) : SM := fun env S => ofE (me env S) env fun w S => .nx (env.set i (some w)) S
def ofB (o : Out Bool) (env : Env) (k : Bool → Sto → Fl) : Fl := match o with
  | .val w S => k w S
  | .exc e S => .xc e env S
  | .bad => .bad
@[simp] def sIf (mt : EM Bool) (m n : SM) : SM := fun env S => ofB (mt env S) env fun k S => if k = true then m env S else n env S
theorem PostS.here {ρ δ : List Addr} {H : Hp} {D : Ends} {env : Env} {S : Sto} {σ : L2.St} (h : PostS X.mg X.K ρ δ H W0 D (.nx env S)) (s : Sts X.K ρ δ S H) (r : EnvR X.K ρ δ H env σ) : D.nx σ H := h ρ σ H (Grow.refl _ _) s r
/-- an expression within a statement -/
theorem PostS.ofE {ρ δ : List Addr} {H : Hp} {D : Ends} {env : Env} {σ : L2.St} {o : Out W} {k : W → Sto → Fl} {Q : VK} (he : EnvR X.K ρ δ H env σ) (h : PostS X.mg X.K ρ δ H W0 D (ofE o env k))
    (q : ∀ w S ρ1 v H1, o = .val w S → Grow ρ H ρ1 H1 → Sts X.K ρ1 δ S H1 → Rep X.K ρ1 δ H1 w v → PostS X.mg X.K ρ1 δ H1 W0 D (k w S) → Q v H1) : Post X.mg X.K ρ δ H (RW X.K δ) Q (WE W0 σ) o := by
  cases o with
  | val w S => exact fun ρ1 v H1 g s r => q w S ρ1 v H1 rfl g s r (PostS.mono g h)
  | exc e S => exact fun ρ1 c d H1 g s r => h ρ1 c d σ H1 g s (he.grow g) r
  | bad => exact h
theorem PostS.ofB {ρ δ : List Addr} {H : Hp} {D : Ends} {env : Env} {σ : L2.St} {o : Out Bool} {k : Bool → Sto → Fl} {Q : Bool → Hp → Prop} (he : EnvR X.K ρ δ H env σ) (h : PostS X.mg X.K ρ δ H W0 D (ofB o env k))
    (q : ∀ w S ρ1 H1, o = .val w S → Grow ρ H ρ1 H1 → Sts X.K ρ1 δ S H1 → PostS X.mg X.K ρ1 δ H1 W0 D (k w S) → Q w H1) : Post X.mg X.K ρ δ H RB Q (WE W0 σ) o := by
  cases o with
  | val w S =>
    intro ρ1 v H1 g s r
    have r' : w = v := r
    subst r'
    exact q w S ρ1 H1 rfl g s (PostS.mono g h)
  | exc e S => exact fun ρ1 c d H1 g s r => h ρ1 c d σ H1 g s (he.grow g) r
  | bad => exact h
theorem simss_nil : SimSs X W0 J [] sNil := ⟨_, pss_nil, fun ρ δ S H env σ D he hs hj hp => PostS.here hp hs he⟩
theorem PostS.seq {ρ δ : List Addr} {H : Hp} {D D' : Ends} {f : Fl} (h : PostS X.mg X.K ρ δ H W0 D (f.then n))
    (hn : ∀ env S ρ1 σ1 H1, Grow ρ H ρ1 H1 → Sts X.K ρ1 δ S H1 → EnvR X.K ρ1 δ H1 env σ1 → PostS X.mg X.K ρ1 δ H1 W0 D (n env S) → D'.nx σ1 H1) (e1 : D'.rt = D.rt) (e2 : D'.bk = D.bk) (e3 : D'.ct = D.ct) : PostS X.mg X.K ρ δ H W0 D' f := by
  cases f with
  | nx env S => exact fun ρ1 σ1 H1 g s r => hn env S ρ1 σ1 H1 g s r (PostS.mono g h)
  | rt w S => intro ρ1 v H1 g s r; rw [e1]; exact h ρ1 v H1 g s r
  | bk env S => intro ρ1 v H1 g s r; rw [e2]; exact h ρ1 v H1 g s r
  | ct env S => intro ρ1 v H1 g s r; rw [e3]; exact h ρ1 v H1 g s r
  | xc e env S => exact h
  | bad => exact h
theorem simss_cons (h1 : SimS X W0 J st m) (h2 : SimSs X W0 J rest n) : SimSs X W0 J (st :: rest) (sSeq m n) := by
  obtain ⟨t1, p1, k1⟩ := h1
  obtain ⟨t2, p2, k2⟩ := h2
  refine ⟨_, pss_cons p1 p2, fun ρ δ S H env σ D he hs hj hp => ?_⟩
  refine k1 ρ δ S H env σ _ he hs hj (PostS.seq hp (fun env1 S1 ρ1 σ1 H1 g s r hq => ?_) rfl rfl rfl)
  exact k2 ρ1 δ S1 H1 env1 σ1 D r s (J.st _ _ _ _ g hj) hq
theorem simss_one (h1 : SimS X W0 J st m) : SimSs X W0 J [st] m := by
  obtain ⟨t1, p1, k1⟩ := h1
  exact ⟨_, pss_one p1, k1⟩
theorem sims_ret (h : SimE X W0 J e me) : SimS X W0 J (.Return (some e) pos) (sRet me) := by
  obtain ⟨t, p, k⟩ := h
  exact ⟨_, ps_ret p, fun ρ δ S H env σ D he hs hj hp => k ρ δ S H env σ _ he hs hj (PostS.ofE he hp fun w S1 ρ1 v H1 _ g s r q => q ρ1 v H1 (Grow.refl _ _) s r)⟩
theorem sims_retN : SimS X W0 J (.Return none pos) sRetN := ⟨_, ps_retN, fun ρ δ S H env σ D he hs hj hp => hp ρ .non H (Grow.refl _ _) hs .non⟩
theorem sims_pass : SimS X W0 J (.Pass pos) sNil := ⟨_, ps_pass, fun ρ δ S H env σ D he hs hj hp => PostS.here hp hs he⟩
@[simp] def sBrk : SM := fun env S => .bk env S
@[simp] def sCnt : SM := fun env S => .ct env S
theorem sims_break : SimS X W0 J (.Break pos) sBrk := ⟨_, ps_break, fun ρ δ S H env σ D he hs hj hp => hp ρ σ H (Grow.refl _ _) hs he⟩
theorem sims_continue : SimS X W0 J (.Continue pos) sCnt := ⟨_, ps_continue, fun ρ δ S H env σ D he hs hj hp => hp ρ σ H (Grow.refl _ _) hs he⟩
theorem sims_expr (h : SimE X W0 J e me) (hsw : swapsWith e none pos.line X.env = pure false := by rfl) : SimS X W0 J (.Expr e pos) (sExpr me) := by
  obtain ⟨t, p, k⟩ := h
  exact ⟨_, ps_expr p hsw, fun ρ δ S H env σ D he hs hj hp => k ρ δ S H env σ _ he hs hj (PostS.ofE he hp fun w S1 ρ1 v H1 _ g s r q => PostS.here q s (he.grow g))⟩
theorem sims_doc {x j pos'} : SimS X W0 J (.Expr (.Constant (.str x) j pos) pos') sNil := ⟨_, ps_doc, fun ρ δ S H env σ D he hs hj hp => PostS.here hp hs he⟩
theorem sims_set {i : Nat} {x : Str} {pos' : Pos} (hN : X.N.Nodup) (hi : X.N[i]? = some x) (hx : Loc X.env.scope x) (h : SimE X W0 J e me) (hsw : swapsWith e (some (.Name x pos')) pos.line X.env = pure false := by rfl) (hf : X.fn x = true ∨ X.env.scope.names.lookup x = some .local := by first | exact .inl rfl | exact .inr rfl | assumption) :
    SimS X W0 J (.Assign [.Name x pos'] e pos) (sSet i me) := by
  obtain ⟨t, p, k⟩ := h
  exact ⟨_, ps_set hN hi hx p hsw hf, fun ρ δ S H env σ D he hs hj hp => k ρ δ S H env σ _ he hs hj (PostS.ofE he hp fun w S1 ρ1 v H1 _ g s r q => PostS.here q s ((he.grow g).set i r))⟩
theorem sims_if {A B : List Stmt} (hc : SimT X W0 J c mt) (ha : SimSs X W0 J A m) (hb : SimSs X W0 J B n) : SimS X W0 J (.If c A B pos) (sIf mt m n) := by
  obtain ⟨tc, pc, kc⟩ := hc
  obtain ⟨t1, p1, k1⟩ := ha
  obtain ⟨t2, p2, k2⟩ := hb
  refine ⟨_, ps_if pc p1 p2, fun ρ δ S H env σ D he hs hj hp => ?_⟩
  refine kc ρ δ S H env σ _ he hs hj (PostS.ofB he hp fun w S1 ρ1 H1 _ g s q => ?_)
  cases w with
  | true => exact iteT (k1 ρ1 δ S1 H1 env σ D (he.grow g) s (J.st _ _ _ _ g hj) q)
  | false => exact iteF (k2 ρ1 δ S1 H1 env σ D (he.grow g) s (J.st _ _ _ _ g hj) q)
end

/-! ### targets -/
def GS (K : Fr) (ixs : List Nat) (gt : TG) (g : W → Env → Option Env) : Prop := ∀ ρ δ S H env σ w v Q, EnvR K ρ δ H env σ → Sts K ρ δ S H → Rep K ρ δ H w v → ∀ env', g w env = some env' →
  (∀ σ', EnvR K ρ δ H env' σ' → (∀ vs : List Nat, (∀ i ∈ ixs, i ∈ vs) → wipe σ' vs = wipe σ vs) → Q σ' H) → gt v σ H Q
def GSs (K : Fr) (ixs : List Nat) (gt : TGs) (g : List W → Env → Option Env) : Prop := ∀ ρ δ S H env σ w v Q, EnvR K ρ δ H env σ → Sts K ρ δ S H → Reps K ρ δ H w v → ∀ env', g w env = some env' →
  (∀ σ', EnvR K ρ δ H env' σ' → (∀ vs : List Nat, (∀ i ∈ ixs, i ∈ vs) → wipe σ' vs = wipe σ vs) → Q σ' H) → gt v σ H Q
theorem wipe_length' (σ : L2.St) : ∀ vs, (wipe σ vs).length = σ.length := wipe_length σ
theorem wipe_get (σ : L2.St) (j : Nat) : ∀ vs : List Nat, (wipe σ vs)[j]? = if j ∈ vs ∧ j < σ.length then some none else σ[j]?
  | [] => by simp [wipe]
  | v :: vs => by
    unfold wipe
    by_cases e : v = j
    · subst e
      by_cases hl : v < σ.length
      · rw [List.getElem?_set_self (by rw [wipe_length]; exact hl)]; simp [hl]
      · rw [List.getElem?_eq_none (by rw [List.length_set, wipe_length]; omega), if_neg (by simp [hl]), List.getElem?_eq_none (by omega)]
    · rw [List.getElem?_set_ne e, wipe_get σ j vs]
      simp [Ne.symm e]
theorem wipe_set (σ : L2.St) (i : Nat) (o : Option V) (vs : List Nat) (h : i ∈ vs) : wipe (σ.set i o) vs = wipe σ vs := by
  apply List.ext_getElem?
  intro j
  rw [wipe_get, wipe_get, List.length_set]
  by_cases e : j ∈ vs ∧ j < σ.length
  · rw [if_pos e, if_pos e]
  · rw [if_neg e, if_neg e]
    by_cases ej : i = j
    · subst ej
      have hl : ¬ i < σ.length := fun z => e ⟨h, z⟩
      rw [List.getElem?_eq_none (by rw [List.length_set]; omega), List.getElem?_eq_none (by omega)]
    · rw [List.getElem?_set_ne ej]
@[simp] def gN (i : Nat) : W → Env → Option Env := fun w env => some (env.set i (some w))
theorem gs_name {K : Fr} (i : Nat) : GS K [i] (gName i) (gN i) := by
  intro ρ δ S H env σ w v Q he hs r env' e k
  cases e
  exact k _ (he.set i r) fun vs h => wipe_set σ i _ vs (h i (by simp))
def gT (gs : List W → Env → Option Env) : W → Env → Option Env
  | .tup ws, env => gs ws env
  | _, _ => none
def gsN : List W → Env → Option Env
  | [], env => some env
  | _, _ => none
def gsC (g : W → Env → Option Env) (gs : List W → Env → Option Env) : List W → Env → Option Env
  | w :: ws, env => (g w env).bind (gs ws)
  | _, _ => none
theorem gss_nil {K : Fr} : GSs K [] gNil gsN := by
  intro ρ δ S H env σ w v Q he hs r env' e k
  cases r with
  | nil => cases e; exact ⟨rfl, k _ he fun _ _ => rfl⟩
  | cons _ _ => cases e
theorem gss_cons {K : Fr} {i1 i2 : List Nat} {gt : TG} {gts : TGs} {g : W → Env → Option Env} {gs : List W → Env → Option Env} (h1 : GS K i1 gt g) (h2 : GSs K i2 gts gs) : GSs K (i1 ++ i2) (gCons gt gts) (gsC g gs) := by
  intro ρ δ S H env σ w v Q he hs r env' e k
  cases r with
  | nil => cases e
  | @cons w0 v0 ws vs r t =>
    have e : (g w0 env).bind (gs ws) = some env' := e
    cases e1 : g w0 env with
    | none => rw [e1] at e; cases e
    | some env1 =>
      rw [e1] at e
      refine ⟨v0, vs, rfl, h1 ρ δ S H env σ w0 v0 _ he hs r env1 e1 fun σ1 he1 hw1 => ?_⟩
      refine h2 ρ δ S H env1 σ1 ws vs _ he1 hs t env' e fun σ2 he2 hw2 => k σ2 he2 fun xs hx => ?_
      rw [hw2 xs fun i hi => hx i (List.mem_append_right _ hi), hw1 xs fun i hi => hx i (List.mem_append_left _ hi)]
theorem gs_tup {K : Fr} {ixs : List Nat} {n : Nat} {gts : TGs} {gs : List W → Env → Option Env} (h : GSs K ixs gts gs) (hn : ∀ ws env env', gs ws env = some env' → ws.length = n) : GS K ixs (gTup K n gts) (gT gs) := by
  intro ρ δ S H env σ w v Q he hs r env' e k
  cases r with
  | tup f t => exact ⟨_, _, rfl, f.sq, by rw [← Reps.length t]; exact hn _ _ _ e, h ρ δ S H env σ _ _ _ he hs t env' e k⟩
  | _ => cases e

/-! ### what a loop walks -/
inductive It8 where
  | seq (ws : List W) | bx (n : Nat) | en (n : Nat)
def It8.at (it : It8) (S : Sto) (i : Nat) : Option (Option W) := match it with
  | .seq ws => some ws[i]?
  | .bx n => match S[n]? with
    | some (.lst ws) => some ws[i]?
    | _ => none
  | .en n => match S[n]? with
    | some (.lst ws) => some (ws[i]?.map fun w => .tup [.int ((i : Nat) : Int), w])
    | _ => none
def It8.fuel (it : It8) (S : Sto) : Nat := match it with
  | .seq ws => ws.length + 1
  | .bx n => match S[n]? with
    | some (.lst ws) => ws.length + 1
    | _ => 0
  | .en n => match S[n]? with
    | some (.lst ws) => ws.length + 1
    | _ => 0
structure Later (K : Fr) (ρ δ : List Addr) (H : Hp) (ρ' δ' : List Addr) (S' : Sto) (H' : Hp) : Prop where
  g : Grow ρ H ρ' H'
  d : ∀ a ∈ δ', a ∈ δ ∨ H a = none
  s : Sts K ρ' δ' S' H'
theorem Later.car {K : Fr} {ρ δ ρ' δ' : List Addr} {H H' : Hp} {S' : Sto} (l : Later K ρ δ H ρ' δ' S' H') : Car K ρ δ H ρ' δ' H' := by
  have hd : ∀ a u, H a = some u → a ∉ δ → a ∉ δ' := fun a u q n hm => by
    rcases l.d a hm with z | z
    · exact n z
    · rw [z] at q; cases q
  refine ⟨fun a vs f => ?_, fun a vs f => ?_, fun a vs f => ?_, fun n a e k => ⟨l.g.at e, l.g.ty a k⟩, fun a lo hi f => ⟨l.g.keep _ _ f.1 f.2.1 (fun _ z => by cases z), l.g.out f.1 f.2.1 (fun _ z => by cases z), hd _ _ f.1 f.2.2⟩⟩
  · rcases f with ⟨f, f1, f2⟩ | f
    · obtain ⟨u, q, z⟩ := Rd.some f (fun _ z => by cases z)
      exact .inl ⟨l.g.rd f f1 (fun _ z => by cases z), l.g.out q f1 z, hd a u q f2⟩
    · exact .inr f
  · exact ⟨l.g.keep _ _ f.1 f.2.1 (fun _ z => by cases z), l.g.out f.1 f.2.1 (fun _ z => by cases z), hd _ _ f.1 f.2.2⟩
  · exact ⟨l.g.keep _ _ f.1 f.2.1 (fun _ z => by cases z), l.g.out f.1 f.2.1 (fun _ z => by cases z), hd _ _ f.1 f.2.2⟩
def ItR (K : Fr) (δ : List Addr) : List Addr → Hp → It8 → It → Prop := fun ρ H it J => ∀ i ρ' δ' S' H', Later K ρ δ H ρ' δ' S' H' → (it.at S' i = some none → J.stop i H') ∧
  ∀ w, it.at S' i = some (some w) → J.go i H' ∧ ∀ x H'', J.yld i H' x H'' → Grow ρ' H' ρ' H'' ∧ Sts K ρ' δ' S' H'' ∧ Rep K ρ' δ' H'' w x ∧ ∀ d ∈ δ', H'' d = H' d
def SimI (X : Cx) (W0 : WX) (J : JI) (tg iter : Expr) (m : EM It8) : Prop :=
  ∃ wi : TI, PI X tg iter wi ∧ ∀ ρ δ S H env σ R, EnvR X.K ρ δ H env σ → Sts X.K ρ δ S H → J.p ρ H → Post X.mg X.K ρ δ H (ItR X.K δ) R (WE W0 σ) (m env S) → wi σ H R
theorem itR_tup {K : Fr} {ρ δ : List Addr} {H : Hp} {a : Addr} {ws : List W} {vs : List V} (f : FzT K ρ δ H a vs) (r : Reps K ρ δ H ws vs) : ItR K δ ρ H (.seq ws) (Itt K a) := by
  intro i ρ' δ' S' H' l
  have f' := l.car.t _ _ f
  have r' := l.car.reps r
  refine ⟨fun e => ?_, fun w e => ?_⟩
  · refine ⟨vs, f'.sq, ?_⟩
    have e' : ws[i]? = none := by simpa [It8.at] using e
    rw [← Reps.length r']; exact List.getElem?_eq_none_iff.mp e'
  · have e' : ws[i]? = some w := by simpa [It8.at] using e
    obtain ⟨v, h1, h2⟩ := r'.get e'
    refine ⟨⟨vs, v, f'.sq, h1⟩, fun x H'' y => ?_⟩
    obtain ⟨rfl, y⟩ := y
    have ex : v = x := Option.some.inj (h1.symm.trans (y vs f'.sq))
    subst ex
    exact ⟨Grow.refl _ _, l.s, h2, fun _ _ => rfl⟩
theorem itR_sq {K : Fr} {ρ δ : List Addr} {H : Hp} {a : Addr} {ws : List W} {vs : List V} (f : ∀ ρ' δ' H', Car K ρ δ H ρ' δ' H' → SqL K H' a vs) (r : Reps K ρ δ H ws vs) : ItR K δ ρ H (.seq ws) (Itl K a) := by
  intro i ρ' δ' S' H' l
  have f' := f _ _ _ l.car
  have r' := l.car.reps r
  refine ⟨fun e => ?_, fun w e => ?_⟩
  · refine ⟨vs, f', ?_⟩
    have e' : ws[i]? = none := by simpa [It8.at] using e
    rw [← Reps.length r']; exact List.getElem?_eq_none_iff.mp e'
  · have e' : ws[i]? = some w := by simpa [It8.at] using e
    obtain ⟨v, h1, h2⟩ := r'.get e'
    refine ⟨⟨vs, v, f', h1⟩, fun x H'' y => ?_⟩
    obtain ⟨rfl, y⟩ := y
    have ex : v = x := Option.some.inj (h1.symm.trans (y vs f'))
    subst ex
    exact ⟨Grow.refl _ _, l.s, h2, fun _ _ => rfl⟩
theorem itR_box {K : Fr} {ρ δ : List Addr} {H : Hp} {a : Addr} {n : Nat} (f : ρ[n]? = some a) (hk : kdH H a = 1) : ItR K δ ρ H (.bx n) (Itl K a) := by
  intro i ρ' δ' S' H' l
  obtain ⟨f', k'⟩ := l.car.b _ _ f (by rw [hk]; decide)
  obtain ⟨ws, vs, h1, h2, r'⟩ := l.s.lst f' (k'.trans hk)
  have sq : SqL K H' a vs := .inl (.inl h2)
  refine ⟨fun e => ?_, fun w e => ?_⟩
  · refine ⟨vs, sq, ?_⟩
    have e' : ws[i]? = none := by simpa [It8.at, h1] using e
    rw [← Reps.length r']; exact List.getElem?_eq_none_iff.mp e'
  · have e' : ws[i]? = some w := by simpa [It8.at, h1] using e
    obtain ⟨v, q1, q2⟩ := r'.get e'
    refine ⟨⟨vs, v, sq, q1⟩, fun x H'' y => ?_⟩
    obtain ⟨rfl, y⟩ := y
    have ex : v = x := Option.some.inj (q1.symm.trans (y vs sq))
    subst ex
    exact ⟨Grow.refl _ _, l.s, q2, fun _ _ => rfl⟩
def rangeW (lo : Int) (n : Nat) : List W := (List.range n).map fun (i : Nat) => W.int (lo + (i : Int))
theorem itR_rng {K : Fr} {ρ δ : List Addr} {H : Hp} {lo : Int} {n : Nat} : ItR K δ ρ H (.seq (rangeW lo n)) (Itr lo n) := by
  intro i ρ' δ' S' H' l
  refine ⟨fun e => ?_, fun w e => ?_⟩
  · have e' : (rangeW lo n)[i]? = none := by simpa [It8.at] using e
    have := List.getElem?_eq_none_iff.mp e'
    show n ≤ i
    simpa [rangeW] using this
  · have e' : (rangeW lo n)[i]? = some w := by simpa [It8.at] using e
    have hl : i < n := by
      have := (List.getElem?_eq_some_iff.mp e').1
      simpa [rangeW] using this
    have ew : w = .int (lo + (i : Int)) := by
      unfold rangeW at e'
      rw [List.getElem?_map, List.getElem?_range hl] at e'
      exact (Option.some.inj e').symm
    subst ew
    refine ⟨hl, fun x H'' y => ?_⟩
    obtain ⟨rfl, rfl⟩ := y
    exact ⟨Grow.refl _ _, l.s, .int, fun _ _ => rfl⟩
section
variable {X : Cx} {W0 : WX} {J : JI} {tg e a b : Expr} {me ma mb : EM W} {pos p : Pos}
def itTup : W → M It8
  | .tup ws => ret (.seq ws)
  | _ => bad
def itLst : W → M It8
  | .lst ws => ret (.seq ws)
  | .scr ws => ret (.seq ws)
  | .box n => ret (.bx n)
  | _ => bad
@[simp] def mI (f : W → M It8) (me : EM W) : EM It8 := fun env => bnd (me env) f
theorem simi_tup (h : SimE X W0 J e me) : SimI X W0 J tg e (mI itTup me) := by
  obtain ⟨t, p, k⟩ := h
  refine ⟨_, pi_tup p, fun ρ δ S H env σ R he hs hj hp => ?_⟩
  refine k _ _ S _ env σ _ he hs hj (Post.bind hp fun x S1 ρ1 v H1 _ g1 s1 r1 hp1 => ?_)
  cases r1 with
  | tup f r => exact ⟨_, rfl, ⟨_, f.sq⟩, hp1 ρ1 _ H1 (Grow.refl _ _) s1 (itR_tup f r)⟩
  | _ => exact hp1.elim
theorem simi_lst (h : SimE X W0 J e me) : SimI X W0 J tg e (mI itLst me) := by
  obtain ⟨t, p, k⟩ := h
  refine ⟨_, pi_list p, fun ρ δ S H env σ R he hs hj hp => ?_⟩
  refine k _ _ S _ env σ _ he hs hj (Post.bind hp fun x S1 ρ1 v H1 _ g1 s1 r1 hp1 => ?_)
  cases r1 with
  | lst f r => exact ⟨_, rfl, ⟨_, f.sq⟩, hp1 ρ1 _ H1 (Grow.refl _ _) s1 (itR_sq (fun _ _ _ c => (c.m _ _ f).sq) r)⟩
  | scr f r => exact ⟨_, rfl, ⟨_, f.sq⟩, hp1 ρ1 _ H1 (Grow.refl _ _) s1 (itR_sq (fun _ _ _ c => (c.l _ _ f).sq) r)⟩
  | @box n a f hk =>
    obtain ⟨ws, vs, h1, h2, r'⟩ := s1.lst f hk
    exact ⟨_, rfl, ⟨_, .inl (.inl h2)⟩, hp1 ρ1 _ H1 (Grow.refl _ _) s1 (itR_box f hk)⟩
  | _ => exact hp1.elim
@[simp] def big : Int := 1000000000
def itR1 : List W → M It8
  | [.int j] => fun S => if -big ≤ j ∧ j ≤ big then .val (.seq (rangeW 0 j.toNat)) S else .bad
  | _ => bad
def itR2 : List W → M It8
  | [.int i, .int j] => fun S => if (-big ≤ i ∧ i ≤ big) ∧ -big ≤ j ∧ j ≤ big then .val (.seq (rangeW i (j - i).toNat)) S else .bad
  | _ => bad
@[simp] def mIa (f : List W → M It8) (ms : EM (List W)) : EM It8 := fun env => bnd (ms env) f
theorem simi_r1 {ms : EM (List W)} (hg : Gl X "range") (hm : X.mg "range" = none) (ha : SimA X W0 J [a] ms) (hs : starEach [a] X.env = [(false, eval a X.env)] := by rfl) : SimI X W0 J tg (.Call (.Name "range" p) [a] [] pos) (mIa itR1 ms) := by
  obtain ⟨t, pa, k⟩ := ha
  refine ⟨_, pi_range1 hg hm pa hs, fun ρ δ S H env σ R he hs hj hp => ?_⟩
  refine k _ _ S _ env σ _ he hs hj (Post.bind hp fun x S1 ρ1 v H1 _ g1 s1 r1 hp1 => ?_)
  cases r1 with
  | nil => exact hp1.elim
  | cons r t =>
    cases t with
    | nil =>
      cases r with
      | @int j =>
        obtain ⟨⟨h1, h2⟩, hp1⟩ := ifO (R := Post X.mg X.K ρ1 δ H1 (ItR X.K δ) R (WE W0 σ)) hp1 id
        unfold big at h1 h2
        exact ⟨j, rfl, by omega, by omega, hp1 ρ1 _ H1 (Grow.refl _ _) s1 itR_rng⟩
      | _ => exact hp1.elim
    | cons _ _ => cases r <;> exact hp1.elim
theorem simi_r2 {ms : EM (List W)} (hg : Gl X "range") (hm : X.mg "range" = none) (ha : SimA X W0 J [a, b] ms) (hs : starEach [a, b] X.env = [(false, eval a X.env), (false, eval b X.env)] := by rfl) (hs2 : starEach [b] X.env = [(false, eval b X.env)] := by rfl) : SimI X W0 J tg (.Call (.Name "range" p) [a, b] [] pos) (mIa itR2 ms) := by
  obtain ⟨t, pa, k⟩ := ha
  refine ⟨_, pi_range2 hg hm pa hs hs2, fun ρ δ S H env σ R he hs hj hp => ?_⟩
  refine k _ _ S _ env σ _ he hs hj (Post.bind hp fun x S1 ρ1 v H1 _ g1 s1 r1 hp1 => ?_)
  cases r1 with
  | nil => exact hp1.elim
  | cons r t =>
    cases t with
    | nil => cases r <;> exact hp1.elim
    | cons r' t =>
      cases t with
      | nil =>
        cases r with
        | @int i =>
          cases r' with
          | @int j =>
            obtain ⟨⟨⟨h1, h2⟩, h3, h4⟩, hp1⟩ := ifO (R := Post X.mg X.K ρ1 δ H1 (ItR X.K δ) R (WE W0 σ)) hp1 id
            unfold big at h1 h2 h3 h4
            exact ⟨i, j, rfl, ⟨by omega, by omega, by omega, by omega⟩, hp1 ρ1 _ H1 (Grow.refl _ _) s1 itR_rng⟩
          | _ => exact hp1.elim
        | _ => cases r' <;> exact hp1.elim
      | cons _ _ => cases r <;> cases r' <;> exact hp1.elim
end

/-! ### for -/
def loopF (it : It8) (g : W → Env → Option Env) (body : SM) : Nat → Nat → SM
  | 0, _ => fun _ _ => .bad
  | k + 1, i => fun env S => match it.at S i with
    | none => .bad
    | some none => .nx env S
    | some (some w) => match g w env with
      | none => .bad
      | some env1 => match body env1 S with
        | .nx env2 S2 => loopF it g body k (i + 1) env2 S2
        | .ct env2 S2 => loopF it g body k (i + 1) env2 S2
        | .bk env2 S2 => .nx env2 S2
        | .rt v S2 => .rt v S2
        | .xc e env2 S2 => .xc e env2 S2
        | .bad => .bad
def ofI (o : Out It8) (env : Env) (k : It8 → Sto → Fl) : Fl := match o with
  | .val w S => k w S
  | .exc e S => .xc e env S
  | .bad => .bad
@[simp] def sFor (mi : EM It8) (g : W → Env → Option Env) (body : SM) : SM := fun env S => ofI (mi env S) env fun it S => loopF it g body (it.fuel S) 0 env S
section
variable {X : Cx} {W0 : WX} {J : JI} {tg iter : Expr} {body : List Stmt} {mi : EM It8} {g : W → Env → Option Env} {m : SM} {pos : Pos} {ixs : List Nat} {gt : TG}
theorem sims_for (hp : PassesOwn (model X.prog X.w) X.A X.env X.xe) (hc : X.calm = true) (hi : SimI X W0 J tg iter mi) (hg : PG X tg gt) (gs : GS X.K ixs gt g) (hb : SimSs X W0 J body m)
    (hs : ∀ x, foldedSetIterable iter X.env x = pure x := by intro _; rfl) : SimS X W0 J (.For tg iter body [] pos) (sFor mi g m) := by
  obtain ⟨wi, pi, ki⟩ := hi
  obtain ⟨tb, pb, kb⟩ := hb
  refine ⟨_, ps_for hp hc pi hg pb hs, fun ρ δ S H env σ D he hsts hj hpost => ?_⟩
  refine ki ρ δ S H env σ _ he hsts hj ?_
  have hpost : PostS X.mg X.K ρ δ H W0 D (ofI (mi env S) env fun it S => loopF it g m (it.fuel S) 0 env S) := hpost
  cases eo : mi env S with
  | bad => rw [eo] at hpost; exact hpost
  | exc e S1 => rw [eo] at hpost; exact fun ρ1 c d H1 g1 s1 r1 => hpost ρ1 c d σ H1 g1 s1 (he.grow g1) r1
  | val it S1 =>
    rw [eo] at hpost
    intro ρ1 Jt H1 g1 s1 ir
    have hpost := PostS.mono g1 hpost
    refine ⟨fun i k σ' H' => ∃ ρ' env' S', Grow ρ1 H1 ρ' H' ∧ Sts X.K ρ' δ S' H' ∧ EnvR X.K ρ' δ H' env' σ' ∧ PostS X.mg X.K ρ' δ H' W0 D (loopF it g m k i env' S'), ⟨it.fuel S1, ρ1, env, S1, Grow.refl _ _, s1, he.grow g1, hpost⟩, ?_⟩
    rintro i k σ' H' ⟨ρ', env', S', g2, s2, e2, p2⟩
    cases k with
    | zero => exact p2.elim
    | succ k =>
      have lt : Later X.K ρ1 δ H1 ρ' δ S' H' := ⟨g2, fun a ha => .inl ha, s2⟩
      obtain ⟨ir1, ir2⟩ := ir i ρ' δ S' H' lt
      unfold loopF at p2
      cases ea : it.at S' i with
      | none => rw [ea] at p2; exact p2.elim
      | some o =>
        cases o with
        | none => rw [ea] at p2; exact .inl ⟨ir1 ea, PostS.here p2 s2 e2⟩
        | some w =>
          rw [ea] at p2
          obtain ⟨go, yl⟩ := ir2 w ea
          refine .inr ⟨go, fun σ3 H3 => ∃ ρ3 env3 S3, Grow ρ1 H1 ρ3 H3 ∧ Sts X.K ρ3 δ S3 H3 ∧ EnvR X.K ρ3 δ H3 env3 σ3 ∧ PostS X.mg X.K ρ3 δ H3 W0 D (loopF it g m k (i + 1) env3 S3), fun σ3 H3 h3 => ⟨k, by omega, h3⟩, fun x H3 y => ?_⟩
          obtain ⟨g3, s3, r3, _⟩ := yl x H3 y
          cases eg : g w env' with
          | none => simp only [eg] at p2; exact p2.elim
          | some env1 =>
            simp only [eg] at p2
            refine gs ρ' δ S' H3 env' σ' w x _ (e2.grow g3) s3 r3 env1 eg fun σ4 e4 _ => ?_
            refine kb ρ' δ S' H3 env1 σ4 _ e4 s3 (J.st _ _ _ _ (g1.trans (g2.trans g3)) hj) ?_
            have p3 := PostS.mono g3 p2
            cases eb : m env1 S' with
            | nx env5 S5 => rw [eb] at p3; exact fun ρ5 σ5 H5 g5 s5 e5 => ⟨ρ5, env5, S5, g2.trans (g3.trans g5), s5, e5, PostS.mono g5 p3⟩
            | ct env5 S5 => rw [eb] at p3; exact fun ρ5 σ5 H5 g5 s5 e5 => ⟨ρ5, env5, S5, g2.trans (g3.trans g5), s5, e5, PostS.mono g5 p3⟩
            | bk env5 S5 => rw [eb] at p3; exact fun ρ5 σ5 H5 g5 s5 e5 => p3 ρ5 σ5 H5 g5 s5 e5
            | rt v5 S5 => rw [eb] at p3; exact p3
            | xc x5 env5 S5 => rw [eb] at p3; exact p3
            | bad => rw [eb] at p3; exact p3
/-! ### while -/
def whileF (mt : EM Bool) (body : SM) : Nat → SM
  | 0 => fun _ _ => .bad
  | k + 1 => fun env S => ofB (mt env S) env fun b S1 => if b = true then (match body env S1 with
        | .nx env2 S2 => whileF mt body k env2 S2
        | .ct env2 S2 => whileF mt body k env2 S2
        | .bk env2 S2 => .nx env2 S2
        | .rt v S2 => .rt v S2
        | .xc e env2 S2 => .xc e env2 S2
        | .bad => .bad) else .nx env S1
theorem sims_while (fuel : Nat) {c : Expr} {mt : EM Bool} (hp : PassesOwn (model X.prog X.w) X.A X.env X.xe) (hc : SimT X W0 J c mt) (hb : SimSs X W0 J body m) : SimS X W0 J (.While c body [] pos) (whileF mt m fuel) := by
  obtain ⟨tc, pc, kc⟩ := hc
  obtain ⟨tb, pb, kb⟩ := hb
  refine ⟨_, ps_while hp pc pb, fun ρ δ S H env σ D he hsts hj hpost => ?_⟩
  refine ⟨fun k σ' H' => ∃ ρ' env' S', Grow ρ H ρ' H' ∧ Sts X.K ρ' δ S' H' ∧ EnvR X.K ρ' δ H' env' σ' ∧ PostS X.mg X.K ρ' δ H' W0 D (whileF mt m k env' S'), ⟨fuel, ρ, env, S, Grow.refl _ _, hsts, he, hpost⟩, ?_⟩
  rintro k σ' H' ⟨ρ', env', S', g2, s2, e2, p2⟩
  cases k with
  | zero => exact p2.elim
  | succ k =>
    unfold whileF at p2
    refine kc ρ' δ S' H' env' σ' _ e2 s2 (J.st _ _ _ _ g2 hj) (PostS.ofB e2 p2 fun w S1 ρ1 H1 _ g1 s1 q => ?_)
    cases w with
    | false => exact iteF (PostS.here q s1 (e2.grow g1))
    | true =>
      refine iteT ⟨fun σ3 H3 => ∃ ρ3 env3 S3, Grow ρ H ρ3 H3 ∧ Sts X.K ρ3 δ S3 H3 ∧ EnvR X.K ρ3 δ H3 env3 σ3 ∧ PostS X.mg X.K ρ3 δ H3 W0 D (whileF mt m k env3 S3), fun σ3 H3 h3 => ⟨k, by omega, h3⟩, ?_⟩
      refine kb ρ1 δ S1 H1 env' σ' _ (e2.grow g1) s1 (J.st _ _ _ _ (g2.trans g1) hj) ?_
      rw [if_pos rfl] at q
      cases eb : m env' S1 with
      | nx env5 S5 => rw [eb] at q; exact fun ρ5 σ5 H5 g5 s5 e5 => ⟨ρ5, env5, S5, g2.trans (g1.trans g5), s5, e5, PostS.mono g5 q⟩
      | ct env5 S5 => rw [eb] at q; exact fun ρ5 σ5 H5 g5 s5 e5 => ⟨ρ5, env5, S5, g2.trans (g1.trans g5), s5, e5, PostS.mono g5 q⟩
      | bk env5 S5 => rw [eb] at q; exact fun ρ5 σ5 H5 g5 s5 e5 => q ρ5 σ5 H5 g5 s5 e5
      | rt v5 S5 => rw [eb] at q; exact q
      | xc x5 env5 S5 => rw [eb] at q; exact q
      | bad => rw [eb] at q; exact q
end
end Sm

set_option Elab.async false
set_option linter.all false
set_option maxRecDepth 100000
namespace Sm
open PySem PySem.Spec PyProof.Rows L2 LamX
variable [TB]

abbrev WF : WX := fun _ _ _ _ => False
/-! ### comprehensions -/
def lcF (it : It8) (g : W → Env → Option Env) (tst : EM Bool) (el : EM W) (env0 : Env) : Nat → Nat → List W → M W
  | 0, _, _ => bad
  | k + 1, i, acc => fun S => match it.at S i with
    | none => .bad
    | some none => .val (.lst acc) S
    | some (some w) => match g w env0 with
      | none => .bad
      | some env1 => match tst env1 S with
        | .val false S1 => lcF it g tst el env0 k (i + 1) acc S1
        | .val true S1 => match el env1 S1 with
          | .val y S2 => if acc.length ≤ lim then lcF it g tst el env0 k (i + 1) (acc ++ [y]) S2 else .bad
          | _ => .bad
        | _ => .bad
@[simp] def mLC (own : List Nat) (mi : EM It8) (g : W → Env → Option Env) (tst : EM Bool) (el : EM W) : EM W := fun env => bnd (mi env) fun it S => lcF it g tst el (wipeE env own) (it.fuel S) 0 [] S
@[simp] def mYes : EM Bool := fun _ => ret true
section
variable {X : Cx} {W0 : WX} {J : JI} {elt tg iter : Expr} {ifs : List Expr} {scope : Scope} {own : List (Str × Nat)} {pos : Pos} {mi : EM It8} {g : W → Env → Option Env} {gt : TG} {tst : EM Bool} {el : EM W} {ixs : List Nat}
theorem lc_go {wi : TI} (ki : ∀ ρ δ S H env σ R, EnvR X.K ρ δ H env σ → Sts X.K ρ δ S H → J.p ρ H → Post X.mg X.K ρ δ H (ItR X.K δ) R (WE W0 σ) (mi env S) → wi σ H R) (gs : GS X.K ixs gt g) (hix : ∀ i ∈ ixs, i ∈ own.map (·.2))
    (ρ δ S H env σ Q) (he : EnvR X.K ρ δ H env σ) (hs : Sts X.K ρ δ S H) (hj : J.p ρ H) (hp : PostV X ρ δ H Q (WE W0 σ) (mLC (own.map (·.2)) mi g tst el env S)) : tLc wi gt (TTc X.K X.mg WF J tst) (TEc X.K X.mg WF J el) (own.map (·.2)) σ H Q := by
  refine ki _ _ S _ env σ _ he hs hj (Post.bind hp fun it S1 ρ1 Jt H1 _ g1 s1 ir hp1 => ?_)
  intro D nD
  obtain ⟨nD1, nD2⟩ := s1.new nD
  refine ⟨fun i k H' => ∃ ρ' S' acc vacc, Grow ρ1 H1 ρ' H' ∧ Sts X.K ρ' (D :: δ) S' H' ∧ H' D = some (.lst vacc) ∧ Reps X.K ρ' (D :: δ) H' acc vacc ∧ PostV X ρ1 δ H1 Q (WE W0 σ) (lcF it g tst el (wipeE env (own.map (·.2))) k i acc S'),
    ⟨it.fuel S1, ρ1, S1, [], [], Grow.laid nD, s1.hide nD (fun _ z => by cases z), upd_same, .nil, hp1⟩, ?_⟩
  rintro i k H' ⟨ρ', S', acc, vacc, g2, s2, hD, ra, p2⟩
  cases k with
  | zero => exact p2.elim
  | succ k =>
    have lt : Later X.K ρ1 δ H1 ρ' (D :: δ) S' H' := ⟨g2, fun a ha => by
      rcases List.mem_cons.mp ha with e | ha
      · rw [e]; exact .inr nD
      · exact .inl ha, s2⟩
    obtain ⟨ir1, ir2⟩ := ir i ρ' (D :: δ) S' H' lt
    unfold lcF at p2
    cases ea : it.at S' i with
    | none => rw [ea] at p2; exact p2.elim
    | some o =>
      cases o with
      | none =>
        rw [ea] at p2
        refine .inl ⟨ir1 ea, p2 ρ' (.ref D) H' g2 s2.show (.lst ⟨hD, s2.dj D (by simp), nD2⟩ (Car.show.reps ra))⟩
      | some w =>
        rw [ea] at p2
        obtain ⟨go, yl⟩ := ir2 w ea
        refine .inr ⟨go, fun H3 => ∃ ρ3 S3 acc3 vacc3, Grow ρ1 H1 ρ3 H3 ∧ Sts X.K ρ3 (D :: δ) S3 H3 ∧ H3 D = some (.lst vacc3) ∧ Reps X.K ρ3 (D :: δ) H3 acc3 vacc3 ∧ PostV X ρ1 δ H1 Q (WE W0 σ) (lcF it g tst el (wipeE env (own.map (·.2))) k (i + 1) acc3 S3), fun H3 h3 => ⟨k, by omega, h3⟩, fun x H3 y => ?_⟩
        obtain ⟨g3, s3, r3, hD3⟩ := yl x H3 y
        have hD3 : H3 D = some (.lst vacc) := (hD3 D (by simp)).trans hD
        cases eg : g w (wipeE env (own.map (·.2))) with
        | none => simp only [eg] at p2; exact p2.elim
        | some env1 =>
          simp only [eg] at p2
          have e3 : EnvR X.K ρ' (D :: δ) H3 (wipeE env (own.map (·.2))) (wipe σ (own.map (·.2))) := (((he.grow g1).car lt.car).grow g3).wipe _
          refine gs ρ' (D :: δ) S' H3 _ _ w x _ e3 s3 r3 env1 eg fun σ4 e4 hw => ⟨?_, ?_⟩
          · rw [hw _ hix]
            apply List.ext_getElem?
            intro j
            rw [wipe_get, wipe_get, wipe_length]
            by_cases ej : j ∈ own.map (·.2) ∧ j < σ.length
            · rw [if_pos ej, if_pos ej]
            · rw [if_neg ej, if_neg ej]
          refine ⟨ρ', D :: δ, S', env1, e4, s3, J.st _ _ _ _ (g1.trans (g2.trans g3)) hj, ?_⟩
          cases et : tst env1 S' with
          | bad => rw [et] at p2; exact p2.elim
          | exc ex S5 => rw [et] at p2; exact p2.elim
          | val b S5 =>
            rw [et] at p2
            intro ρ5 b' H5 g5 s5 r5
            have r5' : b = b' := r5
            subst r5'
            have hD5 : H5 D = some (.lst vacc) := g5.keep _ _ hD3 (s3.dj D (by simp)) (fun _ z => by cases z)
            cases b with
            | false => exact iteF ⟨ρ5, S5, acc, vacc, g2.trans (g3.trans g5), s5, hD5, (g3.trans g5).reps ra, p2⟩
            | true =>
              refine iteT ⟨ρ5, D :: δ, S5, env1, e4.grow g5, s5, J.st _ _ _ _ (g1.trans (g2.trans (g3.trans g5))) hj, ?_⟩
              cases ee : el env1 S5 with
              | bad => simp only [ee] at p2; exact p2.elim
              | exc ex S6 => simp only [ee] at p2; exact p2.elim
              | val z S6 =>
                simp only [ee] at p2
                intro ρ6 zv H6 g6 s6 r6
                obtain ⟨hl, p2⟩ := PostV.if p2
                have hD6 : H6 D = some (.lst vacc) := g6.keep _ _ hD5 (s5.dj D (by simp)) (fun _ z => by cases z)
                have ra6 := (g3.trans (g5.trans g6)).reps ra
                refine ⟨vacc, hD6, by rw [← Reps.length ra]; exact lim_lt hl, ρ6, S6, acc ++ [z], vacc ++ [zv], (g2.trans (g3.trans (g5.trans g6))).over nD ⟨_, hD6⟩, s6.hidden (by simp) (fun _ z => by cases z), upd_same, ?_, p2⟩
                exact (Car.hidden (by simp) (s6.dj D (by simp))).reps (ra6.append (.cons r6 .nil))
theorem pts_nil' {X' : Cx} {K : Fr} {mg : Str → Option Value} : PTs X' [] (TTc K mg WF J mYes) :=
  ⟨fun pins s σ H Q I ⟨ρ, δ, S, env, he, hs, hj, hp⟩ => pts_nil.run pins s σ H Q I (show Q true H from hp ρ true H (Grow.refl _ _) hs rfl)⟩
theorem pts_one' {X' : Cx} {c : Expr} (h : SimT X' WF J c tst) : PTs X' [c] (TTc X'.K X'.mg WF J tst) := pts_one h.can
theorem sim_lc (hc : X.calm = true) (hN : X.N.Nodup) (hi : SimI X W0 J tg iter mi) (ok : BlkOk X.N X.env.scope scope own) (gs : GS X.K ixs gt g) (hix : ∀ i ∈ ixs, i ∈ own.map (·.2))
    (hg : ∀ (s : Shared) (H : Hp) (C : Addr) (cl : List (Str × Addr)) (fp : List Addr), PG (X.blk s H scope (compEnvC scope cl C X.env) fp) tg gt) (ht : ∀ (s : Shared) (H : Hp) (C : Addr) (cl : List (Str × Addr)) (fp : List Addr), PTs (X.blk s H scope (compEnvC scope cl C X.env) fp) ifs (TTc X.K X.mg WF J tst))
    (he : ∀ (s : Shared) (H : Hp) (C : Addr) (cl : List (Str × Addr)) (fp : List Addr), SimE (X.blk s H scope (compEnvC scope cl C X.env) fp) WF J elt el) (hs : ∀ x, foldedSetIterable iter X.env x = pure x := by intro _; rfl) :
    SimE X W0 J (.ListComp elt [⟨tg, iter, ifs, 0⟩] scope pos) (mLC (own.map (·.2)) mi g tst el) := by
  obtain ⟨wi, pi, ki⟩ := hi
  exact ⟨_, pe_lc (te := TEc X.K X.mg WF J el) hc hN pi ok hg ht (fun s H C cl fp => (he s H C cl fp).can) hs, lc_go ki gs hix⟩
theorem sims_setLc {i : Nat} {y : Str} {py spos : Pos} (hc : X.calm = true) (hN : X.N.Nodup) (hy : X.N[i]? = some y) (hyl : X.env.scope.names.lookup y = some .local)
    (hsw : swapsWith (.ListComp elt [⟨tg, iter, ifs, 0⟩] scope pos) (some (.Name y py)) spos.line X.env = pure true) (hi : SimI X W0 J tg iter mi) (ok : BlkOk X.N X.env.scope scope own) (gs : GS X.K ixs gt g) (hix : ∀ i ∈ ixs, i ∈ own.map (·.2))
    (hg : ∀ (s : Shared) (H : Hp) (C : Addr) (cl : List (Str × Addr)) (fp : List Addr), PG (X.blk s H scope (compEnvC scope cl C X.env) fp) tg gt) (ht : ∀ (s : Shared) (H : Hp) (C : Addr) (cl : List (Str × Addr)) (fp : List Addr), PTs (X.blk s H scope (compEnvC scope cl C X.env) fp) ifs (TTc X.K X.mg WF J tst))
    (he : ∀ (s : Shared) (H : Hp) (C : Addr) (cl : List (Str × Addr)) (fp : List Addr), SimE (X.blk s H scope (compEnvC scope cl C X.env) fp) WF J elt el) (hs : ∀ x, foldedSetIterable iter X.env x = pure x := by intro _; rfl) :
    SimS X W0 J (.Assign [.Name y py] (.ListComp elt [⟨tg, iter, ifs, 0⟩] scope pos) spos) (sSet i (mLC (own.map (·.2)) mi g tst el)) := by
  obtain ⟨wi, pi, ki⟩ := hi
  refine ⟨_, ps_setLc (te := TEc X.K X.mg WF J el) hc hN hy hyl hsw pi ok hg ht (fun s H C cl fp => (he s H C cl fp).can) hs, fun ρ δ S H env σ D hen hst hj hp => ?_⟩
  refine lc_go ki gs hix ρ δ S H env σ _ hen hst hj (PostS.ofE hen hp fun w S1 ρ1 v H1 _ g s r q => ?_)
  exact PostS.here q s ((hen.grow g).set i r)
end

/-! ### defs -/
def outD (f : Fl) : Out W := match f with
  | .rt w S' => .val w S'
  | .nx _ S' => .val .non S'
  | .xc e _ S' => .exc e S'
  | _ => .bad
@[simp] def runDef (n : Nat) (m : SM) : List W → M W := fun ws S => outD (m (ws.map some ++ List.replicate (n - ws.length) none) S)
theorem start_get {N : List Str} {vs : List V} {i : Nat} {v : V} (h : vs[i]? = some v) : (L2.start N vs)[i]? = some (some v) := by
  unfold L2.start
  have hl : i < (vs.map some).length := by rw [List.length_map]; exact (List.getElem?_eq_some_iff.mp h).1
  rw [List.getElem?_append_left hl, List.getElem?_map, h]
  rfl
theorem env_start {K : Fr} {ρ δ : List Addr} {H : Hp} {N : List Str} {ws : List W} {vs : List V} (r : Reps K ρ δ H ws vs) : EnvR K ρ δ H (ws.map some ++ List.replicate (N.length - ws.length) none) (L2.start N vs) := by
  have hl := Reps.length r
  refine ⟨by unfold L2.start; simp [hl], fun i w h => ?_⟩
  by_cases hi : i < ws.length
  · rw [List.getElem?_append_left (by simpa using hi), List.getElem?_map] at h
    cases e : ws[i]? with
    | none => rw [e] at h; cases h
    | some w' =>
      rw [e] at h
      have e2 : w' = w := Option.some.inj (Option.some.inj h)
      subst e2
      obtain ⟨v, h1, h2⟩ := r.get e
      exact ⟨v, start_get h1, h2⟩
  · rw [List.getElem?_append_right (by simpa using hi)] at h
    have := List.mem_of_getElem? h
    rw [List.mem_replicate] at this
    cases this.2
section
variable {P : Program} {w : World} {K : PySem.W.Frag} {mg : Str → Option Value} {base : Heap}
abbrev WE0 (E : XK) : WX := fun c d _ H => E c d H
theorem sim_def {x qual : Str} {st : Stmt} {f : Addr} {fd : FuncData} {N ps : List Str} {k : Nat} {m : SM} (F : Fun K x qual st f fd) (Sc : FnScope N ps (defScope st))
    (h : ∀ (cdv : Value) (A : Around) (outer : List PySem.Env) (s : Shared) (H : Hp) (E : XK), Room k (A.deeper (envOfC qual (defScope st) s.heap.objs.size f cdv)) →
      SimSs (cxOf (L2.CX P w) P w K mg base N qual (defScope st) f cdv A outer s H E) (WE0 E) JTb (defBody st) m) : FnOk P w K mg base (L2.CX P w) (k + 1) f fd ps (SpM K mg ps.length (runDef N.length m)) := by
  refine F.okX Sc (fun vs H Q E hsp => ?_) (fun cdv A outer s H vs Q E hr hsp => ?_)
  · obtain ⟨_, ρ, δ, S, ws, hl, _, r, _⟩ := hsp
    rw [← Reps.length r, hl]
  · obtain ⟨hT, ρ, δ, S, ws, hl, hs, r, hp⟩ := hsp
    obtain ⟨t, p, kk⟩ := h cdv A outer s H E hr
    refine ⟨t, p, kk ρ δ S H _ _ _ (env_start r) hs hT ?_⟩
    unfold runDef outD at hp
    cases e : m (ws.map some ++ List.replicate (N.length - ws.length) none) S with
    | nx env S1 => rw [e] at hp; exact fun ρ1 σ1 H1 g s1 _ => hp ρ1 .non H1 g s1 .non
    | rt v S1 => rw [e] at hp; exact hp
    | bk env S1 => rw [e] at hp; exact hp.elim
    | ct env S1 => rw [e] at hp; exact hp.elim
    | xc ex env S1 => rw [e] at hp; exact fun ρ1 c d σ1 H1 g s1 _ rx => hp ρ1 c d H1 g s1 rx
    | bad => rw [e] at hp; exact hp.elim
/-- a def that is not called -/
theorem sim_none {f : Addr} {fd : FuncData} {ps : List Str} {CX : CXT} : FnOk P w K mg base CX 0 f fd ps (SpM K mg ps.length (fun _ => bad)) :=
  ⟨fun vs H Q E h => by obtain ⟨_, _, _, _, _, _, _, _, z⟩ := h; exact z.elim, fun A outer s H args us vs Q E _ _ _ _ h => by obtain ⟨_, _, _, _, _, _, _, _, z⟩ := h; exact z.elim⟩
theorem sim_imp {f : Addr} {fd : FuncData} {ps : List Str} {CX : CXT} {k : Nat} {fm fm' : List W → M W} (F : FnOk P w K mg base CX k f fd ps (SpM K mg ps.length fm))
    (h : ∀ ρ δ S H ws Q E, Sts K ρ δ S H → ws.length = ps.length → Post mg K ρ δ H (RW K δ) Q E (fm' ws S) → Post mg K ρ δ H (RW K δ) Q E (fm ws S)) : FnOk P w K mg base CX k f fd ps (SpM K mg ps.length fm') :=
  F.imp fun vs H Q E ⟨hT, ρ, δ, S, ws, hl, hs, r, hp⟩ => ⟨hT, ρ, δ, S, ws, hl, hs, r, h ρ δ S H ws Q E hs hl hp⟩
end
/-! ### what a def made for itself alone is forgotten -/
def mapO {α β : Type} (f : α → Option β) : List α → Option (List β)
  | [] => some []
  | a :: r => (f a).bind fun b => (mapO f r).bind fun bs => some (b :: bs)
def fz (S : Sto) (n : Nat) : Nat → W → Option W
  | 0, _ => none
  | k + 1, w => match w with
    | .box m => if m < n then some (.box m) else match S[m]? with
      | some (.lst ws) => (mapO (fz S n k) ws).bind fun xs => some (.lst xs)
      | _ => none
    | .tup ws => (mapO (fz S n k) ws).bind fun xs => some (.tup xs)
    | .lst ws => (mapO (fz S n k) ws).bind fun xs => some (.lst xs)
    | .scr ws => (mapO (fz S n k) ws).bind fun xs => some (.scr xs)
    | .dct m => if m < n then some (.dct m) else none
    | w => some w
def flatW : W → Bool
  | .non => true | .bl _ => true | .int _ => true | .str _ => true | _ => false
section
variable {K : Fr} {ρ δ : List Addr} {S : Sto} {H : Hp}
theorem mapO_reps {f : W → Option W} {n : Nat} (h : ∀ w w' v, f w = some w' → Rep K ρ δ H w v → Rep K (ρ.take n) δ H w' v) : ∀ {ws xs : List W} {vs : List V}, mapO f ws = some xs → Reps K ρ δ H ws vs → Reps K (ρ.take n) δ H xs vs
  | [], xs, vs, e, r => by
    cases r
    cases e
    exact .nil
  | a :: ws, xs, vs, e, r => by
    cases r with
    | cons r t =>
      have e : ((f a).bind fun b => (mapO f ws).bind fun bs => some (b :: bs)) = some xs := e
      cases e1 : f a with
      | none => rw [e1] at e; cases e
      | some b =>
        rw [e1] at e
        cases e2 : mapO f ws with
        | none => simp [e2] at e
        | some bs =>
          simp [e2] at e
          subst e
          exact .cons (h a b _ e1 r) (mapO_reps h e2 t)
theorem fz_rep (s : Sts K ρ δ S H) (n : Nat) : ∀ (k : Nat) (w w' : W) (v : V), fz S n k w = some w' → Rep K ρ δ H w v → Rep K (ρ.take n) δ H w' v
  | 0, _, _, _, e, _ => by cases e
  | k + 1, w, w', v, e, r => by
    have nt : ∀ {a : Addr}, a ∉ ρ → a ∉ ρ.take n := fun h hm => h (List.mem_of_mem_take hm)
    have bindEq : ∀ {ws : List W} {c : List W → W}, ((mapO (fz S n k) ws).bind fun xs => some (c xs)) = some w' → ∃ xs, mapO (fz S n k) ws = some xs ∧ w' = c xs := fun {ws c} q => by
      cases e2 : mapO (fz S n k) ws with
      | none => rw [e2] at q; cases q
      | some xs => rw [e2] at q; exact ⟨xs, rfl, (Option.some.inj q).symm⟩
    cases r with
    | non => cases e; exact .non
    | bl => cases e; exact .bl
    | int => cases e; exact .int
    | str => cases e; exact .str
    | tup f t =>
      obtain ⟨xs, e2, rfl⟩ := bindEq (c := .tup) e
      exact .tup ⟨f.1, nt f.2.1, f.2.2⟩ (mapO_reps (fz_rep s n k) e2 t)
    | lst f t =>
      obtain ⟨xs, e2, rfl⟩ := bindEq (c := .lst) e
      exact .lst ⟨f.1, nt f.2.1, f.2.2⟩ (mapO_reps (fz_rep s n k) e2 t)
    | scr f t =>
      obtain ⟨xs, e2, rfl⟩ := bindEq (c := .scr) e
      refine .scr ?_ (mapO_reps (fz_rep s n k) e2 t)
      rcases f with ⟨f, f1, f2⟩ | f
      · exact .inl ⟨f, nt f1, f2⟩
      · exact .inr f
    | rng f => cases e; exact .rng ⟨f.1, nt f.2.1, f.2.2⟩
    | @dct m a f hk =>
      have e : (if m < n then some (W.dct m) else none) = some w' := e
      by_cases hm : m < n
      · rw [if_pos hm] at e
        cases e
        exact .dct (by rw [List.getElem?_take_of_lt hm]; exact f) hk
      · rw [if_neg hm] at e; cases e
    | @box m a f hk =>
      have e : (if m < n then some (W.box m) else match S[m]? with
        | some (.lst ws) => (mapO (fz S n k) ws).bind fun xs => some (.lst xs)
        | _ => none) = some w' := e
      by_cases hm : m < n
      · rw [if_pos hm] at e
        cases e
        exact .box (by rw [List.getElem?_take_of_lt hm]; exact f) hk
      · rw [if_neg hm] at e
        obtain ⟨c, o, h1, h2, h3⟩ := s.bx m a f
        cases c with
        | dk ws => rw [h1] at e; cases e
        | dt ws => rw [h1] at e; cases e
        | lst ws =>
          rw [h1] at e
          obtain ⟨vs, rfl, r'⟩ := h3
          obtain ⟨xs, e2, rfl⟩ := bindEq (c := .lst) e
          refine .lst ⟨h2, fun hmem => ?_, fun hd => s.dj a hd (List.mem_of_getElem? f)⟩ (mapO_reps (fz_rep s n k) e2 r')
          obtain ⟨j, hj⟩ := List.mem_iff_getElem?.mp hmem
          have hjn : j < n := by
            have := (List.getElem?_eq_some_iff.mp hj).1
            rw [List.length_take] at this; omega
          rw [List.getElem?_take_of_lt hjn] at hj
          have : j = m := nd_ix s.nd hj f
          omega
/-- fm' keeps of fm what its caller can see -/
structure Cut (fm : List W → M W) (ws : List W) (S : Sto) (w' : W) (S' : Sto) : Prop where
  ex : ∃ w G, fm ws S = .val w (S' ++ G) ∧ S'.length = S.length ∧ fz (S' ++ G) S.length 8 w = some w' ∧
    ∀ m : Nat, S'[m]? = S[m]? ∨ ∃ xs, S'[m]? = some (Cell.lst xs) ∧ ∀ x ∈ xs, fz (S' ++ G) S.length 8 x = some x
structure CutX (fm : List W → M W) (ws : List W) (S : Sto) (e : Exn) (S' : Sto) : Prop where
  ex : ∃ G, fm ws S = .exc e (S ++ G) ∧ S' = S ∧ e.fs.all (fun p => flatW p.2) = true
theorem take_back {α : Type} {ρ τ : List α} : (ρ ++ τ).take ρ.length = ρ := by simp
theorem Reps.same {ρ' : List Addr} {S1 : Sto} {H' : Hp} {n : Nat} (s : Sts K ρ' δ S1 H') : ∀ {xs : List W} {vs : List V}, (∀ x ∈ xs, fz S1 n 8 x = some x) → Reps K ρ' δ H' xs vs → Reps K (ρ'.take n) δ H' xs vs
  | [], vs, _, r => by cases r; exact .nil
  | x :: xs, vs, h, r => by
    cases r with
    | cons r t => exact .cons (fz_rep s n 8 x x _ (h x (by simp)) r) (Reps.same s (fun y hy => h y (List.mem_cons_of_mem _ hy)) t)
mutual
theorem rep_back {ρ' : List Addr} {H' : Hp} (g : Grow ρ H ρ' H') : ∀ {w : W} {v0 v : V}, Rep K ρ δ H w v0 → Rep K ρ' δ H' w v → Rep K ρ δ H' w v
  | _, _, _, .non, r => by cases r; exact .non
  | _, _, _, .bl, r => by cases r; exact .bl
  | _, _, _, .int, r => by cases r; exact .int
  | _, _, _, .str, r => by cases r; exact .str
  | _, _, _, .tup _ t0, r => by
    cases r with
    | tup f t =>
      exact .tup ⟨f.1, fun z => f.2.1 (let ⟨τ, e, _⟩ := g.ext; by rw [e]; exact List.mem_append_left _ z), f.2.2⟩ (reps_back g t0 t)
  | _, _, _, .lst _ t0, r => by
    cases r with
    | lst f t => exact .lst ⟨f.1, fun z => f.2.1 (let ⟨τ, e, _⟩ := g.ext; by rw [e]; exact List.mem_append_left _ z), f.2.2⟩ (reps_back g t0 t)
  | _, _, _, .scr _ t0, r => by
    cases r with
    | scr f t =>
      refine .scr ?_ (reps_back g t0 t)
      rcases f with ⟨f, f1, f2⟩ | f
      · exact .inl ⟨f, fun z => f1 (let ⟨τ, e, _⟩ := g.ext; by rw [e]; exact List.mem_append_left _ z), f2⟩
      · exact .inr f
  | _, _, _, .box h k, r => by
    cases r with
    | box h' k' =>
      have e := g.at h
      rw [e] at h'
      cases h'
      exact .box h k'
  | _, _, _, .dct h k, r => by
    cases r with
    | dct h' k' =>
      have e := g.at h
      rw [e] at h'
      cases h'
      exact .dct h k'
  | _, _, _, .rng _, r => by
    cases r with
    | rng f => exact .rng ⟨f.1, fun z => f.2.1 (let ⟨τ, e, _⟩ := g.ext; by rw [e]; exact List.mem_append_left _ z), f.2.2⟩
theorem reps_back {ρ' : List Addr} {H' : Hp} (g : Grow ρ H ρ' H') : ∀ {ws : List W} {vs0 vs : List V}, Reps K ρ δ H ws vs0 → Reps K ρ' δ H' ws vs → Reps K ρ δ H' ws vs
  | _, _, _, .nil, r => by cases r; exact .nil
  | _, _, _, .cons r0 t0, r => by cases r with | cons r t => exact .cons (rep_back g r0 r) (reps_back g t0 t)
end
theorem cut_sts {ρ' : List Addr} {S' G : Sto} {H' : Hp} (s0 : Sts K ρ δ S H) (g : Grow ρ H ρ' H') (s : Sts K ρ' δ (S' ++ G) H') (hl : S'.length = S.length)
    (hm : ∀ m : Nat, S'[m]? = S[m]? ∨ ∃ xs, S'[m]? = some (Cell.lst xs) ∧ ∀ x ∈ xs, fz (S' ++ G) S.length 8 x = some x) : ρ'.take S.length = ρ ∧ Sts K ρ δ S' H' ∧ Grow ρ H ρ H' := by
  have er : ρ'.take S.length = ρ := by
    obtain ⟨τ, e, _⟩ := g.ext
    rw [e, s0.ln, take_back]
  have g' : Grow ρ H ρ H' := ⟨⟨[], by simp, by simp⟩, g.keep, g.tr, g.tb, g.ty⟩
  refine ⟨er, ⟨s0.nd, s0.dj, fun a ha => let ⟨o, q, n⟩ := s0.dl a ha; g.tr a o q n, fun m a ha => ?_, by rw [hl, s0.ln]⟩, g'⟩
  have ha' := g.at ha
  have hmn : m < S'.length := by rw [hl, s0.ln]; exact (List.getElem?_eq_some_iff.mp ha).1
  obtain ⟨c, o, h1, h2, h3⟩ := s.bx m a ha'
  rw [List.getElem?_append_left hmn] at h1
  refine ⟨c, o, h1, h2, ?_⟩
  rcases hm m with e | ⟨xs, e, hx⟩
  · obtain ⟨c0, o0, q1, q2, q3⟩ := s0.bx m a ha
    rw [← e, h1] at q1
    cases q1
    cases c with
    | lst ws =>
      obtain ⟨vs, rfl, r⟩ := h3
      obtain ⟨vs0, rfl, r0⟩ := q3
      refine ⟨vs, rfl, ?_⟩
      exact reps_back g r0 r
    | dk ws =>
      obtain ⟨vs, rfl, hk, r⟩ := h3
      obtain ⟨vs0, rfl, _, r0⟩ := q3
      refine ⟨vs, rfl, hk, ?_⟩
      exact reps_back g r0 r
    | dt ws =>
      obtain ⟨vs, rfl, hk, r⟩ := h3
      obtain ⟨vs0, rfl, _, r0⟩ := q3
      refine ⟨vs, rfl, hk, ?_⟩
      exact reps_back g r0 r
  · rw [h1] at e
    cases e
    obtain ⟨vs, rfl, r⟩ := h3
    refine ⟨vs, rfl, ?_⟩
    rw [← er]
    exact Reps.same s hx r
theorem flat_rep {ρ' : List Addr} {w : W} {v : V} (h : flatW w = true) (r : Rep K ρ δ H w v) : Rep K ρ' δ H w v := by
  cases r with
  | non => exact .non
  | bl => exact .bl
  | int => exact .int
  | str => exact .str
  | _ => cases h
theorem flat_repF {ρ' : List Addr} : ∀ {fs : List (Str × W)} {vs : List (Str × V)}, fs.all (fun p => flatW p.2) = true → RepF K ρ δ H fs vs → RepF K ρ' δ H fs vs
  | [], [], _, _ => trivial
  | (f, w) :: r, (g, v) :: t, h, q => by
    simp only [List.all_cons, Bool.and_eq_true] at h
    exact ⟨q.1, flat_rep h.1 q.2.1, flat_repF h.2 q.2.2⟩
  | [], _ :: _, _, q => q.elim
  | _ :: _, [], _, q => q.elim
end
/-- a def's promise by what its caller can see -/
theorem sim_cut {P : Program} {w : World} {K : Fr} {mg : Str → Option Value} {base : Heap} {f : Addr} {fd : FuncData} {ps : List Str} {CX : CXT} {k : Nat} {fm fm' : List W → M W} (F : FnOk P w K mg base CX k f fd ps (SpM K mg ps.length fm))
    (h : ∀ ws S w' S', ws.length = ps.length → fm' ws S = .val w' S' → Cut fm ws S w' S') (hx : ∀ ws S e S', ws.length = ps.length → fm' ws S = .exc e S' → CutX fm ws S e S') : FnOk P w K mg base CX k f fd ps (SpM K mg ps.length fm') := by
  refine sim_imp F fun ρ δ S H ws Q E s0 hlen hp => ?_
  cases e : fm' ws S with
  | bad => rw [e] at hp; exact hp.elim
  | val w' S' =>
    rw [e] at hp
    obtain ⟨w1, G, e1, hl, hz, hm⟩ := (h ws S w' S' hlen e).ex
    rw [e1]
    intro ρ' v H' g s r
    obtain ⟨er, s', g'⟩ := cut_sts s0 g s hl hm
    exact hp ρ v H' g' s' (by have z := fz_rep s S.length 8 w1 w' v hz r; rw [er] at z; exact z)
  | exc x S' =>
    rw [e] at hp
    obtain ⟨G, e1, rfl, hf⟩ := (hx ws S x S' hlen e).ex
    rw [e1]
    intro ρ' c d H' g s r
    obtain ⟨er, s', g'⟩ := cut_sts s0 g s rfl (fun m => .inl rfl)
    obtain ⟨C, dx, vfs, r1, r2, r3, r4, r5, r6, r7⟩ := r
    exact hp ρ c d H' g' s' ⟨C, dx, vfs, r1, r2, r3, r4, fun z => r5 (let ⟨τ, q, _⟩ := g.ext; by rw [q]; exact List.mem_append_left _ z), r6, flat_repF hf r7⟩
end Sm

set_option Elab.async false
set_option linter.all false
set_option maxRecDepth 100000
namespace Sm
open PySem PySem.Spec PyProof.Rows L2 LamX
variable [TB]
section
variable {X : Cx}
theorem OpR.or {f : Value → Value → Sem Value} {r r' : R2} (h : OpR X f r) (h' : OpR X f r') : OpR X f (fun x y H Q => r x y H Q ∨ r' x y H Q) := by
  intro pins s σ H x y v u Q I rx ry q
  rcases q with q | q
  · exact h pins s σ H x y v u Q I rx ry q
  · exact h' pins s σ H x y v u Q I rx ry q
theorem CallR.or {f : Value} {r r' : List V → Hp → VK → Prop} (h : CallR X f r) (h' : CallR X f r') : CallR X f (fun x H Q => r x H Q ∨ r' x H Q) := by
  intro pins s σ H x v Q I rx q
  rcases q with q | q
  · exact h pins s σ H x v Q I rx q
  · exact h' pins s σ H x v Q I rx q
theorem MtR.or {id : String} {r r' : V → List V → Hp → VK → Prop} (h : MtR X id r) (h' : MtR X id r') : MtR X id (fun x xs H Q => r x xs H Q ∨ r' x xs H Q) := by
  intro pins s σ H x xs v us Q I rx rxs q
  rcases q with q | q
  · exact h pins s σ H x xs v us Q I rx rxs q
  · exact h' pins s σ H x xs v us Q I rx rxs q

/-! ### + - * // % ** -/
def addW : W → W → M W
  | .int i, .int j => fun S => .val (.int (i + j)) S
  | .str a, .str b => fun S => if a.length + b.length ≤ lim then .val (.str (a ++ b)) S else .bad
  | .tup a, .tup b => fun S => if a.length + b.length ≤ lim then .val (.tup (a ++ b)) S else .bad
  | .lst a, .lst b => fun S => if a.length + b.length ≤ lim then .val (.lst (a ++ b)) S else .bad
  | _, _ => bad
def rAdd (K : Fr) : R2 := fun x y H Q => (rI0 (fun i j => .int (i + j)) x y H Q ∨ (∃ i j, x = .str i ∧ y = .str j ∧ i.length + j.length ≤ sizeLine ∧ Q (.str (i ++ j)) H)) ∨ (rCatA K x y H Q ∨ rCat x y H Q)
theorem op_addW : OpR X (binaryOp .Add) (rAdd X.K) := OpR.or (OpR.or op_add op_add_str) (OpR.or op_catA op_cat)
theorem os_add : OpS X (rAdd X.K) addW := by
  intro ρ δ S H x y v u Q E s rx ry hp
  cases rx with
  | int => cases ry with
    | int => exact .inl (.inl ⟨_, _, rfl, rfl, PostV.here (v := .int _) hp s .int⟩)
    | _ => exact hp.elim
  | str => cases ry with
    | str =>
      obtain ⟨hl, hp⟩ := PostV.if hp
      exact .inl (.inr ⟨_, _, rfl, rfl, lim_ok hl, PostV.here (v := .str _) hp s .str⟩)
    | _ => exact hp.elim
  | @tup a ws vs f t => cases ry with
    | @tup b ws' vs' f' t' =>
      obtain ⟨hl, hp⟩ := PostV.if hp
      refine .inr (.inl ⟨_, _, _, _, rfl, rfl, f.sq, f'.sq, by rw [← Reps.length t, ← Reps.length t']; exact lim_ok hl, fun e => ?_, fun _ e => ?_, fun _ _ p np => PostV.tup hp s (t.append t') np⟩)
      · subst e
        have e2 : ws = [] := by have := Reps.length t; simpa using this
        subst e2
        exact PostV.here hp s (.tup f' t')
      · subst e
        have e2 : ws' = [] := by have := Reps.length t'; simpa using this
        subst e2
        rw [List.append_nil] at hp
        exact PostV.here hp s (.tup f t)
    | _ => exact hp.elim
  | @lst a ws vs f t => cases ry with
    | @lst b ws' vs' f' t' =>
      obtain ⟨hl, hp⟩ := PostV.if hp
      exact .inr (.inr ⟨_, _, _, _, rfl, rfl, f.1, f'.1, by rw [← Reps.length t, ← Reps.length t']; exact lim_ok hl, fun p np => PostV.lst hp s (t.append t') np⟩)
    | _ => exact hp.elim
  | _ => exact hp.elim
def subW : W → W → M W
  | .int i, .int j => fun S => .val (.int (i - j)) S
  | _, _ => bad
theorem os_sub : OpS X (rI0 fun i j => .int (i - j)) subW := by
  intro ρ δ S H x y v u Q E s rx ry hp
  cases rx with
  | int => cases ry with
    | int => exact ⟨_, _, rfl, rfl, PostV.here (v := .int _) hp s .int⟩
    | _ => exact hp.elim
  | _ => exact hp.elim
@[simp] def b64 : Int := 10000000000000000000
def mulW : W → W → M W
  | .int i, .int j => fun S => if (-b64 ≤ i ∧ i ≤ b64) ∨ (-b64 ≤ j ∧ j ≤ b64) then .val (.int (i * j)) S else .bad
  | .lst a, .int k => fun S => if (0 ≤ k ∧ k ≤ 1000) ∧ a.length ≤ 1000 ∧ a.length * k.toNat ≤ lim then .val (.lst (List.replicate k.toNat a).flatten) S else .bad
  | .tup a, .int k => fun S => if (2 ≤ k ∧ k ≤ 1000) ∧ a.length ≤ 1000 ∧ 0 < a.length then .val (.tup (List.replicate k.toNat a).flatten) S else .bad
  | _, _ => bad
def rMul (K : Fr) : R2 := fun x y H Q => rI CMul (fun i j => .int (i * j)) x y H Q ∨ (rRep x y H Q ∨ rRepT K x y H Q)
theorem op_mulW : OpR X (binaryOp .Mult) (rMul X.K) := OpR.or op_mul (OpR.or op_rep op_repT)
theorem Reps.rep {K : Fr} {ρ δ : List Addr} {H : Hp} {ws : List W} {vs : List V} (r : Reps K ρ δ H ws vs) : ∀ n, Reps K ρ δ H (List.replicate n ws).flatten (List.replicate n vs).flatten
  | 0 => .nil
  | n + 1 => by
    rw [List.replicate_succ, List.replicate_succ, List.flatten_cons, List.flatten_cons]
    exact r.append (Reps.rep r n)
theorem os_mul : OpS X (rMul X.K) mulW := by
  intro ρ δ S H x y v u Q E s rx ry hp
  cases rx with
  | int => cases ry with
    | int =>
      obtain ⟨hl, hp⟩ := PostV.if hp
      unfold b64 at hl
      refine .inl ⟨_, _, rfl, rfl, ?_, PostV.here (v := .int _) hp s .int⟩
      rcases hl with hl | hl
      · exact .inl ⟨by omega, by omega⟩
      · exact .inr ⟨by omega, by omega⟩
    | _ => exact hp.elim
  | @lst a ws vs f t => cases ry with
    | int =>
      obtain ⟨⟨⟨h1, h2⟩, h3, h4⟩, hp⟩ := PostV.if hp
      exact .inr (.inl ⟨_, _, _, rfl, rfl, f.1, by omega, by omega, by rw [← Reps.length t]; exact lim_ok h4, fun p np => PostV.lst hp s (t.rep _) np⟩)
    | _ => exact hp.elim
  | @tup a ws vs f t => cases ry with
    | int =>
      obtain ⟨⟨⟨h1, h2⟩, h3, h4⟩, hp⟩ := PostV.if hp
      refine .inr (.inr ⟨_, _, _, rfl, rfl, f.sq, fun e => ?_, h1, h2, by rw [← Reps.length t]; exact h3, fun p np => PostV.tup hp s (t.rep _) np⟩)
      subst e
      have := Reps.length t
      simp at this
      rw [this] at h4
      simp at h4
    | _ => exact hp.elim
  | _ => exact hp.elim
def fdivW : W → W → M W
  | .int i, .int j => fun S => if 0 < j ∧ j ≤ big then .val (.int (i / j)) S else .bad
  | _, _ => bad
theorem os_fdiv : OpS X (rI CDiv fun i j => .int (i / j)) fdivW := by
  intro ρ δ S H x y v u Q E s rx ry hp
  cases rx with
  | int => cases ry with
    | int =>
      obtain ⟨⟨h1, h2⟩, hp⟩ := PostV.if hp
      unfold big at h2
      exact ⟨_, _, rfl, rfl, ⟨h1, by omega⟩, PostV.here (v := .int _) hp s .int⟩
    | _ => exact hp.elim
  | _ => exact hp.elim
def modW : W → W → M W
  | .int i, .int j => fun S => if 0 < j then .val (.int (i % j)) S else .bad
  | _, _ => bad
theorem os_mod : OpS X (rI (fun _ j => 0 < j) fun i j => .int (i % j)) modW := by
  intro ρ δ S H x y v u Q E s rx ry hp
  cases rx with
  | int => cases ry with
    | int =>
      obtain ⟨h1, hp⟩ := PostV.if hp
      exact ⟨_, _, rfl, rfl, h1, PostV.here (v := .int _) hp s .int⟩
    | _ => exact hp.elim
  | _ => exact hp.elim
def powW : W → W → M W
  | .int i, .int j => fun S => if (0 ≤ j ∧ j ≤ 1000) ∧ i.natAbs ≤ 1000000 then .val (.int (i ^ j.toNat)) S else .bad
  | _, _ => bad
theorem os_pow : OpS X (rI CPow fun i j => .int (i ^ j.toNat)) powW := by
  intro ρ δ S H x y v u Q E s rx ry hp
  cases rx with
  | int => cases ry with
    | int =>
      obtain ⟨⟨⟨h1, h2⟩, h3⟩, hp⟩ := PostV.if hp
      exact ⟨_, _, rfl, rfl, ⟨h1, by omega, by omega⟩, PostV.here (v := .int _) hp s .int⟩
    | _ => exact hp.elim
  | _ => exact hp.elim

/-! ### comparisons -/
def cmpW (p : Int → Int → Bool) : W → W → M W
  | .int i, .int j => fun S => .val (.bl (p i j)) S
  | _, _ => bad
theorem os_cmp {p : Int → Int → Bool} : OpS X (rI0 fun i j => .bl (p i j)) (cmpW p) := by
  intro ρ δ S H x y v u Q E s rx ry hp
  cases rx with
  | int => cases ry with
    | int => exact ⟨_, _, rfl, rfl, PostV.here (v := .bl _) hp s .bl⟩
    | _ => exact hp.elim
  | _ => exact hp.elim
abbrev ltW := cmpW fun i j => decide (i < j)
abbrev leW := cmpW fun i j => decide (i ≤ j)
abbrev gtW := cmpW fun i j => decide (j < i)
abbrev geW := cmpW fun i j => decide (j ≤ i)
/-- is None -/
def isNon : W → Bool
  | .non => true
  | _ => false
def isNW : W → W → M W
  | x, .non => fun S => .val (.bl (isNon x)) S
  | _, _ => bad
def notNW : W → W → M W
  | x, .non => fun S => .val (.bl (!isNon x)) S
  | _, _ => bad
theorem isNon_rep {K : Fr} {ρ δ : List Addr} {H : Hp} {w : W} {v : V} (r : Rep K ρ δ H w v) : decide (v = .non) = isNon w := by
  cases r <;> first | rfl | (apply decide_eq_false; intro z; cases z)
theorem os_isN : OpS X (fun x y H Q => y = .non ∧ Q (.bl (decide (x = .non))) H) isNW := by
  intro ρ δ S H x y v u Q E s rx ry hp
  cases ry with
  | non => exact ⟨rfl, by rw [isNon_rep rx]; exact PostV.here (v := .bl _) (by cases rx <;> exact hp) s .bl⟩
  | _ => cases rx <;> exact hp.elim
theorem os_notN : OpS X (fun x y H Q => y = .non ∧ Q (.bl (!decide (x = .non))) H) notNW := by
  intro ρ δ S H x y v u Q E s rx ry hp
  cases ry with
  | non => exact ⟨rfl, by rw [isNon_rep rx]; exact PostV.here (v := .bl _) (by cases rx <;> exact hp) s .bl⟩
  | _ => cases rx <;> exact hp.elim
/-! data -/
mutual
def toD : W → Option PyData
  | .non => some .none
  | .bl b => some (.bool b)
  | .int i => some (.int i)
  | .str x => some (.str x)
  | .tup ws => (toDs ws).map .tuple
  | .lst ws => (toDs ws).map .list
  | _ => none
def toDs : List W → Option (List PyData)
  | [] => some []
  | w :: ws => match toD w, toDs ws with
    | some d, some ds => some (d :: ds)
    | _, _ => none
end
mutual
theorem toD_dp {K : Fr} {ρ δ : List Addr} {H : Hp} : ∀ {w : W} {v : V} {d : PyData}, Rep K ρ δ H w v → toD w = some d → Dp K H v d
  | _, _, _, .non, e => by simp [toD] at e; subst e; exact .non
  | _, _, _, .bl, e => by simp [toD] at e; subst e; exact .bl _
  | _, _, _, .int, e => by simp [toD] at e; subst e; exact .int _
  | _, _, _, .str, e => by simp [toD] at e; subst e; exact .str _
  | _, _, _, .tup f t, e => by
    simp [toD] at e
    obtain ⟨ds, e, rfl⟩ := e
    exact .tup f.sq (toDs_dp t e)
  | _, _, _, .lst f t, e => by
    simp [toD] at e
    obtain ⟨ds, e, rfl⟩ := e
    exact .lst f.sq (toDs_dp t e)
  | _, _, _, .scr f t, e => by simp [toD] at e
  | _, _, _, .box f _, e => by simp [toD] at e
  | _, _, _, .dct f _, e => by simp [toD] at e
theorem toDs_dp {K : Fr} {ρ δ : List Addr} {H : Hp} : ∀ {ws : List W} {vs : List V} {ds : List PyData}, Reps K ρ δ H ws vs → toDs ws = some ds → DpAll K H vs ds
  | _, _, _, .nil, e => by simp [toDs] at e; subst e; exact .nil
  | _, _, _, .cons (w := w) (ws := ws) r t, e => by
    unfold toDs at e
    cases e1 : toD w with
    | none => simp [e1] at e
    | some d =>
      cases e2 : toDs ws with
      | none => simp [e1, e2] at e
      | some ds =>
        simp [e1, e2] at e
        subst e
        exact .cons (toD_dp r e1) (toDs_dp t e2)
end
/-- == of data -/
def eqB (x y : W) : Option Bool := match toD x, toD y with
  | some d, some e => if SeqAt.shaped d = true ∧ SeqAt.shaped e = true then some (PyData.eqv d e) else none
  | _, _ => none
def eqW (x y : W) : M W := fun S => match eqB x y with
  | some b => .val (.bl b) S
  | none => .bad
def neW (x y : W) : M W := fun S => match eqB x y with
  | some b => .val (.bl !b) S
  | none => .bad
theorem eqB_inv {x y : W} {b : Bool} (h : eqB x y = some b) : ∃ d e, toD x = some d ∧ toD y = some e ∧ SeqAt.shaped d = true ∧ SeqAt.shaped e = true ∧ PyData.eqv d e = b := by
  unfold eqB at h
  cases e1 : toD x with
  | none => simp [e1] at h
  | some d =>
    cases e2 : toD y with
    | none => simp [e1, e2] at h
    | some e =>
      simp only [e1, e2] at h
      split at h
      · rename_i hs
        exact ⟨d, e, rfl, rfl, hs.1, hs.2, Option.some.inj h⟩
      · cases h
theorem os_eq : OpS X (rEqD X.K) eqW := by
  intro ρ δ S H x y v u Q E s rx ry hp
  unfold eqW at hp
  cases h : eqB x y with
  | none => rw [h] at hp; exact hp.elim
  | some b =>
    rw [h] at hp
    obtain ⟨d, e, e1, e2, h1, h2, rfl⟩ := eqB_inv h
    exact ⟨d, e, toD_dp rx e1, toD_dp ry e2, h1, h2, PostV.here (v := .bl _) hp s .bl⟩
theorem os_ne : OpS X (rNeD X.K) neW := by
  intro ρ δ S H x y v u Q E s rx ry hp
  unfold neW at hp
  cases h : eqB x y with
  | none => rw [h] at hp; exact hp.elim
  | some b =>
    rw [h] at hp
    obtain ⟨d, e, e1, e2, h1, h2, rfl⟩ := eqB_inv h
    exact ⟨d, e, toD_dp rx e1, toD_dp ry e2, h1, h2, PostV.here (v := .bl _) hp s .bl⟩
/-! what a sequence holds -/
def seqW (S : Sto) : W → Option (List W)
  | .tup ws => some ws
  | .lst ws => some ws
  | .scr ws => some ws
  | .box n => match S[n]? with
    | some (.lst ws) => some ws
    | _ => none
  | _ => none
theorem seqW_rep {ρ δ : List Addr} {S : Sto} {H : Hp} {w : W} {v : V} {ws : List W} (s : Sts X.K ρ δ S H) (r : Rep X.K ρ δ H w v) (e : seqW S w = some ws) : ∃ p vs, v = .ref p ∧ (SqL X.K H p vs ∨ SqT X.K H p vs) ∧ Reps X.K ρ δ H ws vs := by
  cases r with
  | tup f t => cases e; exact ⟨_, _, rfl, .inr f.sq, t⟩
  | lst f t => cases e; exact ⟨_, _, rfl, .inl f.sq, t⟩
  | scr f t => cases e; exact ⟨_, _, rfl, .inl f.sq, t⟩
  | @box n a f hk =>
    obtain ⟨xs, vs, h1, h2, r'⟩ := s.lst f hk
    have e : (match S[n]? with | some (Cell.lst ws) => some ws | _ => none) = some ws := e
    rw [h1] at e
    cases e
    exact ⟨_, _, rfl, .inl (.inl (.inl h2)), r'⟩
  | _ => cases e
def eqF : W → W → Bool
  | .non, .non => true
  | .bl a, .bl b => a == b
  | .bl a, .int b => (if a then 1 else 0) == b
  | .int a, .bl b => a == (if b then 1 else 0)
  | .int a, .int b => a == b
  | .str a, .str b => a == b
  | _, _ => false
def hasF (x : W) (ws : List W) : Bool := ws.any fun y => eqF y x
def inW (neg : Bool) (x y : W) : M W := fun S => match seqW S y with
  | some ws => if flatW x = true ∧ ws.all flatW = true then .val (.bl (if neg then !hasF x ws else hasF x ws)) S else .bad
  | none => .bad
theorem flat_V {K : Fr} {ρ δ : List Addr} {H : Hp} {w : W} {v : V} (r : Rep K ρ δ H w v) (h : flatW w = true) : flatV v = true := by
  cases r <;> first | rfl | cases h
theorem eqF_V {K : Fr} {ρ δ : List Addr} {H : Hp} {w x : W} {v u : V} (r : Rep K ρ δ H w v) (r' : Rep K ρ δ H x u) (h : flatW w = true) (h' : flatW x = true) : eqV v u = eqF w x := by
  cases r <;> cases r' <;> first | rfl | cases h | cases h'
theorem flat_Vs {K : Fr} {ρ δ : List Addr} {H : Hp} : ∀ {ws : List W} {vs : List V}, Reps K ρ δ H ws vs → ws.all flatW = true → vs.all flatV = true
  | [], _, r, _ => by cases r; rfl
  | w :: ws, _, r, h => by
    cases r with
    | cons r t =>
      simp only [List.all_cons, Bool.and_eq_true] at h ⊢
      exact ⟨flat_V r h.1, flat_Vs t h.2⟩
theorem hasF_V {K : Fr} {ρ δ : List Addr} {H : Hp} {x : W} {u : V} (r : Rep K ρ δ H x u) (hx : flatW x = true) : ∀ {ws : List W} {vs : List V}, Reps K ρ δ H ws vs → ws.all flatW = true → inV u vs = hasF x ws
  | [], _, t, _ => by cases t; rfl
  | w :: ws, _, t, h => by
    cases t with
    | cons r' t =>
      simp only [List.all_cons, Bool.and_eq_true] at h
      have ih := hasF_V r hx t h.2
      unfold inV hasF at ih ⊢
      rw [List.any_cons, List.any_cons, ih, eqF_V r' r h.1 hx]
theorem os_in {neg : Bool} : OpS X (rIn X.K neg) (inW neg) := by
  intro ρ δ S H x y v u Q E s rx ry hp
  unfold inW at hp
  cases h : seqW S y with
  | none => rw [h] at hp; exact hp.elim
  | some ws =>
    rw [h] at hp
    obtain ⟨⟨h1, h2⟩, hp⟩ := PostV.if hp
    obtain ⟨p, vs, rfl, hq, t⟩ := seqW_rep s ry h
    refine ⟨p, vs, rfl, hq, flat_V rx h1, flat_Vs t h2, ?_⟩
    rw [hasF_V rx h1 t h2]
    exact PostV.here (v := .bl _) hp s .bl

/-! ### items -/
def ixW (x y : W) : M W := fun S => match y with
  | .int i => match seqW S x with
    | some ws => match atI ws i with
      | some w => .val w S
      | none => .bad
    | none => .bad
  | _ => .bad
theorem atI_rep {K : Fr} {ρ δ : List Addr} {H : Hp} {ws : List W} {vs : List V} (t : Reps K ρ δ H ws vs) {i : Int} {w : W} (e : atI ws i = some w) : ∃ v, atI vs i = some v ∧ Rep K ρ δ H w v := by
  unfold atI at e ⊢
  rw [← Reps.length t]
  cases h : ixN ws.length i with
  | none => rw [h] at e; cases e
  | some j =>
    rw [h] at e
    exact t.get e
theorem os_ix : OpS X (fun x y H Q => rIxL X.K x y H Q ∨ rIxT X.K x y H Q) ixW := by
  intro ρ δ S H x y v u Q E s rx ry hp
  unfold ixW at hp
  cases ry with
  | @int i =>
    simp only at hp
    cases h : seqW S x with
    | none => rw [h] at hp; exact hp.elim
    | some ws =>
      rw [h] at hp
      simp only at hp
      cases h2 : atI ws i with
      | none => rw [h2] at hp; exact hp.elim
      | some w =>
        rw [h2] at hp
        obtain ⟨p, vs, rfl, hq, t⟩ := seqW_rep s rx h
        obtain ⟨z, e1, r⟩ := atI_rep t h2
        rcases hq with hq | hq
        · exact .inl ⟨p, vs, i, z, rfl, rfl, hq, e1, PostV.here hp s r⟩
        · exact .inr ⟨p, vs, i, z, rfl, rfl, hq, e1, PostV.here hp s r⟩
  | _ => exact hp.elim
theorem ix_ok : IxR X (fun x y H Q => rIxL X.K x y H Q ∨ rIxT X.K x y H Q) := ix_list.or ix_tup
/-- slices of tuples and lists -/
def cutW (xs : List W) (lo hi : Option Int) : List W := (xs.drop (HT.sIx xs.length 0 lo)).take (HT.sIx xs.length xs.length hi - HT.sIx xs.length 0 lo)
theorem cut_rep {K : Fr} {ρ δ : List Addr} {H : Hp} {ws : List W} {vs : List V} (t : Reps K ρ δ H ws vs) (lo hi : Option Int) : Reps K ρ δ H (cutW ws lo hi) (cutV vs lo hi) := by
  unfold cutW cutV
  rw [Reps.length t]
  exact (t.drop _).take _
theorem cutW_whole {ws : List W} {lo hi : Option Int} (h : HT.sIx ws.length 0 lo = 0 ∧ HT.sIx ws.length ws.length hi = ws.length) : cutW ws lo hi = ws := by
  unfold cutW
  rw [h.1, h.2]
  simp
def slW (x : W) (lo hi : Option Int) : M W := fun S => match x with
  | .tup ws => .val (.tup (cutW ws lo hi)) S
  | .lst ws => .val (.lst (cutW ws lo hi)) S
  | .scr ws => .val (.lst (cutW ws lo hi)) S
  | .box n => match S[n]? with
    | some (.lst ws) => .val (.lst (cutW ws lo hi)) S
    | _ => .bad
  | _ => .bad
def tSlB : V → Option Int → Option Int → Hp → VK → Prop := fun _ _ _ _ _ => False
def asO : W → M (Option Int)
  | .int i => ret (some i)
  | _ => bad
@[simp] def mOi (me : EM W) : EM (Option Int) := fun env => bnd (me env) asO
@[simp] def mOn : EM (Option Int) := fun _ => ret none
def SimO (X : Cx) (W0 : WX) (J : JI) (e : Option Expr) (m : EM (Option Int)) : Prop :=
  ∃ t : TO, PO X e t ∧ ∀ ρ δ S H env σ Q, EnvR X.K ρ δ H env σ → Sts X.K ρ δ S H → J.p ρ H → Post X.mg X.K ρ δ H (fun _ _ a b => a = b) Q (WE W0 σ) (m env S) → t σ H Q
variable {W0 : WX} {J : JI} {e a b : Expr} {me ma mb : EM W} {pos : Pos}
theorem simo_none : SimO X W0 J none mOn := ⟨_, po_none, fun ρ δ S H env σ Q he hs hj hp => hp ρ none H (Grow.refl _ _) hs rfl⟩
theorem simo_some (h : SimE X W0 J e me) : SimO X W0 J (some e) (mOi me) := by
  obtain ⟨t, p, k⟩ := h
  refine ⟨_, po_some p, fun ρ δ S H env σ Q he hs hj hp => ?_⟩
  refine k _ _ S _ env σ _ he hs hj (Post.bind hp fun x S1 ρ1 v H1 _ g1 s1 r1 hp1 => ?_)
  cases r1 with
  | int => exact ⟨_, rfl, hp1 ρ1 _ H1 (Grow.refl _ _) s1 rfl⟩
  | _ => exact hp1.elim
@[simp] def mSl (me : EM W) (ml mh : EM (Option Int)) : EM W := fun env => bnd (me env) fun x => bnd (ml env) fun lo => bnd (mh env) fun hi => slW x lo hi
theorem sim_slice {lo hi : Option Expr} {ml mh : EM (Option Int)} {p2 : Pos} (h : SimE X W0 J e me) (hl : SimO X W0 J lo ml) (hh : SimO X W0 J hi mh) : SimE X W0 J (.Subscript e (.Slice lo hi none p2) pos) (mSl me ml mh) := by
  obtain ⟨t, p, k⟩ := h
  obtain ⟨tl, pl, kl⟩ := hl
  obtain ⟨th, ph, kh⟩ := hh
  refine ⟨_, pe_slice (sl_tupA.or sl_list) p pl ph, fun ρ δ S H env σ Q he hs hj hp => ?_⟩
  refine k _ _ S _ env σ _ he hs hj (Post.bind hp fun x S1 ρ1 v H1 _ g1 s1 r1 hp1 => ?_)
  refine kl _ _ S1 _ env σ _ (he.grow g1) s1 (J.st _ _ _ _ g1 hj) (Post.bind hp1 fun lo' S2 ρ2 lo2 H2 _ g2 s2 r2 hp2 => ?_)
  refine kh _ _ S2 _ env σ _ (he.grow (g1.trans g2)) s2 (J.st _ _ _ _ (g1.trans g2) hj) (Post.bind hp2 fun hi' S3 ρ3 hi2 H3 _ g3 s3 r3 hp3 => ?_)
  subst r2
  subst r3
  have r := (g2.trans g3).rep r1
  cases r with
  | @tup a ws vs f t =>
    refine .inl ⟨a, vs, rfl, f.sq, fun hw => ?_, fun _ p np => PostV.tup hp3 s3 (cut_rep t _ _) np⟩
    rw [← Reps.length t] at hw
    have hp3 : PostV X ρ3 δ H3 Q (WE W0 σ) (.val (.tup (cutW ws lo' hi')) S3) := hp3
    rw [cutW_whole hw] at hp3
    exact PostV.here hp3 s3 (.tup f t)
  | @lst a ws vs f t => exact .inr ⟨a, vs, rfl, f.sq, fun p np => PostV.lst hp3 s3 (cut_rep t _ _) np⟩
  | @scr a ws vs f t => exact .inr ⟨a, vs, rfl, f.sq, fun p np => PostV.lst hp3 s3 (cut_rep t _ _) np⟩
  | @box n a f hk =>
    obtain ⟨ws, vs, h1, h2, t⟩ := s3.lst f hk
    have hp3 : PostV X ρ3 δ H3 Q (WE W0 σ) (match S3[n]? with | some (Cell.lst ws) => .val (.lst (cutW ws lo' hi')) S3 | _ => .bad) := hp3
    rw [h1] at hp3
    exact .inr ⟨a, vs, rfl, .inl (.inl h2), fun p np => PostV.lst hp3 s3 (cut_rep t _ _) np⟩
  | _ => exact hp3.elim
/-- - x -/
def negW : W → M W
  | .int i => fun S => .val (.int (-i)) S
  | _ => bad
@[simp] def m1 (f : W → M W) (me : EM W) : EM W := fun env => bnd (me env) f
theorem sim_neg (h : SimE X W0 J e me) : SimE X W0 J (.UnaryOp .USub e pos) (m1 negW me) := by
  obtain ⟨t, p, k⟩ := h
  refine ⟨_, pe_un un_neg p, fun ρ δ S H env σ Q he hs hj hp => ?_⟩
  refine k _ _ S _ env σ _ he hs hj (Post.bind hp fun x S1 ρ1 v H1 _ g1 s1 r1 hp1 => ?_)
  cases r1 with
  | int => exact ⟨_, rfl, PostV.here (v := .int _) hp1 s1 .int⟩
  | _ => exact hp1.elim
end
end Sm

set_option Elab.async false
set_option linter.all false
set_option maxRecDepth 100000
namespace Sm
open PySem PySem.Spec PyProof.Rows L2 LamX
variable [TB]
section
variable {X : Cx}
/-! ### built-ins -/
def lenW : List W → M W
  | [.str x] => fun S => if x.length ≤ lim then .val (.int x.length) S else .bad
  | [w] => fun S => match seqW S w with
    | some ws => .val (.int ws.length) S
    | none => .bad
  | _ => bad
theorem ca_len : CaS X (fun xs H Q => ∃ x n, xs = [x] ∧ LenV X.K x H n ∧ Q (.int n) H) lenW := by
  intro ρ δ S H ws vs Q E s r hp
  cases r with
  | nil => exact hp.elim
  | @cons w v ws vs r t =>
    cases t with
    | cons _ _ => cases r <;> exact hp.elim
    | nil =>
      have go : ∀ us, seqW S w = some us → PostV X ρ δ H Q E (.val (.int us.length) S) → ∃ x n, [v] = [x] ∧ LenV X.K x H n ∧ Q (.int n) H := fun us e hp => by
        obtain ⟨p, vs, rfl, hq, t⟩ := seqW_rep s r e
        refine ⟨_, vs.length, rfl, ?_, ?_⟩
        · rcases hq with hq | hq
          · exact .inl ⟨vs, hq, rfl⟩
          · exact .inr ⟨vs, hq, rfl⟩
        · rw [← Reps.length t]
          exact PostV.here (v := .int _) hp s .int
      cases r with
      | str =>
        obtain ⟨hl, hp⟩ := PostV.if hp
        exact ⟨_, _, rfl, ⟨lim_ok hl, rfl⟩, PostV.here (v := .int _) hp s .int⟩
      | tup f t => exact go _ rfl hp
      | lst f t => exact go _ rfl hp
      | scr f t => exact go _ rfl hp
      | @box n a f =>
        have hp : PostV X ρ δ H Q E (match seqW S (.box n) with | some ws => .val (.int ws.length) S | none => .bad) := hp
        cases e : seqW S (.box n) with
        | none => rw [e] at hp; exact hp.elim
        | some us => rw [e] at hp; exact go us e hp
      | _ => exact hp.elim
def absW : List W → M W
  | [.int i] => fun S => .val (.int (if i < 0 then -i else i)) S
  | _ => bad
theorem ca_abs : CaS X (fun xs H Q => ∃ i, xs = [.int i] ∧ Q (.int (if i < 0 then -i else i)) H) absW := by
  intro ρ δ S H ws vs Q E s r hp
  cases r with
  | nil => exact hp.elim
  | cons r t =>
    cases t with
    | cons _ _ => cases r <;> exact hp.elim
    | nil => cases r with
      | int => exact ⟨_, rfl, PostV.here (v := .int _) hp s .int⟩
      | _ => exact hp.elim
def intW : List W → M W
  | [.int i] => fun S => .val (.int i) S
  | [.bl k] => fun S => .val (.int (if k then 1 else 0)) S
  | _ => bad
theorem ca_int : CaS X (fun xs H Q => (∃ i, xs = [.int i] ∧ Q (.int i) H) ∨ ∃ k, xs = [.bl k] ∧ Q (.int (if k then 1 else 0)) H) intW := by
  intro ρ δ S H ws vs Q E s r hp
  cases r with
  | nil => exact hp.elim
  | cons r t =>
    cases t with
    | cons _ _ => cases r <;> exact hp.elim
    | nil => cases r with
      | int => exact .inl ⟨_, rfl, PostV.here (v := .int _) hp s .int⟩
      | bl => exact .inr ⟨_, rfl, PostV.here (v := .int _) hp s .int⟩
      | _ => exact hp.elim
def max2W : List W → M W
  | [.int i, .int j] => fun S => .val (.int (if j > i then j else i)) S
  | _ => bad
def min2W : List W → M W
  | [.int i, .int j] => fun S => .val (.int (if j < i then j else i)) S
  | _ => bad
theorem ca_max2 : CaS X (fun xs H Q => ∃ i j, xs = [.int i, .int j] ∧ Q (.int (if j > i then j else i)) H) max2W := by
  intro ρ δ S H ws vs Q E s r hp
  cases r with
  | nil => exact hp.elim
  | cons r t =>
    cases t with
    | nil => cases r <;> exact hp.elim
    | cons r' t =>
      cases t with
      | cons _ _ => cases r <;> cases r' <;> exact hp.elim
      | nil => cases r with
        | int => cases r' with
          | int => exact ⟨_, _, rfl, PostV.here (v := .int _) hp s .int⟩
          | _ => exact hp.elim
        | _ => cases r' <;> exact hp.elim
theorem ca_min2 : CaS X (fun xs H Q => ∃ i j, xs = [.int i, .int j] ∧ Q (.int (if j < i then j else i)) H) min2W := by
  intro ρ δ S H ws vs Q E s r hp
  cases r with
  | nil => exact hp.elim
  | cons r t =>
    cases t with
    | nil => cases r <;> exact hp.elim
    | cons r' t =>
      cases t with
      | cons _ _ => cases r <;> cases r' <;> exact hp.elim
      | nil => cases r with
        | int => cases r' with
          | int => exact ⟨_, _, rfl, PostV.here (v := .int _) hp s .int⟩
          | _ => exact hp.elim
        | _ => cases r' <;> exact hp.elim
/-- list(xs), tuple(xs) -/
def listW : List W → M W
  | [w] => fun S => match seqW S w with
    | some ws => .val (.lst ws) S
    | none => .bad
  | _ => bad
def listB : List W → M W
  | [w] => fun S => match seqW S w with
    | some ws => .val (.box S.length) (S ++ [.lst ws])
    | none => .bad
  | _ => bad
theorem ca_list : CaS X (fun xs H Q => ∃ p ys, xs = [.ref p] ∧ (SqL X.K H p ys ∨ SqT X.K H p ys) ∧ ∀ l, H l = none → Q (.ref l) (upd H l (.lst ys))) listW := by
  intro ρ δ S H ws vs Q E s r hp
  cases r with
  | nil => exact hp.elim
  | @cons w v ws vs r t =>
    cases t with
    | cons _ _ => exact hp.elim
    | nil =>
      have hp : PostV X ρ δ H Q E (match seqW S w with | some ws => .val (.lst ws) S | none => .bad) := hp
      cases e : seqW S w with
      | none => rw [e] at hp; exact hp.elim
      | some us =>
        rw [e] at hp
        obtain ⟨p, vs, rfl, hq, t⟩ := seqW_rep s r e
        exact ⟨p, vs, rfl, hq, fun l hl => PostV.lst hp s t hl⟩
theorem ca_listB : CaS X (fun xs H Q => ∃ p ys, xs = [.ref p] ∧ (SqL X.K H p ys ∨ SqT X.K H p ys) ∧ ∀ l, H l = none → Q (.ref l) (upd H l (.lst ys))) listB := by
  intro ρ δ S H ws vs Q E s r hp
  cases r with
  | nil => exact hp.elim
  | @cons w v ws vs r t =>
    cases t with
    | cons _ _ => exact hp.elim
    | nil =>
      have hp : PostV X ρ δ H Q E (match seqW S w with | some ws => .val (.box S.length) (S ++ [.lst ws]) | none => .bad) := hp
      cases e : seqW S w with
      | none => rw [e] at hp; exact hp.elim
      | some us =>
        rw [e] at hp
        obtain ⟨p, vs, rfl, hq, t⟩ := seqW_rep s r e
        exact ⟨p, vs, rfl, hq, fun l hl => PostV.box hp s t hl⟩
def tupW : List W → M W
  | [w] => fun S => match seqW S w with
    | some ws => .val (.tup ws) S
    | none => .bad
  | _ => bad
theorem ca_tup : CaS X (fun xs H Q => ∃ p ys, xs = [.ref p] ∧ ((SqL X.K H p ys ∧ ∀ l, H l = none → Q (.ref l) (upd H l (.tup ys))) ∨ (SqT X.K H p ys ∧ Q (.ref p) H))) tupW := by
  intro ρ δ S H ws vs Q E s r hp
  cases r with
  | nil => exact hp.elim
  | @cons w v ws vs r t =>
    cases t with
    | cons _ _ => exact hp.elim
    | nil =>
      cases r with
      | tup f t => exact ⟨_, _, rfl, .inr ⟨f.sq, PostV.here hp s (.tup f t)⟩⟩
      | lst f t => exact ⟨_, _, rfl, .inl ⟨f.sq, fun l hl => PostV.tup hp s t hl⟩⟩
      | scr f t => exact ⟨_, _, rfl, .inl ⟨f.sq, fun l hl => PostV.tup hp s t hl⟩⟩
      | @box n a f hk =>
        obtain ⟨xs, vs, h1, h2, r'⟩ := s.lst f hk
        have hp : PostV X ρ δ H Q E (match (match S[n]? with | some (Cell.lst ws) => some ws | _ => none) with | some ws => .val (.tup ws) S | none => .bad) := hp
        rw [h1] at hp
        exact ⟨_, _, rfl, .inl ⟨.inl (.inl h2), fun l hl => PostV.tup hp s r' hl⟩⟩
      | _ => exact hp.elim
/-- a list's ints, bools -/
def asI : W → Option Int
  | .int i => some i
  | _ => none
def asB : W → Option Bool
  | .bl i => some i
  | _ => none
def intsO : List W → Option (List Int) := mapO asI
def blsO : List W → Option (List Bool) := mapO asB
theorem intsO_rep {K : Fr} {ρ δ : List Addr} {H : Hp} : ∀ {ws : List W} {vs : List V} {ns : List Int}, Reps K ρ δ H ws vs → intsO ws = some ns → vs = ns.map V.int
  | [], _, ns, r, e => by cases r; cases e; rfl
  | w :: ws, _, ns, r, e => by
    cases r with
    | cons r t =>
      have e : ((asI w).bind fun b => (intsO ws).bind fun bs => some (b :: bs)) = some ns := e
      cases r with
      | int =>
        cases e2 : intsO ws with
        | none => simp [asI, e2] at e
        | some ms =>
          simp [asI, e2] at e
          subst e
          rw [intsO_rep t e2]
          rfl
      | _ => simp [asI] at e
theorem blsO_rep {K : Fr} {ρ δ : List Addr} {H : Hp} : ∀ {ws : List W} {vs : List V} {ns : List Bool}, Reps K ρ δ H ws vs → blsO ws = some ns → vs = ns.map V.bl
  | [], _, ns, r, e => by cases r; cases e; rfl
  | w :: ws, _, ns, r, e => by
    cases r with
    | cons r t =>
      have e : ((asB w).bind fun b => (blsO ws).bind fun bs => some (b :: bs)) = some ns := e
      cases r with
      | bl =>
        cases e2 : blsO ws with
        | none => simp [asB, e2] at e
        | some ms =>
          simp [asB, e2] at e
          subst e
          rw [blsO_rep t e2]
          rfl
      | _ => simp [asB] at e
def lstW (S : Sto) : W → Option (List W)
  | .lst ws => some ws
  | .box n => match S[n]? with
    | some (.lst ws) => some ws
    | _ => none
  | _ => none
theorem lstW_rep {ρ δ : List Addr} {S : Sto} {H : Hp} {w : W} {v : V} {ws : List W} (s : Sts X.K ρ δ S H) (r : Rep X.K ρ δ H w v) (e : lstW S w = some ws) : ∃ p vs, v = .ref p ∧ SqL X.K H p vs ∧ Reps X.K ρ δ H ws vs := by
  cases r with
  | lst f t => cases e; exact ⟨_, _, rfl, f.sq, t⟩
  | @box n a f hk =>
    obtain ⟨xs, vs, h1, h2, r'⟩ := s.lst f hk
    have e : (match S[n]? with | some (Cell.lst ws) => some ws | _ => none) = some ws := e
    rw [h1] at e
    cases e
    exact ⟨_, _, rfl, .inl (.inl h2), r'⟩
  | _ => cases e
def onL {α : Type} (get : List W → Option α) (f : α → W) : List W → M W
  | [w] => fun S => match (lstW S w).bind get with
    | some a => .val (f a) S
    | none => .bad
  | _ => bad
theorem onL_go {α : Type} {get : List W → Option α} {f : α → W} {ρ δ : List Addr} {S : Sto} {H : Hp} {ws : List W} {vs : List V} {Q : VK} {E : XK} (s : Sts X.K ρ δ S H) (r : Reps X.K ρ δ H ws vs) (hp : PostV X ρ δ H Q E (onL get f ws S)) :
    ∃ p us xs a, vs = [.ref p] ∧ SqL X.K H p us ∧ Reps X.K ρ δ H xs us ∧ get xs = some a ∧ PostV X ρ δ H Q E (.val (f a) S) := by
  cases r with
  | nil => exact hp.elim
  | @cons w v ws vs r t =>
    cases t with
    | cons _ _ => exact hp.elim
    | nil =>
      have hp : PostV X ρ δ H Q E (match (lstW S w).bind get with | some a => .val (f a) S | none => .bad) := hp
      cases e : lstW S w with
      | none => rw [e] at hp; exact hp.elim
      | some us =>
        cases e2 : get us with
        | none => rw [e, Option.bind_some, e2] at hp; exact hp.elim
        | some a =>
          rw [e, Option.bind_some, e2] at hp
          obtain ⟨p, vs, rfl, hq, t⟩ := lstW_rep s r e
          exact ⟨p, vs, us, a, rfl, hq, t, e2, hp⟩
def sumW : List W → M W := onL intsO fun ns => .int ns.sum
def allW : List W → M W := onL blsO fun bs => .bl (bs.all id)
def anyW : List W → M W := onL blsO fun bs => .bl (bs.any id)
theorem ca_sum : CaS X (rSum X.K) sumW := by
  intro ρ δ S H ws vs Q E s r hp
  obtain ⟨p, us, xs, a, rfl, hq, t, e, hp⟩ := onL_go s r hp
  refine ⟨p, a, rfl, by rw [← intsO_rep t e]; exact hq, PostV.here (v := .int _) hp s .int⟩
theorem ca_all : CaS X (rAll X.K) allW := by
  intro ρ δ S H ws vs Q E s r hp
  obtain ⟨p, us, xs, a, rfl, hq, t, e, hp⟩ := onL_go s r hp
  refine ⟨p, a, rfl, by rw [← blsO_rep t e]; exact hq, PostV.here (v := .bl _) hp s .bl⟩
theorem ca_any : CaS X (rAny X.K) anyW := by
  intro ρ δ S H ws vs Q E s r hp
  obtain ⟨p, us, xs, a, rfl, hq, t, e, hp⟩ := onL_go s r hp
  refine ⟨p, a, rfl, by rw [← blsO_rep t e]; exact hq, PostV.here (v := .bl _) hp s .bl⟩
/-! sorted of ints -/
def insI (x : Int) : List Int → List Int
  | [] => [x]
  | y :: ys => if x ≤ y then x :: y :: ys else y :: insI x ys
def sortI : List Int → List Int
  | [] => []
  | x :: xs => insI x (sortI xs)
theorem insI_perm (x : Int) : ∀ ys, (insI x ys).Perm (x :: ys)
  | [] => .refl _
  | y :: ys => by
    unfold insI
    split
    · exact .refl _
    · exact ((insI_perm x ys).cons y).trans (.swap x y ys)
theorem sortI_perm : ∀ xs, (sortI xs).Perm xs
  | [] => .refl _
  | x :: xs => (insI_perm x _).trans ((sortI_perm xs).cons x)
theorem insI_srt (x : Int) : ∀ {ys : List Int}, ys.Pairwise (· ≤ ·) → (insI x ys).Pairwise (· ≤ ·)
  | [], _ => by simp [insI]
  | y :: ys, h => by
    unfold insI
    have hy := List.pairwise_cons.mp h
    split
    · rename_i hxy
      refine List.pairwise_cons.mpr ⟨fun z hz => ?_, h⟩
      rcases List.mem_cons.mp hz with e | hz
      · rw [e]; exact hxy
      · have := hy.1 z hz; omega
    · rename_i hxy
      refine List.pairwise_cons.mpr ⟨fun z hz => ?_, insI_srt x hy.2⟩
      rcases List.mem_cons.mp ((insI_perm x ys).subset hz) with e | hz
      · omega
      · exact hy.1 z hz
theorem sortI_srt : ∀ xs, (sortI xs).Pairwise (· ≤ ·)
  | [] => .nil
  | x :: xs => insI_srt x (sortI_srt xs)
theorem srt_uniq : ∀ {xs ys : List Int}, xs.Perm ys → xs.Pairwise (· ≤ ·) → ys.Pairwise (· ≤ ·) → xs = ys
  | [], ys, h, _, _ => (List.nil_perm.mp h).symm
  | x :: xs, [], h, _, _ => by simp at h
  | x :: xs, y :: ys, h, h1, h2 => by
    have h1' := List.pairwise_cons.mp h1
    have h2' := List.pairwise_cons.mp h2
    have mx : x ∈ y :: ys := h.subset (by simp)
    have my : y ∈ x :: xs := h.symm.subset (by simp)
    have e : x = y := by
      rcases List.mem_cons.mp mx with e | mx
      · exact e
      · rcases List.mem_cons.mp my with e | my
        · exact e.symm
        · have := h2'.1 x mx
          have := h1'.1 y my
          omega
    subst e
    rw [srt_uniq (List.Perm.cons_inv h) h1'.2 h2'.2]
def sortedW : List W → M W
  | [w] => fun S => match (seqW S w).bind intsO with
    | some ns => .val (.lst ((sortI ns).map W.int)) S
    | none => .bad
  | _ => bad
end
end Sm

namespace SmS
open PySem PySem.Spec PyProof.Rows Srt SrtO
section
variable {prog : Program} {w : World} {A : Around} {E : Value → Shared → Prop} {s : Shared}
/-- as the library's collect of a list, for a tuple -/
theorem collect_tup {l : Addr} {vs : List Value} {Q : List Value → Shared → Prop} (hl : s.heap.IsTuple l vs.toArray)
    (h : Q vs { s with heap := (s.heap.push (seqObj "list" #[] 0)).update s.heap.objs.size (Obj.mapSeq (· ++ vs.toArray)) }) (hsz : vs.length ≤ sizeLine) :
    wpAny (model prog w) A (collect (.ref l)) Q E s := by
  obtain ⟨o, ho, hc, n, hd⟩ := id hl
  unfold collect
  refine wpAny_bind (wpAny_runValue (codeAny_builtin entry_proto_collect' ?_))
  show wpAny _ _ (do again (.builtin "list.__iadd__" ⟨[← newList [], .ref l], []⟩)) _ _ s
  refine wpAny_bind (wpAny_newList (wpAny_pure ⟨Code.quiet_builtin _ (by decide +kernel), codeAny_builtin entry_list_iadd' ?_⟩))
  show wpAny _ _ (Builtin.List.listExtendWith (.ref s.heap.objs.size) (.ref l) (.ref s.heap.objs.size)) _ _ { s with heap := s.heap.push (seqObj "list" #[] 0) }
  unfold Builtin.List.listExtendWith
  have ho' : (s.heap.push (seqObj "list" #[] 0)).get? l = some o := Heap.get?_push_of_some _ ho
  refine wpAny_bind (wpAny_typeOf (T := "tuple") ⟨o, ho', hc⟩ ?_)
  have ht : (Value.type "tuple" == Value.type "tuple") = true := by rfl
  rw [if_pos (by rw [ht]; simp)]
  refine wpAny_bind (listItems_at ho' hd ?_)
  refine wpAny_bind (listItems_at (xs := #[]) (n := 0) (Heap.get?_push_size _ rfl) rfl ?_)
  rw [if_neg (by simp)]
  refine wpAny_bind (listUpdate_at (xs := #[]) (n := 0) (Heap.get?_push_size _ rfl) rfl ?_ (Nat.zero_le _) (by show (#[] ++ vs.toArray).size ≤ sizeLine + 1; simp only [Array.size_append, List.size_toArray, List.length_nil]; omega))
  refine wpAny_pure ?_
  show wpAny (model prog w) A (do
      let o ← load s.heap.objs.size
      match o.data with
      | .seq xs _ => pure xs.toList
      | _ => unsupported "internal:collect") Q E { s with heap := (s.heap.push (seqObj "list" #[] 0)).update s.heap.objs.size (Obj.mapSeq (· ++ vs.toArray)) }
  refine wpAny_bind (wpAny_load (get?_update_seq (Heap.get?_push_size _ rfl) _) ?_)
  show wpAny _ _ (pure ((#[] : Array Value) ++ vs.toArray).toList) Q E _
  rw [show ((#[] : Array Value) ++ vs.toArray).toList = vs by simp]
  exact wpAny_pure h
theorem sorted_ordT {l : Addr} {vs : List Value} {ltv : Value → Value → Bool} {Q : Value → Shared → Prop} (O : Swo ltv) (hl : s.heap.IsTuple l vs.toArray) (hz : vs.length ≤ sizeLine)
    (hS : 2 ≤ vs.length → ∀ (h₁ : Heap) (a : Addr), h₁.get? a = some (seqObj "list" vs.toArray 0) → (∀ b o, s.heap.get? b = some o → b ≠ a ∧ h₁.get? b = some o) → SortableO prog w A.in1.in1 { s with heap := h₁ } a vs ltv)
    (h : ∀ out : List Value, Srtd ltv out → Stb ltv out vs → Q (.ref (s.heap.objs.size + 1)) { s with heap := sortedAll s.heap vs out.toArray }) :
    wpAny (model prog w) A (call (.builtin "sorted") [.ref l]) Q E s := by
  refine Calls.call_function_entry kind_sorted plain_sorted entry_sorted (args_sorted1 _) ?_
  unfold Builtin.«sorted»
  refine wpAny_bind (m := checkCount "sorted" 1 1 _) (wpAny_pure ?_)
  refine wpAny_bind (collect_tup hl ?_ hz)
  refine wpAny_bind (wpAny_newList ?_ hz)
  have hsz : ((s.heap.push (seqObj "list" #[] 0)).update s.heap.objs.size (Obj.mapSeq (· ++ vs.toArray))).objs.size = s.heap.objs.size + 1 := by
    rw [Heap.size_update, size_push']
  have hoL : (((s.heap.push (seqObj "list" #[] 0)).update s.heap.objs.size (Obj.mapSeq (· ++ vs.toArray))).push (seqObj "list" vs.toArray 0)).get? (s.heap.objs.size + 1) = some (seqObj "list" vs.toArray 0) := by
    rw [← hsz]; exact Heap.get?_push_size _ rfl
  have keep : ∀ b o, s.heap.get? b = some o → b ≠ s.heap.objs.size + 1 ∧ (((s.heap.push (seqObj "list" #[] 0)).update s.heap.objs.size (Obj.mapSeq (· ++ vs.toArray))).push (seqObj "list" vs.toArray 0)).get? b = some o := fun b o q => by
    have hlt : b < s.heap.objs.size := Heap.lt_size q
    refine ⟨Nat.ne_of_lt (Nat.lt_succ_of_lt hlt), Heap.get?_push_of_some _ ?_⟩
    rw [Heap.get?_update_ne _ _ _ _ (Nat.ne_of_lt hlt)]
    exact Heap.get?_push_of_some _ q
  show wpAny _ _ _ _ _ { s with heap := ((s.heap.push (seqObj "list" #[] 0)).update s.heap.objs.size (Obj.mapSeq (· ++ vs.toArray))).push (seqObj "list" vs.toArray 0) }
  rw [hsz]
  refine wpAny_bind (wpAny_holding (wpAny_call_entry slot_list_sort ⟨_, hoL, rfl⟩ entry_list_sort (list_sort_ord O hoL hz (fun h2 => hS h2 _ _ hoL keep) fun out hs hb => ⟨_, rfl, ?_⟩) (args_list_sort _)))
  exact wpAny_pure ⟨_, rfl, h out hs hb⟩
end
end SmS

namespace Sm
open PySem PySem.Spec PyProof.Rows L2 LamX
variable [TB]
section
variable {X : Cx}
/-- sorted(xs), a list or a tuple of ints -/
def rSrtW (K : Fr) : List V → Hp → VK → Prop := fun vs H Q => ∃ (a : Addr) (ns : List Int), vs = [V.ref a] ∧ (SqL K H a (ns.map V.int) ∨ SqT K H a (ns.map V.int)) ∧ ∀ p, H p = none → Q (.ref p) (upd H p (.lst ((sortI ns).map V.int)))
theorem cr_srtW : CallR X (.builtin "sorted") (rSrtW X.K) := by
  intro pins s σ H vs us Q I r h
  obtain ⟨a, ns, rfl, hs, q⟩ := h
  have fin : ∀ {its : List Value} (rv : Vals (ns.map V.int) its) (hz : (ns.map V.int).length ≤ sizeLine) (out : List Value), SrtO.Srtd SrtO.ltIv out → SrtO.Stb SrtO.ltIv out its → EP X pins σ Q (.ref (s.heap.objs.size + 1)) { s with heap := sortedAll s.heap its out.toArray } := by
    intro its rv hz out h1 h2
    have hi := rv.ints
    obtain ⟨k1, k2, k3⟩ := SrtO.ints_out hi h1 h2
    obtain ⟨ep, he'⟩ := PyProof.Rows.sortedAll_at s.heap its out.toArray
    have e : out.map SrtO.iv = sortI ns := srt_uniq (k2.trans (sortI_perm ns).symm) k3 (sortI_srt ns)
    rw [e] at k1
    have hlen : ((sortI ns).map V.int).length ≤ sizeLine := by
      rw [List.length_map, (sortI_perm ns).length_eq]
      rw [List.length_map] at hz
      exact hz
    exact ⟨.ref _, upd H (s.heap.objs.size + 1) (.lst ((sortI ns).map V.int)), I.laid (t' := s.toks) (fun _ _ => PyProof.Rows.sortedAll_old) (Nat.le_succ _) ⟨hlen, out, ep, vals_of_ints k1, he'⟩, rfl, q _ (I.hok.fresh (Nat.le_succ _))⟩
  rcases hs with hs | hs
  · obtain ⟨its, rv, hl, hz⟩ := I.list hs
    rw [Vals.ref1 r]
    exact SrtO.sorted_ord SrtO.swo_int hl.isList (by rw [← rv.length]; exact hz) (fun h2 h₁ a' _ _ => SrtO.ints_sortable rv.ints h2) fun out h1 h2 => fin rv hz out h1 h2
  · obtain ⟨its, rv, hl, hz⟩ := I.tuple hs
    rw [Vals.ref1 r]
    exact SmS.sorted_ordT SrtO.swo_int hl (by rw [← rv.length]; exact hz) (fun h2 h₁ a' _ _ => SrtO.ints_sortable rv.ints h2) fun out h1 h2 => fin rv hz out h1 h2
theorem ca_srt : CaS X (rSrtW X.K) sortedW := by
  intro ρ δ S H ws vs Q E s r hp
  cases r with
  | nil => exact hp.elim
  | @cons w v ws vs r t =>
    cases t with
    | cons _ _ => exact hp.elim
    | nil =>
      have hp : PostV X ρ δ H Q E (match (seqW S w).bind intsO with | some ns => .val (.lst ((sortI ns).map W.int)) S | none => .bad) := hp
      cases e : seqW S w with
      | none => rw [e] at hp; exact hp.elim
      | some us =>
        cases e2 : intsO us with
        | none => rw [e, Option.bind_some, e2] at hp; exact hp.elim
        | some ns =>
          rw [e, Option.bind_some, e2] at hp
          obtain ⟨p, vs, rfl, hq, t⟩ := seqW_rep s r e
          have ev := intsO_rep t e2
          subst ev
          exact ⟨p, ns, rfl, hq, fun l hl => PostV.lst hp s (Reps.ints _) hl⟩

/-! ### isinstance, one built-in class -/
def tyW : W → Option String
  | .non => some "NoneType" | .bl _ => some "bool" | .int _ => some "int" | .str _ => some "str" | .tup _ => some "tuple" | .lst _ => some "list" | .scr _ => some "list" | .box _ => some "list" | .rng _ _ => some "range" | .dct _ => some "dict"
theorem tyW_rep {ρ δ : List Addr} {S : Sto} {H : Hp} {w : W} {v : V} {T : String} (s : Sts X.K ρ δ S H) (r : Rep X.K ρ δ H w v) (e : tyW w = some T) : TyR X.K H v (.type T) := by
  cases r with
  | non => cases e; exact .inl (.base .non)
  | bl => cases e; exact .inl (.base (.bl _))
  | int => cases e; exact .inl (.base (.int _))
  | str => cases e; exact .inl (.base (.str _))
  | tup f t =>
    cases e
    exact .inl (.base (.tup f.1))
  | lst f t => cases e; exact .inl (.base (.lst f.1))
  | scr f t =>
    cases e
    rcases f with ⟨f | ⟨o, f⟩, _⟩ | ⟨o, its, n, h1, h2, _⟩
    · exact .inl (.base (.lst f))
    · exact .inl (.base (.frz f))
    · exact .inl (.kList h1 h2)
  | @box n a f hk =>
    cases e
    obtain ⟨xs, vs, h1, h2, r'⟩ := s.lst f hk
    exact .inl (.base (.lst h2))
  | @dct n a f hk =>
    cases e
    obtain ⟨o, h1, h2⟩ := kdH_ex (H := H) (a := a) (by rcases hk with hk | hk <;> rw [hk] <;> decide)
    rw [← h2] at hk
    cases o with
    | dK kvs => exact .inl (.base (.dK h1))
    | dT kvs => exact .inl (.base (.dT h1))
    | _ => rcases hk with hk | hk <;> cases hk
  | @rng a lo hi f => cases e; exact .inr ⟨a, lo, hi, rfl, f.1, rfl⟩
/-- which of the five types below are kinds of which -/
def isaW (T : String) (w : W) : Bool := match w with
  | .bl _ => T == "bool" || T == "int"
  | .int _ => T == "int"
  | .str _ => T == "str"
  | .tup _ => T == "tuple"
  | .lst _ => T == "list" | .scr _ => T == "list" | .box _ => T == "list"
  | .non => false
  | .rng _ _ => false
  | .dct _ => false
def okT (T : String) : Bool := T == "bool" || T == "int" || T == "str" || T == "tuple" || T == "list"
theorem kit5 (K : Fr) {T U : String} (hT : okT T = true) (hU : U = "NoneType" ∨ U = "range" ∨ U = "dict" ∨ okT U = true) : PySem.W.kitOne K (.type U) (.type T) = some (T == U || (U == "bool" && T == "int")) := by
  simp only [okT, Bool.or_eq_true, beq_iff_eq] at hT hU
  rcases hT with (((rfl | rfl) | rfl) | rfl) | rfl <;> rcases hU with rfl | rfl | rfl | (((rfl | rfl) | rfl) | rfl) | rfl <;> exact kit_ty (by decide +kernel)
end
end Sm

set_option Elab.async false
set_option linter.all false
set_option maxRecDepth 100000
namespace Sm
open PySem PySem.Spec PyProof.Rows L2 LamX
variable [TB]
section
variable {X : Cx} {W0 : WX} {J : JI} {a b e : Expr} {me ma mb : EM W} {pos p p2 : Pos} {x T : Str}
/-! ### isinstance(e, T) -/
@[simp] def isiW (T : String) (w : W) : M W := fun S => .val (.bl (isaW T w)) S
theorem isa_eq {T U : String} {w : W} (hU : tyW w = some U) (hT : okT T = true) : (T == U || (U == "bool" && T == "int")) = isaW T w := by
  simp only [okT, Bool.or_eq_true, beq_iff_eq] at hT
  cases w <;> cases hU <;> rcases hT with (((rfl | rfl) | rfl) | rfl) | rfl <;> first | rfl | simp [isaW]
theorem sim_isi {T : String} (hT : okT T = true) (hg : Gl X "isinstance") (hm : X.mg "isinstance" = none) (hg2 : Gl X x) (hm2 : X.mg x = none) (hv : bootBuiltins x = some (.type T)) (ha : SimE X W0 J a ma)
    (hn : x ≠ "__name__" := by decide) (hdb : (x == ("__debug__" : Str)) = false := by decide)
    (hs : starEach [a, .Name x p2] X.env = (false, eval a X.env) :: starEach [.Name x p2] X.env := by rfl) (hs2 : starEach [.Name x p2] X.env = (false, eval (.Name x p2) X.env) :: starEach [] X.env := by rfl) (hpl : (backTo pos (starEach [.Name x p2] X.env)).any (·.1) = false := by rfl) :
    SimE X W0 J (.Call (.Name "isinstance" p) [a, .Name x p2] [] pos) (m1 (isiW T) ma) := by
  obtain ⟨t, pa, k⟩ := ha
  have pT : PE X (.Name x p2) (tC (V.ty T)) := pe_bltn (v := V.ty T) hg2 hm2 hv rfl hn hdb
  refine ⟨_, pe_callB (r := rIsR X.K) call_isR hg hm (by decide +kernel) (pa_cons pa (pa_cons pT pa_nil hs2) hs) (by decide) (by decide) hs hpl, fun ρ δ S H env σ Q he hst hj hp => ?_⟩
  refine k _ _ S _ env σ _ he hst hj (Post.bind hp fun w S1 ρ1 v H1 _ g1 s1 r1 hp1 => ?_)
  have hp1 : PostV X ρ1 δ H1 Q (WE W0 σ) (.val (.bl (isaW T w)) S1) := hp1
  obtain ⟨U, hU⟩ : ∃ U, tyW w = some U := by cases w <;> exact ⟨_, rfl⟩
  have hok : U = "NoneType" ∨ U = "range" ∨ U = "dict" ∨ okT U = true := by cases w <;> cases hU <;> first | exact .inl rfl | exact .inr (.inl rfl) | exact .inr (.inr (.inl rfl)) | exact .inr (.inr (.inr (by decide +kernel)))
  refine ⟨v, .ty T, .type U, .type T, _, rfl, .ty T, tyW_rep s1 r1 hU, kit5 X.K hT hok, ?_⟩
  rw [isa_eq hU hT]
  exact PostV.here (v := .bl _) hp1 s1 .bl

/-! ### list(range(..)), tuple(range(..)) -/
def SimRg (X : Cx) (W0 : WX) (J : JI) (e : Expr) (m : EM (Int × Int)) : Prop :=
  ∃ t : L2.St → Hp → (Int → Int → Hp → Prop) → Prop, PRg X e t ∧ ∀ ρ δ S H env σ (Q : Int → Int → Hp → Prop), EnvR X.K ρ δ H env σ → Sts X.K ρ δ S H → J.p ρ H → Post X.mg X.K ρ δ H (fun _ _ a b => a = b) (fun (q : Int × Int) H => Q q.1 q.2 H) (WE W0 σ) (m env S) → t σ H Q
def asR1 : W → M (Int × Int)
  | .int i => ret (0, i)
  | _ => bad
def asR2 : W → W → M (Int × Int)
  | .int i, .int j => ret (i, j)
  | _, _ => bad
@[simp] def mRg1 (ma : EM W) : EM (Int × Int) := fun env => bnd (ma env) asR1
@[simp] def mRg2 (ma mb : EM W) : EM (Int × Int) := fun env => bnd (ma env) fun w => bnd (mb env) fun u => asR2 w u
theorem simrg_1 (hg : Gl X "range") (hm : X.mg "range" = none) (ha : SimE X W0 J a ma) (na : starEach [a] X.env = (false, eval a X.env) :: starEach [] X.env := by rfl) : SimRg X W0 J (.Call (.Name "range" p) [a] [] pos) (mRg1 ma) := by
  obtain ⟨t, pa, k⟩ := ha
  refine ⟨_, prg_1 hg hm pa na, fun ρ δ S H env σ Q he hst hj hp => ?_⟩
  refine k _ _ S _ env σ _ he hst hj (Post.bind hp fun w S1 ρ1 v H1 _ g1 s1 r1 hp1 => ?_)
  cases r1 with
  | int => exact ⟨_, rfl, hp1 ρ1 _ H1 (Grow.refl _ _) s1 rfl⟩
  | _ => exact hp1.elim
theorem simrg_2 (hg : Gl X "range") (hm : X.mg "range" = none) (ha : SimE X W0 J a ma) (hb : SimE X W0 J b mb) (na : starEach [a, b] X.env = (false, eval a X.env) :: starEach [b] X.env := by rfl)
    (nb : starEach [b] X.env = (false, eval b X.env) :: starEach [] X.env := by rfl) (hpl : (backTo pos (starEach [b] X.env)).any (·.1) = false := by rfl) : SimRg X W0 J (.Call (.Name "range" p) [a, b] [] pos) (mRg2 ma mb) := by
  obtain ⟨t, pa, k⟩ := ha
  obtain ⟨t2, pb, k2⟩ := hb
  refine ⟨_, prg_2 hg hm pa pb na nb hpl, fun ρ δ S H env σ Q he hst hj hp => ?_⟩
  refine k _ _ S _ env σ _ he hst hj (Post.bind hp fun w S1 ρ1 v H1 _ g1 s1 r1 hp1 => ?_)
  refine k2 _ _ S1 _ env σ _ (he.grow g1) s1 (J.st _ _ _ _ g1 hj) (Post.bind hp1 fun u S2 ρ2 v2 H2 _ g2 s2 r2 hp2 => ?_)
  cases r1 with
  | int => cases r2 with
    | int => exact ⟨_, _, rfl, rfl, hp2 ρ2 _ H2 (Grow.refl _ _) s2 rfl⟩
    | _ => exact hp2.elim
  | _ => cases r2 <;> exact hp2.elim
def okRg (i j : Int) : Prop := (-big ≤ i ∧ i ≤ big) ∧ (-big ≤ j ∧ j ≤ big) ∧ j - i ≤ 100000
instance (i j : Int) : Decidable (okRg i j) := inferInstanceAs (Decidable ((-big ≤ i ∧ i ≤ big) ∧ (-big ≤ j ∧ j ≤ big) ∧ j - i ≤ 100000))
theorem okRg.rg {i j : Int} (h : okRg i j) : RgOk i j := by
  obtain ⟨⟨h1, h2⟩, ⟨h3, h4⟩, h5⟩ := h
  unfold big at h1 h2 h3 h4
  exact ⟨by omega, by omega, by omega, by omega, by omega⟩
theorem rg_rep {K : Fr} {ρ δ : List Addr} {H : Hp} (i j : Int) : Reps K ρ δ H (rangeW i (j - i).toNat) (rgV i j) := by
  unfold rangeW rgV
  generalize List.range (j - i).toNat = l
  induction l with
  | nil => exact .nil
  | cons x l ih => exact .cons .int ih
@[simp] def mRL (m : EM (Int × Int)) : EM W := fun env => bnd (m env) fun q S => if okRg q.1 q.2 then .val (.lst (rangeW q.1 (q.2 - q.1).toNat)) S else .bad
@[simp] def mRB (m : EM (Int × Int)) : EM W := fun env => bnd (m env) fun q S => if okRg q.1 q.2 then .val (.box S.length) (S ++ [.lst (rangeW q.1 (q.2 - q.1).toNat)]) else .bad
@[simp] def mRT (m : EM (Int × Int)) : EM W := fun env => bnd (m env) fun q S => if okRg q.1 q.2 then .val (.tup (rangeW q.1 (q.2 - q.1).toNat)) S else .bad
variable {mr : EM (Int × Int)}
theorem sim_lrg (hc : X.calm = true) (hg : Gl X "list") (hm : X.mg "list" = none) (h : SimRg X W0 J e mr) (na : starEach [e] X.env = (false, eval e X.env) :: starEach [] X.env := by rfl) : SimE X W0 J (.Call (.Name "list" p) [e] [] pos) (mRL mr) := by
  obtain ⟨t, pa, k⟩ := h
  refine ⟨_, pe_listRg hc hg hm pa na, fun ρ δ S H env σ Q he hst hj hp => ?_⟩
  refine k _ _ S _ env σ _ he hst hj (Post.bind hp fun w S1 ρ1 v H1 _ g1 s1 r1 hp1 => ?_)
  subst r1
  obtain ⟨hok, hp1⟩ := PostV.if hp1
  exact ⟨hok.rg, fun q nq => PostV.lst hp1 s1 (rg_rep _ _) nq⟩
theorem sim_lrgB (hc : X.calm = true) (hg : Gl X "list") (hm : X.mg "list" = none) (h : SimRg X W0 J e mr) (na : starEach [e] X.env = (false, eval e X.env) :: starEach [] X.env := by rfl) : SimE X W0 J (.Call (.Name "list" p) [e] [] pos) (mRB mr) := by
  obtain ⟨t, pa, k⟩ := h
  refine ⟨_, pe_listRg hc hg hm pa na, fun ρ δ S H env σ Q he hst hj hp => ?_⟩
  refine k _ _ S _ env σ _ he hst hj (Post.bind hp fun w S1 ρ1 v H1 _ g1 s1 r1 hp1 => ?_)
  subst r1
  obtain ⟨hok, hp1⟩ := PostV.if hp1
  exact ⟨hok.rg, fun q nq => PostV.box hp1 s1 (rg_rep _ _) nq⟩
theorem sim_trg (hc : X.calm = true) (hg : Gl X "tuple") (hm : X.mg "tuple" = none) (h : SimRg X W0 J e mr) (na : starEach [e] X.env = (false, eval e X.env) :: starEach [] X.env := by rfl) : SimE X W0 J (.Call (.Name "tuple" p) [e] [] pos) (mRT mr) := by
  obtain ⟨t, pa, k⟩ := h
  refine ⟨_, pe_tupRg hc hg hm pa na, fun ρ δ S H env σ Q he hst hj hp => ?_⟩
  refine k _ _ S _ env σ _ he hst hj (Post.bind hp fun w S1 ρ1 v H1 _ g1 s1 r1 hp1 => ?_)
  subst r1
  obtain ⟨hok, hp1⟩ := PostV.if hp1
  exact ⟨hok.rg, fun q nq => PostV.tup hp1 s1 (rg_rep _ _) nq⟩

/-! ### len(set(e)), e a tuple or a list of ints -/
def dd : List Int → List Int
  | [] => []
  | x :: xs => if x ∈ xs then dd xs else x :: dd xs
theorem mem_dd {x : Int} : ∀ {xs : List Int}, x ∈ dd xs ↔ x ∈ xs
  | [] => Iff.rfl
  | y :: ys => by
    unfold dd
    split
    · rename_i h
      rw [mem_dd, List.mem_cons]
      exact ⟨.inr, fun z => z.elim (fun e => by rw [e]; exact h) id⟩
    · rw [List.mem_cons, List.mem_cons, mem_dd]
theorem nd_dd : ∀ xs, (dd xs).Nodup
  | [] => .nil
  | y :: ys => by
    unfold dd
    split
    · exact nd_dd ys
    · rename_i h
      exact List.nodup_cons.mpr ⟨fun z => h (mem_dd.mp z), nd_dd ys⟩
theorem nd_len : ∀ {xs ys : List Int}, xs.Nodup → (∀ x ∈ xs, x ∈ ys) → xs.length ≤ ys.length
  | [], ys, _, _ => Nat.zero_le _
  | x :: xs, ys, h, hs => by
    obtain ⟨h1, h2⟩ := List.nodup_cons.mp h
    have mx : x ∈ ys := hs x (by simp)
    have := nd_len (xs := xs) (ys := ys.erase x) h2 fun z hz => (List.mem_erase_of_ne (fun e => h1 (by rw [← e]; exact hz))).mpr (hs z (by simp [hz]))
    rw [List.length_erase_of_mem mx] at this
    have hp : 0 < ys.length := List.length_pos_of_mem mx
    simp only [List.length_cons]
    omega
def lsetW (w : W) : M W := fun S => match (match w with | .tup ws => intsO ws | _ => none) with
  | some ns => if ns.length ≤ 1000 then .val (.int (dd ns).length) S else .bad
  | none => .bad
theorem sim_lenset (hg : Gl X "len") (hm : X.mg "len" = none) (hg2 : Gl X "set") (hm2 : X.mg "set" = none) (ha : SimE X W0 J a ma) (hc : X.calm = true := by rfl)
    (na : starEach [a] X.env = (false, eval a X.env) :: starEach [] X.env := by rfl) {q : Pos} : SimE X W0 J (.Call (.Name "len" p) [.Call (.Name "set" p2) [a] [] q] [] pos) (m1 lsetW ma) := by
  refine SimE.of ⟨fun pins s σ H Q I h => ?_⟩
  obtain ⟨ρ, δ, S, env, he, hst, hj, hp⟩ := h
  obtain ⟨ta, pa, k⟩ := ha
  refine Call_ (ld_blt I hg hm boot_len ?_)
  refine PyProof.Rows.callWith_builtin1 (PyProof.Rows.args_cons ?_ rfl) rfl rfl
  refine Call_ (ld_blt I hg2 hm2 boot_set ?_)
  refine PyProof.Rows.callWith_type1 (PyProof.Rows.args_cons (thn (pa.run pins s σ H (fun x H1 => ∃ (l : Addr) (ns : List Int), x = .ref l ∧ SqT X.K H1 l (ns.map V.int) ∧ ns.length ≤ 1000 ∧ Q (.int ((dd ns).length : Nat)) H1) I ?_) fun v s1 ⟨x, H1, I1, r1, q1⟩ => PyProof.Rows.args_nil ?_) na) na rfl
  · refine k _ _ S _ env σ _ he hst hj (Post.bind hp fun w S1 ρ1 v H1 _ g1 s1 r1 hp1 => ?_)
    cases r1 with
    | @tup a ws vs f t =>
      have hp1 : PostV X ρ1 δ H1 Q (WE W0 σ) (match intsO ws with | some ns => if ns.length ≤ 1000 then .val (.int (dd ns).length) S1 else .bad | none => .bad) := hp1
      cases e1 : intsO ws with
      | none => rw [e1] at hp1; exact hp1.elim
      | some ns =>
        rw [e1] at hp1
        obtain ⟨hl, hp1⟩ := PostV.if hp1
        have ev := intsO_rep t e1
        subst ev
        exact ⟨a, ns, rfl, f.sq, hl, PostV.here (v := .int _) hp1 s1 .int⟩
    | _ => exact hp1.elim
  · obtain ⟨l, ns, rfl, hq, hl, q1⟩ := q1
    cases r1
    obtain ⟨its, r, pl, hz⟩ := I1.tuple hq
    refine call_set_tupI (P := X.prog) (w := X.w) ns (I1.ok.hd hc) (show s1.heap.IsTuple l its.toArray from pl) (by simpa using RZ.intsAre_vals r) (by unfold scanBound; omega) fun h' tk c hS hcl hk => ?_
    refine PyProof.Rows.args_nil ?_
    obtain ⟨o, es, ep, t, ho, hex, hd, _, hnd, hmem, _, hf, hn, _⟩ := hS
    have I2 : Inv X pins σ H1 { s1 with heap := h', toks := tk } := I1.kept fun b o e => hk b o e
    have ec : es.size = (dd ns).length := by
      have e1 : (es.toList.map keyOf).length = es.size := by simp
      rw [← e1]
      refine Nat.le_antisymm (nd_len hnd fun z hz => mem_dd.mpr (of_decide_eq_true ((hmem z).mpr hz))) (nd_len (nd_dd ns) fun z hz => (hmem z).mp (decide_eq_true (mem_dd.mp hz)))
    exact call_len_set ho hex hd hf (by omega) ⟨.int ((dd ns).length : Nat), H1, I2.tok _, ⟨_, by rw [ec]⟩, q1⟩

/-! ### methods of lists -/
def MtS (X : Cx) (r : V → List V → Hp → VK → Prop) (f : W → List W → M W) : Prop := ∀ ρ δ S H w v ws vs Q E, Sts X.K ρ δ S H → Rep X.K ρ δ H w v → Reps X.K ρ δ H ws vs → PostV X ρ δ H Q E (f w ws S) → r v vs H Q
def isL : W → Bool
  | .lst _ => true | .scr _ => true | .box _ => true | _ => false
@[simp] def mMt (f : W → List W → M W) (mo : EM W) (ms : EM (List W)) : EM W := fun env => bnd (mo env) fun o => if isL o = true then bnd (ms env) fun ws => f o ws else bad
theorem isL_ty {ρ δ : List Addr} {S : Sto} {H : Hp} {w : W} {v : V} (s : Sts X.K ρ δ S H) (r : Rep X.K ρ δ H w v) (h : isL w = true) : tyV X.K "list" v H := by
  cases r with
  | lst f t => exact .inl ⟨rfl, _, f.sq⟩
  | scr f t => exact .inl ⟨rfl, _, f.sq⟩
  | @box n a f hk =>
    obtain ⟨xs, vs, h1, h2, r'⟩ := s.lst f hk
    exact .inl ⟨rfl, _, .inl (.inl h2)⟩
  | _ => cases h
variable {name : Str} {id : String} {apos cpos : Pos} {r : V → List V → Hp → VK → Prop} {f : W → List W → M W} {es : List Expr} {ms : EM (List W)} {o : Expr} {mo : EM W}
theorem sim_mt (slot : Slot "list" name id) (hty : typeOf (.builtin id) = pure (.type "method_descriptor")) (hm : MtR X id r) (os : MtS X r f) (ho : SimE X W0 J o mo) (ha : SimA X W0 J (e :: es) ms)
    (hbase : attributeBase o name X.env (eval o X.env) = eval o X.env := by rfl)
    (hfew : ((backTo cpos (starEach (e :: es) X.env)).all (fun x => !x.1) && (backToKw cpos (keywordEach [] X.env)).all (fun x => x.1.isSome)
      && decide ((e :: es).length + ([] : List Keyword).length + (if ([] : List Keyword).isEmpty then 0 else 1) < 30)) = true := by rfl)
    (hline : (apos.endLine == cpos.line) = true := by rfl) (hs : starEach (e :: es) X.env = (false, eval e X.env) :: starEach es X.env := by rfl) (hplain : (backTo cpos (starEach es X.env)).any (·.1) = false := by rfl) :
    SimE X W0 J (.Call (.Attribute o name apos) (e :: es) [] cpos) (mMt f mo ms) := by
  obtain ⟨to, po, ko⟩ := ho
  obtain ⟨t, pa, k⟩ := ha
  refine ⟨_, pe_bm PySem.F.plainAttrs_list slot hty hm po pa hbase hfew hline hs hplain, fun ρ δ S H env σ Q he hst hj hp => ?_⟩
  refine ko _ _ S _ env σ _ he hst hj (Post.bind hp fun w S1 ρ1 v H1 _ g1 s1 r1 hp1 => ?_)
  by_cases hl : isL w = true
  · rw [if_pos hl] at hp1
    refine ⟨isL_ty s1 r1 hl, k _ _ S1 _ env σ _ (he.grow g1) s1 (J.st _ _ _ _ g1 hj) (Post.bind hp1 fun ws S2 ρ2 vs H2 _ g2 s2 r2 hp2 => ?_)⟩
    exact os _ _ S2 _ w v ws vs Q _ s2 (g2.rep r1) r2 hp2
  · rw [if_neg hl] at hp1; exact hp1.elim
def appW : W → List W → M W
  | .box n, [w] => fun S => match S[n]? with
    | some (.lst ws) => if ws.length ≤ lim then .val .non (S.set n (.lst (ws ++ [w]))) else .bad
    | _ => .bad
  | _, _ => bad
theorem mt_app : MtS X rAppend appW := by
  intro ρ δ S H w v ws vs Q E s r rs hp
  cases r with
  | @box n a f hk =>
    cases rs with
    | nil => exact hp.elim
    | cons r1 rs => cases rs with
      | cons _ _ => exact hp.elim
      | nil =>
        obtain ⟨xs, us, h1, h2, r'⟩ := s.lst f hk
        simp only [appW, h1] at hp
        obtain ⟨hl, hp⟩ := PostV.if hp
        exact ⟨a, us, _, rfl, rfl, h2, by rw [← Reps.length r']; exact lim_lt hl, PostV.put hp s f hk (r'.append (.cons r1 .nil)) .non⟩
  | _ => cases rs <;> exact hp.elim
theorem sim_append (ho : SimE X W0 J o mo) (ha : SimA X W0 J [e] ms)
    (hbase : attributeBase o "append" X.env (eval o X.env) = eval o X.env := by rfl)
    (hfew : ((backTo cpos (starEach [e] X.env)).all (fun x => !x.1) && (backToKw cpos (keywordEach [] X.env)).all (fun x => x.1.isSome)
      && decide ([e].length + ([] : List Keyword).length + (if ([] : List Keyword).isEmpty then 0 else 1) < 30)) = true := by rfl)
    (hline : (apos.endLine == cpos.line) = true := by rfl) (hs : starEach [e] X.env = (false, eval e X.env) :: starEach [] X.env := by rfl) :
    SimE X W0 J (.Call (.Attribute o "append" apos) [e] [] cpos) (mMt appW mo ms) :=
  sim_mt PySem.F.slot_list_append PySem.F.type_list_append mt_append mt_app ho ha hbase hfew hline hs rfl
/-- xs.pop(i) -/
def popAtW : W → List W → M W
  | .box n, [.int i] => fun S => match S[n]? with
    | some (.lst ws) => if 0 ≤ i ∧ i ≤ big then (match ws[i.toNat]? with
      | some w => .val w (S.set n (.lst (ws.eraseIdx i.toNat)))
      | none => .bad) else .bad
    | _ => .bad
  | _, _ => bad
theorem Reps.erase {K : Fr} {ρ δ : List Addr} {H : Hp} : ∀ {ws : List W} {vs : List V} (i : Nat), Reps K ρ δ H ws vs → Reps K ρ δ H (ws.eraseIdx i) (vs.eraseIdx i)
  | [], _, i, r => by cases r; exact .nil
  | w :: ws, _, 0, r => by cases r with | cons r t => exact t
  | w :: ws, _, i + 1, r => by cases r with | cons r t => exact .cons r (Reps.erase i t)
theorem mt_popA : MtS X rPopAt popAtW := by
  intro ρ δ S H w v ws vs Q E s r rs hp
  cases r with
  | @box n a f hk =>
    cases rs with
    | nil => exact hp.elim
    | cons r1 rs => cases rs with
      | cons _ _ => cases r1 <;> exact hp.elim
      | nil => cases r1 with
        | @int i =>
          obtain ⟨xs, us, h1, h2, r'⟩ := s.lst f hk
          simp only [popAtW, h1] at hp
          obtain ⟨⟨hi, hb⟩, hp⟩ := PostV.if hp
          cases e1 : xs[i.toNat]? with
          | none => simp only [e1] at hp; exact hp.elim
          | some y =>
            simp only [e1] at hp
            obtain ⟨z, e2, rz⟩ := r'.get e1
            have hlt : i.toNat < us.length := (List.getElem?_eq_some_iff.mp e2).1
            unfold big at hb
            refine ⟨a, us, i, i.toNat, z, rfl, rfl, h2, by omega, by omega, ?_, e2, PostV.put hp s f hk (Reps.erase _ r') rz⟩
            unfold seqIndex?
            have h0 : ¬ i < 0 := by omega
            have hl2 : i < us.length := by omega
            simp [h0, hi, hl2]
        | _ => exact hp.elim
  | _ => cases rs with
    | nil => exact hp.elim
    | cons r1 rs => cases rs <;> cases r1 <;> exact hp.elim
theorem sim_popAt (ho : SimE X W0 J o mo) (ha : SimA X W0 J [e] ms)
    (hbase : attributeBase o "pop" X.env (eval o X.env) = eval o X.env := by rfl)
    (hfew : ((backTo cpos (starEach [e] X.env)).all (fun x => !x.1) && (backToKw cpos (keywordEach [] X.env)).all (fun x => x.1.isSome)
      && decide ([e].length + ([] : List Keyword).length + (if ([] : List Keyword).isEmpty then 0 else 1) < 30)) = true := by rfl)
    (hline : (apos.endLine == cpos.line) = true := by rfl) (hs : starEach [e] X.env = (false, eval e X.env) :: starEach [] X.env := by rfl) :
    SimE X W0 J (.Call (.Attribute o "pop" apos) [e] [] cpos) (mMt popAtW mo ms) :=
  sim_mt PySem.F.slot_list_pop PySem.F.type_list_pop mt_popAt mt_popA ho ha hbase hfew hline hs rfl

/-! ### o[i] = e -/
def setW : W → W → W → Sto → Option Sto
  | .box n, .int k, w, S => match S[n]? with
    | some (.lst ws) => (ixN ws.length k).map fun j => S.set n (.lst (ws.set j w))
    | _ => none
  | _, _, _, _ => none
@[simp] def sPut (me mo mi : EM W) : SM := fun env S => ofE (me env S) env fun w S1 => ofE (mo env S1) env fun o S2 => ofE (mi env S2) env fun i S3 => match setW o i w S3 with
  | some S4 => .nx env S4
  | none => .bad
variable {i : Expr} {mi : EM W}
theorem sims_put (he : SimE X W0 J e me) (ho : SimE X W0 J o mo) (hi : SimE X W0 J i mi)
    (has : ∀ v, assign (.Subscript o i p2) X.env v = (do
      let ov ← holding [v] (eval o X.env)
      let iv ← holding [v, ov] (eval i X.env)
      standAt p2
      holding [v, ov, iv] (setItem ov iv v)
      release [v, ov, iv] []) := by intro _; rfl)
    (hs : swapsWithSole [.Subscript o i p2] e pos.line X.env = pure false := by rfl) (hw : swappedStores [.Subscript o i p2] e X.env = pure none := by rfl)
    (h1 : (assignEach [.Subscript o i p2] X.env).map (·.2) = [assign (.Subscript o i p2) X.env] := by rfl) : SimS X W0 J (.Assign [.Subscript o i p2] e pos) (sPut me mo mi) := by
  obtain ⟨te, pe, ke⟩ := he
  obtain ⟨to, po, ko⟩ := ho
  obtain ⟨ti, pi, ki⟩ := hi
  refine ⟨_, ps_asg pe (pg_sub po pi set_list has) hs hw h1, fun ρ δ S H env σ D hen hst hj hp => ?_⟩
  refine ke _ _ S _ env σ _ hen hst hj (PostS.ofE hen hp fun w S1 ρ1 v H1 _ g1 s1 r1 hp1 => ?_)
  refine ko _ _ S1 _ env σ _ (hen.grow g1) s1 (J.st _ _ _ _ g1 hj) (PostS.ofE (hen.grow g1) hp1 fun wo S2 ρ2 vo H2 _ g2 s2 r2 hp2 => ?_)
  refine ki _ _ S2 _ env σ _ (hen.grow (g1.trans g2)) s2 (J.st _ _ _ _ (g1.trans g2) hj) (PostS.ofE (hen.grow (g1.trans g2)) hp2 fun wi S3 ρ3 vi H3 _ g3 s3 r3 hp3 => ?_)
  have r1 := (g2.trans g3).rep r1
  have r2 := g3.rep r2
  cases r2 with
  | @box n a f hk => cases r3 with
    | @int k =>
      obtain ⟨ws, vs, h1', h2', rr⟩ := s3.lst f hk
      have hp3 : PostS X.mg X.K ρ3 δ H3 W0 D (match (match S3[n]? with | some (.lst ws) => (ixN ws.length k).map fun j => S3.set n (.lst (ws.set j w)) | _ => none) with | some S4 => .nx env S4 | none => .bad) := hp3
      rw [h1'] at hp3
      simp only at hp3
      cases ej : ixN ws.length k with
      | none => rw [ej] at hp3; exact hp3.elim
      | some j =>
        rw [ej] at hp3
        refine ⟨a, vs, k, j, rfl, rfl, h2', by rw [← Reps.length rr]; exact ej, ?_⟩
        have gp : Grow ρ3 H3 ρ3 (upd H3 a (.lst (vs.set j v))) := Grow.put f (by rw [hk]; decide) hk.symm
        exact hp3 ρ3 σ _ gp (s3.put f hk.symm ⟨_, rfl, rr.set j r1⟩) ((hen.grow (g1.trans (g2.trans g3))).grow gp)
    | _ => exact hp3.elim
  | _ => exact hp3.elim
end
end Sm

set_option Elab.async false
set_option linter.all false
set_option maxRecDepth 100000
namespace Sm
open PySem PySem.Spec PyProof.Rows L2 LamX
variable [TB]
section
variable {X : Cx} {W0 : WX} {J : JI} {tg e a b l : Expr} {me ma mb : EM W} {pos p p2 : Pos} {x : Str} {tl : TE}
/-! ### a for over a list or a tuple -/
def iSeq (K : Fr) (tl : TE) : TI := fun σ H R => tl σ H fun x H1 => ∃ a, x = .ref a ∧ (((∃ xs, SqL K H1 a xs) ∧ R (Itl K a) H1) ∨ ((∃ xs, SqT K H1 a xs) ∧ R (Itt K a) H1) ∨ ∃ lo hi : Int, H1 a = some (.rng lo hi) ∧ (-(2 ^ 62) ≤ lo ∧ lo < 2 ^ 62 ∧ -(2 ^ 62) ≤ hi ∧ hi < 2 ^ 62) ∧ R (Itr lo (hi - lo).toNat) H1)
theorem pi_seq (hl : PE X l tl) : PI X tg l (iSeq X.K tl) := by
  refine ⟨fun pins s σ H R I h => ?_⟩
  refine thn (hl.run pins s σ H _ I h) fun v s1 ⟨x, H1, I1, r1, q1⟩ => ?_
  obtain ⟨a, e, ⟨⟨xs, hq⟩, q⟩ | ⟨⟨xs, hq⟩, q⟩ | ⟨lo, hi, hq, ⟨b1, b2, b3, b4⟩, q⟩⟩ := q1
  · subst e
    cases r1
    obtain ⟨its, rv, p, hz⟩ := I1.list hq
    refine wpAny_pyIter_list p.isList ?_
    refine ⟨s1.heap.objs.size, [s1.heap.objs.size], _, _, H1, rfl, I1.kept (t' := s1.toks) fun b o e => Heap.get?_push_of_some _ e, turn_list a _, ⟨_, Heap.get?_push_size _ rfl, rfl, rfl⟩, fun b hb => ?_, q⟩
    have e : b = s1.heap.objs.size := by simpa using hb
    subst e
    exact I1.fpOk (Nat.le_refl _) (I1.hok.fresh (Nat.le_refl _))
  · subst e
    cases r1
    obtain ⟨its, rv, p, hz⟩ := I1.tuple hq
    refine wpAny_pyIter_tuple (show s1.heap.IsTuple a its.toArray from p) ?_
    refine ⟨s1.heap.objs.size, [s1.heap.objs.size], _, _, H1, rfl, I1.kept (t' := s1.toks) fun b o e => Heap.get?_push_of_some _ e, turn_tuple a _, ⟨_, Heap.get?_push_size _ rfl, rfl, rfl⟩, fun b hb => ?_, q⟩
    have e : b = s1.heap.objs.size := by simpa using hb
    subst e
    exact I1.fpOk (Nat.le_refl _) (I1.hok.fresh (Nat.le_refl _))
  · subst e
    cases r1
    obtain ⟨t1, t2, t3, ho⟩ := (show ObjOk X.prog X.w H1 s1.heap a (.rng lo hi) from I1.hok a _ hq)
    refine wpAny_pyIter_range (show IsRange s1.heap a lo hi 1 t1 t2 t3 from ho) (small_one b1 b2 b3 b4) ?_
    refine ⟨s1.heap.objs.size, [s1.heap.objs.size], _, _, H1, rfl, I1.kept (t' := s1.toks) fun b o e => Heap.get?_push_of_some _ e, turn_range _ lo (hi - lo).toNat, ?_, fun b hb => ?_, q⟩
    · have e1 : lo + ((0 : Nat) : Int) * 1 = lo := by simp
      have e2 : (((hi - lo).toNat : Nat) : Int) - ((0 : Nat) : Int) = Builtin.Range.rangeSize lo hi 1 := by rw [rangeSize_one]; split <;> omega
      show IsRangeIter _ _ (lo + ((0 : Nat) : Int) * 1) ((((hi - lo).toNat : Nat) : Int) - ((0 : Nat) : Int)) 1
      rw [e1, e2]
      exact Heap.get?_push_size _ rfl
    · have e : b = s1.heap.objs.size := by simpa using hb
      subst e
      exact I1.fpOk (Nat.le_refl _) (I1.hok.fresh (Nat.le_refl _))
def itSeq : W → M It8
  | .tup ws => ret (.seq ws)
  | .lst ws => ret (.seq ws)
  | .scr ws => ret (.seq ws)
  | .box n => ret (.bx n)
  | .rng lo hi => fun S => if (-big ≤ lo ∧ lo ≤ big) ∧ -big ≤ hi ∧ hi ≤ big then .val (.seq (rangeW lo (hi - lo).toNat)) S else .bad
  | _ => bad
theorem simi_seq (h : SimE X W0 J e me) : SimI X W0 J tg e (mI itSeq me) := by
  obtain ⟨t, p, k⟩ := h
  refine ⟨_, pi_seq p, fun ρ δ S H env σ R he hs hj hp => ?_⟩
  refine k _ _ S _ env σ _ he hs hj (Post.bind hp fun x S1 ρ1 v H1 _ g1 s1 r1 hp1 => ?_)
  cases r1 with
  | tup f r => exact ⟨_, rfl, .inr (.inl ⟨⟨_, f.sq⟩, hp1 ρ1 _ H1 (Grow.refl _ _) s1 (itR_tup f r)⟩)⟩
  | lst f r => exact ⟨_, rfl, .inl ⟨⟨_, f.sq⟩, hp1 ρ1 _ H1 (Grow.refl _ _) s1 (itR_sq (fun _ _ _ c => (c.m _ _ f).sq) r)⟩⟩
  | scr f r => exact ⟨_, rfl, .inl ⟨⟨_, f.sq⟩, hp1 ρ1 _ H1 (Grow.refl _ _) s1 (itR_sq (fun _ _ _ c => (c.l _ _ f).sq) r)⟩⟩
  | @box n a f hk =>
    obtain ⟨ws, vs, h1, h2, r'⟩ := s1.lst f hk
    exact ⟨_, rfl, .inl ⟨⟨_, .inl (.inl h2)⟩, hp1 ρ1 _ H1 (Grow.refl _ _) s1 (itR_box f hk)⟩⟩
  | @rng a lo hi f =>
    obtain ⟨⟨⟨h1, h2⟩, h3, h4⟩, hp1⟩ := ifO (R := Post X.mg X.K ρ1 δ H1 (ItR X.K δ) R (WE W0 σ)) hp1 id
    unfold big at h1 h2 h3 h4
    exact ⟨a, rfl, .inr (.inr ⟨lo, hi, f.1, ⟨by omega, by omega, by omega, by omega⟩, hp1 ρ1 _ H1 (Grow.refl _ _) s1 itR_rng⟩)⟩
  | _ => exact hp1.elim
/-! ### a target of names = e -/
@[simp] def sAsg (me : EM W) (g : W → Env → Option Env) : SM := fun env S => ofE (me env S) env fun w S1 => match g w env with
  | some env1 => .nx env1 S1
  | none => .bad
theorem sims_asg {gt : TG} {g : W → Env → Option Env} {ixs : List Nat} (h : SimE X W0 J e me) (hg : PG X tg gt) (gs : GS X.K ixs gt g) (hs : swapsWithSole [tg] e pos.line X.env = pure false := by rfl) (hw : swappedStores [tg] e X.env = pure none := by rfl)
    (h1 : (assignEach [tg] X.env).map (·.2) = [assign tg X.env] := by rfl) : SimS X W0 J (.Assign [tg] e pos) (sAsg me g) := by
  obtain ⟨t, p, k⟩ := h
  refine ⟨_, ps_asg p hg hs hw h1, fun ρ δ S H env σ D he hs hj hp => ?_⟩
  refine k ρ δ S H env σ _ he hs hj (PostS.ofE he hp fun w S1 ρ1 v H1 _ g1 s1 r1 hp1 => ?_)
  cases eg : g w env with
  | none => simp only [eg] at hp1; exact hp1.elim
  | some env1 =>
    simp only [eg] at hp1
    exact gs ρ1 δ S1 H1 env σ w v _ (he.grow g1) s1 r1 env1 eg fun σ' e' _ => PostS.here hp1 s1 e'
/-! ### x op= e -/
def sAug (i : Nat) (f : W → W → M W) (me : EM W) : SM := fun env S => match env[i]? with
  | some (some w) => ofE (bnd (me env) (fun u => f w u) S) env fun z S1 => .nx (env.set i (some z)) S1
  | _ => .bad
theorem sims_aug {i : Nat} {op : Operator} {t : TIp} {f : W → W → M W} (hN : X.N.Nodup) (hi : X.N[i]? = some x) (hx : Loc X.env.scope x) (h : SimE X W0 J e me) (hop : PIp X op t) (os : OpS X t f)
    (mk : ∀ te, PE X e te → PS X (.AugAssign (.Name x p2) op e pos) (tAug i te t)) : SimS X W0 J (.AugAssign (.Name x p2) op e pos) (sAug i f me) := by
  obtain ⟨te, pe, k⟩ := h
  refine ⟨_, mk te pe, fun ρ δ S H env σ D he hs hj hp => ?_⟩
  unfold sAug at hp
  cases e1 : env[i]? with
  | none => rw [e1] at hp; exact hp.elim
  | some o => cases o with
    | none => rw [e1] at hp; exact hp.elim
    | some w =>
      rw [e1] at hp
      obtain ⟨v, h1, h2⟩ := he.2 i w e1
      refine ⟨v, h1, ?_⟩
      have hp' := PostS.ofE (Q := fun z H2 => D.nx (σ.set i (some z)) H2) he hp fun z S1 ρ1 v1 H1 _ g1 s1 r1 hp1 => PostS.here hp1 s1 ((he.grow g1).set i r1)
      refine k ρ δ S H env σ _ he hs hj (Post.bind hp' fun u S1 ρ1 y H1 _ g1 s1 r1 hp1 => ?_)
      exact os ρ1 δ S1 H1 w u v y _ _ s1 (g1.rep h2) r1 hp1
/-! ### the defs of a text -/
theorem sim_gi {i : Int} (hg : Gl X x) (hm : ∃ t, X.mg x = some (.int i t)) (hd : (x == ("__debug__" : Str)) = false := by decide) : SimE X W0 J (.Name x pos) (mC (.int i)) := by
  obtain ⟨t, hm⟩ := hm
  exact sim_gint hg hm hd
end
def DefX (K : Fr) (mg : Str → Option Value) (x : Str) (st : Stmt) (ps : List Str) : Prop := ∃ (f : Addr) (fd : FuncData), Fun K x x st f fd ∧ mg x = some (.ref f) ∧ Binds K fd ps []
def FnG (P : Program) (w : World) (K : Fr) (mg : Str → Option Value) (base : Heap) (k : Nat) (x : Str) (ps : List Str) (fm : List W → M W) : Prop :=
  ∃ (f : Addr) (fd : FuncData), FnOk P w K mg base (L2.CX P w) k f fd ps (SpM K mg ps.length fm) ∧ mg x = some (.ref f) ∧ PySem.W.keepIn K (.ref f) = true ∧ Binds K fd ps []
section
variable {P : Program} {w : World} {K : Fr} {mg : Str → Option Value} {base : Heap} {x : Str} {ps : List Str} {k : Nat} {fm fm' : List W → M W}
theorem sim_defG {st : Stmt} {N : List Str} {m : SM} (D : DefX K mg x st ps) (Sc : FnScope N ps (defScope st))
    (h : ∀ (f : Addr) (cdv : Value) (A : Around) (outer : List PySem.Env) (s : Shared) (H : Hp) (E : XK), Room k (A.deeper (envOfC x (defScope st) s.heap.objs.size f cdv)) →
      SimSs (cxOf (L2.CX P w) P w K mg base N x (defScope st) f cdv A outer s H E) (WE0 E) JTb (defBody st) m) : FnG P w K mg base (k + 1) x ps (runDef N.length m) := by
  obtain ⟨f, fd, F, g, b⟩ := D
  exact ⟨f, fd, sim_def F Sc (h f), g, F.kp, b⟩
theorem sim_zeroG {st : Stmt} (D : DefX K mg x st ps) : FnG P w K mg base 0 x ps (fun _ => bad) := by
  obtain ⟨f, fd, F, g, b⟩ := D
  exact ⟨f, fd, sim_none, g, F.kp, b⟩
theorem FnG.mono {j : Nat} (F : FnG P w K mg base j x ps fm) (h : j ≤ k) : FnG P w K mg base k x ps fm := by
  obtain ⟨f, fd, F, g, kp, b⟩ := F
  exact ⟨f, fd, F.mono h, g, kp, b⟩
theorem FnG.cut (F : FnG P w K mg base k x ps fm) (h : ∀ ws S w' S', ws.length = ps.length → fm' ws S = .val w' S' → Cut fm ws S w' S') (hx : ∀ ws S e S', ws.length = ps.length → fm' ws S = .exc e S' → CutX fm ws S e S') : FnG P w K mg base k x ps fm' := by
  obtain ⟨f, fd, F, g, kp, b⟩ := F
  exact ⟨f, fd, sim_cut F h hx, g, kp, b⟩
/-- the same outcomes -/
theorem FnG.eq (F : FnG P w K mg base k x ps fm) (h : ∀ ws S, ws.length = ps.length → fm' ws S ≠ .bad → fm ws S = fm' ws S) : FnG P w K mg base k x ps fm' := by
  obtain ⟨f, fd, F, g, kp, b⟩ := F
  refine ⟨f, fd, sim_imp F fun ρ δ S H ws Q E s hl hp => ?_, g, kp, b⟩
  rw [h ws S hl fun e => by rw [e] at hp; exact hp.elim]
  exact hp
end
section
variable {X : Cx} {W0 : WX} {J : JI} {a : Expr} {es : List Expr} {ms : EM (List W)} {pos p : Pos} {x : Str} {ps : List Str} {k j : Nat} {fm : List W → M W}
@[simp] def cal (n : Nat) (fm : List W → M W) : List W → M W := fun ws S => if ws.length = n then fm ws S else .bad
theorem sim_callG (tk : Takes X W0) (F : FnG X.prog X.w X.K X.mg X.base j x ps fm) (hj : j ≤ k) (hr : Room k X.A) (hg : Gl X x) (ha : SimA X W0 JTb (a :: es) ms) (hdb : (x == ("__debug__" : Str)) = false := by decide)
    (he : starEach (a :: es) X.env = (false, eval a X.env) :: starEach es X.env := by rfl) (hpl : (backTo pos (starEach es X.env)).any (·.1) = false := by rfl) :
    SimE X W0 JTb (.Call (.Name x p) (a :: es) [] pos) (mCa (cal ps.length fm) ms) := by
  obtain ⟨f, fd, F, g, kp, b⟩ := F
  exact sim_call tk F (hr.mono hj) hg g kp b ha hdb he hpl
theorem passD {X : Cx} {Kk : Value → Shared → Prop} {E₁ : Value → Shared → Prop} (hx : X.xe = fun e s' => wpAny (model X.prog X.w) X.A (leaving X.env e) (fun _ s'' => Kk e s'') E₁ s') : PassesOwn (model X.prog X.w) X.A X.env X.xe := passes_of hx
end
end Sm

set_option Elab.async false
set_option linter.all false
set_option maxRecDepth 100000
namespace SmS
open PySem PySem.Spec PyProof.Rows HT
section
variable {prog : Program} {w : World} {A : Around} {E : Value → Shared → Prop} {s : Shared}
/-- (a, c, k): k places from a by c -/
theorem sliceApplied_st {sl : Addr} {vl vu vs : Value} {lo hi : Option Int} {c : Int} {n : Nat} {Q : Int × Int × Nat → Shared → Prop} (hs : s.heap.IsSliceOf sl vl vu vs) (pl : IsPart vl lo) (pu : IsPart vu hi) (ps : IsPart vs (some c)) (hc : c ≠ 0)
    (h : Q ((Builtin.Slice.sliceAdjust lo hi c (n : Int)).1, c, Builtin.Slice.slicePlaces (Builtin.Slice.sliceAdjust lo hi c (n : Int)).1 (Builtin.Slice.sliceAdjust lo hi c (n : Int)).2 c) s) : wpAny (model prog w) A (Builtin.Slice.sliceApplied (.ref sl) (pure (n : Int))) Q E s := by
  obtain ⟨os, hos, hcs, hds⟩ := id hs
  unfold Builtin.Slice.sliceApplied Builtin.Slice.sliceFields
  refine wpAny_bind (wpAny_bind (wpAny_field hos hds (x := vl) rfl (wpAny_bind (wpAny_field hos hds (x := vu) rfl (wpAny_bind (wpAny_field hos hds (x := vs) rfl (wpAny_pure ?_)))))))
  refine wpAny_bind (slicePart_ ps ?_)
  have hc' : ¬ ((c == 0) = true) := fun q => hc (by simpa using q)
  show wpAny _ _ (if (c == 0) = true then _ else _) _ _ s
  rw [if_neg hc']
  refine wpAny_bind (slicePart_ pl (wpAny_bind (slicePart_ pu (wpAny_bind (wpAny_pure ?_)))))
  exact wpAny_pure h
theorem getItem_tuple_st {t sl : Addr} {items : Array Value} {vl vu vs : Value} {lo hi : Option Int} {c : Int} {Q : Value → Shared → Prop} (ht : IsTup s.heap t items) (hs : s.heap.IsSliceOf sl vl vu vs) (pl : IsPart vl lo) (pu : IsPart vu hi) (ps : IsPart vs (some c)) (hc : c < 0)
    (h : Q (.ref s.heap.objs.size) { s with heap := s.heap.push { cls := .type "tuple", data := .seq ((List.range (Builtin.Slice.slicePlaces (Builtin.Slice.sliceAdjust lo hi c (items.size : Int)).1 (Builtin.Slice.sliceAdjust lo hi c (items.size : Int)).2 c)).filterMap fun (m : Nat) => items[((Builtin.Slice.sliceAdjust lo hi c (items.size : Int)).1 + (m : Int) * c).toNat]?).toArray } })
    (hsz : ((List.range (Builtin.Slice.slicePlaces (Builtin.Slice.sliceAdjust lo hi c (items.size : Int)).1 (Builtin.Slice.sliceAdjust lo hi c (items.size : Int)).2 c)).filterMap fun (m : Nat) => items[((Builtin.Slice.sliceAdjust lo hi c (items.size : Int)).1 + (m : Int) * c).toNat]?).length ≤ sizeLine) : wpAny (model prog w) A (getItem (.ref t) (.ref sl)) Q E s := by
  have htake : sizeOk (.seq ((List.range (Builtin.Slice.slicePlaces (Builtin.Slice.sliceAdjust lo hi c (items.size : Int)).1 (Builtin.Slice.sliceAdjust lo hi c (items.size : Int)).2 c)).filterMap fun (m : Nat) => items[((Builtin.Slice.sliceAdjust lo hi c (items.size : Int)).1 + (m : Int) * c).toNat]?).toArray) := by
    show (List.toArray _).size ≤ sizeLine
    rw [List.size_toArray]
    exact hsz
  obtain ⟨os, hos, hcs, hds⟩ := id hs
  have hTs : s.TypeIs (.ref sl) "slice" := ⟨os, hos, hcs⟩
  unfold getItem
  try with_reducible refine wpAny_holding ?_
  first | refine wpAny_bind (wpAny_pure ?_) | skip
  refine wpAny_bind (wpAny_sequenceKey ht.typeIs (by decide) ?_)
  refine wpAny_bind (wpAny_callSpecial?_slot (name := Str.ofString "__getitem__") ht.typeIs PyProof.Rows.slot_tuple_getitem
    (wpAny_call_entry PyProof.Rows.slot_tuple_getitem ht.typeIs entry_tuple_getitem ?_ (args_tuple_getitem _ _)))
  show wpAny _ _ (Builtin.Tuple.tupleItemsOf (.ref t) >>= _) _ _ s
  refine wpAny_bind (tupleItemsOf_ ht ?_)
  refine wpAny_bind (wpAny_typeOf hTs ?_)
  rw [if_pos (by decide)]
  refine wpAny_bind (sliceApplied_st hs pl pu ps (by omega) ?_)
  have h1 : (c == 1) = false := by
    have : c ≠ 1 := by omega
    simpa using this
  simp only [h1, Bool.and_false, Bool.false_and, Bool.false_eq_true, if_false]
  first
    | exact wpAny_bind (m := Builtin.Tuple.tupleExact _) (wpAny_newObj_type (wpAny_pure ⟨_, rfl, wpAny_pure h⟩) htake)
    | exact wpAny_bind (m := Builtin.Tuple.tupleExact _) (wpAny_newObj_type (wpAny_bind (wpAny_pure (wpAny_pure ⟨_, rfl, wpAny_pure h⟩))) htake)
    | exact wpAny_bind (wpAny_bind (m := Builtin.Tuple.tupleExact _) (wpAny_newObj_type (wpAny_pure (wpAny_pure ⟨_, rfl, wpAny_pure h⟩)) htake))
    | exact wpAny_bind (wpAny_bind (m := Builtin.Tuple.tupleExact _) (wpAny_newObj_type (wpAny_pure ⟨_, rfl, wpAny_pure h⟩) htake))
end
end SmS
namespace Sm
open PySem PySem.Spec PyProof.Rows L2 LamX
variable [TB]
/-- from a by c, k of them -/
def pickG {α : Type} (xs : List α) (a c : Int) (k : Nat) : List α := (List.range k).filterMap fun (m : Nat) => xs[(a + (m : Int) * c).toNat]?
def stepV {α : Type} (xs : List α) (lo hi : Option Int) (c : Int) : List α := pickG xs (Builtin.Slice.sliceAdjust lo hi c (xs.length : Int)).1 c (Builtin.Slice.slicePlaces (Builtin.Slice.sliceAdjust lo hi c (xs.length : Int)).1 (Builtin.Slice.sliceAdjust lo hi c (xs.length : Int)).2 c)
theorem pick_paired {α β : Type} {F : α → β → Prop} {xs : List α} {ys : List β} (h : ∀ i : Nat, (∀ x, xs[i]? = some x → ∃ y, ys[i]? = some y ∧ F x y) ∧ (xs[i]? = none → ys[i]? = none)) (l : List Nat) (f : Nat → Nat) : Paired F (l.filterMap fun m => xs[f m]?) (l.filterMap fun m => ys[f m]?) := by
  induction l with
  | nil => exact .nil
  | cons m l ih =>
    cases e : xs[f m]? with
    | none =>
      have e2 := (h (f m)).2 e
      rw [List.filterMap_cons_none (f := fun m => xs[f m]?) e, List.filterMap_cons_none (f := fun m => ys[f m]?) e2]
      exact ih
    | some x =>
      obtain ⟨y, e2, r⟩ := (h (f m)).1 x e
      rw [List.filterMap_cons_some (f := fun m => xs[f m]?) e, List.filterMap_cons_some (f := fun m => ys[f m]?) e2]
      exact .cons r ih
theorem reps_paired {K : Fr} {ρ δ : List Addr} {H : Hp} : ∀ {ws : List W} {vs : List V}, Paired (fun w v => Rep K ρ δ H w v) ws vs → Reps K ρ δ H ws vs
  | _, _, .nil => .nil
  | _, _, .cons r t => .cons r (reps_paired t)
theorem step_rep {K : Fr} {ρ δ : List Addr} {H : Hp} {ws : List W} {vs : List V} (t : Reps K ρ δ H ws vs) (lo hi : Option Int) (c : Int) : Reps K ρ δ H (stepV ws lo hi c) (stepV vs lo hi c) := by
  unfold stepV pickG
  rw [Reps.length t]
  refine reps_paired (pick_paired (fun i => ⟨fun x e => t.get e, fun e => ?_⟩) _ _)
  have := List.getElem?_eq_none_iff.mp e
  exact List.getElem?_eq_none_iff.mpr (by rw [← Reps.length t]; exact this)
section
variable {X : Cx} {W0 : WX} {J : JI} {e : Expr} {me : EM W} {pos : Pos}
def stW (c : Int) (x : W) (lo hi : Option Int) : M W := fun S => match x with
  | .tup ws => if (stepV ws lo hi c).length ≤ lim then .val (.tup (stepV ws lo hi c)) S else .bad
  | _ => .bad
def isTp : W → Bool
  | .tup _ => true | _ => false
@[simp] def mSt (c : Int) (me : EM W) (ml mh : EM (Option Int)) : EM W := fun env => bnd (me env) fun x => if isTp x = false then bad else bnd (ml env) fun lo => bnd (mh env) fun hi => stW c x lo hi
/-- e[lo:hi:-c], e a tuple, c written -/
theorem sim_step {c : Int} (hc : c < 0) {lo hi : Option Expr} {ml mh : EM (Option Int)} {p2 p3 p4 : Pos} {j : Nat} {d : Int} (hd : c = -d) (h : SimE X W0 J e me) (hl : SimO X W0 J lo ml) (hh : SimO X W0 J hi mh) :
    SimE X W0 J (.Subscript e (.Slice lo hi (some (.UnaryOp .USub (.Constant (.int d) j p3) p4)) p2) pos) (mSt c me ml mh) := by
  refine SimE.of ⟨fun pins s σ H Q I hr => ?_⟩
  obtain ⟨ρ, δ, S, env, hen, hst, hj, hp⟩ := hr
  obtain ⟨t, p, k⟩ := h
  obtain ⟨tl, pl, kl⟩ := hl
  obtain ⟨th, ph, kh⟩ := hh
  refine Subscript_ (thn (p.run pins s σ H (fun x H1 => ∃ a vs, x = .ref a ∧ SqT X.K H1 a vs ∧ tl σ H1 fun l H2 => th σ H2 fun u H3 => SqT X.K H3 a vs ∧ (stepV vs l u c).length ≤ sizeLine ∧ ∀ q, H3 q = none → Q (.ref q) (upd H3 q (.tup (stepV vs l u c)))) I ?_) fun v s1 ⟨x, H1, I1, r1, q1⟩ => ?_)
  · refine k _ _ S _ env σ _ hen hst hj (Post.bind hp fun x S1 ρ1 v H1 _ g1 s1 r1 hp1 => ?_)
    cases r1 with
    | @tup a ws vs f t =>
      refine ⟨a, vs, rfl, f.sq, ?_⟩
      refine kl _ _ S1 _ env σ _ (hen.grow g1) s1 (J.st _ _ _ _ g1 hj) (Post.bind hp1 fun lo' S2 ρ2 lo2 H2 _ g2 s2 r2 hp2 => ?_)
      refine kh _ _ S2 _ env σ _ (hen.grow (g1.trans g2)) s2 (J.st _ _ _ _ (g1.trans g2) hj) (Post.bind hp2 fun hi' S3 ρ3 hi2 H3 _ g3 s3 r3 hp3 => ?_)
      subst r2
      subst r3
      obtain ⟨hl, hp3⟩ := PostV.if hp3
      have t3 := (g2.trans g3).reps t
      have rr := step_rep t3 lo' hi' c
      exact ⟨((g2.trans g3).fzT f).sq, by rw [← Reps.length rr]; exact lim_ok hl, fun q nq => PostV.tup hp3 s3 rr nq⟩
    | _ =>
      exact hp1.elim
  · obtain ⟨a, vs, ex, hx, q⟩ := q1
    subst ex
    cases r1
    have hst : PO X (some (.UnaryOp .USub (.Constant (.int d) j p3) p4)) (tPart (tUn (rU fun i => .int (-i)) (tC (.int d)))) := po_some (pe_un un_neg pe_int)
    refine wpAny_Slice (thn (pl.run pins s1 σ H1 _ I1 q) fun vl s2 ⟨l, H2, I2, pl', q2⟩ => thn (ph.run pins s2 σ H2 _ I2 q2) fun vu s3 ⟨u, H3, I3, pu', q3⟩ => ?_)
    refine thn (hst.run pins s3 σ H3 (fun o H4 => o = some c ∧ H4 = H3) I3 ⟨d, rfl, -d, rfl, by rw [hd], rfl⟩) fun vst s4 ⟨o, H4, I4, ps, eo, e4⟩ => ?_
    subst eo e4
    obtain ⟨hx3, hlen, q4⟩ := q3
    have I5 : Inv X pins σ H4 { s4 with heap := s4.heap.push { cls := .type "slice", data := .fields #[vl, vu, vst] } } := I4.kept (t' := s4.toks) fun b ob q => Heap.get?_push_of_some _ q
    obtain ⟨its, r, ht, hz⟩ := I5.tuple hx3
    have hln : vs.length = its.length := r.length
    have eR : Vals (stepV vs l u c) (stepV its l u c) := by
      unfold stepV pickG
      rw [hln]
      exact pick_paired (fun i => ⟨fun x e => r.get e, fun e => r.none_of e⟩) _ _
    have eA : ((List.range (Builtin.Slice.slicePlaces (Builtin.Slice.sliceAdjust l u c (its.toArray.size : Int)).1 (Builtin.Slice.sliceAdjust l u c (its.toArray.size : Int)).2 c)).filterMap fun (m : Nat) => its.toArray[((Builtin.Slice.sliceAdjust l u c (its.toArray.size : Int)).1 + (m : Int) * c).toNat]?) = stepV its l u c := by
      unfold stepV pickG
      rw [List.size_toArray]
      congr 1
      funext m
      simp
    show wpAny (model X.prog X.w) X.A (subscriptTail e _ (.ref a) (.ref s4.heap.objs.size)) (EP X pins σ Q) X.xe { s4 with heap := s4.heap.push { cls := .type "slice", data := .fields #[vl, vu, vst] } }
    refine tail_any (ops := [.ref a, .ref s4.heap.objs.size]) ht.typeIs (PyProof.Rows.slot_tuple_getitem.lookup) ?_ (by with_unfolding_all rfl)
    refine SmS.getItem_tuple_st (c := c) ht (Heap.IsSliceOf.new _ vl vu vst) pl' pu' ps hc ?_ (by rw [eA, ← Vals.length eR]; exact hlen)
    rw [eA]
    refine ⟨.ref _, _, I5.laid (t' := s4.toks) (o := .tup (stepV vs l u c)) (fun b ob q => Heap.get?_push_of_some _ q) (Nat.le_refl _) ?_, rfl, q4 _ (I5.hok.fresh (Nat.le_refl _))⟩
    exact ⟨hlen, _, eR, IsTup.new _ _⟩
end
end Sm

set_option Elab.async false
set_option linter.all false
set_option maxRecDepth 100000
namespace Sm
open PySem PySem.Spec PyProof.Rows L2 LamX
variable [TB]
omit [TB] in
theorem noCX {P : Program} {w : World} {H : Hp} {s s' : Shared} {e : Value} {outer : List PySem.Env} (h : L2.CX P w outer H s (fun _ _ _ => False) e s') : False := by
  obtain ⟨_, _, _, _, _, _, _, _, _, _, _, _, z⟩ := h
  exact z
section
variable {X : Cx} {W0 : WX} {J : JI} {e : Expr} {me : EM W} {pos : Pos}
/-- xs + ys, a list that will be changed -/
def addWB : W → W → M W
  | .lst a, .lst b => fun S => if a.length + b.length ≤ lim then .val (.box S.length) (S ++ [.lst (a ++ b)]) else .bad
  | _, _ => bad
theorem os_addB : OpS X (rAdd X.K) addWB := by
  intro ρ δ S H x y v u Q E s rx ry hp
  cases rx with
  | @lst a ws vs f t => cases ry with
    | @lst b ws' vs' f' t' =>
      obtain ⟨hl, hp⟩ := PostV.if hp
      exact .inr (.inr ⟨_, _, _, _, rfl, rfl, f.1, f'.1, by rw [← Reps.length t, ← Reps.length t']; exact lim_ok hl, fun p np => PostV.box hp s (t.append t') np⟩)
    | _ => exact hp.elim
  | _ => cases ry <;> exact hp.elim
/-- as sim_callG, the number of the parameters written -/
theorem sim_callR {a : Expr} {es : List Expr} {ms : EM (List W)} {p : Pos} {x : Str} {ps : List Str} {k j n : Nat} {fm : List W → M W} (tk : Takes X W0) (F : FnG X.prog X.w X.K X.mg X.base j x ps fm) (hn : ps.length = n) (hj : j ≤ k) (hr : Room k X.A) (hg : Gl X x) (ha : SimA X W0 JTb (a :: es) ms) (hdb : (x == ("__debug__" : Str)) = false := by decide)
    (he : starEach (a :: es) X.env = (false, eval a X.env) :: starEach es X.env := by rfl) (hpl : (backTo pos (starEach es X.env)).any (·.1) = false := by rfl) :
    SimE X W0 JTb (.Call (.Name x p) (a :: es) [] pos) (mCa (cal n fm) ms) := by
  subst hn
  exact sim_callG tk F hj hr hg ha hdb he hpl
end
end Sm

set_option Elab.async false
set_option linter.all false
set_option maxRecDepth 100000
namespace Sm
open PySem PySem.Spec PyProof.Rows L2 LamX
variable [TB]

/-! ### constructor lemmas -/
section
variable {α β : Type} {S : Sto} {env : Env}
@[simp] theorem outD_rt (w : W) (S : Sto) : outD (.rt w S) = .val w S := rfl
@[simp] theorem outD_nx (e : Env) (S : Sto) : outD (.nx e S) = .val .non S := rfl
@[simp] theorem outD_xc (x : Exn) (e : Env) (S : Sto) : outD (.xc x e S) = .exc x S := rfl
@[simp] theorem ofO_some (w : W) : ofO (some (some w)) S = .val w S := rfl
@[simp] theorem bind_val (a : α) (f : α → M β) : Out.bind (.val a S) f = f a S := rfl
@[simp] theorem bind_exc (e : Exn) (f : α → M β) : Out.bind (.exc e S) f = .exc e S := rfl
@[simp] theorem bind_bad (f : α → M β) : Out.bind .bad f = .bad := rfl
@[simp] theorem ofE_val (w : W) (k : W → Sto → Fl) : ofE (.val w S) env k = k w S := rfl
@[simp] theorem ofE_exc (e : Exn) (k : W → Sto → Fl) : ofE (.exc e S) env k = .xc e env S := rfl
@[simp] theorem ofB_val (w : Bool) (k : Bool → Sto → Fl) : ofB (.val w S) env k = k w S := rfl
@[simp] theorem ofB_exc (e : Exn) (k : Bool → Sto → Fl) : ofB (.exc e S) env k = .xc e env S := rfl
@[simp] theorem ofI_val (w : It8) (k : It8 → Sto → Fl) : ofI (.val w S) env k = k w S := rfl
@[simp] theorem ofI_exc (e : Exn) (k : It8 → Sto → Fl) : ofI (.exc e S) env k = .xc e env S := rfl
@[simp] theorem then_nx (n : SM) : Fl.then (.nx env S) n = n env S := rfl
@[simp] theorem then_rt (w : W) (n : SM) : Fl.then (.rt w S) n = .rt w S := rfl
@[simp] theorem then_xc (e : Exn) (n : SM) : Fl.then (.xc e env S) n = .xc e env S := rfl
@[simp] theorem then_bk (n : SM) : Fl.then (.bk env S) n = .bk env S := rfl
@[simp] theorem then_ct (n : SM) : Fl.then (.ct env S) n = .ct env S := rfl
@[simp] theorem toB_bl (b : Bool) : toB (.bl b) S = .val b S := rfl
@[simp] theorem isaW_rng (T : String) (lo hi : Int) : isaW T (.rng lo hi) = false := rfl
@[simp] theorem addW_int (i j : Int) : addW (.int i) (.int j) S = .val (.int (i + j)) S := rfl
@[simp] theorem addW_str (i j : Str) : addW (.str i) (.str j) S = if i.length + j.length ≤ lim then .val (.str (i ++ j)) S else .bad := rfl
@[simp] theorem addW_tup (a b : List W) : addW (.tup a) (.tup b) S = if a.length + b.length ≤ lim then .val (.tup (a ++ b)) S else .bad := rfl
@[simp] theorem addW_lst (a b : List W) : addW (.lst a) (.lst b) S = if a.length + b.length ≤ lim then .val (.lst (a ++ b)) S else .bad := rfl
@[simp] theorem addWB_lst (a b : List W) : addWB (.lst a) (.lst b) S = if a.length + b.length ≤ lim then .val (.box S.length) (S ++ [.lst (a ++ b)]) else .bad := rfl
@[simp] theorem subW_int (i j : Int) : subW (.int i) (.int j) S = .val (.int (i - j)) S := rfl
@[simp] theorem mulW_int (i j : Int) : mulW (.int i) (.int j) S = if (-b64 ≤ i ∧ i ≤ b64) ∨ (-b64 ≤ j ∧ j ≤ b64) then .val (.int (i * j)) S else .bad := rfl
@[simp] theorem mulW_lst (a : List W) (k : Int) : mulW (.lst a) (.int k) S = if (0 ≤ k ∧ k ≤ 1000) ∧ a.length ≤ 1000 ∧ a.length * k.toNat ≤ lim then .val (.lst (List.replicate k.toNat a).flatten) S else .bad := rfl
@[simp] theorem mulW_tup (a : List W) (k : Int) : mulW (.tup a) (.int k) S = if (2 ≤ k ∧ k ≤ 1000) ∧ a.length ≤ 1000 ∧ 0 < a.length then .val (.tup (List.replicate k.toNat a).flatten) S else .bad := rfl
@[simp] theorem fdivW_int (i j : Int) : fdivW (.int i) (.int j) S = if 0 < j ∧ j ≤ big then .val (.int (i / j)) S else .bad := rfl
@[simp] theorem modW_int (i j : Int) : modW (.int i) (.int j) S = if 0 < j then .val (.int (i % j)) S else .bad := rfl
@[simp] theorem powW_int (i j : Int) : powW (.int i) (.int j) S = if (0 ≤ j ∧ j ≤ 1000) ∧ i.natAbs ≤ 1000000 then .val (.int (i ^ j.toNat)) S else .bad := rfl
@[simp] theorem cmpW_int (p : Int → Int → Bool) (i j : Int) : cmpW p (.int i) (.int j) S = .val (.bl (p i j)) S := rfl
@[simp] theorem isNW_non (x : W) : isNW x .non S = .val (.bl (isNon x)) S := by cases x <;> rfl
@[simp] theorem notNW_non (x : W) : notNW x .non S = .val (.bl (!isNon x)) S := by cases x <;> rfl
@[simp] theorem isNon_non : isNon .non = true := rfl
@[simp] theorem isNon_bl (b : Bool) : isNon (.bl b) = false := rfl
@[simp] theorem isNon_int (b : Int) : isNon (.int b) = false := rfl
@[simp] theorem isNon_str (b : Str) : isNon (.str b) = false := rfl
@[simp] theorem isNon_tup (b : List W) : isNon (.tup b) = false := rfl
@[simp] theorem isNon_lst (b : List W) : isNon (.lst b) = false := rfl
@[simp] theorem eqB_int (i j : Int) : eqB (.int i) (.int j) = some (decide (i = j)) := by
  have h : ∀ i : Int, SeqAt.shaped (.int i) = true := fun i => rfl
  have e : PyData.eqv (.int i) (.int j) = decide (i = j) := by
    show (i == j) = _
    rfl
  simp [eqB, toD, h, e]
@[simp] theorem eqB_bl (i j : Bool) : eqB (.bl i) (.bl j) = some (decide (i = j)) := by
  cases i <;> cases j <;> rfl
@[simp] theorem eqW_int (i j : Int) : eqW (.int i) (.int j) S = .val (.bl (decide (i = j))) S := by simp [eqW]
@[simp] theorem eqW_bl (i j : Bool) : eqW (.bl i) (.bl j) S = .val (.bl (decide (i = j))) S := by simp [eqW]
@[simp] theorem neW_int (i j : Int) : neW (.int i) (.int j) S = .val (.bl (!decide (i = j))) S := by simp [neW]
@[simp] theorem neW_bl (i j : Bool) : neW (.bl i) (.bl j) S = .val (.bl (!decide (i = j))) S := by simp [neW]
def ofX (o : Option W) (S : Sto) : Out W := match o with
  | some w => .val w S
  | none => .bad
@[simp] theorem ofX_some (w : W) : ofX (some w) S = .val w S := rfl
@[simp] theorem ixW_tup (ws : List W) (i : Int) : ixW (.tup ws) (.int i) S = ofX (atI ws i) S := rfl
@[simp] theorem ixW_lst (ws : List W) (i : Int) : ixW (.lst ws) (.int i) S = ofX (atI ws i) S := rfl
@[simp] theorem inW_tup (b : Bool) (x : W) (ws : List W) : inW b x (.tup ws) S = if flatW x = true ∧ ws.all flatW = true then .val (.bl (if b then !hasF x ws else hasF x ws)) S else .bad := rfl
@[simp] theorem inW_lst (b : Bool) (x : W) (ws : List W) : inW b x (.lst ws) S = if flatW x = true ∧ ws.all flatW = true then .val (.bl (if b then !hasF x ws else hasF x ws)) S else .bad := rfl
@[simp] theorem slW_tup (ws : List W) (lo hi : Option Int) : slW (.tup ws) lo hi S = .val (.tup (cutW ws lo hi)) S := rfl
@[simp] theorem slW_lst (ws : List W) (lo hi : Option Int) : slW (.lst ws) lo hi S = .val (.lst (cutW ws lo hi)) S := rfl
@[simp] theorem asO_int (i : Int) : asO (.int i) S = .val (some i) S := rfl
@[simp] theorem negW_int (i : Int) : negW (.int i) S = .val (.int (-i)) S := rfl
@[simp] theorem lenW_tup (ws : List W) : lenW [.tup ws] S = .val (.int (ws.length : Int)) S := rfl
@[simp] theorem lenW_lst (ws : List W) : lenW [.lst ws] S = .val (.int (ws.length : Int)) S := rfl
@[simp] theorem absW_int (i : Int) : absW [.int i] S = .val (.int (if i < 0 then -i else i)) S := rfl
@[simp] theorem intW_int (i : Int) : intW [.int i] S = .val (.int i) S := rfl
@[simp] theorem max2W_int (i j : Int) : max2W [.int i, .int j] S = .val (.int (if j > i then j else i)) S := rfl
@[simp] theorem min2W_int (i j : Int) : min2W [.int i, .int j] S = .val (.int (if j < i then j else i)) S := rfl
@[simp] theorem listW_tup (ws : List W) : listW [.tup ws] S = .val (.lst ws) S := rfl
@[simp] theorem listW_lst (ws : List W) : listW [.lst ws] S = .val (.lst ws) S := rfl
@[simp] theorem listW_scr (ws : List W) : listW [.scr ws] S = .val (.lst ws) S := rfl
@[simp] theorem tupW_lst (ws : List W) : tupW [.lst ws] S = .val (.tup ws) S := rfl
@[simp] theorem tupW_tup (ws : List W) : tupW [.tup ws] S = .val (.tup ws) S := rfl
def ofBs (o : Option (List Bool)) (f : List Bool → Bool) (S : Sto) : Out W := match o with
  | some w => .val (.bl (f w)) S
  | none => .bad
@[simp] theorem ofBs_some (w : List Bool) (f : List Bool → Bool) : ofBs (some w) f S = .val (.bl (f w)) S := rfl
theorem allW_lst (ws : List W) : allW [.lst ws] S = ofBs (blsO ws) (fun bs => bs.all id) S := by unfold allW onL ofBs; simp only [lstW, Option.bind_some]; cases blsO ws <;> rfl
theorem anyW_lst (ws : List W) : anyW [.lst ws] S = ofBs (blsO ws) (fun bs => bs.any id) S := by unfold anyW onL ofBs; simp only [lstW, Option.bind_some]; cases blsO ws <;> rfl
@[simp] theorem isaW_non (T : String) : isaW T .non = false := rfl
@[simp] theorem isaW_bl (T : String) (b : Bool) : isaW T (.bl b) = (T == "bool" || T == "int") := rfl
@[simp] theorem isaW_int (T : String) (b : Int) : isaW T (.int b) = (T == "int") := rfl
@[simp] theorem isaW_str (T : String) (b : Str) : isaW T (.str b) = (T == "str") := rfl
@[simp] theorem isaW_tup (T : String) (b : List W) : isaW T (.tup b) = (T == "tuple") := rfl
@[simp] theorem isaW_lst (T : String) (b : List W) : isaW T (.lst b) = (T == "list") := rfl
@[simp] theorem isaW_scr (T : String) (b : List W) : isaW T (.scr b) = (T == "list") := rfl
@[simp] theorem isaW_box (T : String) (b : Nat) : isaW T (.box b) = (T == "list") := rfl
@[simp] theorem isaW_dct (T : String) (b : Nat) : isaW T (.dct b) = false := rfl
@[simp] theorem isL_box (b : Nat) : isL (.box b) = true := rfl
@[simp] theorem isL_dct (b : Nat) : isL (.dct b) = false := rfl
@[simp] theorem isL_lst (b : List W) : isL (.lst b) = true := rfl
@[simp] theorem asR1_int (i : Int) : asR1 (.int i) S = .val (0, i) S := rfl
@[simp] theorem asR2_int (i j : Int) : asR2 (.int i) (.int j) S = .val (i, j) S := rfl
@[simp] theorem itSeq_tup (ws : List W) : itSeq (.tup ws) S = .val (.seq ws) S := rfl
@[simp] theorem itSeq_lst (ws : List W) : itSeq (.lst ws) S = .val (.seq ws) S := rfl
@[simp] theorem itSeq_box (n : Nat) : itSeq (.box n) S = .val (.bx n) S := rfl
@[simp] theorem itR1_int (j : Int) : itR1 [.int j] S = if -big ≤ j ∧ j ≤ big then .val (.seq (rangeW 0 j.toNat)) S else .bad := rfl
@[simp] theorem itR2_int (i j : Int) : itR2 [.int i, .int j] S = if (-big ≤ i ∧ i ≤ big) ∧ -big ≤ j ∧ j ≤ big then .val (.seq (rangeW i (j - i).toNat)) S else .bad := rfl
@[simp] theorem at_seq (ws : List W) (i : Nat) : It8.at (.seq ws) S i = some ws[i]? := rfl
def fu (ws : List W) : Nat := ws.length + 1
@[simp] theorem fuel_seq (ws : List W) : It8.fuel (.seq ws) S = fu ws := rfl
@[simp] theorem flatW_non : flatW .non = true := rfl
@[simp] theorem flatW_int (i : Int) : flatW (.int i) = true := rfl
@[simp] theorem flatW_bl (i : Bool) : flatW (.bl i) = true := rfl
@[simp] theorem flatW_str (i : Str) : flatW (.str i) = true := rfl
@[simp] theorem isTp_tup (ws : List W) : isTp (.tup ws) = true := rfl
@[simp] theorem stW_tup (c : Int) (ws : List W) (lo hi : Option Int) : stW c (.tup ws) lo hi S = if (stepV ws lo hi c).length ≤ lim then .val (.tup (stepV ws lo hi c)) S else .bad := rfl
@[simp] theorem gT_tup (gs : List W → Env → Option Env) (ws : List W) : gT gs (.tup ws) env = gs ws env := rfl
@[simp] theorem gsN_nil : gsN [] env = some env := rfl
@[simp] theorem gsC_cons (g : W → Env → Option Env) (gs : List W → Env → Option Env) (w : W) (ws : List W) : gsC g gs (w :: ws) env = (g w env).bind (gs ws) := rfl
end
/-! what a box holds -/
section
variable {S : Sto} {n : Nat} {ws : List W}
theorem ixW_box (h : S[n]? = some (.lst ws)) (i : Int) : ixW (.box n) (.int i) S = ofX (atI ws i) S := by unfold ixW ofX; simp only [seqW, h] <;> cases atI ws i <;> rfl
theorem lenW_box (h : S[n]? = some (.lst ws)) : lenW [.box n] S = .val (.int (ws.length : Int)) S := by unfold lenW; simp only [seqW, h]
theorem tupW_box (h : S[n]? = some (.lst ws)) : tupW [.box n] S = .val (.tup ws) S := by unfold tupW; simp only [seqW, h]
theorem listW_box (h : S[n]? = some (.lst ws)) : listW [.box n] S = .val (.lst ws) S := by unfold listW; simp only [seqW, h]
theorem popAtW_box (h : S[n]? = some (.lst ws)) (i : Nat) (hi : i < ws.length) (hb : ws.length ≤ 1000) : popAtW (.box n) [.int (i : Int)] S = .val ws[i] (S.set n (.lst (ws.eraseIdx i))) := by
  simp only [popAtW, h]
  rw [if_pos (by unfold big; omega)]
  simp [hi]
theorem appW_box (h : S[n]? = some (.lst ws)) (w : W) (hb : ws.length ≤ 1000) : appW (.box n) [w] S = .val .non (S.set n (.lst (ws ++ [w]))) := by
  simp only [appW, h]
  rw [if_pos (by unfold lim; omega)]
theorem setW_box (h : S[n]? = some (.lst ws)) (k : Nat) (hk : k < ws.length) (w : W) : setW (.box n) (.int (k : Int)) w S = some (S.set n (.lst (ws.set k w))) := by
  simp only [setW, h]
  unfold ixN
  rw [if_pos (by omega), if_pos (by omega)]
  simp
theorem at_box (h : S[n]? = some (.lst ws)) (i : Nat) : It8.at (.bx n) S i = some ws[i]? := by simp only [It8.at, h]
end

/-! ### loops over what stands still -/
def loopL (g : W → Env → Option Env) (body : SM) : List W → SM
  | [] => fun env S => .nx env S
  | w :: ws => fun env S => match g w env with
      | none => .bad
      | some env1 => match body env1 S with
        | .nx env2 S2 => loopL g body ws env2 S2
        | .ct env2 S2 => loopL g body ws env2 S2
        | .bk env2 S2 => .nx env2 S2
        | .rt v S2 => .rt v S2
        | .xc e env2 S2 => .xc e env2 S2
        | .bad => .bad
theorem loopF_seq (g : W → Env → Option Env) (body : SM) (ws : List W) : ∀ (k i : Nat), i + k = ws.length → ∀ env S, loopF (.seq ws) g body (k + 1) i env S = loopL g body (ws.drop i) env S
  | 0, i, h, env, S => by
    have e : ws.drop i = [] := List.drop_eq_nil_of_le (by omega)
    have e2 : ws[i]? = none := List.getElem?_eq_none (by omega)
    rw [e]
    simp [loopF, loopL, e2]
  | k + 1, i, h, env, S => by
    have hi : i < ws.length := by omega
    have e : ws.drop i = ws[i] :: ws.drop (i + 1) := List.drop_eq_getElem_cons hi
    have e2 : ws[i]? = some ws[i] := List.getElem?_eq_getElem hi
    rw [e]
    unfold loopF loopL
    simp only [It8.at, e2]
    cases g ws[i] env with
    | none => rfl
    | some env1 =>
      simp only
      cases body env1 S with
      | nx env2 S2 => exact loopF_seq g body ws k (i + 1) (by omega) env2 S2
      | ct env2 S2 => exact loopF_seq g body ws k (i + 1) (by omega) env2 S2
      | bk env2 S2 => rfl
      | rt v S2 => rfl
      | xc e env2 S2 => rfl
      | bad => rfl
@[simp] theorem loopF_all (g : W → Env → Option Env) (body : SM) (ws : List W) (env : Env) (S : Sto) : loopF (.seq ws) g body (fu ws) 0 env S = loopL g body ws env S := loopF_seq g body ws ws.length 0 (by omega) env S
theorem loopL_nil (g : W → Env → Option Env) (body : SM) (env : Env) (S : Sto) : loopL g body [] env S = .nx env S := rfl
theorem loopL_cons (g : W → Env → Option Env) (body : SM) (w : W) (ws : List W) (env : Env) (S : Sto) : loopL g body (w :: ws) env S = (match g w env with
      | none => .bad
      | some env1 => match body env1 S with
        | .nx env2 S2 => loopL g body ws env2 S2
        | .ct env2 S2 => loopL g body ws env2 S2
        | .bk env2 S2 => .nx env2 S2
        | .rt v S2 => .rt v S2
        | .xc e env2 S2 => .xc e env2 S2
        | .bad => .bad) := rfl
/-- an invariant over what is left -/
theorem loopL_inv {g : W → Env → Option Env} {body : SM} (P : List W → Env → Sto → Prop) (nx : Env → Sto → Prop) (rt : W → Sto → Prop)
    (hnil : ∀ env S, P [] env S → nx env S)
    (hcons : ∀ w ws env S, P (w :: ws) env S → ∃ env1, g w env = some env1 ∧ ((∃ env2 S2, (body env1 S = .nx env2 S2 ∨ body env1 S = .ct env2 S2) ∧ P ws env2 S2) ∨ (∃ env2 S2, body env1 S = .bk env2 S2 ∧ nx env2 S2) ∨ ∃ v S2, body env1 S = .rt v S2 ∧ rt v S2)) :
    ∀ ws env S, P ws env S → (∃ env2 S2, loopL g body ws env S = .nx env2 S2 ∧ nx env2 S2) ∨ ∃ v S2, loopL g body ws env S = .rt v S2 ∧ rt v S2
  | [], env, S, h => .inl ⟨env, S, rfl, hnil env S h⟩
  | w :: ws, env, S, h => by
    obtain ⟨env1, e1, h⟩ := hcons w ws env S h
    rw [loopL_cons, e1]
    simp only
    rcases h with ⟨env2, S2, e2 | e2, h⟩ | ⟨env2, S2, e2, h⟩ | ⟨v, S2, e2, h⟩
    · rw [e2]; exact loopL_inv P nx rt hnil hcons ws env2 S2 h
    · rw [e2]; exact loopL_inv P nx rt hnil hcons ws env2 S2 h
    · rw [e2]; exact .inl ⟨_, _, rfl, h⟩
    · rw [e2]; exact .inr ⟨_, _, rfl, h⟩
/-- a search: the body returns r where c holds, else goes on -/
theorem loopL_any {g : W → Env → Option Env} {body : SM} {S : Sto} {r : W} (P : Env → Prop) (c : W → Bool) : ∀ (ws : List W),
    (∀ w ∈ ws, ∀ env, P env → ∃ env1, g w env = some env1 ∧ (if c w = true then body env1 S = .rt r S else ∃ env2, body env1 S = .nx env2 S ∧ P env2)) →
    ∀ env, P env → if ws.any c = true then loopL g body ws env S = .rt r S else ∃ env', loopL g body ws env S = .nx env' S ∧ P env'
  | [], _, env, h => by simp; exact ⟨env, rfl, h⟩
  | w :: ws, hs, env, h => by
    obtain ⟨env1, e1, h1⟩ := hs w (by simp) env h
    rw [List.any_cons, loopL_cons, e1]
    simp only
    by_cases hc : c w = true
    · rw [if_pos hc] at h1
      rw [h1]
      simp [hc]
    · rw [if_neg hc] at h1
      obtain ⟨env2, e2, h2⟩ := h1
      rw [e2]
      have hc' : c w = false := by simpa using hc
      rw [hc', Bool.false_or]
      exact loopL_any P c ws (fun w hw => hs w (List.mem_cons_of_mem _ hw)) env2 h2
/-! comprehensions -/
def lcL (g : W → Env → Option Env) (tst : EM Bool) (el : EM W) (env0 : Env) : List W → List W → M W
  | [], acc => fun S => .val (.lst acc) S
  | w :: ws, acc => fun S => match g w env0 with
      | none => .bad
      | some env1 => match tst env1 S with
        | .val false S1 => lcL g tst el env0 ws acc S1
        | .val true S1 => match el env1 S1 with
          | .val y S2 => if acc.length ≤ lim then lcL g tst el env0 ws (acc ++ [y]) S2 else .bad
          | _ => .bad
        | _ => .bad
theorem lcF_seq (g : W → Env → Option Env) (tst : EM Bool) (el : EM W) (env0 : Env) (ws : List W) : ∀ (k i : Nat), i + k = ws.length → ∀ acc S, lcF (.seq ws) g tst el env0 (k + 1) i acc S = lcL g tst el env0 (ws.drop i) acc S
  | 0, i, h, acc, S => by
    have e : ws.drop i = [] := List.drop_eq_nil_of_le (by omega)
    have e2 : ws[i]? = none := List.getElem?_eq_none (by omega)
    rw [e]
    simp [lcF, lcL, e2]
  | k + 1, i, h, acc, S => by
    have hi : i < ws.length := by omega
    have e : ws.drop i = ws[i] :: ws.drop (i + 1) := List.drop_eq_getElem_cons hi
    have e2 : ws[i]? = some ws[i] := List.getElem?_eq_getElem hi
    rw [e]
    unfold lcF lcL
    simp only [It8.at, e2]
    cases g ws[i] env0 with
    | none => rfl
    | some env1 =>
      simp only
      cases tst env1 S with
      | bad => rfl
      | exc e S1 => rfl
      | val b S1 =>
        cases b with
        | false => exact lcF_seq g tst el env0 ws k (i + 1) (by omega) acc S1
        | true =>
          simp only
          cases el env1 S1 with
          | bad => rfl
          | exc e S2 => rfl
          | val y S2 =>
            simp only
            split
            · exact lcF_seq g tst el env0 ws k (i + 1) (by omega) _ S2
            · rfl
@[simp] theorem lcF_all (g : W → Env → Option Env) (tst : EM Bool) (el : EM W) (env0 : Env) (ws : List W) (S : Sto) : lcF (.seq ws) g tst el env0 (fu ws) 0 [] S = lcL g tst el env0 ws [] S := lcF_seq g tst el env0 ws ws.length 0 (by omega) [] S
/-- a comprehension of pure elements: the items kept by c, each made into f -/
theorem lcL_pure {g : W → Env → Option Env} {tst : EM Bool} {el : EM W} {env0 : Env} {S : Sto} (c : W → Bool) (f : W → W) : ∀ (ws acc : List W), acc.length + ws.length ≤ 1000 →
    (∀ w ∈ ws, ∃ env1, g w env0 = some env1 ∧ tst env1 S = .val (c w) S ∧ (c w = true → el env1 S = .val (f w) S)) →
    lcL g tst el env0 ws acc S = .val (.lst (acc ++ (ws.filter c).map f)) S
  | [], acc, _, _ => by simp [lcL]
  | w :: ws, acc, hl, h => by
    obtain ⟨env1, e1, e2, e3⟩ := h w (by simp)
    have hl' : acc.length + (ws.length + 1) ≤ 1000 := by simpa using hl
    unfold lcL
    simp only [e1, e2]
    by_cases hc : c w = true
    · have ih := lcL_pure c f ws (acc ++ [f w]) (by simp; omega) (fun w' hw => h w' (List.mem_cons_of_mem _ hw))
      simp only [hc, e3 hc, ih]
      rw [if_pos (by simp; omega)]
      simp [List.filter_cons, hc]
    · have hc' : c w = false := by simpa using hc
      have ih := lcL_pure c f ws acc (by omega) (fun w' hw => h w' (List.mem_cons_of_mem _ hw))
      simp only [hc', ih]
      simp [List.filter_cons, hc']
theorem lcL_map {g : W → Env → Option Env} {el : EM W} {env0 : Env} {S : Sto} (f : W → W) (ws : List W) (hl : ws.length ≤ 1000) (h : ∀ w ∈ ws, ∃ env1, g w env0 = some env1 ∧ el env1 S = .val (f w) S) :
    lcL g mYes el env0 ws [] S = .val (.lst (ws.map f)) S := by
  have := lcL_pure (g := g) (tst := mYes) (el := el) (env0 := env0) (S := S) (fun _ => true) f ws [] (by simpa using hl) fun w hw => by
    obtain ⟨env1, e1, e2⟩ := h w hw
    exact ⟨env1, e1, rfl, fun _ => e2⟩
  rw [List.filter_eq_self.mpr (fun _ _ => rfl)] at this
  simpa using this
/-- a comprehension whose elements change the store: an invariant over what is made and what is left -/
theorem lcL_inv {g : W → Env → Option Env} {el : EM W} {env0 : Env} (P : List W → List W → Sto → Prop)
    (hs : ∀ w ws acc S, P acc (w :: ws) S → acc.length ≤ 1000 ∧ ∃ env1 y S1, g w env0 = some env1 ∧ el env1 S = .val y S1 ∧ P (acc ++ [y]) ws S1) :
    ∀ ws acc S, P acc ws S → ∃ out S1, lcL g mYes el env0 ws acc S = .val (.lst out) S1 ∧ P out [] S1
  | [], acc, S, h => ⟨acc, S, rfl, h⟩
  | w :: ws, acc, S, h => by
    obtain ⟨hl, env1, y, S1, e1, e2, h1⟩ := hs w ws acc S h
    obtain ⟨out, S2, e3, h2⟩ := lcL_inv P hs ws (acc ++ [y]) S1 h1
    refine ⟨out, S2, ?_, h2⟩
    unfold lcL
    simp only [e1, mYes, ret, e2]
    rw [if_pos (by simp; omega)]
    exact e3

/-! ### sequences -/
theorem cutW_to (ws : List W) (k : Nat) : cutW ws none (some (k : Int)) = ws.take k := by
  unfold cutW
  rw [HT.sIx_none, HT.sIx_nat]
  simp
theorem cutW_from (ws : List W) (k : Nat) : cutW ws (some (k : Int)) none = ws.drop k := by
  unfold cutW
  rw [HT.sIx_none, HT.sIx_nat]
  by_cases h : k ≤ ws.length
  · rw [Nat.min_eq_left h]
    exact List.take_of_length_le (by simp)
  · rw [Nat.min_eq_right (by omega), List.drop_eq_nil_of_le (by omega : ws.length ≤ k), List.drop_length]
    simp
theorem cutW_from' (ws : List W) (i : Int) (h : 0 ≤ i) : cutW ws (some i) none = ws.drop i.toNat := by
  have := cutW_from ws i.toNat
  rwa [Int.toNat_of_nonneg h] at this
theorem atI_at {α : Type} (ws : List α) (k : Nat) : atI ws (k : Int) = ws[k]? := by
  unfold atI ixN
  rw [if_pos (by omega)]
  by_cases h : k < ws.length
  · rw [if_pos (by omega)]
    simp
  · rw [if_neg (by omega), List.getElem?_eq_none (by omega)]
    rfl
theorem atI_at' {α : Type} (ws : List α) (i : Int) (h : 0 ≤ i) : atI ws i = ws[i.toNat]? := by
  have := atI_at ws i.toNat
  rwa [Int.toNat_of_nonneg h] at this
@[simp] theorem rangeW_length (lo : Int) (n : Nat) : (rangeW lo n).length = n := by simp [rangeW]
theorem rangeW_mem {lo : Int} {n : Nat} {w : W} (h : w ∈ rangeW lo n) : ∃ k : Nat, k < n ∧ w = .int (lo + (k : Int)) := by
  unfold rangeW at h
  obtain ⟨k, hk, e⟩ := List.mem_map.mp h
  exact ⟨k, List.mem_range.mp hk, e.symm⟩
theorem fz_flat {S : Sto} {n : Nat} {w : W} (h : flatW w = true) (k : Nat) : fz S n (k + 1) w = some w := by
  cases w <;> first | rfl | cases h
theorem mapO_id {f : W → Option W} : ∀ {ws : List W}, (∀ w ∈ ws, f w = some w) → mapO f ws = some ws
  | [], _ => rfl
  | w :: ws, h => by
    unfold mapO
    rw [h w (by simp), mapO_id fun x hx => h x (List.mem_cons_of_mem _ hx)]
    rfl
theorem fz_ints {S : Sto} {n : Nat} (ns : List Int) (k : Nat) : mapO (fz S n (k + 1)) (ns.map W.int) = some (ns.map W.int) :=
  mapO_id fun w hw => by
    obtain ⟨i, _, rfl⟩ := List.mem_map.mp hw
    rfl
theorem intsO_map (ns : List Int) : intsO (ns.map W.int) = some ns := by
  induction ns with
  | nil => rfl
  | cons n ns ih =>
    show ((asI (.int n)).bind fun b => (intsO (ns.map W.int)).bind fun bs => some (b :: bs)) = _
    rw [ih]
    rfl
theorem blsO_map (ns : List Bool) : blsO (ns.map W.bl) = some ns := by
  induction ns with
  | nil => rfl
  | cons n ns ih =>
    show ((asB (.bl n)).bind fun b => (blsO (ns.map W.bl)).bind fun bs => some (b :: bs)) = _
    rw [ih]
    rfl
end Sm

set_option Elab.async false
set_option linter.all false
set_option maxRecDepth 100000
/-! ways that are never gone: no word about them -/
namespace Sm
open PySem PySem.Spec PyProof.Rows L2 LamX
variable [TB]
@[simp] def sBad : SM := fun _ _ => .bad
@[simp] def mBad : EM W := fun _ _ => .bad
section
variable {X : Cx} {W0 : WX} {J : JI}
theorem sims_bad {st : Stmt} : SimS X W0 J st sBad := ⟨fun _ _ _ => False, ⟨fun _ _ _ _ _ _ h => h.elim⟩, fun _ _ _ _ _ _ _ _ _ _ hp => hp⟩
theorem sim_bad {e : Expr} : SimE X W0 J e mBad := ⟨fun _ _ _ => False, ⟨fun _ _ _ _ _ _ h => h.elim⟩, fun _ _ _ _ _ _ _ _ _ _ hp => hp⟩
end
end Sm

set_option Elab.async false
set_option linter.all false
set_option maxRecDepth 100000
/-! errors of the program's own: an __init__ that calls its base's and keeps one field; raise -/
namespace Sm
open PySem PySem.Spec PyProof.Rows L2 LamX
variable [TB]
section
variable {X : Cx} {e : Expr} {es : List Expr} {ta : TA} {p1 p2 pos : Pos}
/-- B.__init__(self, ..), B an own class over ValueError without an own __init__ -/
theorem pe_binit {pl : Sem Bool} {x : Str} {B : Addr} {mc : Value} (hg : Gl X x) (hm : X.mg x = some (.ref B)) (hs : PySem.W.specialIn X.K (.ref B) "__getattribute__" = some (some (.builtin "type.__getattribute__")))
    (ht : PySem.W.typeIn X.K (.ref B) = some mc) (hr : PySem.W.readsIn X.K B mc = true) (vB : PySem.W.findCls X.K (.ref B) mc "__init__" = some (.val (.builtin "ValueError.__init__"))) (ha : PA X (e :: es) ta)
    (hdb : (x == ("__debug__" : Str)) = false := by decide)
    (hc : eval (.Call (.Attribute (.Name x p1) "__init__" p2) (e :: es) [] pos) X.env = (do
      let ov ← eval (.Name x p1) X.env
      standAt p2.atName
      let (f, first) ← holding [ov] (getMethod ov "__init__" pl)
      callWith pos f first (backTo pos (starEach (e :: es) X.env)) (backToKw pos (keywordEach [] X.env))) := by rfl)
    (he : starEach (e :: es) X.env = (false, eval e X.env) :: starEach es X.env := by rfl) (hpl : (backTo pos (starEach es X.env)).any (·.1) = false := by rfl) :
    PE X (.Call (.Attribute (.Name x p1) "__init__" p2) (e :: es) [] pos) (tVeI X.K ta) := by
  refine ⟨fun pins s σ H Q I h => ?_⟩
  refine PySem.W.methodCall_KW (ld_glob I hg hm ?_ hdb) hc
  obtain ⟨m, fr⟩ := I.fr
  refine PySem.W.method_of_cls fr I.ok.mod.kin hs (PySem.W.cls_val fr I.ok.mod.kin ht hr vB (by decide +kernel) ?_)
  show wpAny _ _ (callWith pos (Value.builtin "ValueError.__init__") []
    (backTo pos (starEach (e :: es) X.env)) []) _ _ _
  refine PyProof.Rows.callWith_method1 (thn
    (ha.run pos pins _ σ H _ (I.tok _) h) fun us s1 hh => ?_) he hpl
  obtain ⟨vs, H1, I1, r1, a, C, ws, ev, hl, T, ea, q⟩ := hh
  subst ev
  cases r1 with
  | @cons _ u0 _ ur ra rw' =>
    cases ra
    exact oinit_ok T I1 ea (by rw [← Paired.length rw', sizeLine_eq]; omega) fun s' J => ⟨.non, H1, J, rfl, q⟩
/-- what such an __init__ does with its error at a: the dict d with the one field f -/
def spX (C : Addr) (f : Str) : Sp := fun vs H Q _ => ∃ (a : Addr) (z : Str), vs = [.ref a, .str z] ∧ z.length ≤ 1000 ∧ H a = some (exo a C none) ∧ ∀ d, H d = none → d ≠ a → Q .non (upd (upd H d (exd d [(f, .str z)])) a (exo a C (some d)))
def t_init (K : Fr) (f t0 : Str) : TS :=
  tSeq (tDrop (tVeI K (tCons (tVar 0) (tCons (fun σ H Q => tJs [tC (.str t0), tFmt (tVar 1)] Str.empty σ H fun out H1 => Q (.str out) H1) tNil)))) (tOst K f (tVar 0) (tVar 1))
theorem init_go {K : Fr} {C : Addr} {f t0 p : Str} {vs : List V} {H : Hp} {Q : VK} {E : XK} (hC : OexC K C) (hno : PySem.W.findIn K (.ref C) f = some none) (h0 : t0.length ≤ 1000) (h : spX C f vs H Q E) :
    t_init K f t0 { nx := fun _ H' => Q .non H', rt := Q } (start ["self", p] vs) H := by
  obtain ⟨a, z, rfl, hz, ha, q⟩ := h
  have e1 : (start ["self", p] [V.ref a, V.str z])[0]? = some (some (V.ref a)) := rfl
  have e2 : (start ["self", p] [V.ref a, V.str z])[1]? = some (some (V.str z)) := rfl
  have l0 : (Str.empty ++ t0).length ≤ sizeLine := by
    rw [Str.length_append, sizeLine_eq]
    have : Str.empty.length = 0 := rfl
    omega
  have l1 : (Str.empty ++ t0 ++ z).length ≤ sizeLine := by
    rw [Str.length_append, Str.length_append, sizeLine_eq]
    have : Str.empty.length = 0 := rfl
    omega
  have lz : z.length ≤ sizeLine := by rw [sizeLine_eq]; omega
  refine ⟨_, e1, ⟨t0, rfl, l0, _, e2, .inl ⟨z, rfl, lz, z, rfl, l1, ?_⟩⟩⟩
  refine ⟨a, C, [.str (Str.empty ++ t0 ++ z)], rfl, by simp, hC, ha, ?_⟩
  exact ⟨_, e2, _, e1, a, C, rfl, hC, hno, .inl ⟨ha, fun dx hd ne => q dx hd ne⟩⟩
/-- an own error with one field -/
structure ExcF (P : Program) (w : World) (K : Fr) (mg : Str → Option Value) (base : Heap) (x f p : Str) (C fI : Addr) (fd : FuncData) : Prop where
  gC : mg x = some (.ref C)
  oex : OexC K C
  iC : PySem.W.findIn K (.ref C) "__init__" = some (some (.ref fI))
  tI : PySem.W.typeIn K (.ref fI) = some (.type "function")
  F : FnOk P w K mg base (L2.CX P w) 1 fI fd ["self", p] (spX C f)
  hb : Binds K fd ["self", p] []
def sRaise (x f : Str) (me : EM W) : SM := fun env S => ofE (me env S) env fun w S1 => match w with
  | .str z => if z.length ≤ 1000 then .xc ⟨x, [(f, .str z)]⟩ env S1 else .bad
  | _ => .bad
theorem sims_raise {X : Cx} {W0 : WX} {J : JI} {me : EM W} {e : Expr} {x f p : Str} {C fI : Addr} {fd : FuncData} {np pos pos2 : Pos} (T : ExcF X.prog X.w X.K X.mg X.base x f p C fI fd) (hr : Room 2 X.A) (hc : X.calm = true) (tk : Takes X W0)
    (hx : Passes (L2.CX X.prog X.w) X (fun _ _ _ => False)) (h : SimE X W0 J e me) (hg : Gl X x := by rfl) (hdb : (x == ("__debug__" : Str)) = false := by decide)
    (he : starEach (e :: []) X.env = (false, eval e X.env) :: starEach [] X.env := by rfl) (hpl : (backTo pos (starEach [] X.env)).any (·.1) = false := by rfl) :
    SimS X W0 J (.Raise (some (.Call (.Name x np) [e] [] pos)) none pos2) (sRaise x f me) := by
  obtain ⟨te, pe, k⟩ := h
  refine ⟨_, ps_raise hc tk (pmk_oex T.oex T.iC T.tI T.F hr T.hb .nil hx hg T.gC (pa_cons pe pa_nil he) hdb he hpl), fun ρ δ S H env σ D hev hs hj hp => ?_⟩
  refine k ρ δ S H env σ _ hev hs hj (PostS.ofE hev hp fun w S1 ρ1 v H1 _ g1 s1 r1 hp1 => ?_)
  cases r1 with
  | @str z =>
    by_cases hz : z.length ≤ 1000
    · simp only [if_pos hz] at hp1
      refine ⟨by simp, fun a ha => ⟨a, z, rfl, hz, upd_same, fun d hd ne => ⟨rfl, d, [(f, .str z)], upd_same, ?_, ?_, ?_⟩⟩⟩
      · rw [upd_ne (Ne.symm ne).symm]
        exact upd_same
      · rw [upd_ne ne] at hd
        exact hd
      · have hd1 : H1 d = none := by rw [upd_ne ne] at hd; exact hd
        have e1 : upd (del (upd (upd (upd H1 a (exo a C none)) d (exd d [(f, V.str z)])) a (exo a C (some d))) a) d (.xd [(f, V.str z)]) = upd H1 d (.xd [(f, V.str z)]) := by
          funext b
          by_cases hb : b = d
          · subst hb; rw [upd_same, upd_same]
          · rw [upd_ne hb, upd_ne hb]
            by_cases hba : b = a
            · subst hba; rw [del_same, ha]
            · rw [del_ne hba, upd_ne hba, upd_ne hb, upd_ne hba]
        rw [e1]
        refine hp1 ρ1 (.ref C) (some d) σ _ (Grow.laid hd1) (s1.laid hd1) (hev.grow (g1.trans (Grow.laid hd1))) ⟨C, d, [(f, .str z)], T.gC, rfl, rfl, upd_same, (s1.new hd1).1, (s1.new hd1).2, rfl, .str, trivial⟩
    · simp only [if_neg hz] at hp1
      exact hp1.elim
  | _ => exact hp1.elim
end
end Sm

set_option Elab.async false
set_option linter.all false
set_option maxRecDepth 100000
/-! try: .. except C as p: .., the suite made of what the error holds -/
namespace Sm
open PySem PySem.Spec PyProof.Rows L2 LamX
variable [TB]
abbrev TX := Addr → Value → Option Addr → TE
/-- an expression of a suite that speaks of the error (slot i) alone -/
def SimC (X : Cx) (i : Nat) (e : Expr) (m : Exn → M W) : Prop :=
  ∃ t : TX, (∀ (a : Addr) (oe : Obj) (cls : Value) (d : Option Addr) (pn : List (Addr × Obj)), Zc cls d oe → (∃ vs, oe.data = .fields vs) → PE (X.suite a ((a, oe) :: pn)) e (t a cls d)) ∧
    ∀ a cls d ρ δ S H (σ : L2.St) Q x, σ[i]? = some (some (.ref a)) → Sts X.K ρ δ S H → RepX X.mg X.K ρ δ H x cls d → Post X.mg X.K ρ δ H (RW X.K δ) Q (fun _ _ _ => False) (m x S) → t a cls d σ H Q
def SimCA (X : Cx) (i : Nat) (es : List Expr) (m : Exn → M (List W)) : Prop :=
  ∃ t : Addr → Value → Option Addr → TA, (∀ (a : Addr) (oe : Obj) (cls : Value) (d : Option Addr) (pn : List (Addr × Obj)), Zc cls d oe → (∃ vs, oe.data = .fields vs) → PA (X.suite a ((a, oe) :: pn)) es (t a cls d)) ∧
    ∀ a cls d ρ δ S H (σ : L2.St) Q x, σ[i]? = some (some (.ref a)) → Sts X.K ρ δ S H → RepX X.mg X.K ρ δ H x cls d → Post X.mg X.K ρ δ H (RWs X.K δ) Q (fun _ _ _ => False) (m x S) → t a cls d σ H Q
def SimCS (X : Cx) (i : Nat) (st : List Stmt) (m : Exn → M W) : Prop :=
  ∃ t : Addr → Value → Option Addr → TS, (∀ (a : Addr) (oe : Obj) (cls : Value) (d : Option Addr) (pn : List (Addr × Obj)), Zc cls d oe → (∃ vs, oe.data = .fields vs) → PSs (X.suite a ((a, oe) :: pn)) st (t a cls d)) ∧
    ∀ a cls d ρ δ S H (σ : L2.St) (D : Ends) x, σ[i]? = some (some (.ref a)) → Sts X.K ρ δ S H → RepX X.mg X.K ρ δ H x cls d → Post X.mg X.K ρ δ H (RW X.K δ) D.rt (fun _ _ _ => False) (m x S) → t a cls d D σ H
def RepF.at_ {K : Fr} {ρ δ : List Addr} {H : Hp} {f : Str} {w : W} : ∀ {fs : List (Str × W)} {vfs : List (Str × V)}, RepF K ρ δ H fs vfs → fs.lookup f = some w → ∃ v, vfs.lookup f = some v ∧ Rep K ρ δ H w v
  | [], [], _, e => by cases e
  | (g, w0) :: r, (g', v0) :: t, h, e => by
    obtain ⟨rfl, r0, h⟩ := h
    rw [List.lookup_cons] at e
    rw [List.lookup_cons]
    cases hb : f == g with
    | true =>
      rw [hb] at e
      cases e
      exact ⟨v0, rfl, r0⟩
    | false =>
      rw [hb] at e
      exact RepF.at_ h e
section
variable {X : Cx} {i : Nat} {pos : Pos}
theorem simc_str {z : Str} {j} : SimC X i (.Constant (.str z) j pos) (fun _ => ret (.str z)) :=
  ⟨fun _ _ _ => tC (.str z), fun _ _ _ _ _ _ _ => pe_str, fun a cls d ρ δ S H σ Q x _ hs _ hp => hp ρ _ H (Grow.refl _ _) hs .str⟩
/-- p.f, p the error, of the class at C -/
def mErrF (x f : Str) : Exn → M W := fun ex S => if ex.cls = x then match ex.fs.lookup f with
  | some w => .val w S
  | none => .bad
  else .bad
theorem simc_field {x f p : Str} {C : Addr} {np : Pos} (gC : X.mg x = some (.ref C)) (T : XfC X.K C) (hno : PySem.W.findIn X.K (.ref C) f = some none) (hN : X.N[i]? = some p) (hv : Vis X.env.scope p) (hd : (p == ("__debug__" : Str)) = false := by decide) (hcd : (p == ("__classdict__" : Str)) = false := by decide)
    (hb : attributeBase (.Name p np) f X.env (eval (.Name p np) X.env) = eval (.Name p np) X.env := by rfl) : SimC X i (.Attribute (.Name p np) f pos) (mErrF x f) := by
  refine ⟨fun a cls d => tXf a cls d C f (tVar i), fun a oe cls d pn hz hf => pe_xf T hno hz hf (by exact pe_var hN hv hd hcd) hb, fun a cls d ρ δ S H σ Q ex hi hs hx hp => ?_⟩
  obtain ⟨C', dd, vfs, g, e1, e2, e3, n1, n2, rf⟩ := hx
  unfold mErrF at hp
  by_cases hc : ex.cls = x
  · rw [if_pos hc] at hp
    rw [hc, gC] at g
    cases g
    cases el : ex.fs.lookup f with
    | none => rw [el] at hp; exact hp.elim
    | some w =>
      rw [el] at hp
      obtain ⟨v, ev, rv⟩ := rf.at_ el
      exact ⟨_, hi, rfl, e1, dd, vfs, v, e2, e3, ev, hp ρ v H (Grow.refl _ _) hs rv⟩
  · rw [if_neg hc] at hp
    exact hp.elim
theorem RepF.grow {K : Fr} {ρ δ ρ1 : List Addr} {H H1 : Hp} (g : Grow ρ H ρ1 H1) : ∀ {fs : List (Str × W)} {vfs : List (Str × V)}, RepF K ρ δ H fs vfs → RepF K ρ1 δ H1 fs vfs
  | [], [], _ => trivial
  | (_, _) :: _, (_, _) :: _, h => ⟨h.1, g.rep h.2.1, RepF.grow g h.2.2⟩
theorem RepX.grow {mg : Str → Option Value} {K : Fr} {ρ δ ρ1 : List Addr} {H H1 : Hp} {ex : Exn} {c : Value} {d : Option Addr} (g : Grow ρ H ρ1 H1) (h : RepX mg K ρ δ H ex c d) : RepX mg K ρ1 δ H1 ex c d := by
  obtain ⟨C, dd, vfs, e0, e1, e2, e3, n1, n2, rf⟩ := h
  exact ⟨C, dd, vfs, e0, e1, e2, g.keep _ _ e3 n1 (fun _ z => by cases z), g.out e3 n1 (fun _ z => by cases z), n2, rf.grow g⟩
theorem simca_nil : SimCA X i [] (fun _ => ret []) := ⟨fun _ _ _ => tNil, fun _ _ _ _ _ _ _ => pa_nil, fun a cls d ρ δ S H σ Q x _ hs _ hp => hp ρ _ H (Grow.refl _ _) hs .nil⟩
theorem simca_cons {e : Expr} {es : List Expr} {m : Exn → M W} {ms : Exn → M (List W)} (h : SimC X i e m) (hr : SimCA X i es ms) (hst : starEach (e :: es) X.env = (false, eval e X.env) :: starEach es X.env := by rfl) :
    SimCA X i (e :: es) (fun x => bnd (m x) fun w => bnd (ms x) fun us => ret (w :: us)) := by
  obtain ⟨t, p, k⟩ := h
  obtain ⟨tr, pr, kr⟩ := hr
  refine ⟨fun a cls d => tCons (t a cls d) (tr a cls d), fun a oe cls d pn hz hf => pa_cons (p a oe cls d pn hz hf) (pr a oe cls d pn hz hf) hst, fun a cls d ρ δ S H σ Q x hi hs hx hp => ?_⟩
  refine k a cls d ρ δ S H σ _ x hi hs hx (Post.bind hp fun w S1 ρ1 v H1 _ g1 s1 r1 hp1 => ?_)
  refine kr a cls d ρ1 δ S1 H1 σ _ x hi s1 (hx.grow g1) (Post.bind hp1 fun y S2 ρ2 u H2 _ g2 s2 r2 hp2 => ?_)
  exact hp2 ρ2 _ H2 (Grow.refl _ _) s2 (.cons (g2.rep r1) r2)
theorem simc_tup {es : List Expr} {ms : Exn → M (List W)} {x1} (h : SimCA X i es ms) : SimC X i (.Tuple es x1 pos) (fun x => bnd (ms x) wTup) := by
  obtain ⟨t, p, k⟩ := h
  refine ⟨fun a cls d => tTup (t a cls d), fun a oe cls d pn hz hf => pe_tup (p a oe cls d pn hz hf), fun a cls d ρ δ S H σ Q x hi hs hx hp => ?_⟩
  refine k a cls d ρ δ S H σ _ x hi hs hx (Post.bind hp fun w S1 ρ1 v H1 _ g1 s1 r1 hp1 => ?_)
  obtain ⟨hl, hp1⟩ := PostV.if hp1
  exact ⟨by rw [← Reps.length r1]; exact lim_ok hl, fun q np => PostV.tup hp1 s1 r1 np⟩
theorem simc_lst {es : List Expr} {ms : Exn → M (List W)} (h : SimCA X i es ms) : SimC X i (.List es pos) (fun x => bnd (ms x) wLst) := by
  obtain ⟨t, p, k⟩ := h
  refine ⟨fun a cls d => tLst (t a cls d), fun a oe cls d pn hz hf => pe_lst (p a oe cls d pn hz hf), fun a cls d ρ δ S H σ Q x hi hs hx hp => ?_⟩
  refine k a cls d ρ δ S H σ _ x hi hs hx (Post.bind hp fun w S1 ρ1 v H1 _ g1 s1 r1 hp1 => ?_)
  obtain ⟨hl, hp1⟩ := PostV.if hp1
  exact ⟨by rw [← Reps.length r1]; exact lim_ok hl, fun q np => PostV.lst hp1 s1 r1 np⟩
theorem simcs_ret {e : Expr} {m : Exn → M W} (h : SimC X i e m) : SimCS X i [.Return (some e) pos] m := by
  obtain ⟨t, p, k⟩ := h
  exact ⟨fun a cls d => tRet (t a cls d), fun a oe cls d pn hz hf => pss_one (ps_ret (p a oe cls d pn hz hf)), fun a cls d ρ δ S H σ D x hi hs hx hp => k a cls d ρ δ S H σ D.rt x hi hs hx hp⟩
def sTryAs (i : Nat) (ms : Str → Option Bool) (body : SM) (suite : Exn → M W) : SM := fun env S => match body env S with
  | .xc ex env1 S1 => match ms ex.cls with
    | some true => if i < env1.length then (match suite ex S1 with
        | .val w S2 => .rt w S2
        | _ => .bad) else .bad
    | some false => .xc ex env1 S1
    | none => .bad
  | r => r
/-- try: .. except x as n: a suite that ends in return -/
theorem sims_tryAs {W0 : WX} {J : JI} {x n : Str} {c : Value} {body suite : List Stmt} {b0 : Stmt} {np pos' : Pos} {m : SM} {ms : Str → Option Bool} {sm : Exn → M W} (hs : X.stack = X.env :: X.outer) (hf : X.env.frame = some X.env.locals) (hN : X.N.Nodup) (hi : X.N[i]? = some n)
    (hln : X.env.kindOf n = some .local) (hc : Names X x c) (tk : Takes X W0)
    (hms : ∀ (y : Str) (b : Bool) (C : Addr), ms y = some b → X.mg y = some (.ref C) → PySem.W.exmOne X.K (.ref C) c = some b)
    (hb : ∀ (W1 : WX) (pn : List (Addr × Obj)) (xe : Value → Shared → Prop), Takes (X.tr pn xe) W1 → PassesOwn (model X.prog X.w) X.A X.env xe → SimSs (X.tr pn xe) W1 J body m)
    (hsu : SimCS X i (b0 :: suite) sm) : SimS X W0 J (.Try body [.ExceptHandler (some (.Name x np)) (some n) (b0 :: suite) pos'] [] [] pos) (sTryAs i ms m sm) := by
  obtain ⟨ts, ps, ks⟩ := hsu
  refine ⟨_, ps_try_as (tb := fun W1 => TSc X.K X.mg W1 J m) (ts := ts) (Wout := W0) hs hf hN hi hln hc tk (fun W1 pn xe tk1 hp => (hb W1 pn xe tk1 hp).can) (fun a oe cls d pn hz hf => ps a oe cls d pn hz hf), fun ρ δ S H env σ D he hst hj hp => ?_⟩
  refine ⟨ρ, δ, S, env, he, hst, hj, ?_⟩
  unfold sTryAs at hp
  cases em : m env S with
  | xc ex env1 S1 =>
    rw [em] at hp
    intro ρ1 cls d σ1 H1 g1 s1 e1 rx
    have rx' := rx
    obtain ⟨C, dd, vfs, gC, rfl, -⟩ := rx'
    cases eb : ms ex.cls with
    | none => simp only [eb] at hp; exact hp.elim
    | some b =>
      refine ⟨b, hms _ _ _ eb gC, fun hbt a ha => ?_, fun hbf => ?_⟩
      · subst hbt
        simp only [eb] at hp
        by_cases hl : i < env1.length
        · rw [if_pos hl] at hp
          refine ks a (.ref C) d ρ1 δ S1 H1 _ _ ex ?_ s1 rx ?_
          · exact List.getElem?_set_self (by rw [← e1.1]; exact hl)
          · cases es : sm ex S1 with
            | val w S2 =>
              rw [es] at hp
              exact fun ρ2 v H2 g2 s2 r2 => hp ρ2 v H2 (g1.trans g2) s2 r2
            | exc z S2 => rw [es] at hp; exact hp.elim
            | bad => rw [es] at hp; exact hp.elim
        · rw [if_neg hl] at hp
          exact hp.elim
      · subst hbf
        simp only [eb] at hp
        exact hp ρ1 _ d σ1 H1 g1 s1 e1 rx
  | nx env1 S1 => rw [em] at hp; exact hp
  | bk env1 S1 => rw [em] at hp; exact hp
  | ct env1 S1 => rw [em] at hp; exact hp
  | rt w S1 => rw [em] at hp; exact hp
  | bad => rw [em] at hp; exact hp.elim
end
end Sm

set_option Elab.async false
set_option linter.all false
set_option maxRecDepth 100000
/-! isinstance of a caught error that holds fields -/
namespace Sm
open PySem PySem.Spec PyProof.Rows L2 LamX
variable [TB]
def rIsX (K : Fr) (cls : Value) (d : Option Addr) (a : Addr) : List V → Hp → VK → Prop := fun xs H Q =>
  ∃ (D dd : Addr) (fs : List (Str × V)) (c : V) (cv : Value) (b : Bool), cls = .ref D ∧ d = some dd ∧ ExcC K D ∧ H dd = some (.xd fs) ∧ xs = [.ref a, c] ∧ (∀ u, RelV c u → u = cv) ∧ PySem.W.kitOne K (.ref D) cv = some b ∧ Q (.bl b) H
theorem call_isX {X : Cx} {a : Addr} {oe : Obj} {cls : Value} {d : Option Addr} {pn : List (Addr × Obj)} (hz : Zc cls d oe) (hf : ∃ vs, oe.data = .fields vs) : CallR (X.suite a ((a, oe) :: pn)) (.builtin "isinstance") (rIsX X.K cls d a) := by
  intro pins s σ H xs us Q I r h
  obtain ⟨D, dd, fs, c, cv, b, rfl, rfl, T, hx, rfl, hcv, e, q⟩ := h
  cases r with
  | cons rx rr =>
    cases rr with
    | cons rt rr =>
      cases rr
      cases rx
      have ec := hcv _ rt
      subst ec
      have hget := (I.pin (a, oe) (List.mem_append.mpr (.inl List.mem_cons_self))).1
      have ho : ObjOk X.prog X.w H s.heap dd (.xd fs) := I.hok dd _ hx
      obtain ⟨mA, hns, -⟩ := ho
      obtain ⟨od, hod, -⟩ := lookIn_ns hns
      obtain ⟨vs, hv⟩ := hf
      have J : PySem.W.InstAt s.heap a oe D (some od) := ⟨hget, hz.1, by unfold PySem.W.notCls; rw [hv] <;> rfl, by rw [hz.2]; exact hod⟩
      have hcl : (PySem.W.clsIn X.K D).isSome = true := by
        obtain ⟨cd, hc, -⟩ := PySem.W.any_some T.hd
        rw [hc]
        rfl
      exact PySem.W.kia_one (PySem.W.kitx_exc (od := some od) (ox := oe) hcl T.hg T.hk T.hs T.ha T.hn T.ht T.hm) I.kIn J e (fun z => nomatch z) fun tk => ⟨.bl b, H, I.kept (t' := tk) fun _ _ z => z, rfl, q⟩
def mErrIs (tab : Str → Option Bool) : Exn → M W := fun ex S => match tab ex.cls with
  | some b => .val (.bl b) S
  | none => .bad
section
variable {X : Cx} {i : Nat} {pos p1 p2 np : Pos}
theorem simc_isG {y p : Str} {v : V} {cv : Value} {tab : Str → Option Bool} (hg : Gl X "isinstance") (hm : X.mg "isinstance" = none)
    (pB : ∀ (a : Addr) (oe : Obj) (pn : List (Addr × Obj)), PE (X.suite a ((a, oe) :: pn)) (.Name y p2) (tC v)) (hcv : ∀ u, RelV v u → u = cv)
    (ht : ∀ (z : Str) (b : Bool) (D : Addr), tab z = some b → X.mg z = some (.ref D) → ExcC X.K D ∧ PySem.W.kitOne X.K (.ref D) cv = some b)
    (hN : X.N[i]? = some p) (hv : Vis X.env.scope p) (hd : (p == ("__debug__" : Str)) = false := by decide) (hcd : (p == ("__classdict__" : Str)) = false := by decide)
    (hs : starEach [.Name p np, .Name y p2] X.env = (false, eval (.Name p np) X.env) :: starEach [.Name y p2] X.env := by rfl) (hs2 : starEach [.Name y p2] X.env = (false, eval (.Name y p2) X.env) :: starEach [] X.env := by rfl)
    (hpl : (backTo pos (starEach [.Name y p2] X.env)).any (·.1) = false := by rfl) :
    SimC X i (.Call (.Name "isinstance" p1) [.Name p np, .Name y p2] [] pos) (mErrIs tab) := by
  refine ⟨fun a cls d => tCB (rIsX X.K cls d a) (tCons (tVar i) (tCons (tC v) tNil)), fun a oe cls d pn hz hf => pe_callB (call_isX hz hf) hg hm (by decide +kernel) (pa_cons (pe_var hN hv hd hcd) (pa_cons (pB a oe pn) pa_nil hs2) hs) (by decide) (by decide) hs hpl, fun a cls d ρ δ S H σ Q ex hi hst hx hp => ?_⟩
  obtain ⟨D, dd, vfs, g, e1, e2, e3, n1, n2, rf⟩ := hx
  unfold mErrIs at hp
  cases et : tab ex.cls with
  | none => rw [et] at hp; exact hp.elim
  | some b =>
    rw [et] at hp
    obtain ⟨T, hk⟩ := ht _ _ _ et g
    exact ⟨_, hi, D, dd, vfs, v, cv, b, e1, e2, T, e3, rfl, hcv, hk, hp ρ _ H (Grow.refl _ _) hst .bl⟩
theorem simc_isO {y p : Str} {B : Addr} {tab : Str → Option Bool} (hg : Gl X "isinstance") (hm : X.mg "isinstance" = none) (hgy : Gl X y) (hmy : X.mg y = some (.ref B))
    (ht : ∀ (z : Str) (b : Bool) (D : Addr), tab z = some b → X.mg z = some (.ref D) → ExcC X.K D ∧ PySem.W.kitOne X.K (.ref D) (.ref B) = some b)
    (hN : X.N[i]? = some p) (hv : Vis X.env.scope p) (hd : (p == ("__debug__" : Str)) = false := by decide) (hcd : (p == ("__classdict__" : Str)) = false := by decide) (hdy : (y == ("__debug__" : Str)) = false := by decide)
    (hs : starEach [.Name p np, .Name y p2] X.env = (false, eval (.Name p np) X.env) :: starEach [.Name y p2] X.env := by rfl) (hs2 : starEach [.Name y p2] X.env = (false, eval (.Name y p2) X.env) :: starEach [] X.env := by rfl)
    (hpl : (backTo pos (starEach [.Name y p2] X.env)).any (·.1) = false := by rfl) :
    SimC X i (.Call (.Name "isinstance" p1) [.Name p np, .Name y p2] [] pos) (mErrIs tab) :=
  simc_isG (v := .ref B) (cv := .ref B) hg hm (fun a oe pn => pe_glob hgy hmy rfl hdy) (fun u h => h) ht hN hv hd hcd hs hs2 hpl
theorem simc_isB {y p : Str} {T : String} {tab : Str → Option Bool} (hg : Gl X "isinstance") (hm : X.mg "isinstance" = none) (hgy : Gl X y) (hmy : X.mg y = none) (hvy : bootBuiltins y = some (.type T))
    (ht : ∀ (z : Str) (b : Bool) (D : Addr), tab z = some b → X.mg z = some (.ref D) → ExcC X.K D ∧ PySem.W.kitOne X.K (.ref D) (.type T) = some b)
    (hN : X.N[i]? = some p) (hv : Vis X.env.scope p) (hd : (p == ("__debug__" : Str)) = false := by decide) (hcd : (p == ("__classdict__" : Str)) = false := by decide) (hny : y ≠ "__name__" := by decide) (hdy : (y == ("__debug__" : Str)) = false := by decide)
    (hs : starEach [.Name p np, .Name y p2] X.env = (false, eval (.Name p np) X.env) :: starEach [.Name y p2] X.env := by rfl) (hs2 : starEach [.Name y p2] X.env = (false, eval (.Name y p2) X.env) :: starEach [] X.env := by rfl)
    (hpl : (backTo pos (starEach [.Name y p2] X.env)).any (·.1) = false := by rfl) :
    SimC X i (.Call (.Name "isinstance" p1) [.Name p np, .Name y p2] [] pos) (mErrIs tab) :=
  simc_isG (v := .ty T) (cv := .type T) hg hm (fun a oe pn => pe_bltn hgy hmy hvy rfl hny hdy) (fun u h => h) ht hN hv hd hcd hs hs2 hpl
end
end Sm

set_option Elab.async false
set_option linter.all false
set_option maxRecDepth 100000
/-! what the top tells of the program's own errors -/
namespace Sm
open PySem PySem.Spec PyProof.Rows L2 LamX
variable [TB]
structure BaseX (K : Fr) (mg : Str → Option Value) (y : Str) : Prop where
  ex : ∃ B : Addr, mg y = some (.ref B) ∧ PySem.W.specialIn K (.ref B) "__getattribute__" = some (some (.builtin "type.__getattribute__")) ∧ PySem.W.typeIn K (.ref B) = some (.type "type") ∧
    PySem.W.readsIn K B (.type "type") = true ∧ PySem.W.findCls K (.ref B) (.type "type") "__init__" = some (.val (.builtin "ValueError.__init__"))
structure ErrX (K : Fr) (mg : Str → Option Value) (x f p qual : Str) (st : Stmt) : Prop where
  ex : ∃ (C fI : Addr) (fd : FuncData), mg x = some (.ref C) ∧ OexC K C ∧ PySem.W.findIn K (.ref C) "__init__" = some (some (.ref fI)) ∧ PySem.W.typeIn K (.ref fI) = some (.type "function") ∧
    PySem.W.findIn K (.ref C) f = some none ∧ Fun K "__init__" qual st fI fd ∧ Binds K fd ["self", p] [] ∧ XfC K C ∧ ExcC K C
theorem dict_cls {K : Fr} {D : Addr} (h : PySem.W.hasDictIn K D = true) : (PySem.W.clsIn K D).isSome = true := by
  obtain ⟨cd, hc, -⟩ := PySem.W.any_some h
  rw [hc]
  rfl
theorem kit_sub {K : Fr} {D : Addr} {t : Value} {b : Bool} (h1 : PySem.W.hasDictIn K D = true) (h2 : PySem.W.typeIn K (.ref D) = some (.type "type")) (h3 : PySem.W.subIn K t (.ref D) = some b) : PySem.W.kitCls K t (.ref D) = some b := by
  have e : ((PySem.W.clsIn K D).isSome && PySem.W.typeIn K (.ref D) == some (.type "type")) = true := by rw [dict_cls h1, h2] <;> rfl
  exact (if_pos e).trans h3
theorem kit_true {K : Fr} {D : Addr} {t : Value} (h1 : PySem.W.hasDictIn K D = true) (h2 : PySem.W.typeIn K (.ref D) = some (.type "type")) (h3 : PySem.W.subIn K t (.ref D) = some true) : PySem.W.kitOne K t (.ref D) = some true := by
  unfold PySem.W.kitOne
  split
  · rfl
  · exact kit_sub h1 h2 h3
theorem kit_false {K : Fr} {D : Addr} {t : Value} (h1 : PySem.W.hasDictIn K D = true) (h2 : PySem.W.typeIn K (.ref D) = some (.type "type")) (hn : (t == Value.ref D) = false) (h3 : PySem.W.subIn K t (.ref D) = some false) : PySem.W.kitOne K t (.ref D) = some false := by
  unfold PySem.W.kitOne
  rw [hn]
  exact kit_sub h1 h2 h3
theorem kit_typ {K : Fr} {C : Addr} {T : String} {b : Bool} (hT : PySem.W.kitMeta T = true) (h : PySem.W.subIn K (.ref C) (.type T) = some b) : PySem.W.kitOne K (.ref C) (.type T) = some b := by
  have hn : (Value.ref C == Value.type T) = false := rfl
  unfold PySem.W.kitOne
  rw [hn]
  exact (if_pos hT).trans h
def clsS (s : Stmt) (j : Nat) : Stmt := match s with
  | .ClassDef _ _ _ body _ _ _ _ _ _ _ => body.getD j (.Pass ⟨0, 0, 0, 0⟩)
  | _ => .Pass ⟨0, 0, 0, 0⟩
def tabL (l : List (Str × Bool)) (y : Str) : Option Bool := l.lookup y
inductive TabR (mg : Str → Option Value) (R : Addr → Bool → Prop) : List (Str × Bool) → Prop where
  | nil : TabR mg R []
  | cons {x : Str} {b : Bool} {l : List (Str × Bool)} (h : ∀ C, mg x = some (.ref C) → R C b) (r : TabR mg R l) : TabR mg R ((x, b) :: l)
theorem tab_ok {mg : Str → Option Value} {R : Addr → Bool → Prop} {l : List (Str × Bool)} (t : TabR mg R l) : ∀ (y : Str) (b : Bool) (C : Addr), tabL l y = some b → mg y = some (.ref C) → R C b := by
  induction t with
  | nil => intro y b C e; cases e
  | @cons x b0 l h r ih =>
    intro y b C e g
    unfold tabL at e
    rw [List.lookup_cons] at e
    cases hb : y == x with
    | true =>
      rw [hb] at e
      cases e
      have : y = x := eq_of_beq hb
      subst this
      exact h C g
    | false =>
      rw [hb] at e
      exact ih y b C e g
end Sm

set_option Elab.async false
set_option linter.all false
set_option maxRecDepth 100000
/-! tests and branches in a suite that speaks of its error alone -/
namespace Sm
open PySem PySem.Spec PyProof.Rows L2 LamX
variable [TB]
theorem len_nil : ∀ (ws : List W) (env env' : Env), gsN ws env = some env' → ws.length = 0
  | [], _, _, _ => rfl
  | _ :: _, _, _, h => by cases h
theorem len_cons {n : Nat} {g : W → Env → Option Env} {gs : List W → Env → Option Env} (h : ∀ ws env env', gs ws env = some env' → ws.length = n) : ∀ (ws : List W) (env env' : Env), gsC g gs ws env = some env' → ws.length = n + 1
  | [], _, _, e => by cases e
  | w :: ws, env, env', e => by
    have e' : (g w env).bind (gs ws) = some env' := e
    cases hg : g w env with
    | none => rw [hg] at e'; cases e'
    | some env1 =>
      rw [hg] at e'
      rw [List.length_cons, h ws env1 env' e']
def SimCT (X : Cx) (i : Nat) (e : Expr) (m : Exn → M Bool) : Prop :=
  ∃ t : Addr → Value → Option Addr → TT, (∀ (a : Addr) (oe : Obj) (cls : Value) (d : Option Addr) (pn : List (Addr × Obj)), Zc cls d oe → (∃ vs, oe.data = .fields vs) → PT (X.suite a ((a, oe) :: pn)) e (t a cls d)) ∧
    ∀ a cls d ρ δ S H (σ : L2.St) Q x, σ[i]? = some (some (.ref a)) → Sts X.K ρ δ S H → RepX X.mg X.K ρ δ H x cls d → Post X.mg X.K ρ δ H RB Q (fun _ _ _ => False) (m x S) → t a cls d σ H Q
def SimCW (X : Cx) (i : Nat) (e : Expr) (m : Exn → M Bool) : Prop :=
  ∃ t : Addr → Value → Option Addr → TT, (∀ (a : Addr) (oe : Obj) (cls : Value) (d : Option Addr) (pn : List (Addr × Obj)), Zc cls d oe → (∃ vs, oe.data = .fields vs) → PW (X.suite a ((a, oe) :: pn)) e (t a cls d)) ∧
    ∀ a cls d ρ δ S H (σ : L2.St) Q x, σ[i]? = some (some (.ref a)) → Sts X.K ρ δ S H → RepX X.mg X.K ρ δ H x cls d → Post X.mg X.K ρ δ H RB Q (fun _ _ _ => False) (m x S) → t a cls d σ H Q
section
variable {X : Cx} {i : Nat} {pos : Pos} {e b : Expr} {rest : List Expr}
theorem simct_val {m : Exn → M W} (h : SimC X i e m) (he : ∀ whole, isTrue e X.env whole = (do let v ← whole; standAt e.pos; holding [v] (truthy v)) := by intro _; rfl) : SimCT X i e (fun x => bnd (m x) toB) := by
  obtain ⟨t, p, k⟩ := h
  refine ⟨fun a cls d => tTest (t a cls d), fun a oe cls d pn hz hf => pt_val (p a oe cls d pn hz hf) he, fun a cls d ρ δ S H σ Q x hi hs hx hp => ?_⟩
  refine k a cls d ρ δ S H σ _ x hi hs hx (Post.bind hp fun w S1 ρ1 v H1 _ g1 s1 r1 hp1 => ?_)
  exact Post.toB hp1 s1 r1
theorem simct_w {m : Exn → M Bool} (h : SimCW X i e m) : SimCT X i e m := by
  obtain ⟨t, p, k⟩ := h
  exact ⟨t, fun a oe cls d pn hz hf => (p a oe cls d pn hz hf).pt, k⟩
theorem simcw_and1 {m : Exn → M Bool} (h : SimCT X i e m) : SimCW X i (.BoolOp .And [e] pos) m := by
  obtain ⟨t, p, k⟩ := h
  exact ⟨t, fun a oe cls d pn hz hf => pw_and1 (p a oe cls d pn hz hf), k⟩
theorem simcw_and {m n : Exn → M Bool} (h : SimCT X i e m) (hb : SimCW X i (.BoolOp .And (b :: rest) pos) n) : SimCW X i (.BoolOp .And (e :: b :: rest) pos) (fun x => bnd (m x) fun k => if k = true then n x else ret false) := by
  obtain ⟨t, p, k⟩ := h
  obtain ⟨tb, pb, kb⟩ := hb
  refine ⟨fun a cls d => tAnd (t a cls d) (tb a cls d), fun a oe cls d pn hz hf => pw_and (p a oe cls d pn hz hf) (pb a oe cls d pn hz hf), fun a cls d ρ δ S H σ Q x hi hs hx hp => ?_⟩
  refine k a cls d ρ δ S H σ _ x hi hs hx (Post.bind hp fun w S1 ρ1 v H1 _ g1 s1 r1 hp1 => ?_)
  have r1' : w = v := r1
  subst r1'
  cases w with
  | true => exact iteT (kb a cls d ρ1 δ S1 H1 σ _ x hi s1 (hx.grow g1) hp1)
  | false => exact iteF (hp1 ρ1 _ H1 (Grow.refl _ _) s1 rfl)
theorem simc_if {c a1 b1 : Expr} {mc : Exn → M Bool} {ma mb : Exn → M W} (hc : SimCT X i c mc) (ha : SimC X i a1 ma) (hb : SimC X i b1 mb) : SimC X i (.IfExp c a1 b1 pos) (fun x => bnd (mc x) fun k => if k = true then ma x else mb x) := by
  obtain ⟨tc, pc, kc⟩ := hc
  obtain ⟨ta, pa, ka⟩ := ha
  obtain ⟨tb, pb, kb⟩ := hb
  refine ⟨fun a cls d => tIf (tc a cls d) (ta a cls d) (tb a cls d), fun a oe cls d pn hz hf => pe_ifExp (pc a oe cls d pn hz hf) (pa a oe cls d pn hz hf) (pb a oe cls d pn hz hf), fun a cls d ρ δ S H σ Q x hi hs hx hp => ?_⟩
  refine kc a cls d ρ δ S H σ _ x hi hs hx (Post.bind hp fun w S1 ρ1 v H1 _ g1 s1 r1 hp1 => ?_)
  have r1' : w = v := r1
  subst r1'
  cases w with
  | true => exact iteT (ka a cls d ρ1 δ S1 H1 σ _ x hi s1 (hx.grow g1) hp1)
  | false => exact iteF (kb a cls d ρ1 δ S1 H1 σ _ x hi s1 (hx.grow g1) hp1)
/-- if c: a suite that returns; then the rest, which returns -/
theorem simcs_if {c : Expr} {A R : List Stmt} {mc : Exn → M Bool} {ma mr : Exn → M W} (hc : SimCT X i c mc) (ha : SimCS X i A ma) (hr : SimCS X i R mr) : SimCS X i (.If c A [] pos :: R) (fun x => bnd (mc x) fun k => if k = true then ma x else mr x) := by
  obtain ⟨tc, pc, kc⟩ := hc
  obtain ⟨ta, pa, ka⟩ := ha
  obtain ⟨tr, pr, kr⟩ := hr
  refine ⟨fun a cls d => tSeq (tIfS (tc a cls d) (ta a cls d) tNext) (tr a cls d), fun a oe cls d pn hz hf => pss_cons (ps_if (pc a oe cls d pn hz hf) (pa a oe cls d pn hz hf) pss_nil) (pr a oe cls d pn hz hf), fun a cls d ρ δ S H σ D x hi hs hx hp => ?_⟩
  refine kc a cls d ρ δ S H σ _ x hi hs hx (Post.bind hp fun w S1 ρ1 v H1 _ g1 s1 r1 hp1 => ?_)
  have r1' : w = v := r1
  subst r1'
  cases w with
  | true => exact iteT (ka a cls d ρ1 δ S1 H1 σ { D with nx := tr a cls d D } x hi s1 (hx.grow g1) hp1)
  | false => exact iteF (kr a cls d ρ1 δ S1 H1 σ D x hi s1 (hx.grow g1) hp1)
end
end Sm

set_option Elab.async false
set_option linter.all false
set_option maxRecDepth 100000
/-! xs.extend(ys) -/
namespace Sm
open PySem PySem.Spec PyProof.Rows L2 LamX
variable [TB]
def extW : W → List W → M W
  | .box n, [.lst zs] => fun S => match S[n]? with
    | some (.lst ws) => if ws.length + zs.length ≤ lim then .val .non (S.set n (.lst (ws ++ zs))) else .bad
    | _ => .bad
  | .box n, [.box m] => fun S => match S[n]?, S[m]? with
    | some (.lst ws), some (.lst zs) => if ws.length + zs.length ≤ lim then .val .non (S.set n (.lst (ws ++ zs))) else .bad
    | _, _ => .bad
  | _, _ => bad
section
variable {X : Cx} {W0 : WX} {J : JI} {e o : Expr} {mo : EM W} {ms : EM (List W)} {apos cpos : Pos}
theorem mt_ext : MtS X rExtend extW := by
  intro ρ δ S H w v ws vs Q E s r rs hp
  cases r with
  | @box n a f hk =>
    cases rs with
    | nil => exact hp.elim
    | cons r1 rs => cases rs with
      | cons _ _ => cases r1 <;> exact hp.elim
      | nil =>
        obtain ⟨xs, us, h1, h2, r'⟩ := s.lst f hk
        cases r1 with
        | lst g t =>
          simp only [extW, h1] at hp
          obtain ⟨hl, hp⟩ := PostV.if hp
          exact ⟨a, _, us, _, rfl, rfl, h2, g.1, by rw [← Reps.length r', ← Reps.length t]; exact lim_ok hl, PostV.put hp s f hk (r'.append t) .non⟩
        | @box m b g hk2 =>
            obtain ⟨zs, us2, k1, k2, t⟩ := s.lst g hk2
            simp only [extW, h1, k1] at hp
            obtain ⟨hl, hp⟩ := PostV.if hp
            exact ⟨a, b, us, us2, rfl, rfl, h2, k2, by rw [← Reps.length r', ← Reps.length t]; exact lim_ok hl, PostV.put hp s f hk (r'.append t) .non⟩
        | _ => exact hp.elim
  | _ => cases rs with
    | nil => exact hp.elim
    | cons r1 rs => cases rs <;> cases r1 <;> exact hp.elim
theorem sim_extend (ho : SimE X W0 J o mo) (ha : SimA X W0 J [e] ms)
    (hbase : attributeBase o "extend" X.env (eval o X.env) = eval o X.env := by rfl)
    (hfew : ((backTo cpos (starEach [e] X.env)).all (fun x => !x.1) && (backToKw cpos (keywordEach [] X.env)).all (fun x => x.1.isSome)
      && decide ([e].length + ([] : List Keyword).length + (if ([] : List Keyword).isEmpty then 0 else 1) < 30)) = true := by rfl)
    (hline : (apos.endLine == cpos.line) = true := by rfl) (hs : starEach [e] X.env = (false, eval e X.env) :: starEach [] X.env := by rfl) :
    SimE X W0 J (.Call (.Attribute o "extend" apos) [e] [] cpos) (mMt extW mo ms) :=
  sim_mt PySem.F.slot_list_extend PySem.F.type_list_extend mt_extend mt_ext ho ha hbase hfew hline hs rfl
/-! x += e, x -= e, of whole numbers -/
@[simp] def addIW : W → W → M W
  | .int i, .int j => fun S => .val (.int (i + j)) S
  | _, _ => bad
@[simp] def subIW : W → W → M W
  | .int i, .int j => fun S => .val (.int (i - j)) S
  | _, _ => bad
theorem os_addI : OpS X (ipI fun i j => i + j) addIW := by
  intro ρ δ S H x y v u Q E s rx ry hp
  cases rx with
  | int => cases ry with
    | int => exact ⟨_, _, rfl, rfl, PostV.here (v := .int _) hp s .int⟩
    | _ => exact hp.elim
  | _ => exact hp.elim
theorem os_subI : OpS X (ipI fun i j => i - j) subIW := by
  intro ρ δ S H x y v u Q E s rx ry hp
  cases rx with
  | int => cases ry with
    | int => exact ⟨_, _, rfl, rfl, PostV.here (v := .int _) hp s .int⟩
    | _ => exact hp.elim
  | _ => exact hp.elim
theorem sims_augAdd {i : Nat} {x : Str} {me : EM W} {p2 pos : Pos} (hN : X.N.Nodup) (hi : X.N[i]? = some x) (hx : Loc X.env.scope x) (h : SimE X W0 J e me) (hf : X.fn x = true ∨ X.env.scope.names.lookup x = some .local := by first | exact .inl rfl | exact .inr rfl | assumption) :
    SimS X W0 J (.AugAssign (.Name x p2) .Add e pos) (sAug i addIW me) := sims_aug hN hi hx h ip_add os_addI fun te pe => ps_aug hN hi hx pe ip_add hf
theorem sims_augSub {i : Nat} {x : Str} {me : EM W} {p2 pos : Pos} (hN : X.N.Nodup) (hi : X.N[i]? = some x) (hx : Loc X.env.scope x) (h : SimE X W0 J e me) (hf : X.fn x = true ∨ X.env.scope.names.lookup x = some .local := by first | exact .inl rfl | exact .inr rfl | assumption) :
    SimS X W0 J (.AugAssign (.Name x p2) .Sub e pos) (sAug i subIW me) := sims_aug hN hi hx h ip_sub os_subI fun te pe => ps_aug hN hi hx pe ip_sub hf
end
end Sm

set_option Elab.async false
set_option linter.all false
set_option maxRecDepth 100000
/-! a def that neither changes nor returns what its caller holds in a box: run on a store of its own -/
namespace Sm
open PySem PySem.Spec PyProof.Rows L2 LamX
variable [TB]
mutual
def nb : W → Bool
  | .tup xs => nbs xs
  | .lst xs => nbs xs
  | .scr xs => nbs xs
  | .box _ => false
  | .dct _ => false
  | _ => true
def nbs : List W → Bool
  | [] => true
  | x :: xs => nb x && nbs xs
end
mutual
/-- tuples and what is flat, no list -/
def tpl : W → Bool
  | .tup xs => tpls xs
  | .lst _ => false
  | .scr _ => false
  | .box _ => false
  | .dct _ => false
  | .rng _ _ => false
  | _ => true
def tpls : List W → Bool
  | [] => true
  | x :: xs => tpl x && tpls xs
end
def xflat (e : Exn) : Bool := e.fs.all fun p => flatW p.2
def purA (S : Sto) : Out W → Out W
  | .val w S' => if nb w = true then .val w S else match fz S' 0 8 w with
    | some w' => .val w' S
    | none => .bad
  | .exc e _ => if xflat e = true then .exc e S else .bad
  | .bad => .bad
def purB (S : Sto) : Out W → Out W
  | .val w _ => if tpl w = true then .val w S else .bad
  | .exc e _ => if xflat e = true then .exc e S else .bad
  | .bad => .bad
def pur (fm : List W → M W) (ws : List W) : M W := fun S => if nbs ws = true then purA S (fm ws []) else match mapO (fz S 0 8) ws with
  | some xs => purB S (fm xs [])
  | none => .bad
section
variable {K : Fr} {ρ δ : List Addr} {S : Sto} {H : Hp}
theorem FzT.apart {a : Addr} {vs : List V} (h : FzT K ρ δ H a vs) : FzT K [] (ρ ++ δ) H a vs :=
  ⟨h.1, by simp, fun z => (List.mem_append.mp z).elim h.2.1 h.2.2⟩
theorem FzL.apart {a : Addr} {vs : List V} (h : FzL K ρ δ H a vs) : FzL K [] (ρ ++ δ) H a vs := by
  rcases h with ⟨h, h1, h2⟩ | h
  · exact .inl ⟨h, by simp, fun z => (List.mem_append.mp z).elim h1 h2⟩
  · exact .inr h
theorem FzM.apart {a : Addr} {vs : List V} (h : FzM ρ δ H a vs) : FzM [] (ρ ++ δ) H a vs :=
  ⟨h.1, by simp, fun z => (List.mem_append.mp z).elim h.2.1 h.2.2⟩
mutual
theorem nb_apart : ∀ {w : W} {v : V}, nb w = true → Rep K ρ δ H w v → Rep K [] (ρ ++ δ) H w v
  | _, _, _, .non => .non
  | _, _, _, .bl => .bl
  | _, _, _, .int => .int
  | _, _, _, .str => .str
  | .tup ws, _, h, .tup f r => .tup f.apart (nbs_apart (by simpa [nb] using h) r)
  | .lst ws, _, h, .lst f r => .lst f.apart (nbs_apart (by simpa [nb] using h) r)
  | .scr ws, _, h, .scr f r => .scr f.apart (nbs_apart (by simpa [nb] using h) r)
  | .box _, _, h, .box _ _ => by simp [nb] at h
  | .dct _, _, h, .dct _ _ => by simp [nb] at h
  | .rng _ _, _, _, .rng f => .rng ⟨f.1, by simp, fun z => (List.mem_append.mp z).elim f.2.1 f.2.2⟩
theorem nbs_apart : ∀ {ws : List W} {vs : List V}, nbs ws = true → Reps K ρ δ H ws vs → Reps K [] (ρ ++ δ) H ws vs
  | [], _, _, .nil => .nil
  | w :: ws, _, h, .cons r t => by
    have h' : nb w = true ∧ nbs ws = true := by simpa [nbs] using h
    exact .cons (nb_apart h'.1 r) (nbs_apart h'.2 t)
end
mutual
theorem nb_fz : ∀ {w : W} {v : V} {ρ' δ' : List Addr}, nb w = true → Rep K ρ' δ' H w v → Rep K [] δ' H w v
  | _, _, _, _, _, .non => .non
  | _, _, _, _, _, .bl => .bl
  | _, _, _, _, _, .int => .int
  | _, _, _, _, _, .str => .str
  | .tup ws, _, _, _, h, .tup f r => .tup ⟨f.1, by simp, f.2.2⟩ (nbs_fz (by simpa [nb] using h) r)
  | .lst ws, _, _, _, h, .lst f r => .lst ⟨f.1, by simp, f.2.2⟩ (nbs_fz (by simpa [nb] using h) r)
  | .scr ws, _, _, _, h, .scr f r => .scr (f.imp (fun z => ⟨z.1, by simp, z.2.2⟩) id) (nbs_fz (by simpa [nb] using h) r)
  | .box _, _, _, _, h, .box _ _ => by simp [nb] at h
  | .dct _, _, _, _, h, .dct _ _ => by simp [nb] at h
  | .rng _ _, _, _, _, _, .rng f => .rng ⟨f.1, by simp, f.2.2⟩
theorem nbs_fz : ∀ {ws : List W} {vs : List V} {ρ' δ' : List Addr}, nbs ws = true → Reps K ρ' δ' H ws vs → Reps K [] δ' H ws vs
  | [], _, _, _, _, .nil => .nil
  | w :: ws, _, _, _, h, .cons r t => by
    have h' : nb w = true ∧ nbs ws = true := by simpa [nbs] using h
    exact .cons (nb_fz h'.1 r) (nbs_fz h'.2 t)
end
theorem not_box {a : Addr} {vs : List V} (s : Sts K ρ δ S H) (h : Rd H a (.tup vs)) : a ∉ ρ := fun z => by
  obtain ⟨n, hn⟩ := List.mem_iff_getElem?.mp z
  obtain ⟨c, u, q1, q2, q3⟩ := s.bx n a hn
  have k := q3.kd
  rcases h with h | ⟨o, h⟩
  · rw [q2] at h; cases h; exact k rfl
  · rw [q2] at h; cases h; exact k rfl
mutual
theorem tpl_rep : ∀ {w : W} {v : V} {ρ' : List Addr}, tpl w = true → Sts K ρ δ S H → Rep K ρ' δ H w v → Rep K ρ δ H w v
  | _, _, _, _, _, .non => .non
  | _, _, _, _, _, .bl => .bl
  | _, _, _, _, _, .int => .int
  | _, _, _, _, _, .str => .str
  | .tup ws, _, _, h, s, .tup f r => by
    exact .tup ⟨f.1, not_box s (.inl f.1), f.2.2⟩ (tpls_rep (by simpa [tpl] using h) s r)
  | .lst ws, _, _, h, _, .lst f r => by simp [tpl] at h
  | .scr ws, _, _, h, _, .scr f r => by simp [tpl] at h
  | .box _, _, _, h, _, .box _ _ => by simp [tpl] at h
  | .dct _, _, _, h, _, .dct _ _ => by simp [tpl] at h
  | .rng _ _, _, _, h, _, .rng _ => by simp [tpl] at h
theorem tpls_rep : ∀ {ws : List W} {vs : List V} {ρ' : List Addr}, tpls ws = true → Sts K ρ δ S H → Reps K ρ' δ H ws vs → Reps K ρ δ H ws vs
  | [], _, _, _, _, .nil => .nil
  | w :: ws, _, _, h, s, .cons r t => by
    have h' : tpl w = true ∧ tpls ws = true := by simpa [tpls] using h
    exact .cons (tpl_rep h'.1 s r) (tpls_rep h'.2 s t)
end
theorem Car.join : Car K [] (ρ ++ δ) H ρ δ H := by
  refine ⟨fun a vs f => ?_, fun a vs f => ?_, fun a vs f => ?_, fun n a e => by simp at e, fun a lo hi f => ⟨f.1, fun z => f.2.2 (List.mem_append_left _ z), fun z => f.2.2 (List.mem_append_right _ z)⟩⟩
  · rcases f with ⟨f, -, f2⟩ | f
    · exact .inl ⟨f, fun z => f2 (List.mem_append_left _ z), fun z => f2 (List.mem_append_right _ z)⟩
    · exact .inr f
  · exact ⟨f.1, fun z => f.2.2 (List.mem_append_left _ z), fun z => f.2.2 (List.mem_append_right _ z)⟩
  · exact ⟨f.1, fun z => f.2.2 (List.mem_append_left _ z), fun z => f.2.2 (List.mem_append_right _ z)⟩
theorem RepF.join : ∀ {fs : List (Str × W)} {vfs : List (Str × V)}, RepF K [] (ρ ++ δ) H fs vfs → RepF K ρ δ H fs vfs
  | [], [], _ => trivial
  | (_, _) :: _, (_, _) :: _, h => ⟨h.1, Car.join.rep h.2.1, RepF.join h.2.2⟩
  | [], _ :: _, h => h.elim
  | _ :: _, [], h => h.elim
theorem own_grow {ρ' : List Addr} {H' : Hp} (g : Grow [] H ρ' H') (s : Sts K ρ δ S H) : Grow ρ H ρ H' ∧ Sts K ρ δ S H' := by
  have g' : Grow ρ H ρ H' := ⟨⟨[], by simp, by simp⟩, fun a o q _ ht => g.keep a o q (by simp) ht, g.tr, g.tb, g.ty⟩
  refine ⟨g', s.nd, s.dj, fun a ha => let ⟨u, q, n⟩ := s.dl a ha; g.tr a u q n, fun n a hn => ?_, s.ln⟩
  obtain ⟨c, u, h1, h2, h3⟩ := s.bx n a hn
  exact ⟨c, u, h1, g.keep a u h2 (by simp) (fun ps z => by subst z; exact h3.kd rfl), g'.repC h3⟩
theorem own_sts (s : Sts K ρ δ S H) : Sts K [] (ρ ++ δ) [] H :=
  ⟨List.nodup_nil, by simp, fun a ha => (List.mem_append.mp ha).elim (fun z => s.mem z) (fun z => s.dl a z), by simp, rfl⟩
theorem own_sts0 (s : Sts K ρ δ S H) : Sts K [] δ [] H := ⟨List.nodup_nil, by simp, s.dl, by simp, rfl⟩
end
theorem sim_pure {P : Program} {w : World} {K : Fr} {mg : Str → Option Value} {base : Heap} {f : Addr} {fd : FuncData} {ps : List Str} {CX : CXT} {k : Nat} {fm : List W → M W} (F : FnOk P w K mg base CX k f fd ps (SpM K mg ps.length fm)) : FnOk P w K mg base CX k f fd ps (SpM K mg ps.length (pur fm)) := by
  refine F.imp fun vs H Q E ⟨hT, ρ, δ, S, ws, hl, s0, r0, hp⟩ => ?_
  unfold pur at hp
  by_cases hn : nbs ws = true
  · rw [if_pos hn] at hp
    refine ⟨hT, [], ρ ++ δ, [], ws, hl, own_sts s0, nbs_apart hn r0, ?_⟩
    cases e : fm ws [] with
    | bad => rw [e] at hp; exact hp.elim
    | val a S' =>
      rw [e] at hp
      simp only [purA] at hp
      intro ρ' v H' g s r
      obtain ⟨g', s'⟩ := own_grow g s0
      by_cases hb : nb a = true
      · rw [if_pos hb] at hp
        exact hp ρ v H' g' s' (Car.join.rep (nb_fz hb r))
      · rw [if_neg hb] at hp
        cases ez : fz S' 0 8 a with
        | none => rw [ez] at hp; exact hp.elim
        | some w' =>
          rw [ez] at hp
          have z := fz_rep s 0 8 a w' v ez r
          rw [List.take_zero] at z
          exact hp ρ v H' g' s' (Car.join.rep z)
    | exc x S' =>
      rw [e] at hp
      simp only [purA] at hp
      by_cases hf : xflat x = true
      · rw [if_pos hf] at hp
        intro ρ' c d H' g s r
        obtain ⟨g', s'⟩ := own_grow g s0
        obtain ⟨C, dx, vfs, r1, r2, r3, r4, r5, r6, r7⟩ := r
        have h7 : RepF K [] (ρ ++ δ) H' x.fs vfs := flat_repF hf r7
        refine hp ρ c d H' g' s' ⟨C, dx, vfs, r1, r2, r3, r4, fun z => r6 (List.mem_append_left _ z), fun z => r6 (List.mem_append_right _ z), ?_⟩
        exact RepF.join h7
      · rw [if_neg hf] at hp
        exact hp.elim
  · rw [if_neg hn] at hp
    cases em : mapO (fz S 0 8) ws with
    | none => rw [em] at hp; exact hp.elim
    | some xs =>
      rw [em] at hp
      have hp : Post mg K ρ δ H (RW K δ) Q E (purB S (fm xs [])) := hp
      have hr : Reps K (ρ.take 0) δ H xs vs := mapO_reps (fz_rep s0 0 8) em r0
      rw [List.take_zero] at hr
      refine ⟨hT, [], δ, [], xs, by rw [Reps.length hr, ← Reps.length r0]; exact hl, own_sts0 s0, hr, ?_⟩
      cases e : fm xs [] with
      | bad => rw [e] at hp; exact hp.elim
      | val a S' =>
        rw [e] at hp
        simp only [purB] at hp
        by_cases hf : tpl a = true
        · rw [if_pos hf] at hp
          intro ρ' v H' g s r
          obtain ⟨g', s'⟩ := own_grow g s0
          exact hp ρ v H' g' s' (tpl_rep hf s' r)
        · rw [if_neg hf] at hp
          exact hp.elim
      | exc x S' =>
        rw [e] at hp
        simp only [purB] at hp
        by_cases hf : xflat x = true
        · rw [if_pos hf] at hp
          intro ρ' c d H' g s r
          obtain ⟨g', s'⟩ := own_grow g s0
          obtain ⟨C, dx, vfs, r1, r2, r3, r4, r5, r6, r7⟩ := r
          have ndx : dx ∉ ρ := fun z => by
            obtain ⟨n, hn⟩ := List.mem_iff_getElem?.mp z
            obtain ⟨c0, o, q1, q2, q3⟩ := s0.bx n dx hn
            have k := q3.kd
            rw [g.keep dx _ q2 (by simp) (fun _ z => by subst z; exact k rfl)] at r4
            cases r4
            exact k rfl
          exact hp ρ c d H' g' s' ⟨C, dx, vfs, r1, r2, r3, r4, ndx, r6, flat_repF hf r7⟩
        · rw [if_neg hf] at hp
          exact hp.elim
theorem FnG.pur {P : Program} {w : World} {K : Fr} {mg : Str → Option Value} {base : Heap} {k : Nat} {x : Str} {ps : List Str} {fm : List W → M W} (F : FnG P w K mg base k x ps fm) : FnG P w K mg base k x ps (pur fm) := by
  obtain ⟨f, fd, F, g, kp, b⟩ := F
  exact ⟨f, fd, sim_pure F, g, kp, b⟩
end Sm

set_option Elab.async false
set_option linter.all false
set_option maxRecDepth 100000
/-! a lambda with parameters, handed to a built-in: the words of a def within a def serve it -/
namespace Sm
open PySem PySem.Spec PyProof.Rows L2 LamX NdefX
variable [TB]
section
variable {X : Cx} {pins : List (Addr × Obj)} {σ : L2.St} {H : Hp} {s : Shared}
def lamF (X : Cx) (pr : Arguments) (sc : Scope) (c' : Addr) : NF := ⟨"<lambda>", X.env.qual ++ "<lambda>", pr, [], sc, cloFrom X.env.cells sc.names [], c'⟩
abbrev lamX (X : Cx) (N : List Str) (pr : Arguments) (sc : Scope) (f c' : Addr) (A : Around) (outer : List PySem.Env) (s : Shared) (H : Hp) : Cx :=
  ncx (L2.CX X.prog X.w) X.prog X.w X.K X.mg X.base N (lamF X pr sc c') f A outer s H (fun _ _ _ => False)
/-- the lambda's object stands at f -/
def LamAt (X : Cx) (pr : Arguments) (sc : Scope) (bd : Expr) (c' : Addr) (o : Obj) : Prop := ∃ pm ctv : Value, o = PySem.W.kla_obj "<lambda>" (X.env.qual ++ "<lambda>") pr bd sc (cloFrom X.env.cells sc.names []) pm c' ctv
/-- how its arguments bind -/
def LamB (pr : Arguments) (sc : Scope) (bd : Expr) (ps : List Str) : Prop := ∀ (q : Str) (cl : List (Str × Addr)) (pm cv ctv : Value) (us : List Value), us.length = ps.length → bindArgs (PySem.W.kla_fn "<lambda>" q pr bd sc cl pm cv ctv) ⟨us, []⟩ = pure (ps.zip us)
theorem run_lam {A : Around} {N ps fr : List Str} {js : List Nat} {sc : Scope} {f c' : Addr} {o : Obj} {pr : Arguments} {bd : Expr} {k : Nat} {vs : List V} {us : List Value} {tb : TE} {Q : VK}
    (I : Inv X pins σ H s) (Sc : NScope N ps fr sc) (cp : Caps X (lamF X pr sc c').cl fr js) (ho : s.heap.get? f = some o) (hl : LamAt X pr sc bd c' o) (hc : H c' = some (CodeO c' (X.env.qual ++ "<lambda>"))) (hb : LamB pr sc bd ps)
    (e0 : Env0 X.prog X.w X.K X.mg X.base A X.stack s H) (hr : Room (k + 1) A) (rv : Vals vs us) (len : vs.length = ps.length)
    (body : ∀ (A : Around) (outer : List PySem.Env) (s : Shared) (H : Hp), Room k (A.deeper (envF (lamF X pr sc c') f s.heap.objs.size)) → PE (lamX X N pr sc f c' A outer s H) bd tb)
    (q : tb (startF N vs (js.map (slotAt σ))) H Q) : wpAny (model X.prog X.w) A (call (.ref f) us) (EP X pins σ Q) (fun _ _ => False) s := by
  obtain ⟨pm, ctv, rfl⟩ := hl
  have run : codeAny (model X.prog X.w) A (.call (.ref f) ⟨us, []⟩) (CR (L2.CX X.prog X.w) X.stack X.prog X.w H s Q (fun _ _ _ => False)) s := by
    refine PySem.W.kla_callFunE hr.depth ho rfl Sc.co Sc.gen rfl (codeO_at I.hok hc) ?_
    rw [hb _ _ _ _ _ us (by rw [← rv.length]; exact len)]
    refine wpAny_pure (wpAny_newFunctionEnv Sc.nocell (fun b hb => Sc.par b.1 (List.of_mem_zip (a := b.1) (b := b.2) hb).1) (fun g gn gs => ⟨I.nolimit.fresh _ gs, ?_⟩) Sc.kind)
    have old : ∀ b u, s.heap.get? b = some u → g.get? b = some u := fun b u e =>
      gs.extBut b u (Nat.ne_of_lt (Heap.lt_size e)) (Heap.get?_push_of_some _ e)
    have J := inv_startN (F := lamF X pr sc c') (CX := L2.CX X.prog X.w) (f := f) (E := fun _ _ _ => False) (tk := s.toks + (ps.zip us).length) Sc hr.hd e0 len rv (cells_of I cp) gn old
    refine PySem.W.kla_codeExpr (wpAny_mono ((body A X.stack s H (hr.deeper _)).run [] _ _ H Q J q) (fun v t ⟨w', H', J', r', q'⟩ => ⟨w', H', J'.os, J'.bare, J'.base, J'.hok, r', q'⟩) fun _ _ z => z)
  refine wpAny_call (codeAny_mono run fun r t hq => ?_)
  match r, hq with
  | .error e, hq => exact noCX hq
  | .ok (.ret u), hq => exact I.after hq
  | .ok .next, hq => exact False.elim hq
  | .ok .brk, hq => exact False.elim hq
  | .ok .cont, hq => exact False.elim hq
/-- the lambda made: what was tracked is kept, and the tables still tell what they told -/
theorem lam_made {c P : Addr} {pr : Arguments} {bd : Expr} {sc : Scope} {pos : Pos} {E : Value → Shared → Prop} {Q : Value → Shared → Prop} {ρ : List Addr} (I : Inv X pins σ H s) (TBc : TabB X.base X.mg c P) (hcode : X.env.code = .ref c)
    (hm : (P, X.env.qual ++ "<lambda>") ∈ TB.T) (hu : ∀ p ∈ TB.T, p.1 = P → p.2 = X.env.qual ++ "<lambda>") (hT : Tabs TB.T H) (hdef : defaultsOf pr X.env = ([], [])) (hfree : ∀ y ∈ sc.names, y.2 = .free → ∃ c, X.env.cells.lookup y.1 = some c)
    (h : ∀ (f c' : Addr) (o : Obj) (H1 : Hp) (t : Shared), Inv X pins σ H1 t → Grow ρ H ρ H1 → (∀ b u, H b = some u → NT u → H1 b = some u) → t.heap.get? f = some o → LamAt X pr sc bd c' o → H1 f = none → f ∉ frs X.stack → H1 c' = some (CodeO c' (X.env.qual ++ "<lambda>")) → Q (.ref f) t) :
    wpAny (model X.prog X.w) X.A (eval (.Lambda pr bd sc pos) X.env) Q E s := by
  refine lam_make2 I TBc hcode hm hu hT hdef hfree fun f c' pm ctv H1 t J ext T1 hf fn fx hco => ?_
  refine h f c' _ H1 t J ⟨⟨[], by simp, by simp⟩, fun a o e _ n => ext a o e n, fun a o e n => ⟨o, ext a o e n, n⟩, fun _ => T1, fun a k => by
    obtain ⟨o, q1, q2⟩ := kdH_ex k
    rw [kdH_some (ext a o q1 (kd_nt (by rw [q2]; exact k))), q2]⟩ (fun b u e n => ext b u e n) hf ⟨pm, ctv, rfl⟩ fn fx hco
theorem sts_ext {K : Fr} {ρ δ : List Addr} {S : Sto} {H H1 : Hp} (s : Sts K ρ δ S H) (g : Grow ρ H ρ H1) (e : ∀ b u, H b = some u → NT u → H1 b = some u) : Sts K ρ δ S H1 := by
  refine ⟨s.nd, s.dj, fun a ha => ?_, fun n a hn => ?_, s.ln⟩
  · obtain ⟨u, q, z⟩ := s.dl a ha
    exact ⟨u, e a u q z, z⟩
  · obtain ⟨c, u, h1, h2, h3⟩ := s.bx n a hn
    have nt : NT u := kd_nt h3.kd
    exact ⟨c, u, h1, e a u h2 nt, g.repC h3⟩
end
end Sm

set_option Elab.async false
set_option linter.all false
set_option maxRecDepth 100000
/-! sorted by a key: what comes out -/
namespace Sm
open PySem PySem.Spec PyProof.Rows L2 LamX
variable [TB]
def insG {α : Type} (k : Int) (w : α) : List (Int × α) → List (Int × α)
  | [] => [(k, w)]
  | (j, x) :: r => if k ≤ j then (k, w) :: (j, x) :: r else (j, x) :: insG k w r
def sortG {α : Type} : List (Int × α) → List (Int × α)
  | [] => []
  | (k, w) :: r => insG k w (sortG r)
theorem insG_mem {α : Type} {k : Int} {w : α} : ∀ {l : List (Int × α)} {p : Int × α}, p ∈ insG k w l ↔ p = (k, w) ∨ p ∈ l
  | [], p => by simp [insG]
  | (j, x) :: r, p => by
    unfold insG
    split
    · simp
    · simp [insG_mem (l := r)]
      constructor
      · rintro (h | h | h)
        · exact .inr (.inl h)
        · exact .inl h
        · exact .inr (.inr h)
      · rintro (h | h | h)
        · exact .inr (.inl h)
        · exact .inl h
        · exact .inr (.inr h)
theorem insG_srt {α : Type} {k : Int} {w : α} : ∀ {l : List (Int × α)}, l.Pairwise (fun p q => p.1 ≤ q.1) → (insG k w l).Pairwise (fun p q => p.1 ≤ q.1)
  | [], _ => by simp [insG]
  | (j, x) :: r, h => by
    have h' := List.pairwise_cons.mp h
    unfold insG
    split
    · rename_i hk
      refine List.pairwise_cons.mpr ⟨fun p hp => ?_, h⟩
      rcases List.mem_cons.mp hp with e | hp
      · subst e; exact hk
      · have := h'.1 p hp
        simp at this ⊢
        omega
    · rename_i hk
      refine List.pairwise_cons.mpr ⟨fun p hp => ?_, insG_srt h'.2⟩
      rcases insG_mem.mp hp with e | hp
      · subst e; simp; omega
      · exact h'.1 p hp
theorem sortG_srt {α : Type} : ∀ (l : List (Int × α)), (sortG l).Pairwise (fun p q => p.1 ≤ q.1)
  | [] => .nil
  | (k, w) :: r => insG_srt (sortG_srt r)
theorem insG_fil {α : Type} {k : Int} {w : α} (c : Int) : ∀ {l : List (Int × α)}, (insG k w l).filter (fun p => p.1 == c) = ((k, w) :: l).filter (fun p => p.1 == c)
  | [] => rfl
  | (j, x) :: r => by
    unfold insG
    split
    · rfl
    · rename_i hk
      rw [List.filter_cons, insG_fil c, List.filter_cons, List.filter_cons, List.filter_cons]
      by_cases h1 : k == c <;> by_cases h2 : j == c <;> simp [h1, h2]
      have h1' : k = c := by simpa using h1
      have h2' : j = c := by simpa using h2
      omega
theorem sortG_fil {α : Type} (c : Int) : ∀ (l : List (Int × α)), (sortG l).filter (fun p => p.1 == c) = l.filter (fun p => p.1 == c)
  | [] => rfl
  | (k, w) :: r => by
    show (insG k w (sortG r)).filter _ = _
    rw [insG_fil, List.filter_cons, List.filter_cons, sortG_fil c r]
theorem stab_uniq {α : Type} : ∀ {l m : List (Int × α)}, l.Pairwise (fun p q => p.1 ≤ q.1) → m.Pairwise (fun p q => p.1 ≤ q.1) → (∀ c, l.filter (fun p => p.1 == c) = m.filter (fun p => p.1 == c)) → l = m
  | [], [], _, _, _ => rfl
  | [], b :: m, _, _, h => by
    have := h b.1
    simp at this
  | a :: l, [], _, _, h => by
    have := h a.1
    simp at this
  | a :: l, b :: m, hl, hm, h => by
    have hl' := List.pairwise_cons.mp hl
    have hm' := List.pairwise_cons.mp hm
    have key : a.1 = b.1 := by
      have h1 : a.1 ≤ b.1 := by
        have e := h b.1
        rw [List.filter_cons (x := b), if_pos (by simp)] at e
        have : b ∈ (a :: l).filter (fun p => p.1 == b.1) := by rw [e]; simp
        rcases List.mem_cons.mp (List.mem_filter.mp this).1 with z | z
        · rw [z]; exact Int.le_refl _
        · exact hl'.1 b z
      have h2 : b.1 ≤ a.1 := by
        have e := h a.1
        rw [List.filter_cons (x := a), if_pos (by simp)] at e
        have : a ∈ (b :: m).filter (fun p => p.1 == a.1) := by rw [← e]; simp
        rcases List.mem_cons.mp (List.mem_filter.mp this).1 with z | z
        · rw [z]; exact Int.le_refl _
        · exact hm'.1 a z
      omega
    have e := h a.1
    rw [List.filter_cons, if_pos (by simp), List.filter_cons, if_pos (by simp [key])] at e
    injection e with e1 e2
    subst e1
    congr 1
    refine stab_uniq hl'.2 hm'.2 fun c => ?_
    by_cases hc : a.1 = c
    · subst hc; exact e2
    · have := h c
      rw [List.filter_cons, if_neg (by simpa using hc), List.filter_cons, if_neg (by simpa using hc)] at this
      exact this
theorem ksk_is {kz : List Int} {vs out : List Value} (h : KskOutSt false kz vs out) : out = (sortG (kz.zip vs)).map Prod.snd := by
  obtain ⟨ps, -, rfl, hs, hf⟩ := h
  congr 1
  refine stab_uniq (by simpa using hs) (sortG_srt _) fun c => ?_
  rw [hf c, sortG_fil]
section
variable {K : Fr} {ρ δ : List Addr} {H : Hp}
theorem insG_reps {k : Int} {w : W} {v : V} (r : Rep K ρ δ H w v) : ∀ {l : List (Int × W)} {m : List (Int × V)}, l.map Prod.fst = m.map Prod.fst → Reps K ρ δ H (l.map Prod.snd) (m.map Prod.snd) →
    (insG k w l).map Prod.fst = (insG k v m).map Prod.fst ∧ Reps K ρ δ H ((insG k w l).map Prod.snd) ((insG k v m).map Prod.snd)
  | [], [], _, _ => ⟨rfl, .cons r .nil⟩
  | [], _ :: _, h, _ => by simp at h
  | _ :: _, [], h, _ => by simp at h
  | (j, x) :: l, (i, y) :: m, h, hr => by
    simp at h
    obtain ⟨rfl, h⟩ := h
    cases hr with
    | cons r0 t =>
      unfold insG
      split
      · exact ⟨by simp [h], .cons r (.cons r0 t)⟩
      · obtain ⟨a, b⟩ := insG_reps r (l := l) (m := m) (by simpa using h) t
        exact ⟨by simp only [List.map_cons, a], .cons r0 b⟩
theorem sortG_reps : ∀ {ks : List Int} {ws : List W} {vs : List V}, Reps K ρ δ H ws vs → (sortG (ks.zip ws)).map Prod.fst = (sortG (ks.zip vs)).map Prod.fst ∧ Reps K ρ δ H ((sortG (ks.zip ws)).map Prod.snd) ((sortG (ks.zip vs)).map Prod.snd)
  | [], _, _, _ => ⟨rfl, .nil⟩
  | _ :: _, [], _, .nil => ⟨rfl, .nil⟩
  | k :: ks, w :: ws, v :: vs, .cons r t => by
    obtain ⟨a, b⟩ := sortG_reps (ks := ks) t
    exact insG_reps r a b
end
theorem insG_vals {k : Int} {v : V} {u : Value} (r : L2.RelV v u) : ∀ {l : List (Int × V)} {m : List (Int × Value)}, l.map Prod.fst = m.map Prod.fst → Vals (l.map Prod.snd) (m.map Prod.snd) →
    (insG k v l).map Prod.fst = (insG k u m).map Prod.fst ∧ Vals ((insG k v l).map Prod.snd) ((insG k u m).map Prod.snd)
  | [], [], _, _ => ⟨rfl, .cons r .nil⟩
  | [], _ :: _, h, _ => by simp at h
  | _ :: _, [], h, _ => by simp at h
  | (j, x) :: l, (i, y) :: m, h, hr => by
    simp at h
    obtain ⟨rfl, h⟩ := h
    cases hr with
    | cons r0 t =>
      unfold insG
      split
      · exact ⟨by simp [h], .cons r (.cons r0 t)⟩
      · obtain ⟨a, b⟩ := insG_vals r (l := l) (m := m) (by simpa using h) t
        exact ⟨by simp only [List.map_cons, a], .cons r0 b⟩
theorem sortG_vals : ∀ {ks : List Int} {vs : List V} {us : List Value}, Vals vs us → (sortG (ks.zip vs)).map Prod.fst = (sortG (ks.zip us)).map Prod.fst ∧ Vals ((sortG (ks.zip vs)).map Prod.snd) ((sortG (ks.zip us)).map Prod.snd)
  | [], _, _, _ => ⟨rfl, .nil⟩
  | _ :: _, [], _, .nil => ⟨rfl, .nil⟩
  | k :: ks, v :: vs, u :: us, .cons r t => by
    obtain ⟨a, b⟩ := sortG_vals (ks := ks) t
    exact insG_vals r a b
theorem insG_len {α : Type} {k : Int} {w : α} : ∀ {l : List (Int × α)}, (insG k w l).length = l.length + 1
  | [] => rfl
  | (j, x) :: r => by
    unfold insG
    split
    · rfl
    · simp [insG_len (l := r)]
theorem sortG_len {α : Type} : ∀ (l : List (Int × α)), (sortG l).length = l.length
  | [] => rfl
  | (k, w) :: r => by
    show (insG k w (sortG r)).length = _
    rw [insG_len, sortG_len r]
    rfl
end Sm
set_option maxHeartbeats 4000000
namespace SmS
open PySem PySem.Spec PyProof.Rows L2
section
variable {P : Program} {w : World} {A : Around} {E : Value → Shared → Prop} {R : PySem.Fin → Shared → Prop} {s : Shared}
abbrev clr : Obj → Obj := Obj.mapSeq fun _ => (#[] : Array Value)
/-- the list D and the list of the keys at B, behind the keys: sorted upward, the two lists alone are written -/
theorem keyed_end {D B : Addr} {us : List Value} {ks : List Int} {kv : Array Value} {m n : Nat} (oB : s.heap.get? B = some (seqObj "list" kv m)) (oD : s.heap.get? D = some (seqObj "list" #[] n)) (ne : B ≠ D)
    (ki : IntsAre kv.toList ks) (kl : ks.length = us.length) (us_le : us.length ≤ sizeLine)
    (go : ∀ (g : Heap) (t : Nat) (o : Array Value) (c : Nat), (∀ x u, x ≠ B → x ≠ D → s.heap.get? x = some u → g.get? x = some u) → g.get? D = some (seqObj "list" o c) → KskOutSt false ks us o.toList → R (.done (.ret .none)) { s with heap := g, toks := t }) :
    wpAny (model P w) A (ksk_end D false us.toArray n (.ref B) kv) R E s := by
  have big := us_le
  rw [sizeLine_eq] at big
  have ksz : kv.size = us.length := by
    rw [← Array.length_toList, ki.length]
    exact kl
  have psz : (kv.zip us.toArray).size = us.length := by simp [Array.size_zip, ksz]
  -- what is left behind the sort
  have rest : ∀ st : SortSt, (arrOf st).Perm (kv.zip us.toArray) → SortedTo (arrOf st) (arrOf st).size → failedOf st = none → Stable intKind (arrOf st) (kv.zip us.toArray) → wpAny (model P w) A (ksk_tail D false n (.ref B) st) R E s := by
    intro st p1 p2 p3 p4
    have osz : ((arrOf st).map (·.2)).size = us.length := by rw [Array.size_map, p1.size_eq, psz]
    have k1 := Heap.SameBut.update s.heap B clr
    have oD1 : (s.heap.update B clr).get? D = some (seqObj "list" #[] n) := (k1.2 D ne.symm).trans oD
    have wr : ∀ o : Array Value, ∃ c, ((s.heap.update B clr).update D (Obj.mapSeq fun _ => o)).get? D = some (seqObj "list" o c) := fun o => ⟨_, get?_update_seq oD1 fun _ => o⟩
    obtain ⟨c, oD2⟩ := wr ((arrOf st).map (·.2))
    have k2 := Heap.SameBut.update (s.heap.update B clr) D (Obj.mapSeq fun _ => (arrOf st).map (·.2))
    have out := ksk_outSt (b := false) ki p1 p2 p4
    unfold ksk_tail
    refine wpAny_bind (listUpdate_at oB rfl ?_ (by omega) (Nat.zero_le _))
    refine wpAny_bind (wpAny_letGo (wpAny_bind (seqEpoch_at oD1 rfl ?_)))
    refine wpAny_bind (listUpdate_at oD1 rfl ?_ (Nat.zero_le _) (by show ((arrOf st).map (·.2)).size ≤ _; omega))
    simp only [p3, bne_self_eq_false, Bool.false_eq_true, if_false]
    exact wpAny_pure (go _ _ _ c (fun x u hB hD e => (k2.2 x hD).trans ((k1.2 x hB).trans e)) oD2 out)
  unfold ksk_end
  dsimp only
  simp only [Bool.false_eq_true, if_false]
  by_cases two : us.toArray.size < 2
  · simp only [if_pos two]
    refine wpAny_bind (wpAny_pure (wpAny_bind ?_))
    rw [StateT.run_pure]
    refine wpAny_pure (rest (SortSt.mk' general' (kv.zip us.toArray) #[] 7 none) (Array.Perm.refl _) (fun i j hij hj => ?_) rfl (Stable.refl _))
    have hj' : j < (kv.zip us.toArray).size := hj
    have : j < us.length := by rw [← psz]; exact hj'
    have two' : us.length < 2 := by simpa using two
    obtain rfl : i = j := by omega
    exact Int.le_refl _
  · have two' : ¬ us.length < 2 := by simpa using two
    simp only [if_neg two]
    rw [ksk_kind ki (by omega)]
    refine wpAny_bind (wpAny_pure (wpAny_bind ?_))
    refine wpAny_mono (wpS_sortRunsSt (κ := intKind) (a₀ := kv.zip us.toArray) (st := SortSt.mk' oneType' (kv.zip us.toArray) #[] 7 none)
      (Q := fun _ z => (arrOf z).Perm (kv.zip us.toArray) ∧ SortedTo (arrOf z) (arrOf z).size ∧ failedOf z = none ∧ Stable intKind (arrOf z) (kv.zip us.toArray))
      intKind_oneLt (ksk_keysOfInt (ksk_intKeys ki)) ⟨Array.Perm.refl _, rfl, rfl⟩ rfl (Stable.refl _) (by omega)
      (fun z b1 b2 b3 b4 => ⟨b1, by rw [b1.size_eq]; exact sortedTo_of_int b3, b2, b4⟩)) (fun z t hz => ?_) fun _ _ q => q
    obtain ⟨⟨⟩, z⟩ := z
    obtain ⟨rfl, q1, q2, q3, q4⟩ := hz
    exact rest z q1 q2 q3 q4
end
end SmS

set_option Elab.async false
set_option linter.all false
set_option maxRecDepth 100000
set_option maxHeartbeats 4000000
/-! sorted by a key that is a function object: the walk -/
namespace Sm
open PySem PySem.Spec PyProof.Rows L2 LamX NdefX
variable [TB]
section
variable {X : Cx} {pins : List (Addr × Obj)} {σ : L2.St} {H : Hp} {s : Shared}
/-- what the built-in collects -/
def Colls (X : Cx) (s : Shared) (l : Value) (its : List Value) : Prop := ∀ (A : Around) (E : Value → Shared → Prop) (Q : List Value → Shared → Prop), A.handled = none →
  (∀ (h' : Heap) (tk : Nat), (∀ b o, s.heap.get? b = some o → h'.get? b = some o) → s.heap.objs.size + 1 ≤ h'.objs.size → Q its { s with heap := h', toks := tk }) → wpAny (model X.prog X.w) A (collect l) Q E s
theorem colls_list {l : Addr} {its : List Value} (hl : s.heap.IsList l its.toArray) (hz : its.length ≤ sizeLine) : Colls X s (.ref l) its := by
  intro A E Q _ h
  refine collect_list hl (h _ s.toks (fun b o e => ?_) ?_) hz
  · rw [Heap.get?_update_ne _ _ _ _ (Nat.ne_of_lt (Heap.lt_size e))]
    exact Heap.get?_push_of_some _ e
  · rw [Heap.size_update, size_push']
    exact Nat.le_refl _
theorem colls_tup {l : Addr} {its : List Value} (hl : s.heap.IsTuple l its.toArray) (hz : its.length ≤ sizeLine) : Colls X s (.ref l) its := by
  intro A E Q _ h
  refine SmS.collect_tup hl (h _ s.toks (fun b o e => ?_) ?_) hz
  · rw [Heap.get?_update_ne _ _ _ _ (Nat.ne_of_lt (Heap.lt_size e))]
    exact Heap.get?_push_of_some _ e
  · rw [Heap.size_update, size_push']
    exact Nat.le_refl _
theorem keysort {l : Value} {fA : Addr} {fo : Obj} {its : List Value} {vs : List V} {kz : List Int} {Q : VK} {E : Value → Shared → Prop} (PT : Nat → Hp → Prop) (I : Inv X pins σ H s) (hh : X.A.handled = none) (hl : Colls X s l its) (hz : its.length ≤ sizeLine) (hlen : kz.length = its.length) (rv : Vals vs its)
    (hf : s.heap.get? fA = some fo) (hfn : H fA = none) (hfL : fA ≠ X.env.locals) (hfX : fA ∉ X.fs) (hfd : ∀ v, fo.data ≠ .cell v)
    (ha : argsOk "sorted" ⟨[l], [(Str.ofString "key", .ref fA)]⟩)
    (h0 : PT 0 H)
    (turn : ∀ (i : Nat) (v : V) (u : Value) (k : Int) (H1 : Hp) (s1 : Shared) (pins1 : List (Addr × Obj)), vs[i]? = some v → its[i]? = some u → L2.RelV v u → kz[i]? = some k → PT i H1 → Inv X pins1 σ H1 s1 → s1.heap.get? fA = some fo →
      wpAny (model X.prog X.w) X.A.in1.in1 (call (.ref fA) [u]) (EP X pins1 σ fun w H2 => w = .int k ∧ PT (i + 1) H2) (fun _ _ => False) s1)
    (fin : ∀ H2, PT its.length H2 → ∀ p, H2 p = none → Q (.ref p) (upd H2 p (.lst ((sortG (kz.zip vs)).map Prod.snd)))) :
    wpAny (model X.prog X.w) X.A (call (.builtin "sorted") [l] [(Str.ofString "key", .ref fA)]) (EP X pins σ Q) E s := by
  have hz2 := hz
  rw [sizeLine_eq] at hz2
  refine call_function_entry_kw kind_sorted plain_sorted entry_sorted ha ?_
  unfold Builtin.«sorted»
  refine wpAny_bind (m := checkCount "sorted" 1 1 _) (wpAny_pure ?_)
  refine wpAny_bind (hl X.A.in1 E _ hh fun hA tkA kA szA => ?_)
  have IA : Inv X pins σ H { s with heap := hA, toks := tkA } := I.kept kA
  refine wpAny_bind (wpAny_newList ?_ hz)
  -- the list that is sorted
  have hoL : (hA.push (seqObj "list" its.toArray 0)).get? hA.objs.size = some (seqObj "list" its.toArray 0) := Heap.get?_push_size _ rfl
  generalize ea : hA.objs.size = a at hoL
  have hBk : ∀ b o, hA.get? b = some o → (hA.push (seqObj "list" its.toArray 0)).get? b = some o := fun b o e => Heap.get?_push_of_some _ e
  have hBs : (hA.push (seqObj "list" its.toArray 0)).objs.size = a + 1 := by rw [size_push', ea]
  generalize hB0 : hA.push (seqObj "list" its.toArray 0) = hB at hoL hBk hBs
  have IB : Inv X pins σ H { s with heap := hB, toks := tkA } := IA.kept hBk
  have fpa : FpOk X pins H a := IA.fpOk (Nat.le_of_eq ea) (IA.hok.fresh (Nat.le_of_eq ea))
  have hfa : fA < a := by rw [← ea]; exact Heap.lt_size (kA _ _ hf)
  have haf : a ≠ fA := Nat.ne_of_gt hfa
  have hka : a + 2 ≠ a := Nat.ne_of_gt (Nat.lt_add_of_pos_right (by decide))
  show wpAny _ _ _ _ _ { s with heap := hB, toks := tkA }
  refine wpAny_bind (wpAny_holding (wpAny_call_entry_kw slot_list_sort ⟨_, hoL, rfl⟩ entry_list_sort ?body (ksk_l1 _ _)))
  case body =>
    show wpAny (model X.prog X.w) X.A.in1.in1 (Builtin.«list.sort» ⟨[.ref a], [(Str.ofString "key", .ref fA)]⟩) _ _ _
    rw [ksk_t1]
    unfold ksk_tree
    refine wpAny_bind (listItems_at hoL rfl ?_)
    refine wpAny_bind (listUpdate_at hoL rfl ?_ (by rw [List.size_toArray, sizeLine_eq]; omega) (Nat.zero_le _))
    have sC := Heap.SameBut.update hB a (Obj.mapSeq fun _ => (#[] : Array Value))
    obtain ⟨e1, hoC⟩ : ∃ e1, (hB.update a (Obj.mapSeq fun _ => (#[] : Array Value))).get? a = some (seqObj "list" #[] e1) := ⟨_, get?_update_seq hoL fun _ => #[]⟩
    have hCs : (hB.update a (Obj.mapSeq fun _ => (#[] : Array Value))).objs.size = a + 1 := by rw [Heap.size_update, hBs]
    generalize hC0 : hB.update a (Obj.mapSeq fun _ => (#[] : Array Value)) = hC at sC hoC hCs
    have IC : Inv X pins σ H { s with heap := hC, toks := tkA } := Inv.turnedL (s := { s with heap := hB, toks := tkA }) (t' := tkA) IB (ch := [a]) (fun b o hb e => (sC.2 b (fun z => hb (by simp [z]))).trans e) (fun b hb => by rw [List.mem_singleton.mp hb]; exact fpa)
    show wpAny _ _ _ _ _ { s with heap := hC, toks := tkA }
    refine wpAny_bind (seqEpoch_at hoC rfl ?_)
    refine wpAny_bind (wpAny_newTuple ?_ (by show its.length ≤ _; rw [sizeLine_eq]; omega))
    refine wpAny_bind (wpAny_newList ?_ (Nat.zero_le _))
    refine wpAny_holding ?_
    have hDk : ∀ b o, hC.get? b = some o → ((hC.push (seqObj "tuple" its.toArray 0)).push (seqObj "list" #[] 0)).get? b = some o := fun b o e => Heap.get?_push_of_some _ (Heap.get?_push_of_some _ e)
    have hks : (hC.push (seqObj "tuple" its.toArray 0)).objs.size = a + 2 := by rw [size_push', hCs]
    have hoD : ((hC.push (seqObj "tuple" its.toArray 0)).push (seqObj "list" #[] 0)).get? (a + 2) = some (seqObj "list" #[] 0) := by
      rw [← hks]; exact Heap.get?_push_size _ rfl
    show wpAny _ _ (ksk_rest a (.ref fA) false its.toArray e1 (.ref (hC.push (seqObj "tuple" its.toArray 0)).objs.size)) _ _ { s with heap := (hC.push (seqObj "tuple" its.toArray 0)).push (seqObj "list" #[] 0), toks := tkA }
    rw [hks]
    generalize hD0 : (hC.push (seqObj "tuple" its.toArray 0)).push (seqObj "list" #[] 0) = hD at hDk hoD
    have ID : Inv X pins σ H { s with heap := hD, toks := tkA } := IC.kept hDk
    have fpk : FpOk X pins H (a + 2) := IC.fpOk (by show hC.objs.size ≤ _; omega) (IC.hok.fresh (by show hC.objs.size ≤ _; omega))
    have hkf : a + 2 ≠ fA := Nat.ne_of_gt (Nat.lt_of_lt_of_le hfa (Nat.le_add_right a 2))
    have cellS : ∀ (n : String) (xs : Array Value) (e : Nat) (v : Option Value), (seqObj n xs e).data ≠ .cell v := fun n xs e v z => by cases z
    have I0 : Inv X (pins ++ [(fA, fo), (a, seqObj "list" #[] e1), (a + 2, seqObj "list" #[] 0)]) σ H { s with heap := hD, toks := tkA } := ID.pins_of fun p hp => by
      rcases List.mem_append.mp hp with hp | hp
      · exact ID.pin p (List.mem_append_right _ hp)
      · simp only [List.mem_cons, List.not_mem_nil, or_false] at hp
        rcases hp with rfl | rfl | rfl
        · exact ⟨hDk _ _ ((sC.2 fA haf.symm).trans (hBk _ _ (kA _ _ hf))), hfn, hfL, hfX, hfd⟩
        · exact ⟨hDk _ _ hoC, fpa.1, fpa.2.1, fpa.2.2.1, cellS _ _ _⟩
        · exact ⟨hoD, fpk.1, fpk.2.1, fpk.2.2.1, cellS _ _ _⟩
    unfold ksk_rest
    refine wpAny_bind (wpAny_rule ?_)
    first
      | rw [List.forIn_toArray]
      | (rw [← Array.forIn_toList]; simp only [List.toList_toArray])
      | rw [← Array.forIn_toList]
    refine wpAny_bind (ksk_fold (fun i s' => ∃ H1 kA e, Inv X (pins ++ [(fA, fo), (a, seqObj "list" #[] e1), (a + 2, seqObj "list" kA e)]) σ H1 s' ∧ IntsAre kA.toList (kz.take i) ∧ PT i H1) its 0 _
      ⟨H, #[], 0, I0, by simpa using IntsAre.nil, h0⟩ ?step ?done)
    case step =>
      rintro j x s' hx ⟨H1, kA, e, Ij, hk, pt⟩
      simp only [Nat.zero_add] at hk pt ⊢
      have hj : j < its.length := (List.getElem?_eq_some_iff.mp hx).1
      obtain ⟨k, hkj⟩ : ∃ k, kz[j]? = some k := ⟨_, List.getElem?_eq_getElem (by omega)⟩
      obtain ⟨v, hv⟩ : ∃ v, vs[j]? = some v := ⟨_, List.getElem?_eq_getElem (by rw [rv.length]; exact hj)⟩
      have rvj : L2.RelV v x := by
        obtain ⟨u, q1, q2⟩ := rv.get hv
        rw [hx] at q1
        cases q1
        exact q2
      have hzk : kA.size ≤ its.length := by
        have h1 := hk.length
        rw [Array.length_toList, List.length_take] at h1
        omega
      have hfo := (Ij.pin (fA, fo) (by simp)).1
      refine wpAny_bind (wpAny_attempt (wpAny_mono (turn j v x k H1 s' _ hv hx rvj hkj pt Ij hfo) (fun w s'' he => ?_) fun _ _ hF => hF.elim))
      obtain ⟨w1, H2, I2, rw1, rfl, pt2⟩ := he
      obtain ⟨t2, rfl⟩ := rw1
      try dsimp only
      have nk := I2.pin (a + 2, seqObj "list" kA e) (by simp)
      have na := I2.pin (a, seqObj "list" #[] e1) (by simp)
      have nf := I2.pin (fA, fo) (by simp)
      have s1 := Heap.SameBut.update s''.heap (a + 2) (Obj.mapSeq (·.push (.int k t2)))
      obtain ⟨c2, hc2⟩ : ∃ c2, (s''.heap.update (a + 2) (Obj.mapSeq (·.push (.int k t2)))).get? (a + 2) = some (seqObj "list" (kA.push (.int k t2)) c2) := ⟨_, get?_update_seq nk.1 (·.push (.int k t2))⟩
      have ek : kz.take (j + 1) = kz.take j ++ [k] := by rw [List.take_add_one, hkj]; simp
      have ea2 : (kA.push (Value.int k t2)).toList = kA.toList ++ [Value.int k t2] := by simp
      refine wpAny_bind (listUpdate_at nk.1 rfl ?_ (by rw [sizeLine_eq]; omega) (Nat.le_trans (Nat.le_of_eq (Array.size_push ..)) (by rw [sizeLine_eq]; omega)))
      have fpk2 : FpOk X pins H2 (a + 2) := ⟨nk.2.1, fpk.2⟩
      have I3 : Inv X pins σ H2 { s'' with heap := s''.heap.update (a + 2) (Obj.mapSeq (·.push (.int k t2))) } := (I2.unpinned).turnedL (t' := s''.toks) (ch := [a + 2]) (fun b o hb e => (s1.2 b (fun z => hb (by simp [z]))).trans e) (fun b hb => by rw [List.mem_singleton.mp hb]; exact fpk2)
      refine wpAny_pure ⟨rfl, H2, kA.push (.int k t2), c2, I3.pins_of fun p hp => ?_, by rw [ea2, ek]; exact ksk_snoc hk, pt2⟩
      rcases List.mem_append.mp hp with hp | hp
      · exact I3.pin p (List.mem_append_right _ hp)
      · simp only [List.mem_cons, List.not_mem_nil, or_false] at hp
        rcases hp with rfl | rfl | rfl
        · exact ⟨(s1.2 _ hkf.symm).trans nf.1, nf.2⟩
        · exact ⟨(s1.2 _ hka.symm).trans na.1, na.2⟩
        · exact ⟨hc2, nk.2.1, nk.2.2.1, nk.2.2.2.1, cellS _ _ _⟩
    case done =>
      rintro s' ⟨H1, kA, e, Ij, hk, pt⟩
      have hk' : IntsAre kA.toList kz := by
        have e3 : kz.take (0 + its.length) = kz := List.take_of_length_le (by omega)
        rw [e3] at hk
        exact hk
      rw [Nat.zero_add] at pt
      have nk := Ij.pin (a + 2, seqObj "list" kA e) (by simp)
      have na := Ij.pin (a, seqObj "list" #[] e1) (by simp)
      try dsimp only
      refine wpAny_bind (listItems_at nk.1 rfl ?_)
      refine SmS.keyed_end (us := its) nk.1 na.1 hka hk' hlen hz fun h' tk out c k3 ho hout => ⟨_, rfl, wpAny_pure ⟨_, rfl, ?_⟩⟩
      have I4 : Inv X pins σ H1 { s' with heap := h', toks := tk } := (Ij.unpinned).turnedL (ch := [a + 2, a]) (fun b o hb e => k3 b o (fun z => hb (by simp [z])) (fun z => hb (by simp [z])) e) (fun b hb => by
        simp only [List.mem_cons, List.not_mem_nil, or_false] at hb
        rcases hb with rfl | rfl
        · exact ⟨nk.2.1, fpk.2⟩
        · exact ⟨na.2.1, fpa.2⟩)
      have eo := ksk_is hout
      have vo : Vals ((sortG (kz.zip vs)).map Prod.snd) out.toList := by rw [eo]; exact (sortG_vals rv).2
      have lo : ((sortG (kz.zip vs)).map Prod.snd).length ≤ sizeLine := by
        rw [List.length_map, sortG_len, List.length_zip, rv.length]
        omega
      have I5 : Inv X pins σ (upd H1 a (.lst ((sortG (kz.zip vs)).map Prod.snd))) { s' with heap := h', toks := tk } := I4.take (t' := tk) (fun b o _ e => e) ⟨na.2.1, fpa.2⟩ ⟨lo, out.toList, c, vo, by rw [Array.toArray_toList]; exact ho⟩
      exact ⟨.ref a, _, I5, rfl, fin H1 pt a na.2.1⟩
end
end Sm

set_option Elab.async false
set_option linter.all false
set_option maxRecDepth 100000
/-! sorted(xs, key=lambda p: ..) mirrored -/
namespace Sm
open PySem PySem.Spec PyProof.Rows L2 LamX NdefX
variable [TB]
/-- the slots of the lambda's body: its parameters, what it captures, nothing more -/
def lamEnvM (n : Nat) (js : List Nat) (ws : List W) (env : Env) : Env := ws.map some ++ ((js.map fun j => (env[j]?).join) ++ List.replicate (n - ws.length - js.length) none)
def asIntM : W → M Int
  | .int i => ret i
  | _ => bad
/-- the keys of the items, one after another -/
def mKeys (n : Nat) (js : List Nat) (mb : EM W) (env : Env) : List W → M (List Int)
  | [] => ret []
  | w :: ws => bnd (mb (lamEnvM n js [w] env)) fun k => bnd (asIntM k) fun i => bnd (mKeys n js mb env ws) fun is => ret (i :: is)
def sortW (n : Nat) (js : List Nat) (mb : EM W) (env : Env) (ws : List W) : M W := fun S => if ws.length ≤ lim then (match mKeys n js mb env ws S with
  | .val ks S' => .val (.lst ((sortG (ks.zip ws)).map Prod.snd)) S'
  | _ => .bad) else .bad
def mSK (n : Nat) (js : List Nat) (ma mb : EM W) : EM W := fun env => bnd (ma env) fun w S => match seqW S w with
  | some ws => sortW n js mb env ws S
  | none => .bad
def mSKr (n : Nat) (js : List Nat) (ma : EM (Int × Int)) (mb : EM W) : EM W := fun env => bnd (ma env) fun q S => if okRg q.1 q.2 then sortW n js mb env (rangeW q.1 (q.2 - q.1).toNat) S else .bad
theorem mKeys_len {n : Nat} {js : List Nat} {mb : EM W} {env : Env} : ∀ {ws : List W} {S S' : Sto} {ks : List Int}, mKeys n js mb env ws S = .val ks S' → ks.length = ws.length
  | [], S, S', ks, e => by
    have e : Out.val [] S = Out.val ks S' := e
    cases e
    rfl
  | w :: ws, S, S', ks, e => by
    have e : (mb (lamEnvM n js [w] env) S).bind (fun k => bnd (asIntM k) fun i => bnd (mKeys n js mb env ws) fun is => ret (i :: is)) = .val ks S' := e
    cases e1 : mb (lamEnvM n js [w] env) S with
    | bad => rw [e1] at e; cases e
    | exc x S1 => rw [e1] at e; cases e
    | val k S1 =>
      rw [e1] at e
      have e : (asIntM k S1).bind (fun i => bnd (mKeys n js mb env ws) fun is => ret (i :: is)) = .val ks S' := e
      cases k with
      | int i =>
        have e : (mKeys n js mb env ws S1).bind (fun is => ret (i :: is)) = .val ks S' := e
        cases e2 : mKeys n js mb env ws S1 with
        | bad => rw [e2] at e; cases e
        | exc x S2 => rw [e2] at e; cases e
        | val is S2 =>
          rw [e2] at e
          have e : Out.val (i :: is) S2 = Out.val ks S' := e
          cases e
          simp [mKeys_len e2]
      | _ => cases e
theorem mKeys_cons {n : Nat} {js : List Nat} {mb : EM W} {env : Env} {w : W} {ws : List W} {S S' : Sto} {k : Int} {ks : List Int} (e : mKeys n js mb env (w :: ws) S = .val (k :: ks) S') : ∃ S1, mb (lamEnvM n js [w] env) S = .val (.int k) S1 ∧ mKeys n js mb env ws S1 = .val ks S' := by
  have e : (mb (lamEnvM n js [w] env) S).bind (fun k => bnd (asIntM k) fun i => bnd (mKeys n js mb env ws) fun is => ret (i :: is)) = .val (k :: ks) S' := e
  cases e1 : mb (lamEnvM n js [w] env) S with
  | bad => rw [e1] at e; cases e
  | exc x S1 => rw [e1] at e; cases e
  | val u S1 =>
    rw [e1] at e
    have e : (asIntM u S1).bind (fun i => bnd (mKeys n js mb env ws) fun is => ret (i :: is)) = .val (k :: ks) S' := e
    cases u with
    | int i =>
      have e : (mKeys n js mb env ws S1).bind (fun is => ret (i :: is)) = .val (k :: ks) S' := e
      cases e2 : mKeys n js mb env ws S1 with
      | bad => rw [e2] at e; cases e
      | exc x S2 => rw [e2] at e; cases e
      | val is S2 =>
        rw [e2] at e
        have e : Out.val (i :: is) S2 = Out.val (k :: ks) S' := e
        cases e
        exact ⟨S1, rfl, e2⟩
    | _ => cases e
section
variable {X : Cx} {W0 : WX}
theorem lam_env {K : Fr} {ρ δ : List Addr} {H : Hp} {env : Env} {σ : L2.St} {N : List Str} {js : List Nat} {ws : List W} {vs : List V} (he : EnvR K ρ δ H env σ) (r : Reps K ρ δ H ws vs) : EnvR K ρ δ H (lamEnvM N.length js ws env) (startF N vs (js.map (slotAt σ))) := by
  have hl := Reps.length r
  unfold lamEnvM startF
  refine ⟨by simp [hl], fun i w h => ?_⟩
  by_cases h1 : i < ws.length
  · rw [List.getElem?_append_left (by simpa using h1), List.getElem?_map] at h
    cases e : ws[i]? with
    | none => rw [e] at h; cases h
    | some w' =>
      rw [e] at h
      cases h
      obtain ⟨v, q1, q2⟩ := r.get e
      exact ⟨v, by rw [List.getElem?_append_left (by simp; omega), List.getElem?_map, q1]; rfl, q2⟩
  · rw [List.getElem?_append_right (by simpa using h1), List.length_map] at h
    by_cases h2 : i - ws.length < js.length
    · rw [List.getElem?_append_left (by simpa using h2), List.getElem?_map] at h
      cases ej : js[i - ws.length]? with
      | none => rw [ej] at h; cases h
      | some j =>
        rw [ej] at h
        have h : (env[j]?).join = some w := Option.some.inj h
        cases ee : env[j]? with
        | none => rw [ee] at h; cases h
        | some o =>
          rw [ee] at h
          have h : o = some w := h
          subst h
          obtain ⟨v, q1, q2⟩ := he.2 j w ee
          refine ⟨v, ?_, q2⟩
          have h3 : i - vs.length < js.length := by omega
          have e3 : js[i - vs.length]? = some j := by rw [← hl]; exact ej
          rw [List.getElem?_append_right (by simp; omega), List.getElem?_append_left (by simpa using h3), List.getElem?_map, List.length_map, e3]
          exact congrArg some (slotAt_of q1)
    · rw [List.getElem?_append_right (by simpa using h2)] at h
      have := List.mem_of_getElem? h
      rw [List.mem_replicate] at this
      cases this.2
/-- what a lambda as a key needs -/
structure KeyL (X : Cx) (N : List Str) (p : Str) (fr : List Str) (js : List Nat) (pr : Arguments) (scp : Scope) (bd : Expr) : Prop where
  ns : NScope N [p] fr scp
  cap : ∀ y ∈ scp.names, y.2 = .free → X.env.scope.names.lookup y.1 = some .cell ∨ X.env.scope.names.lookup y.1 = some .free
  frn : ∀ y ∈ fr, (y, NameKind.free) ∈ scp.names
  jsn : js.map (fun j => X.N[j]?) = fr.map some
  df : defaultsOf pr X.env = ([], [])
  bd : LamB pr scp bd [p]
/-- the def's code object and its table -/
structure TabX (X : Cx) : Prop where
  ex : ∃ c P : Addr, TabB X.base X.mg c P ∧ X.env.code = .ref c ∧ (P, X.env.qual ++ "<lambda>") ∈ TB.T ∧ ∀ p ∈ TB.T, p.1 = P → p.2 = X.env.qual ++ "<lambda>"
theorem sq_ext {K : Fr} {H H1 : Hp} {p : Addr} {vs : List V} (e : ∀ b u, H b = some u → NT u → H1 b = some u) (h : SqL K H p vs ∨ SqT K H p vs) : SqL K H1 p vs ∨ SqT K H1 p vs := by
  rcases h with (h | h) | (h | h)
  · rcases h with h | ⟨o, h⟩
    · exact .inl (.inl (.inl (e _ _ h fun _ z => by cases z)))
    · exact .inl (.inl (.inr ⟨o, e _ _ h fun _ z => by cases z⟩))
  · exact .inl (.inr h)
  · rcases h with h | ⟨o, h⟩
    · exact .inr (.inl (.inl (e _ _ h fun _ z => by cases z)))
    · exact .inr (.inl (.inr ⟨o, e _ _ h fun _ z => by cases z⟩))
  · exact .inr (.inr h)
theorem vals_mk {X : Cx} {pins : List (Addr × Obj)} {σ : L2.St} {H : Hp} {s : Shared} {p : Addr} {vs : List V} (I : Inv X pins σ H s) (h : SqL X.K H p vs ∨ SqT X.K H p vs) : ∃ its, Vals vs its ∧ its.length ≤ sizeLine ∧ Colls X s (.ref p) its := by
  rcases h with h | h
  · obtain ⟨its, rv, hl, hz⟩ := I.list h
    rw [rv.length] at hz
    exact ⟨its, rv, hz, colls_list hl.isList hz⟩
  · obtain ⟨its, rv, hl, hz⟩ := I.tuple h
    rw [rv.length] at hz
    exact ⟨its, rv, hz, colls_tup hl hz⟩
theorem key_run {pins : List (Addr × Obj)} {s : Shared} {σ : L2.St} {H : Hp} {Q : VK} {E : Value → Shared → Prop} {N : List Str} {p : Str} {fr : List Str} {js : List Nat} {pr : Arguments} {scp : Scope} {bd : Expr} {lpos : Pos} {k : Nat} {mb : EM W} {ρ δ : List Addr} {S : Sto} {env : Env} {ws : List W} {vs : List V} {l : Value}
    (I : Inv X pins σ H s) (L : KeyL X N p fr js pr scp bd) (TX : TabX X) (hr : Room (k + 3) X.A) (hT : Tabs TB.T H)
    (hb : ∀ (f c' : Addr) (A : Around) (outer : List PySem.Env) (s : Shared) (H : Hp), Room k (A.deeper (envF (lamF X pr scp c') f s.heap.objs.size)) → SimE (lamX X N pr scp f c' A outer s H) WF JTb bd mb)
    (he : EnvR X.K ρ δ H env σ) (hs : Sts X.K ρ δ S H) (rw_ : Reps X.K ρ δ H ws vs)
    (hl : ∀ (H1 : Hp) (t : Shared), Inv X pins σ H1 t → (∀ b u, H b = some u → NT u → H1 b = some u) → ∃ its, Vals vs its ∧ its.length ≤ sizeLine ∧ Colls X t l its) (ha : ∀ v : Value, argsOk "sorted" ⟨[l], [(Str.ofString "key", v)]⟩)
    (hp : PostV X ρ δ H Q (WE W0 σ) (sortW N.length js mb env ws S)) :
    wpAny (model X.prog X.w) X.A (eval (.Lambda pr bd scp lpos) X.env) (fun f t => wpAny (model X.prog X.w) X.A (call (.builtin "sorted") [l] [(Str.ofString "key", f)]) (EP X pins σ Q) E t) E s := by
  obtain ⟨c, P, TBc, hcode, hm, hu⟩ := TX.ex
  refine lam_made (ρ := ρ) I TBc hcode hm hu hT L.df (fun y hy e => (L.cap y hy e).elim (fun z => I.ok.has _ (.inl z)) fun z => I.ok.has _ (.inr z)) fun f c' o H1 t J g ext hf hla fn fx hco => ?_
  have hs1 := sts_ext hs g ext
  obtain ⟨its, rv, hz, hcl⟩ := hl H1 t J ext
  have hp1 : PostV X ρ δ H1 Q (WE W0 σ) (sortW N.length js mb env ws S) := Post.mono g hp fun _ _ z => z
  obtain ⟨hlim, hp1⟩ := PostV.if hp1
  cases ek : mKeys N.length js mb env ws S with
  | bad => rw [ek] at hp1; exact hp1.elim
  | exc x S1 => rw [ek] at hp1; exact hp1.elim
  | val ks Sf =>
    rw [ek] at hp1
    have kl : ks.length = its.length := by rw [mKeys_len ek, Reps.length rw_, rv.length]
    have he1 : EnvR X.K ρ δ H1 env σ := he.grow g
    have rw1 : Reps X.K ρ δ H1 ws vs := g.reps rw_
    have fL : f ≠ X.env.locals ∧ f ∉ X.fs := by
      refine ⟨fun z => ?_, fun z => ?_⟩
      · obtain ⟨m, ⟨oo, es, ep, ho, hd, _⟩, _⟩ := J.loc
        obtain ⟨pm, ctv, rfl⟩ := hla
        rw [← z, hf] at ho
        cases ho
        cases hd
      · rcases J.ok.stk with e | ⟨e, hfr⟩
        · exact fx (by rw [e]; exact z)
        · refine fx ?_
          rw [e]
          unfold frs
          rw [List.filterMap_cons, hfr]
          exact List.mem_cons_of_mem _ z
    have fd : ∀ v, o.data ≠ .cell v := by
      obtain ⟨pm, ctv, rfl⟩ := hla
      intro v z
      cases z
    have cps := fun ok : X.Ok => Caps.made (fr := fr) (js := js) ok L.cap L.frn L.jsn
    refine keysort (fun i Hi => ∃ ρi Si, Grow ρ H1 ρi Hi ∧ Sts X.K ρi δ Si Hi ∧ Hi c' = some (CodeO c' (X.env.qual ++ "<lambda>")) ∧ mKeys N.length js mb env (ws.drop i) Si = .val (ks.drop i) Sf) J hr.hd hcl hz kl rv hf fn fL.1 fL.2 fd (ha _)
      ⟨ρ, S, Grow.refl _ _, hs1, hco, by simpa using ek⟩ ?turn ?fin
    case turn =>
      intro i v u kk Hi si pins1 hv hi rvi hk ⟨ρi, Si, gi, si_, ci, mi⟩ Ji hfi
      have hwi : ∃ w, ws[i]? = some w := by
        have : i < ws.length := by rw [Reps.length rw_]; exact (List.getElem?_eq_some_iff.mp hv).1
        exact ⟨_, List.getElem?_eq_getElem this⟩
      obtain ⟨w, hw⟩ := hwi
      obtain ⟨v', hv', rwi⟩ := (gi.reps rw1).get hw
      rw [hv] at hv'
      cases hv'
      have dw : ws.drop i = w :: ws.drop (i + 1) := by
        obtain ⟨h1, h2⟩ := List.getElem?_eq_some_iff.mp hw
        rw [← h2, List.drop_eq_getElem_cons h1]
      have dk : ks.drop i = kk :: ks.drop (i + 1) := by
        obtain ⟨h1, h2⟩ := List.getElem?_eq_some_iff.mp hk
        rw [← h2, List.drop_eq_getElem_cons h1]
      rw [dw, dk] at mi
      obtain ⟨S1, m1, m2⟩ := mKeys_cons mi
      refine run_lam (vs := [v]) (us := [u]) (tb := TEc X.K X.mg WF JTb mb) Ji L.ns (cps Ji.ok) hfi hla ci L.bd Ji.env0.in1.in1 hr.in1.in1 (.cons rvi .nil) rfl (fun A outer s H hr2 => (hb f c' A outer s H hr2).can) ?_
      refine ⟨ρi, δ, Si, lamEnvM N.length js [w] env, lam_env (he1.grow gi) (.cons rwi .nil), si_, (g.trans gi).tb hT, ?_⟩
      rw [m1]
      intro ρ' b H' g' s' r'
      cases r'
      refine ⟨rfl, ρ', S1, gi.trans g', s', ?_, m2⟩
      refine g'.keep _ _ ci (fun z => ?_) (fun _ z => codeO_ne _ z)
      obtain ⟨n, hn⟩ := List.mem_iff_getElem?.mp z
      obtain ⟨c0, o0, q1, q2, q3⟩ := si_.bx n c' hn
      have k0 := q3.kd
      rw [ci] at q2
      unfold CodeO at q2
      cases q2
      exact k0 rfl
    case fin =>
      intro H2 ⟨ρ2, S2, g2, s2, _, m2⟩ q nq
      have e2 : ws.drop its.length = [] := List.drop_eq_nil_of_le (by rw [Reps.length rw_, rv.length]; exact Nat.le_refl _)
      have e3 : ks.drop its.length = [] := List.drop_eq_nil_of_le (by omega)
      rw [e2, e3] at m2
      have m2 : Out.val ([] : List Int) S2 = Out.val [] Sf := m2
      cases m2
      have hp2 : PostV X ρ2 δ H2 Q (WE W0 σ) (.val (.lst ((sortG (ks.zip ws)).map Prod.snd)) Sf) := Post.mono g2 hp1 fun _ _ z => z
      exact PostV.lst hp2 s2 (sortG_reps (g2.reps rw1)).2 nq
end
end Sm

set_option Elab.async false
set_option linter.all false
set_option maxRecDepth 100000
/-! sorted(xs, key=lambda p: ..) as a rule; defs that hold a lambda; the end of a row with their tables -/
namespace Sm
open PySem PySem.Spec PyProof.Rows L2 LamX NdefX
variable [TB]
section
variable {X : Cx} {W0 : WX}
theorem sim_sortKey {N : List Str} {p : Str} {fr : List Str} {js : List Nat} {pr : Arguments} {scp : Scope} {bd xs : Expr} {lpos kp np pos : Pos} {k : Nat} {ma mb : EM W}
    (hg : Gl X "sorted") (hm : X.mg "sorted" = none) (L : KeyL X N p fr js pr scp bd) (TX : TabX X) (hr : Room (k + 3) X.A) (ha : SimE X W0 JTb xs ma)
    (hb : ∀ (f c' : Addr) (A : Around) (outer : List PySem.Env) (s : Shared) (H : Hp), Room k (A.deeper (envF (lamF X pr scp c') f s.heap.objs.size)) → SimE (lamX X N pr scp f c' A outer s H) WF JTb bd mb)
    (hpl : backTo pos (starEach [xs] X.env) = (false, eval xs X.env) :: backTo pos (starEach [] X.env) := by rfl) (hst : (backTo pos (starEach [xs] X.env)).any (·.1) = false := by rfl) (hse : starEach [xs] X.env = (false, eval xs X.env) :: starEach [] X.env := by rfl) :
    SimE X W0 JTb (.Call (.Name "sorted" np) [xs] [{ arg := some "key", value := .Lambda pr bd scp lpos, pos := kp }] pos) (mSK N.length js ma mb) := by
  obtain ⟨te, pe, ke⟩ := ha
  refine ⟨fun σ H Q => ∃ ρ δ S env, EnvR X.K ρ δ H env σ ∧ Sts X.K ρ δ S H ∧ Tabs TB.T H ∧ PostV X ρ δ H Q (WE W0 σ) (mSK N.length js ma mb env S), ⟨fun pins s σ H Q I h => ?_⟩, fun ρ δ S H env σ Q he hs hj hp => ⟨ρ, δ, S, env, he, hs, hj, hp⟩⟩
  obtain ⟨ρ, δ, S, env, he, hs, hT, hp⟩ := h
  have arg : tCons te tNil σ H fun vs H1 => ∃ v ρ1 S1 w, vs = [v] ∧ Grow ρ H ρ1 H1 ∧ Sts X.K ρ1 δ S1 H1 ∧ Rep X.K ρ1 δ H1 w v ∧ PostV X ρ1 δ H1 Q (WE W0 σ) (match seqW S1 w with
    | some ws => sortW N.length js mb env ws S1
    | none => .bad) :=
    ke ρ δ S H env σ _ he hs hT (Post.bind hp fun w S1 ρ1 v H1 _ g1 s1 r1 hp1 => ⟨v, ρ1, S1, w, rfl, g1, s1, r1, hp1⟩)
  refine wpAny_Call_Name_kw (ld_blt I hg hm (u := .builtin "sorted") rfl ?_ (by decide) (by decide))
  refine PyProof.Rows.callWith_kw (thn ((pa_cons pe pa_nil hse).run pos pins s σ H _ I arg) fun us s1 ⟨vs, H1, I1, r1, q1⟩ => ?_) hpl hst rfl rfl
  obtain ⟨v, ρ1, S1, w, rfl, g1, t1, rw1, hp1⟩ := q1
  cases e : seqW S1 w with
  | none => rw [e] at hp1; exact hp1.elim
  | some ws =>
    rw [e] at hp1
    obtain ⟨l, xs', rfl, hq, rs⟩ := seqW_rep t1 rw1 e
    obtain rfl := Vals.ref1 r1
    have run := key_run (E := X.xe) (lpos := lpos) (l := .ref l) I1 L TX hr (g1.tb hT) hb (he.grow g1) t1 rs (fun H2 t J ext => vals_mk J (sq_ext ext hq)) (fun v => ksk_s1 _ _) hp1
    refine PyProof.Rows.kwAll_cons (wpAny_mono run (fun f t h => PyProof.Rows.kwAll_nil h) fun _ _ z => z)
end
/-! ### a def that holds a lambda -/
def DefL (K : Fr) (mg : Str → Option Value) (x : Str) (st : Stmt) (ps : List Str) (c : Addr) : Prop := ∃ (f : Addr) (oc : Value) (od : Option Addr) (kV doc pm : Value) (an : Option Addr) (ct : Value) (osl : Array (Option Value)),
  K.lookup f = some ⟨oc, od, .func (PySem.W.fnOf x x (defArgs st) (defBody st) (defScope st) .none kV doc pm an (.ref c) ct), osl⟩ ∧ PySem.W.codeIn K (.ref c) x = true ∧ PySem.W.keepIn K (.ref f) = true ∧ mg x = some (.ref f) ∧ Binds K (PySem.W.fnOf x x (defArgs st) (defBody st) (defScope st) .none kV doc pm an (.ref c) ct) ps []
def DefT (K : Fr) (mg : Str → Option Value) (base : Heap) (x : Str) (st : Stmt) (ps : List Str) : Prop := ∃ c P : Addr, DefL K mg x st ps c ∧ TabB base mg c P ∧ (P, (x ++ ".<locals>.") ++ "<lambda>") ∈ TB.T ∧ ∀ p ∈ TB.T, p.1 = P → p.2 = (x ++ ".<locals>.") ++ "<lambda>"
theorem sim_defT {P : Program} {w : World} {K : Fr} {mg : Str → Option Value} {base : Heap} {x : Str} {ps N : List Str} {k : Nat} {st : Stmt} {m : SM} (D : DefT K mg base x st ps) (Sc : FnScope N ps (defScope st))
    (h : ∀ (f : Addr) (cdv : Value) (A : Around) (outer : List PySem.Env) (s : Shared) (H : Hp) (E : XK), TabX (cxOf (L2.CX P w) P w K mg base N x (defScope st) f cdv A outer s H E) → Room k (A.deeper (envOfC x (defScope st) s.heap.objs.size f cdv)) →
      SimSs (cxOf (L2.CX P w) P w K mg base N x (defScope st) f cdv A outer s H E) (WE0 E) JTb (defBody st) m) : FnG P w K mg base (k + 1) x ps (runDef N.length m) := by
  obtain ⟨c, Pt, ⟨f, oc, od, kV, doc, pm, an, ct, osl, lk, hcd, kp, g, b⟩, TBc, hm, hu⟩ := D
  refine ⟨f, _, ?_, g, kp, b⟩
  refine fn_of lk hcd Sc (fun vs H Q E hsp => ?_) (fun A outer s H vs Q E hr hsp => ?_)
  · obtain ⟨_, ρ, δ, S, ws, hl, _, r, _⟩ := hsp
    rw [← Reps.length r, hl]
  · obtain ⟨hT, ρ, δ, S, ws, hl, hs, r, hp⟩ := hsp
    obtain ⟨t, p, kk⟩ := h f (.ref c) A outer s H E ⟨c, Pt, TBc, rfl, hm, hu⟩ hr
    refine ⟨t, p, kk ρ δ S H _ _ _ (env_start r) hs hT ?_⟩
    unfold runDef outD at hp
    cases e : m (ws.map some ++ List.replicate (N.length - ws.length) none) S with
    | nx env S1 => rw [e] at hp; exact fun ρ1 σ1 H1 g s1 _ => hp ρ1 .non H1 g s1 .non
    | rt v S1 => rw [e] at hp; exact hp
    | bk env S1 => rw [e] at hp; exact hp.elim
    | ct env S1 => rw [e] at hp; exact hp.elim
    | xc ex env S1 => rw [e] at hp; exact fun ρ1 c d σ1 H1 g s1 _ rx => hp ρ1 c d H1 g s1 rx
    | bad => rw [e] at hp; exact hp.elim
/-! ### the end of a row, the tables of some defs told -/
/-- code object and table of the def x, as the row's frozen part tells them -/
def CodeTab (K : Fr) (x : Str) (c P : Addr) : Prop := PySem.W.tabIn K x = some (c, P) ∧ K.lookup P = none
omit [TB] in
theorem walk_tabs {l : PySem.W.OpenLaw} {n k : Nat} {q : Program} {loose : List Str} {XP : (Str → Option Value) → Heap → Prop} {YP : World → Heap → Prop} {d : DefRec} {K : Params → PySem.W.Frag} {CX : World → CXT} {x : Str}
    (hn : l.most = some n) (hn2 : n ≤ sizeLine) (hdf : d.params.defaults = []) (hr : Room k callerA) (hY : ∀ (w : World) (h : Heap), YP w h → (K w.params).In h)
    (F : ∀ (w : World) (mg : Str → Option Value) (fa : Addr) (h : Heap), YP w h → (K w.params).In h → h.Ns mainGlobals mg → mg d.name = some (.ref fa) →
      ∃ (fd : FuncData) (cs : List (Str × Addr × Addr)) (sp : Sp), (∀ p ∈ cs, ((recsOf q).any fun e => e.name == p.1) = true ∧ CodeTab (K w.params) p.1 p.2.1 p.2.2) ∧ (∀ (s : Shared) (u : Value), BindsTo s fd ⟨[u], []⟩ [(x, u)]) ∧
        (∀ (H : Hp) (a : Addr) (ns : List Int), ns.length ≤ n → (∀ p ∈ cs, H p.2.2 = some (.tbl #[])) → SqL (K w.params) H a (ns.map V.int) → sp [.ref a] H (fun v _ => v = .bl true) fun _ _ _ => False) ∧
        ∀ base : Heap, (K w.params).In base → base.Ns mainGlobals mg → (∀ p ∈ cs, TabB base mg p.2.1 p.2.2) → FnOk l.prog w (K w.params) mg base (CX w) k fa fd [x] sp)
    (hCX : ∀ (w : World) (H : Hp) (s : Shared) (e : Value) (s' : Shared), CX w [] H s (fun _ _ _ => False) e s' → False) :
    PySem.W.WalkO q loose XP YP l.row.toRowW d [] (fun f vs => PySem.call f vs) := by
  refine Att.attach_callB hn hdf fun w s₀ t mg mb fa o pm cd doc a vs ns G Y ho hd hcd hmg hobj hints hlen hbits hg => ?_
  have KX := hY w _ Y
  obtain ⟨fd, cs, sp, hC, hb, hsp, hF⟩ := F w mg fa _ Y KX G.T.g hmg
  have tab : ∀ p ∈ cs, PySem.W.CodeHd t.heap p.2.1 p.2.2 ∧ t.heap.get? p.2.2 = some (PySem.W.tabObj #[]) := fun p hp => by
    obtain ⟨h1, h2, -⟩ := hC p hp
    cases e : (recsOf q).find? fun e => e.name == p.1 with
    | none =>
      rw [List.find?_eq_none] at e
      obtain ⟨r, r1, r2⟩ := List.any_eq_true.mp h1
      exact absurd r2 (e r r1)
    | some r => exact PySem.W.tab_of G.T KX e h2
  have mem : ∀ {Z : Addr × Addr → Prop}, (∀ p ∈ cs, Z p.2) → ∀ p ∈ cs.map Prod.snd, Z p := fun {Z} h p hp => by
    obtain ⟨c, c1, rfl⟩ := List.mem_map.mp hp
    exact h c c1
  exact law_callTs (cs := cs.map Prod.snd) KX G.T.g G.T.b G.T.builtins G.T.nolimit hg (mem fun p hp => (tab p hp).2) (mem fun p hp => (hC p hp).2.2) (mem fun p hp => (tab p hp).1) G.T.bmain hobj hints (Nat.le_trans hlen hn2) hr
    (fun base h1 h2 h3 => hF base h1 h2 fun p hp => h3 p.2 (List.mem_map.mpr ⟨p, hp, rfl⟩)) hb (fun H hH hS => hsp H a ns hlen (fun p hp => hH p.2 (List.mem_map.mpr ⟨p, hp, rfl⟩)) hS) fun H e s' => hCX w H t e s'
end Sm
namespace Sm
open PySem PySem.Spec PyProof.Rows L2 LamX NdefX
section
variable {X : Cx}
theorem tab_is {K : Fr} {x : Str} {f c P : Addr} {oc o2 : Value} {od od2 : Option Addr} {fd : FuncData} {sl sl2 : Array (Option Value)} {vs : Array Value} (a : PySem.W.nsIn K mainGlobals x = some (some (.ref f))) (l : K.lookup f = some ⟨oc, od, .func fd, sl⟩) (t : K.lookup c = some ⟨o2, od2, .fields vs, sl2⟩)
    (tv : (vs[11]? : Option Value) = some (.ref P)) (hc : fd.code = .ref c := by rfl) : PySem.W.tabIn K x = some (c, P) := by
  unfold PySem.W.tabIn
  simp only [a, l, hc, t, tv]
def capB (sc scp : Scope) : Bool := scp.names.all fun y => !decide (y.2 = .free) || (decide (sc.names.lookup y.1 = some .cell) || decide (sc.names.lookup y.1 = some .free))
def frB (fr : List Str) (scp : Scope) : Bool := fr.all fun y => scp.names.any fun z => decide (z.1 = y) && decide (z.2 = .free)
theorem keyL_by {N : List Str} {p : Str} {fr : List Str} {js : List Nat} {pr : Arguments} {sc scp : Scope} {bd : Expr} (e : X.env.scope = sc) (h1 : nscB N [p] fr scp = true) (h2 : capB sc scp = true) (h3 : frB fr scp = true) (h4 : js.map (fun j => X.N[j]?) = fr.map some)
    (h5 : defaultsOf pr X.env = ([], [])) (h6 : LamB pr scp bd [p]) : KeyL X N p fr js pr scp bd := by
  refine ⟨nscope_by h1, fun y hy hf => ?_, fun y hy => ?_, h4, h5, h6⟩
  · unfold capB at h2
    rw [List.all_eq_true] at h2
    have := h2 y hy
    rw [e]
    simpa [hf] using this
  · unfold frB at h3
    rw [List.all_eq_true] at h3
    have := h3 y hy
    rw [List.any_eq_true] at this
    obtain ⟨z, hz, h⟩ := this
    simp at h
    obtain ⟨rfl, hf⟩ := h
    rw [← hf]
    exact hz
end
end Sm

set_option Elab.async false
set_option linter.all false
set_option maxRecDepth 100000
/-! the end of a body that needs no box: run on a store of its own -/
namespace Sm
open PySem PySem.Spec PyProof.Rows L2 LamX
variable [TB]
def maskO (o : Option W) : Option W := match o with
  | some w => if nb w = true then some w else none
  | none => none
/-- what the block reads, where it holds no box -/
def maskE (ks : List Nat) (env : Env) : Env := env.mapIdx fun i o => if ks.contains i = true then maskO o else none
def puR (S : Sto) : Fl → Fl
  | .rt w S' => if nb w = true then .rt w S else match fz S' 0 8 w with
    | some w' => .rt w' S
    | none => .bad
  | _ => .bad
def sPu (ks : List Nat) (m : SM) : SM := fun env S => puR S (m (maskE ks env) [])
section
variable {X : Cx} {W0 : WX} {st : List Stmt} {m : SM}
theorem mask_env {ks : List Nat} {K : Fr} {ρ δ : List Addr} {H : Hp} {env : Env} {σ : L2.St} (h : EnvR K ρ δ H env σ) : EnvR K [] (ρ ++ δ) H (maskE ks env) σ := by
  refine ⟨by simp [maskE, h.1], fun i w e => ?_⟩
  unfold maskE at e
  rw [List.getElem?_mapIdx] at e
  cases ei : env[i]? with
  | none => rw [ei] at e; cases e
  | some o =>
    rw [ei] at e
    have e : (if ks.contains i = true then maskO o else none) = some w := Option.some.inj e
    have e : maskO o = some w := by
      split at e
      · exact e
      · cases e
    cases o with
    | none => cases e
    | some u =>
      have e : (if nb u = true then some u else none) = some w := e
      split at e
      · rename_i hn
        cases e
        obtain ⟨v, h1, h2⟩ := h.2 i w ei
        exact ⟨v, h1, nb_apart hn h2⟩
      · cases e
theorem simss_pu (ks : List Nat) (h : SimSs X W0 JTb st m) : SimSs X W0 JTb st (sPu ks m) := by
  obtain ⟨t, p, k⟩ := h
  refine ⟨t, p, fun ρ δ S H env σ D he hs hj hp => ?_⟩
  refine k [] (ρ ++ δ) [] H (maskE ks env) σ D (mask_env he) (own_sts hs) hj ?_
  unfold sPu at hp
  cases e : m (maskE ks env) [] with
  | rt w S' =>
    rw [e] at hp
    simp only [puR] at hp
    intro ρ' v H' g s r
    obtain ⟨g', s'⟩ := own_grow g hs
    by_cases hb : nb w = true
    · rw [if_pos hb] at hp
      exact hp ρ v H' g' s' (Car.join.rep (nb_fz hb r))
    · rw [if_neg hb] at hp
      cases ez : fz S' 0 8 w with
      | none => rw [ez] at hp; exact hp.elim
      | some w' =>
        rw [ez] at hp
        have z := fz_rep s 0 8 w w' v ez r
        rw [List.take_zero] at z
        exact hp ρ v H' g' s' (Car.join.rep z)
  | nx _ _ => rw [e] at hp; exact hp.elim
  | bk _ _ => rw [e] at hp; exact hp.elim
  | ct _ _ => rw [e] at hp; exact hp.elim
  | xc _ _ _ => rw [e] at hp; exact hp.elim
  | bad => rw [e] at hp; exact hp.elim
end
end Sm

set_option Elab.async false
set_option linter.all false
set_option maxRecDepth 100000
/-! a value's truth as a test -/
namespace Sm
open PySem PySem.Spec PyProof.Rows L2 LamX
variable [TB]
def toT (w : W) : M Bool := fun S => match w with
  | .bl b => .val b S
  | .non => .val false S
  | .int i => .val (i != 0) S
  | w => match seqW S w with
    | some ws => .val (!ws.isEmpty) S
    | none => .bad
@[simp] theorem toT_bl (b : Bool) (S : Sto) : toT (.bl b) S = .val b S := rfl
@[simp] theorem toT_tup (ws : List W) (S : Sto) : toT (.tup ws) S = .val (!ws.isEmpty) S := rfl
@[simp] theorem toT_lst (ws : List W) (S : Sto) : toT (.lst ws) S = .val (!ws.isEmpty) S := rfl
@[simp] def mTr (ma : EM W) : EM Bool := fun env => bnd (ma env) toT
section
variable {X : Cx} {W0 : WX} {J : JI} {a : Expr} {ma : EM W}
theorem Post.toT {ρ δ : List Addr} {H : Hp} {Q : Bool → Hp → Prop} {E : XK} {S : Sto} {w : W} {v : V} (h : Post X.mg X.K ρ δ H RB Q E (toT w S)) (s : Sts X.K ρ δ S H) (r : Rep X.K ρ δ H w v) : ∃ k, TruV X.K v H k ∧ Q k H := by
  have go : ∀ us, seqW S w = some us → Post X.mg X.K ρ δ H RB Q E (.val (!us.isEmpty) S) → ∃ k, TruV X.K v H k ∧ Q k H := fun us e hp => by
    obtain ⟨p, vs, rfl, hq, t⟩ := seqW_rep s r e
    have el : (!us.isEmpty) = !vs.isEmpty := by
      have := Reps.length t
      cases us <;> cases vs <;> simp at this ⊢
    refine ⟨!us.isEmpty, ?_, hp ρ _ H (Grow.refl _ _) s rfl⟩
    rcases hq with hq | hq
    · exact .inl ⟨vs, hq, el⟩
    · exact .inr (.inl ⟨vs, hq, el⟩)
  cases r with
  | bl => exact ⟨_, rfl, h ρ _ H (Grow.refl _ _) s rfl⟩
  | non => exact ⟨_, rfl, h ρ _ H (Grow.refl _ _) s rfl⟩
  | int => exact ⟨_, rfl, h ρ _ H (Grow.refl _ _) s rfl⟩
  | tup f t => exact go _ rfl h
  | lst f t => exact go _ rfl h
  | scr f t => exact go _ rfl h
  | @box n a f =>
    have h : Post X.mg X.K ρ δ H RB Q E (match seqW S (.box n) with | some ws => .val (!ws.isEmpty) S | none => .bad) := h
    cases e : seqW S (.box n) with
    | none => rw [e] at h; exact h.elim
    | some us => rw [e] at h; exact go us e h
  | _ => exact h.elim
/-- any expression as a test -/
theorem simT_tru (ha : SimE X W0 J a ma) (he : ∀ whole, isTrue a X.env whole = (do let v ← whole; standAt a.pos; holding [v] (truthy v)) := by intro _; rfl) : SimT X W0 J a (mTr ma) := by
  obtain ⟨ta, pa, ka⟩ := ha
  refine ⟨_, pt_truth pa he, fun ρ δ S H env σ Q he hs hj hp => ?_⟩
  refine ka _ _ S _ env σ _ he hs hj (Post.bind hp fun x S1 ρ1 v H1 _ g1 s1 r1 hp1 => ?_)
  exact Post.toT hp1 s1 r1
end
end Sm

set_option Elab.async false
set_option linter.all false
set_option maxRecDepth 100000
/-! a comprehension with two clauses: its list is a box -/
namespace Sm
open PySem PySem.Spec PyProof.Rows L2 LamX
variable [TB]
def TIc (K : Fr) (mg : Str → Option Value) (W0 : WX) (J : JI) (m : EM It8) : TI := fun σ H R => ∃ ρ δ S env, EnvR K ρ δ H env σ ∧ Sts K ρ δ S H ∧ J.p ρ H ∧ Post mg K ρ δ H (ItR K δ) R (WE W0 σ) (m env S)
theorem SimI.can {X : Cx} {W0 : WX} {J : JI} {tg e : Expr} {m : EM It8} (h : SimI X W0 J tg e m) : PI X tg e (TIc X.K X.mg W0 J m) := by
  obtain ⟨t, p, k⟩ := h
  exact ⟨fun pins s σ H R I ⟨ρ, δ, S, env, he, hs, hj, hp⟩ => p.run pins s σ H R I (k ρ δ S H env σ R he hs hj hp)⟩
def lcI (it : It8) (g : W → Env → Option Env) (tst : EM Bool) (el : EM W) (n : Nat) (env0 : Env) : Nat → Nat → M Unit
  | 0, _ => bad
  | k + 1, i => fun S => match it.at S i with
    | none => .bad
    | some none => .val () S
    | some (some w) => match g w env0 with
      | none => .bad
      | some env1 => match tst env1 S with
        | .val false S1 => lcI it g tst el n env0 k (i + 1) S1
        | .val true S1 => match el env1 S1 with
          | .val y S2 => match S2[n]? with
            | some (.lst acc) => if acc.length ≤ lim then lcI it g tst el n env0 k (i + 1) (S2.set n (.lst (acc ++ [y]))) else .bad
            | _ => .bad
          | _ => .bad
        | _ => .bad
def lcO (it : It8) (g : W → Env → Option Env) (tst : EM Bool) (mi1 : EM It8) (gb : W → Env → Option Env) (tst1 : EM Bool) (el : EM W) (vs1 : List Nat) (n : Nat) (env0 : Env) : Nat → Nat → M W
  | 0, _ => bad
  | k + 1, i => fun S => match it.at S i with
    | none => .bad
    | some none => .val (.box n) S
    | some (some w) => match g w env0 with
      | none => .bad
      | some env1 => match tst env1 S with
        | .val false S1 => lcO it g tst mi1 gb tst1 el vs1 n env0 k (i + 1) S1
        | .val true S1 => match mi1 env1 S1 with
          | .val it1 S2 => match lcI it1 gb tst1 el n (wipeE env1 vs1) (it1.fuel S2) 0 S2 with
            | .val _ S3 => lcO it g tst mi1 gb tst1 el vs1 n env0 k (i + 1) S3
            | _ => .bad
          | _ => .bad
        | _ => .bad
def mLC2 (own vs1 : List Nat) (mi : EM It8) (g : W → Env → Option Env) (tst : EM Bool) (mi1 : EM It8) (gb : W → Env → Option Env) (tst1 : EM Bool) (el : EM W) : EM W := fun env => bnd (mi env) fun it S => lcO it g tst mi1 gb tst1 el vs1 S.length (wipeE env own) (it.fuel S) 0 (S ++ [.lst []])
theorem wipe_wipe (σ : L2.St) (vs : List Nat) : wipe (wipe σ vs) vs = wipe σ vs := by
  apply List.ext_getElem?
  intro j
  rw [wipe_get, wipe_get, wipe_length]
  by_cases ej : j ∈ vs ∧ j < σ.length
  · rw [if_pos ej, if_pos ej]
  · rw [if_neg ej, if_neg ej]
section
variable {X : Cx} {W0 : WX} {J : JI} {elt tg iter tg1 iter1 : Expr} {ifs ifs1 : List Expr} {scope : Scope} {own : List (Str × Nat)} {vs1 : List Nat} {pos : Pos} {mi mi1 : EM It8} {g gb : W → Env → Option Env} {gt gt1 : TG} {tst tst1 : EM Bool} {el : EM W} {ixs ixs1 : List Nat}
theorem lc2_go {wi : TI} (ki : ∀ ρ δ S H env σ R, EnvR X.K ρ δ H env σ → Sts X.K ρ δ S H → J.p ρ H → Post X.mg X.K ρ δ H (ItR X.K δ) R (WE W0 σ) (mi env S) → wi σ H R) (gs : GS X.K ixs gt g) (hix : ∀ i ∈ ixs, i ∈ own.map (·.2)) (gs1 : GS X.K ixs1 gt1 gb) (hix1 : ∀ i ∈ ixs1, i ∈ vs1)
    (ρ δ S H env σ Q) (he : EnvR X.K ρ δ H env σ) (hs : Sts X.K ρ δ S H) (hj : J.p ρ H) (hp : PostV X ρ δ H Q (WE W0 σ) (mLC2 (own.map (·.2)) vs1 mi g tst mi1 gb tst1 el env S)) : tLc2 wi gt (TTc X.K X.mg WF J tst) (TIc X.K X.mg WF J mi1) gt1 (TTc X.K X.mg WF J tst1) (TEc X.K X.mg WF J el) (own.map (·.2)) vs1 σ H Q := by
  refine ki _ _ S _ env σ _ he hs hj (Post.bind hp fun it S1 ρ1 Jt H1 _ g1 s1 ir hp1 => ?_)
  intro D nD
  have gB : Grow ρ1 H1 (ρ1 ++ [D]) (upd H1 D (.lst [])) := Grow.boxed nD
  have sB : Sts X.K (ρ1 ++ [D]) δ (S1 ++ [.lst []]) (upd H1 D (.lst [])) := s1.boxed (c := .lst []) nD ⟨[], rfl, .nil⟩
  have hn : (ρ1 ++ [D])[S1.length]? = some D := by rw [s1.ln]; simp
  refine ⟨fun i k H' => ∃ ρ' S', Grow (ρ1 ++ [D]) (upd H1 D (.lst [])) ρ' H' ∧ Sts X.K ρ' δ S' H' ∧ PostV X ρ1 δ H1 Q (WE W0 σ) (lcO it g tst mi1 gb tst1 el vs1 S1.length (wipeE env (own.map (·.2))) k i S'),
    ⟨it.fuel S1, _, _, Grow.refl _ _, sB, hp1⟩, ?_⟩
  rintro i k H' ⟨ρ', S', g2, s2, p2⟩
  cases k with
  | zero => exact p2.elim
  | succ k =>
    have gA : Grow ρ1 H1 ρ' H' := gB.trans g2
    have lt : Later X.K ρ1 δ H1 ρ' δ S' H' := ⟨gA, fun a ha => .inl ha, s2⟩
    obtain ⟨ir1, ir2⟩ := ir i ρ' δ S' H' lt
    unfold lcO at p2
    cases ea : it.at S' i with
    | none => rw [ea] at p2; exact p2.elim
    | some o =>
      cases o with
      | none =>
        rw [ea] at p2
        exact .inl ⟨ir1 ea, p2 ρ' (.ref D) H' gA s2 (.box (g2.at hn) (by rw [g2.ty D (by rw [kdH_lst upd_same]; decide)]; exact kdH_lst upd_same))⟩
      | some w =>
        rw [ea] at p2
        obtain ⟨go, yl⟩ := ir2 w ea
        refine .inr ⟨go, fun H3 => ∃ ρ3 S3, Grow (ρ1 ++ [D]) (upd H1 D (.lst [])) ρ3 H3 ∧ Sts X.K ρ3 δ S3 H3 ∧ PostV X ρ1 δ H1 Q (WE W0 σ) (lcO it g tst mi1 gb tst1 el vs1 S1.length (wipeE env (own.map (·.2))) k (i + 1) S3), fun H3 h3 => ⟨k, by omega, h3⟩, fun x H3 y => ?_⟩
        obtain ⟨g3, s3, r3, _⟩ := yl x H3 y
        cases eg : g w (wipeE env (own.map (·.2))) with
        | none => simp only [eg] at p2; exact p2.elim
        | some env1 =>
          simp only [eg] at p2
          have e3 : EnvR X.K ρ' δ H3 (wipeE env (own.map (·.2))) (wipe σ (own.map (·.2))) := ((he.grow g1).grow (gA.trans g3)).wipe _
          refine gs ρ' δ S' H3 _ _ w x _ e3 s3 r3 env1 eg fun σ4 e4 hw => ⟨by rw [hw _ hix, wipe_wipe], ?_⟩
          refine ⟨ρ', δ, S', env1, e4, s3, J.st _ _ _ _ (g1.trans (gA.trans g3)) hj, ?_⟩
          cases et : tst env1 S' with
          | bad => rw [et] at p2; exact p2.elim
          | exc ex S5 => rw [et] at p2; exact p2.elim
          | val b S5 =>
            rw [et] at p2
            intro ρ5 b' H5 g5 s5 r5
            have r5' : b = b' := r5
            subst r5'
            cases b with
            | false => exact iteF ⟨ρ5, S5, g2.trans (g3.trans g5), s5, p2⟩
            | true =>
              refine iteT ⟨ρ5, δ, S5, env1, e4.grow g5, s5, J.st _ _ _ _ (g1.trans (gA.trans (g3.trans g5))) hj, ?_⟩
              cases em : mi1 env1 S5 with
              | bad => simp only [em] at p2; exact p2.elim
              | exc ex S6 => simp only [em] at p2; exact p2.elim
              | val it1 S6 =>
                simp only [em] at p2
                intro ρ6 J1 H6 g6 s6 ir6
                have p3 : ∃ S3, lcI it1 gb tst1 el S1.length (wipeE env1 vs1) (it1.fuel S6) 0 S6 = .val () S3 ∧ PostV X ρ1 δ H1 Q (WE W0 σ) (lcO it g tst mi1 gb tst1 el vs1 S1.length (wipeE env (own.map (·.2))) k (i + 1) S3) := by
                  cases e : lcI it1 gb tst1 el S1.length (wipeE env1 vs1) (it1.fuel S6) 0 S6 with
                  | val u S3 => rw [e] at p2; exact ⟨S3, rfl, p2⟩
                  | exc _ _ => rw [e] at p2; exact p2.elim
                  | bad => rw [e] at p2; exact p2.elim
                refine ⟨fun j kk H' => ∃ ρ' S', Grow ρ6 H6 ρ' H' ∧ Sts X.K ρ' δ S' H' ∧ ∃ S3, lcI it1 gb tst1 el S1.length (wipeE env1 vs1) kk j S' = .val () S3 ∧ PostV X ρ1 δ H1 Q (WE W0 σ) (lcO it g tst mi1 gb tst1 el vs1 S1.length (wipeE env (own.map (·.2))) k (i + 1) S3),
                  ⟨it1.fuel S6, ρ6, S6, Grow.refl _ _, s6, p3⟩, ?_⟩
                rintro j kk H7 ⟨ρ7, S7, g7, s7, S3, p7, q7⟩
                cases kk with
                | zero => exact absurd p7 (by intro z; cases z)
                | succ kk =>
                  have lt2 : Later X.K ρ6 δ H6 ρ7 δ S7 H7 := ⟨g7, fun a ha => .inl ha, s7⟩
                  obtain ⟨jr1, jr2⟩ := ir6 j ρ7 δ S7 H7 lt2
                  unfold lcI at p7
                  cases eb : it1.at S7 j with
                  | none => rw [eb] at p7; cases p7
                  | some o =>
                    cases o with
                    | none =>
                      rw [eb] at p7
                      cases p7
                      exact .inl ⟨jr1 eb, ρ7, S7, g2.trans (g3.trans (g5.trans (g6.trans g7))), s7, q7⟩
                    | some w1 =>
                      rw [eb] at p7
                      obtain ⟨go1, yl1⟩ := jr2 w1 eb
                      refine .inr ⟨go1, fun H8 => ∃ ρ8 S8, Grow ρ6 H6 ρ8 H8 ∧ Sts X.K ρ8 δ S8 H8 ∧ ∃ S3, lcI it1 gb tst1 el S1.length (wipeE env1 vs1) kk (j + 1) S8 = .val () S3 ∧ PostV X ρ1 δ H1 Q (WE W0 σ) (lcO it g tst mi1 gb tst1 el vs1 S1.length (wipeE env (own.map (·.2))) k (i + 1) S3), fun H8 h8 => ⟨kk, by omega, h8⟩, fun x1 H8 y1 => ?_⟩
                      obtain ⟨g8, s8, r8, _⟩ := yl1 x1 H8 y1
                      cases eg1 : gb w1 (wipeE env1 vs1) with
                      | none => simp only [eg1] at p7; cases p7
                      | some env3 =>
                        simp only [eg1] at p7
                        have e8 : EnvR X.K ρ7 δ H8 (wipeE env1 vs1) (wipe σ4 vs1) := (e4.grow (g5.trans (g6.trans (g7.trans g8)))).wipe _
                        refine gs1 ρ7 δ S7 H8 _ _ w1 x1 _ e8 s8 r8 env3 eg1 fun σ5 e9 hw1 => ⟨by rw [hw1 _ hix1, wipe_wipe], ?_⟩
                        refine ⟨ρ7, δ, S7, env3, e9, s8, J.st _ _ _ _ (g1.trans (gA.trans (g3.trans (g5.trans (g6.trans (g7.trans g8)))))) hj, ?_⟩
                        cases et1 : tst1 env3 S7 with
                        | bad => rw [et1] at p7; cases p7
                        | exc ex S9 => rw [et1] at p7; cases p7
                        | val b S9 =>
                          rw [et1] at p7
                          intro ρ9 b' H9 g9 s9 r9
                          have r9' : b = b' := r9
                          subst r9'
                          cases b with
                          | false => exact iteF ⟨ρ9, S9, g7.trans (g8.trans g9), s9, S3, p7, q7⟩
                          | true =>
                            refine iteT ⟨ρ9, δ, S9, env3, e9.grow g9, s9, J.st _ _ _ _ (g1.trans (gA.trans (g3.trans (g5.trans (g6.trans (g7.trans (g8.trans g9))))))) hj, ?_⟩
                            cases ee : el env3 S9 with
                            | bad => simp only [ee] at p7; cases p7
                            | exc ex S10 => simp only [ee] at p7; cases p7
                            | val z S10 =>
                              simp only [ee] at p7
                              intro ρ10 zv H10 g10 s10 r10
                              have gAll : Grow (ρ1 ++ [D]) (upd H1 D (.lst [])) ρ10 H10 := g2.trans (g3.trans (g5.trans (g6.trans (g7.trans (g8.trans (g9.trans g10))))))
                              have hn10 : ρ10[S1.length]? = some D := gAll.at hn
                              cases eS : S10[S1.length]? with
                              | none => rw [eS] at p7; cases p7
                              | some c =>
                                cases c with
                                | dk _ => rw [eS] at p7; cases p7
                                | dt _ => rw [eS] at p7; cases p7
                                | lst acc =>
                                  rw [eS] at p7
                                  obtain ⟨vacc, hD, ra⟩ := s10.box hn10 eS
                                  by_cases hl : acc.length ≤ lim
                                  · simp only [if_pos hl] at p7
                                    exact ⟨vacc, hD, by rw [← Reps.length ra]; exact lim_lt hl, ρ10, _, (g7.trans (g8.trans (g9.trans g10))).trans (Grow.put hn10 (by rw [kdH_lst hD]; decide) (kdH_lst hD).symm), s10.put (c := .lst (acc ++ [z])) hn10 (kdH_lst hD).symm ⟨_, rfl, ra.append (.cons r10 .nil)⟩, S3, p7, q7⟩
                                  · simp only [if_neg hl] at p7; cases p7
theorem sim_lc2 (hc : X.calm = true) (hN : X.N.Nodup) (hi : SimI X W0 J tg iter mi) (ok : BlkOk X.N X.env.scope scope own) (hv : ∀ i ∈ vs1, i ∈ own.map (·.2)) (gs : GS X.K ixs gt g) (hix : ∀ i ∈ ixs, i ∈ own.map (·.2)) (gs1 : GS X.K ixs1 gt1 gb) (hix1 : ∀ i ∈ ixs1, i ∈ vs1)
    (hg : ∀ (s : Shared) (H : Hp) (C : Addr) (cl : List (Str × Addr)) (fp : List Addr), PG (X.blk s H scope (compEnvC scope cl C X.env) fp) tg gt) (ht : ∀ (s : Shared) (H : Hp) (C : Addr) (cl : List (Str × Addr)) (fp : List Addr), PTs (X.blk s H scope (compEnvC scope cl C X.env) fp) ifs (TTc X.K X.mg WF J tst))
    (hi1 : ∀ (s : Shared) (H : Hp) (C : Addr) (cl : List (Str × Addr)) (fp : List Addr), SimI (X.blk s H scope (compEnvC scope cl C X.env) fp) WF J tg1 iter1 mi1)
    (hg1 : ∀ (s : Shared) (H : Hp) (C : Addr) (cl : List (Str × Addr)) (fp : List Addr), PG (X.blk s H scope (compEnvC scope cl C X.env) fp) tg1 gt1) (ht1 : ∀ (s : Shared) (H : Hp) (C : Addr) (cl : List (Str × Addr)) (fp : List Addr), PTs (X.blk s H scope (compEnvC scope cl C X.env) fp) ifs1 (TTc X.K X.mg WF J tst1))
    (he : ∀ (s : Shared) (H : Hp) (C : Addr) (cl : List (Str × Addr)) (fp : List Addr), SimE (X.blk s H scope (compEnvC scope cl C X.env) fp) WF J elt el) (hs : ∀ x, foldedSetIterable iter X.env x = pure x := by intro _; rfl) (hs1 : ∀ env x, foldedSetIterable iter1 env x = pure x := by intro _ _; rfl) :
    SimE X W0 J (.ListComp elt [⟨tg, iter, ifs, 0⟩, ⟨tg1, iter1, ifs1, 0⟩] scope pos) (mLC2 (own.map (·.2)) vs1 mi g tst mi1 gb tst1 el) := by
  obtain ⟨wi, pi, ki⟩ := hi
  exact ⟨_, pe_lc2 (te := TEc X.K X.mg WF J el) hc hN pi ok hv hg ht (fun s H C cl fp => (hi1 s H C cl fp).can) hg1 ht1 (fun s H C cl fp => (he s H C cl fp).can) hs hs1, lc2_go ki gs hix gs1 hix1⟩
theorem sims_setLc2 {i : Nat} {y : Str} {py spos : Pos} (hc : X.calm = true) (hN : X.N.Nodup) (hy : X.N[i]? = some y) (hyl : X.env.scope.names.lookup y = some .local)
    (hsw : swapsWith (.ListComp elt [⟨tg, iter, ifs, 0⟩, ⟨tg1, iter1, ifs1, 0⟩] scope pos) (some (.Name y py)) spos.line X.env = pure true) (hi : SimI X W0 J tg iter mi) (ok : BlkOk X.N X.env.scope scope own) (hv : ∀ i ∈ vs1, i ∈ own.map (·.2)) (gs : GS X.K ixs gt g) (hix : ∀ i ∈ ixs, i ∈ own.map (·.2)) (gs1 : GS X.K ixs1 gt1 gb) (hix1 : ∀ i ∈ ixs1, i ∈ vs1)
    (hg : ∀ (s : Shared) (H : Hp) (C : Addr) (cl : List (Str × Addr)) (fp : List Addr), PG (X.blk s H scope (compEnvC scope cl C X.env) fp) tg gt) (ht : ∀ (s : Shared) (H : Hp) (C : Addr) (cl : List (Str × Addr)) (fp : List Addr), PTs (X.blk s H scope (compEnvC scope cl C X.env) fp) ifs (TTc X.K X.mg WF J tst))
    (hi1 : ∀ (s : Shared) (H : Hp) (C : Addr) (cl : List (Str × Addr)) (fp : List Addr), SimI (X.blk s H scope (compEnvC scope cl C X.env) fp) WF J tg1 iter1 mi1)
    (hg1 : ∀ (s : Shared) (H : Hp) (C : Addr) (cl : List (Str × Addr)) (fp : List Addr), PG (X.blk s H scope (compEnvC scope cl C X.env) fp) tg1 gt1) (ht1 : ∀ (s : Shared) (H : Hp) (C : Addr) (cl : List (Str × Addr)) (fp : List Addr), PTs (X.blk s H scope (compEnvC scope cl C X.env) fp) ifs1 (TTc X.K X.mg WF J tst1))
    (he : ∀ (s : Shared) (H : Hp) (C : Addr) (cl : List (Str × Addr)) (fp : List Addr), SimE (X.blk s H scope (compEnvC scope cl C X.env) fp) WF J elt el) (hs : ∀ x, foldedSetIterable iter X.env x = pure x := by intro _; rfl) (hs1 : ∀ env x, foldedSetIterable iter1 env x = pure x := by intro _ _; rfl) :
    SimS X W0 J (.Assign [.Name y py] (.ListComp elt [⟨tg, iter, ifs, 0⟩, ⟨tg1, iter1, ifs1, 0⟩] scope pos) spos) (sSet i (mLC2 (own.map (·.2)) vs1 mi g tst mi1 gb tst1 el)) := by
  obtain ⟨wi, pi, ki⟩ := hi
  refine ⟨_, ps_setLc2 (te := TEc X.K X.mg WF J el) (wi1 := TIc X.K X.mg WF J mi1) hc hN hy hyl hsw pi ok hv hg ht (fun s H C cl fp => (hi1 s H C cl fp).can) hg1 ht1 (fun s H C cl fp => (he s H C cl fp).can) hs hs1, fun ρ δ S H env σ D hen hst hj hp => ?_⟩
  refine lc2_go ki gs hix gs1 hix1 ρ δ S H env σ _ hen hst hj (PostS.ofE hen hp fun w S1 ρ1 v H1 _ g s r q => ?_)
  exact PostS.here q s ((hen.grow g).set i r)
end
end Sm

set_option Elab.async false
set_option linter.all false
set_option maxRecDepth 100000
/-! a star in a display; zip of two tuples -/
namespace Sm
open PySem PySem.Spec PyProof.Rows L2 LamX
variable [TB]
@[simp] def mStar (ma : EM W) (ms : EM (List W)) : EM (List W) := fun env => bnd (ma env) fun x S => match seqW S x with
  | some ws => bnd (ms env) (fun ys => ret (ws ++ ys)) S
  | none => .bad
section
variable {X : Cx} {W0 : WX} {J : JI} {a e e2 : Expr} {es : List Expr} {ma : EM W} {ms : EM (List W)} {p pos tpos : Pos} {elts : List Expr} {kk : Nat}
theorem sima_star (ha : SimE X W0 J a ma) (hr : SimA X W0 J es ms) (hs : starEach (.Starred a p :: es) X.env = (true, eval a X.env) :: starEach es X.env := by rfl) : SimA X W0 J (.Starred a p :: es) (mStar ma ms) := by
  obtain ⟨ta, pa, ka⟩ := ha
  obtain ⟨tr, pr, kr⟩ := hr
  refine ⟨_, StX.pa_star pa pr hs, fun ρ δ S H env σ Q he hs hj hp => ?_⟩
  refine ka _ _ S _ env σ _ he hs hj (Post.bind hp fun x S1 ρ1 v H1 _ g1 s1 r1 hp1 => ?_)
  cases ew : seqW S1 x with
  | none => simp only [ew] at hp1; exact hp1.elim
  | some us =>
    simp only [ew] at hp1
    obtain ⟨p, vs, rfl, hq, t⟩ := seqW_rep s1 r1 ew
    refine ⟨p, vs, rfl, hq.symm, ?_⟩
    refine kr _ _ S1 _ env σ _ (he.grow g1) s1 (J.st _ _ _ _ g1 hj) (Post.bind hp1 fun y S2 ρ2 u H2 _ g2 s2 r2 hp2 => ?_)
    exact hp2 ρ2 _ H2 (Grow.refl _ _) s2 ((g2.reps t).append r2)
def zipT (as bs : List W) : List W := List.zipWith (fun x y => W.tup [x, y]) as bs
def itZ : List W → M It8
  | [.tup as, .tup bs] => ret (.seq (zipT as bs))
  | _ => bad
theorem itR_zip {K : Fr} {ρ δ : List Addr} {H : Hp} {a b : Addr} {wa wb : List W} {va vb : List V} (fa : FzT K ρ δ H a va) (ra : Reps K ρ δ H wa va) (fb : FzT K ρ δ H b vb) (rb : Reps K ρ δ H wb vb) : ItR K δ ρ H (.seq (zipT wa wb)) (RZ.ItzT K a b) := by
  intro i ρ' δ' S' H' l
  have fa' := l.car.t _ _ fa
  have ra' := l.car.reps ra
  have fb' := l.car.t _ _ fb
  have rb' := l.car.reps rb
  refine ⟨fun e => ?_, fun w e => ?_⟩
  · refine ⟨va, vb, fa'.sq, fb'.sq, ?_⟩
    have e' : (zipT wa wb)[i]? = none := by simpa [It8.at] using e
    have e2 := List.getElem?_eq_none_iff.mp e'
    unfold zipT at e2
    rw [List.length_zipWith] at e2
    rw [← Reps.length ra', ← Reps.length rb']
    omega
  · have e' : (zipT wa wb)[i]? = some w := by simpa [It8.at] using e
    unfold zipT at e'
    rw [List.getElem?_zipWith] at e'
    cases ea : wa[i]? with
    | none => rw [ea] at e'; cases e'
    | some x =>
      cases eb : wb[i]? with
      | none => rw [ea, eb] at e'; cases e'
      | some y =>
        rw [ea, eb] at e'
        have ew : W.tup [x, y] = w := Option.some.inj e'
        subst ew
        obtain ⟨vx, h1, h2⟩ := ra'.get ea
        obtain ⟨vy, h3, h4⟩ := rb'.get eb
        refine ⟨⟨va, vb, vx, vy, fa'.sq, fb'.sq, h1, h3⟩, fun v H'' yl => ?_⟩
        obtain ⟨T, x', y', rfl, nT, rfl, qx, qy⟩ := yl
        have ex : vx = x' := Option.some.inj (h1.symm.trans (qx va fa'.sq))
        have ey : vy = y' := Option.some.inj (h3.symm.trans (qy vb fb'.sq))
        subst ex ey
        have gl : Grow ρ' H' ρ' (upd H' T (.tup [vx, vy])) := Grow.laid nT
        obtain ⟨nT1, nT2⟩ := l.s.new nT
        refine ⟨gl, l.s.laid nT, .tup ⟨upd_same, nT1, nT2⟩ (gl.reps (.cons h2 (.cons h4 .nil))), fun d hd => upd_ne (fun z => by subst z; exact nT2 hd)⟩
theorem simi_zip (hg : Gl X "zip") (hm : X.mg "zip" = none) (ha : SimA X W0 J [e, e2] ms)
    (hs : starEach [e, e2] X.env = (false, eval e X.env) :: starEach [e2] X.env := by rfl) (hpl : (backTo pos (starEach [e2] X.env)).any (·.1) = false := by rfl) : SimI X W0 J (.Tuple elts kk tpos) (.Call (.Name "zip" p) [e, e2] [] pos) (mIa itZ ms) := by
  obtain ⟨t, pa, k⟩ := ha
  refine ⟨_, RZ.pi_zipA hg hm pa hs hpl, fun ρ δ S H env σ R he hs hj hp => ?_⟩
  refine k _ _ S _ env σ _ he hs hj (Post.bind hp fun x S1 ρ1 v H1 _ g1 s1 r1 hp1 => ?_)
  cases r1 with
  | nil => exact hp1.elim
  | cons ra r1 => cases r1 with
    | nil => cases ra <;> exact hp1.elim
    | cons rb r1 => cases r1 with
      | cons _ _ => cases ra <;> first | exact hp1.elim | (cases rb <;> exact hp1.elim)
      | nil => cases ra with
        | tup fa ta => cases rb with
          | tup fb tb => exact ⟨_, _, _, _, rfl, .inr ⟨fa.sq, fb.sq, hp1 ρ1 _ H1 (Grow.refl _ _) s1 (itR_zip fa ta fb tb)⟩⟩
          | _ => exact hp1.elim
        | _ => exact hp1.elim
end
end Sm

set_option Elab.async false
set_option linter.all false
set_option maxRecDepth 100000
/-! enumerate of one thing that an iterator of its own draws from; of a tuple -/
namespace EnT
open PySem
open PySem.Sem (wp)
open PySem.AutoSeq1 (wpAny_loadPart')
set_option maxHeartbeats 1000000 in
theorem new1 {v : Value} {o : Obj} {G : Heap → Prop} (B : Begins v o G) :
    Meets (Builtin.«enumerate.__new__» ⟨[.type "enumerate", v], []⟩) (fun _ R s => G s.heap ∧
      R (.ok (.ret (.ref (s.heap.push o).objs.size))) { s with heap := (s.heap.push o).push { cls := .type "enumerate", data := .fields #[.none, .bool false, .ref s.heap.objs.size, rawInt 0, .none, .none] } }) :=
  .of_wp fun prog w A R s h => by
    obtain ⟨hp, g, d, tk, os⟩ := s
    obtain ⟨h1, h⟩ := h
    have hsub := sub_enumerate
    have it1 : ∀ {A' : Around} {E : Value → Shared → Prop} {Q : Value → Shared → Prop}, Q (.ref hp.objs.size) ⟨hp.push o, g, d, tk, os⟩ → wpAny (model prog w) A' (pyIter v) Q E ⟨hp, g, d, tk, os⟩ :=
      fun q => B.iter prog w _ _ ⟨hp, g, d, tk, os⟩ _ h1 q
    wp_walk using it1
    refine wpAny_stack_any fun st => wpAny_pure ?_
    split
    · rename_i c _ _ _ _ _
      cases (c == Value.type "enumerate")
      · wp_walk using it1
        exact ⟨_, rfl, h⟩
      · wp_walk using it1
        exact ⟨_, rfl, h⟩
    · wp_walk using it1
      exact ⟨_, rfl, h⟩
section
variable {prog : Program} {w : World} {A : Around} {E : Value → Shared → Prop} {s : Shared}
theorem call1 {v : Value} {o : Obj} {G : Heap → Prop} {Q : Value → Shared → Prop} (B : Begins v o G) (h1 : G s.heap)
    (h : ∀ h', IsEnum h' (s.heap.objs.size + 1) s.heap.objs.size 0 .none → h'.get? s.heap.objs.size = some o →
      (∀ b u, s.heap.get? b = some u → h'.get? b = some u) → Q (.ref (s.heap.objs.size + 1)) { s with heap := h' }) :
    wpAny (model prog w) A (call (.type "enumerate") [v]) Q E s := by
  refine callType_new F.called_enumerate (by decide) (F.typeCall_enumerate_1 _) (F.newCall_enumerate_1 _) (fun obj => F.args_object_init_2 obj _) F.entry_enumerate_new (new1 B) ⟨h1, ?_⟩
  have z1 : (s.heap.push o).objs.size = s.heap.objs.size + 1 := Heap.size_push ..
  have top : IsEnum ((s.heap.push o).push { cls := .type "enumerate", data := .fields #[.none, .bool false, .ref s.heap.objs.size, rawInt 0, .none, .none] }) (s.heap.objs.size + 1) s.heap.objs.size 0 .none := by
    have q := Heap.get?_push_size (s.heap.push o) (o := { cls := .type "enumerate", data := .fields #[.none, .bool false, .ref s.heap.objs.size, rawInt 0, .none, .none] }) rfl
    rw [z1] at q
    exact q
  show _ ∧ _
  rw [z1]
  exact ⟨⟨_, top, rfl⟩, h _ top (Heap.get?_push_of_some _ (Heap.get?_push_size _ B.free)) fun b u x => Heap.get?_push_of_some _ (Heap.get?_push_of_some _ x)⟩
theorem end1 {e it l : Addr} {i : Nat} {items : Array Value} {old : Value} {Q : Option Value → Shared → Prop} (hh : A.handled = none)
    (he : IsEnum s.heap e it ((i : Nat) : Int) old) (hit : s.heap.IsTupleIter it l i) (hl : s.heap.IsTuple l items) (hx : items[i]? = none)
    (hQ : ∀ h', Heap.ExtBut it s.heap h' → Q none { s with heap := h' }) : wpAny (model prog w) A (pyNext (.ref e)) Q E s := by
  have ty : s.TypeIs (.ref e) "enumerate" := ⟨_, he, rfl⟩
  unfold pyNext
  refine wpAny_bind (wpAny_attempt (wpAny_callSpecial?_slot (name := Str.ofString "__next__") ty F.slot_enumerate_next
    (wpAny_call_entry F.slot_enumerate_next ty F.entry_enumerate_next ?_ (F.args_enumerate_next_1 _))))
  show wpAny _ _ (field (.ref e) 2 >>= _) _ _ _
  refine wpAny_bind (wpAny_field he rfl (x := .ref it) rfl ?_)
  refine wpAny_bind (wpAny_nextOf_tuple_end (A := A.in1) hh hit hl hx fun h' x he' hx' => ?_)
  obtain ⟨o, ho, hc⟩ := hx'
  refine wpAny_bind (wpAny_isInstance (T := "StopIteration") (b := true) ⟨o, ho, hc⟩ isSubtype_stop ?_)
  exact wpAny_pure (hQ _ he')
end
end EnT
namespace Sm
open PySem PySem.Spec PyProof.Rows L2 LamX
/-- a tuple's items with their indexes -/
def IteT (K : PySem.W.Frag) (a : Addr) : It :=
  ⟨fun i H => ∃ (xs : List V) (x : V), SqT K H a xs ∧ xs[i]? = some x, fun i H v H' => ∃ T x, v = .ref T ∧ H T = none ∧ H' = upd H T (.tup [.int (i : Nat), x]) ∧ ∀ xs, SqT K H a xs → xs[i]? = some x, fun i H => ∃ xs : List V, SqT K H a xs ∧ xs.length ≤ i⟩
theorem turn_enT {P : Program} {w : World} {K : PySem.W.Frag} {elts : List Expr} {kk : Nat} {tpos : Pos} (a e it : Addr) (n1 : e ≠ it) (n2 : a ≠ it) (n3 : e ≠ a) :
    Turn P w K (.Tuple elts kk tpos) (IteT K a) [e, it] e (fun i h => (∃ old, IsEnum h e it ((i : Nat) : Int) old) ∧ h.IsTupleIter it a i) where
  mem := by simp
  obj := fun i h st b hb => by
    obtain ⟨⟨old, he⟩, ⟨o, ho, hc, hd⟩⟩ := st
    rcases (by simpa using hb : b = e ∨ b = it) with z | z
    · rw [z]; exact ⟨_, he, fun v q => nomatch q⟩
    · rw [z]; exact ⟨o, ho, fun v q => by rw [hd] at q; cases q⟩
  keep := fun i h h' st k => ⟨⟨_, k e (by simp) _ st.1.choose_spec⟩, st.2.at fun o q => k it (by simp) o q⟩
  item := by
    intro X hP hw hK hc i pins s σ H E I hf st hg
    subst hP hw hK
    obtain ⟨⟨old, he⟩, hit⟩ := st
    obtain ⟨xs, x, hq, hx⟩ := hg
    obtain ⟨its, rv, p, hz⟩ := I.tuple hq
    obtain ⟨u, hu, ru⟩ := rv.get hx
    have lt_e : e < s.heap.objs.size := Heap.lt_size he
    have lt_i : it < s.heap.objs.size := by obtain ⟨_, q, _⟩ := hit; exact Heap.lt_size q
    have lt_n : i < its.toArray.size := by simpa using (List.getElem?_eq_some_iff.mp hu).1
    have hh : X.A.handled = none := I.ok.hd hc
    refine wpAny_pyNext_enum_itemD (Draws.tuple (A := X.A.in1) hh it a n2 its.toArray) he ⟨hit, p⟩ lt_n n1 (by simp [n1, n3]) fun y h' tk hy ho hst hT hsz hk => ?_
    have ey : y = u := by
      have hy : its.toArray[i]? = some y := hy
      have hy2 : its[i]? = some y := by simpa using hy
      exact Option.some.inj (hy2.symm.trans hu)
    subst ey
    refine ⟨_, rfl, wpAny_letOwnedTupleGo_enum (s := { s with heap := h', toks := tk + 1 }) ho fun h'' he' sb => ?_⟩
    have hT2 : h''.get? s.heap.objs.size = some { cls := .type "tuple", data := .seq #[.int i tk, y] } := (sb.2 _ (Nat.ne_of_gt lt_e)).trans hT
    have new : ObjOk X.prog X.w (upd H s.heap.objs.size (.tup [.int (i : Nat), x])) h'' s.heap.objs.size (.tup [.int (i : Nat), x]) :=
      ⟨by show 2 ≤ sizeLine; decide, [.int i tk, y], .cons ⟨_, rfl⟩ (.cons ru .nil), ⟨_, hT2, rfl, _, rfl⟩⟩
    have I1 : Inv X pins σ (upd H s.heap.objs.size (.tup [.int (i : Nat), x])) { s with heap := h'', toks := tk + 1 } :=
      I.turnedNew (ch := [e, it]) (fun b ob hb q => (sb.2 b (fun z => hb (by simp [z]))).trans (hk b ob (fun z => hb (by simp [z])) (fun z => hb (by simp [z])) q)) hf (Nat.le_refl _) new
    refine ⟨.ref s.heap.objs.size, _, I1, rfl, ⟨_, x, rfl, I.hok.fresh (Nat.le_refl _), rfl, fun ys hy => by rw [I.tuple_inj hy hq]; exact hx⟩, ⟨⟨y, ?_⟩, hst.1.at fun o q => (sb.2 it (Ne.symm n1)).trans q⟩, fun b hb => ?_⟩
    · have e1 : ((i + 1 : Nat) : Int) = (i : Int) + 1 := by omega
      rw [e1]; exact he'
    · have hb' : b < s.heap.objs.size := by
        rcases (by simpa using hb : b = e ∨ b = it) with z | z
        · rw [z]; exact lt_e
        · rw [z]; exact lt_i
      rw [upd_ne (Nat.ne_of_lt hb')]
      exact (hf b hb).1
  done := by
    intro X hP hw hK hc i pins s σ H E I hf st hg
    subst hP hw hK
    obtain ⟨⟨old, he⟩, hit⟩ := st
    obtain ⟨xs, hq, hx⟩ := hg
    obtain ⟨its, rv, p, hz⟩ := I.tuple hq
    obtain ⟨f0, f1, f2, f3, f4, f5⟩ := hf it (by simp)
    have hl := rv.length
    exact EnT.end1 (I.ok.hd hc) he hit p (by simp; omega) fun h' eb => ⟨rfl, I.turned (t' := s.toks) (fun b o hb q => eb b o hb q) f0 f1 f3 f4 f5⟩
  self := fun A i s Q E st h => let ⟨⟨_, he⟩, _⟩ := st; wpAny_pyIter_enum he h
def iEnT (K : PySem.W.Frag) (ta : TA) : TI := fun σ H R => ta σ H fun vs H1 => ∃ a xs, vs = [.ref a] ∧ SqT K H1 a xs ∧ R (IteT K a) H1
theorem pi_enT {X : Cx} {e : Expr} {ta : TA} {p pos tpos : Pos} {elts : List Expr} {kk : Nat} (hg : Gl X "enumerate") (hm : X.mg "enumerate" = none) (ha : PA X [e] ta) (hs : starEach [e] X.env = [(false, eval e X.env)] := by rfl) :
    PI X (.Tuple elts kk tpos) (.Call (.Name "enumerate" p) [e] [] pos) (iEnT X.K ta) := by
  refine ⟨fun pins s σ H R I h => ?_⟩
  refine Call_ (ld_blt I hg hm boot_enumerate (PyProof.Rows.callWith_type1 (thn (ha.run pos pins s σ H _ I h) fun us s1 ⟨vs, H1, I1, r1, q1⟩ => ?_) hs rfl))
  obtain ⟨a, xs, ex, hq, q⟩ := q1
  subst ex
  cases r1 with
  | cons r rr =>
    cases rr
    cases r
    obtain ⟨its, rv, p', hz⟩ := I1.tuple hq
    have la : a < s1.heap.objs.size := by obtain ⟨_, z, _⟩ := p'; exact Heap.lt_size z
    refine EnT.call1 (begins_tuple a its.toArray) p' fun h' he hit hk => wpAny_pyIter_enum he ?_
    have I2 : Inv X pins σ H1 { s1 with heap := h' } := I1.kept (t' := s1.toks) hk
    refine ⟨s1.heap.objs.size + 1, [s1.heap.objs.size + 1, s1.heap.objs.size], _, _, H1, rfl, I2, turn_enT a (s1.heap.objs.size + 1) s1.heap.objs.size (Nat.succ_ne_self _) (Nat.ne_of_lt la) (Nat.ne_of_gt (Nat.lt_succ_of_lt la)), ⟨⟨.none, he⟩, ⟨_, hit, rfl, rfl⟩⟩, fun b hb => ?_, q⟩
    have hle : s1.heap.objs.size ≤ b := by
      rcases (by simpa using hb : b = s1.heap.objs.size + 1 ∨ b = s1.heap.objs.size) with z | z
      · rw [z]; exact Nat.le_add_right _ _
      · rw [z]; exact Nat.le_refl _
    exact I1.fpOk hle (I1.hok.fresh hle)
section
variable [TB] {X : Cx} {W0 : WX} {J : JI} {e : Expr} {ms : EM (List W)} {p pos tpos : Pos} {elts : List Expr} {kk : Nat}
def enumT (ws : List W) : List W := (List.range ws.length).map fun i => .tup [.int ((i : Nat) : Int), ws.getD i .non]
def itEn : List W → M It8
  | [.tup ws] => ret (.seq (enumT ws))
  | _ => bad
theorem itR_en {K : Fr} {ρ δ : List Addr} {H : Hp} {a : Addr} {wa : List W} {va : List V} (fa : FzT K ρ δ H a va) (ra : Reps K ρ δ H wa va) : ItR K δ ρ H (.seq (enumT wa)) (IteT K a) := by
  intro i ρ' δ' S' H' l
  have fa' := l.car.t _ _ fa
  have ra' := l.car.reps ra
  refine ⟨fun e => ?_, fun w e => ?_⟩
  · refine ⟨va, fa'.sq, ?_⟩
    have e' : (enumT wa)[i]? = none := by simpa [It8.at] using e
    have e2 := List.getElem?_eq_none_iff.mp e'
    unfold enumT at e2
    rw [List.length_map, List.length_range] at e2
    rw [← Reps.length ra']
    exact e2
  · have e' : (enumT wa)[i]? = some w := by simpa [It8.at] using e
    have hi : i < wa.length := by
      have := (List.getElem?_eq_some_iff.mp e').1
      simpa [enumT] using this
    have ew : W.tup [.int ((i : Nat) : Int), wa[i]] = w := by
      unfold enumT at e'
      rw [List.getElem?_map, List.getElem?_range hi] at e'
      have := Option.some.inj e'
      rw [← this]
      simp [hi]
    subst ew
    obtain ⟨vx, h1, h2⟩ := ra'.get (List.getElem?_eq_getElem hi)
    refine ⟨⟨va, vx, fa'.sq, h1⟩, fun v H'' yl => ?_⟩
    obtain ⟨T, x', rfl, nT, rfl, qx⟩ := yl
    have ex : vx = x' := Option.some.inj (h1.symm.trans (qx va fa'.sq))
    subst ex
    have gl : Grow ρ' H' ρ' (upd H' T (.tup [.int (i : Nat), vx])) := Grow.laid nT
    obtain ⟨nT1, nT2⟩ := l.s.new nT
    exact ⟨gl, l.s.laid nT, .tup ⟨upd_same, nT1, nT2⟩ (gl.reps (.cons .int (.cons h2 .nil))), fun d hd => upd_ne (fun z => by subst z; exact nT2 hd)⟩
theorem simi_en (hg : Gl X "enumerate") (hm : X.mg "enumerate" = none) (ha : SimA X W0 J [e] ms) (hs : starEach [e] X.env = [(false, eval e X.env)] := by rfl) : SimI X W0 J (.Tuple elts kk tpos) (.Call (.Name "enumerate" p) [e] [] pos) (mIa itEn ms) := by
  obtain ⟨t, pa, k⟩ := ha
  refine ⟨_, pi_enT hg hm pa hs, fun ρ δ S H env σ R he hs hj hp => ?_⟩
  refine k _ _ S _ env σ _ he hs hj (Post.bind hp fun x S1 ρ1 v H1 _ g1 s1 r1 hp1 => ?_)
  cases r1 with
  | nil => exact hp1.elim
  | cons ra r1 => cases r1 with
    | cons _ _ => cases ra <;> exact hp1.elim
    | nil => cases ra with
      | tup fa ta => exact ⟨_, _, rfl, fa.sq, hp1 ρ1 _ H1 (Grow.refl _ _) s1 (itR_en fa ta)⟩
      | _ => exact hp1.elim
end
end Sm

set_option Elab.async false
set_option linter.all false
set_option maxRecDepth 100000
/-! == where a side is a box -/
namespace Sm
open PySem PySem.Spec PyProof.Rows L2 LamX
variable [TB]
def toDS (S : Sto) (w : W) : Option PyData := match w with
  | .box n => match S[n]? with
    | some (.lst ws) => (toDs ws).map .list
    | _ => none
  | w => toD w
section
variable {X : Cx}
theorem toDS_dp {ρ δ : List Addr} {S : Sto} {H : Hp} {w : W} {v : V} {d : PyData} (s : Sts X.K ρ δ S H) (r : Rep X.K ρ δ H w v) (e : toDS S w = some d) : Dp X.K H v d := by
  cases r with
  | @box n a f hk =>
    obtain ⟨ws, vs, h1, h2, r'⟩ := s.lst f hk
    simp only [toDS, h1] at e
    cases e2 : toDs ws with
    | none => rw [e2] at e; cases e
    | some ds =>
      rw [e2] at e
      have e : PyData.list ds = d := Option.some.inj e
      subst e
      exact .lst (.inl (.inl h2)) (toDs_dp r' e2)
  | non => exact toD_dp (ρ := ρ) (δ := δ) .non e
  | bl => exact toD_dp (ρ := ρ) (δ := δ) .bl e
  | int => exact toD_dp (ρ := ρ) (δ := δ) .int e
  | str => exact toD_dp (ρ := ρ) (δ := δ) .str e
  | tup f t => exact toD_dp (.tup f t) e
  | lst f t => exact toD_dp (.lst f t) e
  | rng f => exact toD_dp (.rng f) e
  | scr f t => exact toD_dp (.scr f t) e
  | dct f hk => exact toD_dp (δ := δ) (.dct f hk) e
def eqBS (S : Sto) (x y : W) : Option Bool := match toDS S x, toDS S y with
  | some d, some e => if SeqAt.shaped d = true ∧ SeqAt.shaped e = true then some (PyData.eqv d e) else none
  | _, _ => none
def eqWS (x y : W) : M W := fun S => match eqBS S x y with
  | some b => .val (.bl b) S
  | none => .bad
def neWS (x y : W) : M W := fun S => match eqBS S x y with
  | some b => .val (.bl !b) S
  | none => .bad
theorem eqBS_inv {S : Sto} {x y : W} {b : Bool} (h : eqBS S x y = some b) : ∃ d e, toDS S x = some d ∧ toDS S y = some e ∧ SeqAt.shaped d = true ∧ SeqAt.shaped e = true ∧ PyData.eqv d e = b := by
  unfold eqBS at h
  cases e1 : toDS S x with
  | none => simp [e1] at h
  | some d =>
    cases e2 : toDS S y with
    | none => simp [e1, e2] at h
    | some e =>
      simp only [e1, e2] at h
      split at h
      · rename_i hs
        exact ⟨d, e, rfl, rfl, hs.1, hs.2, Option.some.inj h⟩
      · cases h
theorem os_eqS : OpS X (rEqD X.K) eqWS := by
  intro ρ δ S H x y v u Q E s rx ry hp
  unfold eqWS at hp
  cases h : eqBS S x y with
  | none => rw [h] at hp; exact hp.elim
  | some b =>
    rw [h] at hp
    obtain ⟨d, e, e1, e2, h1, h2, rfl⟩ := eqBS_inv h
    exact ⟨d, e, toDS_dp s rx e1, toDS_dp s ry e2, h1, h2, PostV.here (v := .bl _) hp s .bl⟩
theorem os_neS : OpS X (rNeD X.K) neWS := by
  intro ρ δ S H x y v u Q E s rx ry hp
  unfold neWS at hp
  cases h : eqBS S x y with
  | none => rw [h] at hp; exact hp.elim
  | some b =>
    rw [h] at hp
    obtain ⟨d, e, e1, e2, h1, h2, rfl⟩ := eqBS_inv h
    exact ⟨d, e, toDS_dp s rx e1, toDS_dp s ry e2, h1, h2, PostV.here (v := .bl _) hp s .bl⟩
/-- a new list that is changed later: items, so often -/
def mulBW : W → W → M W
  | .lst a, .int k => fun S => if (0 ≤ k ∧ k ≤ 1000) ∧ a.length ≤ 1000 ∧ a.length * k.toNat ≤ lim then .val (.box S.length) (S ++ [.lst (List.replicate k.toNat a).flatten]) else .bad
  | _, _ => bad
theorem os_mulB : OpS X (rMul X.K) mulBW := by
  intro ρ δ S H x y v u Q E s rx ry hp
  cases rx with
  | @lst a ws vs f t => cases ry with
    | int =>
      obtain ⟨⟨⟨h1, h2⟩, h3, h4⟩, hp⟩ := PostV.if hp
      exact .inr (.inl ⟨_, _, _, rfl, rfl, f.1, by omega, by omega, by rw [← Reps.length t]; exact lim_ok h4, fun p np => PostV.box hp s (t.rep _) np⟩)
    | _ => exact hp.elim
  | _ => cases ry <;> exact hp.elim
end
end Sm

set_option Elab.async false
set_option linter.all false
set_option maxRecDepth 100000
/-! sum of a tuple -/
namespace SumT
open PySem PyProof.Rows
theorem pre_take (ns : List Int) : ∀ j, preSum (fun i => ns.getD i 0) j = (ns.take j).sum
  | 0 => by simp [preSum]
  | j + 1 => by
    rw [preSum, pre_take ns j, List.take_add_one, List.sum_append, List.getD_eq_getElem?_getD]
    cases ns[j]? <;> simp
theorem at_ints : ∀ {vs : List Value} {ns : List Int} {i : Nat} {v : Value}, IntsAre vs ns → vs[i]? = some v → ∃ t, v = .int (ns.getD i 0) t
  | _, _, _, _, .nil, h => by simp at h
  | _, _, 0, _, .cons n t r, h => ⟨t, by simp at h; rw [← h]; rfl⟩
  | _, _, i + 1, v, .cons n t r, h => by
    obtain ⟨u, e⟩ := at_ints (i := i) (v := v) r (by simpa using h)
    exact ⟨u, by rw [e]; rfl⟩
theorem len_ints : ∀ {vs : List Value} {ns : List Int}, IntsAre vs ns → vs.length = ns.length
  | _, _, .nil => rfl
  | _, _, .cons _ _ r => by simp [len_ints r]
variable {prog : Program} {w : World} {A : Around} {E : Value → Shared → Prop} {s : Shared}
theorem run {l : Addr} {its : List Value} {ns : List Int} {Q : Value → Shared → Prop} (hh : A.handled = none) (hl : s.heap.IsTuple l its.toArray) (hi : IntsAre its ns)
    (h : ∀ h' tk t', (∀ b o, s.heap.get? b = some o → h'.get? b = some o) → Q (.int ns.sum t') { s with heap := h', toks := tk }) : wpAny (model prog w) A (call (.builtin "sum") [.ref l]) Q E s := by
  have hlt : l < s.heap.objs.size := by obtain ⟨_, e, _⟩ := id hl; exact Heap.lt_size e
  refine call_sum_walkG (wpAny_pyIter_tuple hl ?_)
  refine ⟨s.heap.objs.size, _, _, _, _, _, fun i => ns.getD i 0, rfl, Walks.tuple (A := A.in1) hh _ l (Nat.ne_of_lt hlt) its.toArray, ⟨⟨_, Heap.get?_push_size _ rfl, rfl, rfl⟩, hl.push _⟩, fun b hb => ?_, fun i v hv => at_ints hi (by simpa using hv), fun h' tk t' hk => ?_⟩
  · show b < (s.heap.push _).objs.size
    rw [Heap.size_push]
    rcases (by simpa using hb : b = s.heap.objs.size ∨ b = l) with z | z
    · rw [z]; exact Nat.lt_succ_self _
    · rw [z]; exact Nat.lt_succ_of_lt hlt
  · have e : preSum (fun i => ns.getD i 0) its.toArray.size = ns.sum := by
      rw [pre_take, List.take_of_length_le (by simp [len_ints hi])]
    rw [e]
    refine h h' tk t' fun b o q => hk b o ?_ (Heap.get?_push_of_some _ q)
    have := Heap.lt_size q
    simp
    exact Nat.ne_of_lt this
end SumT
namespace Sm
open PySem PySem.Spec PyProof.Rows L2 LamX
def rSumA (K : PySem.W.Frag) : List V → Hp → VK → Prop := fun vs H Q => ∃ (a : Addr) (ns : List Int), vs = [V.ref a] ∧ (SqL K H a (ns.map V.int) ∨ SqT K H a (ns.map V.int)) ∧ Q (.int ns.sum) H
theorem cr_sumA {X : Cx} (hc : X.calm = true) : CallR X (.builtin "sum") (rSumA X.K) := by
  intro pins s σ H vs us Q I r h
  obtain ⟨a, ns, rfl, hs | hs, q⟩ := h
  · exact cr_sum hc pins s σ H _ us Q I r ⟨a, ns, rfl, hs, q⟩
  · obtain ⟨its, rv, hl, _⟩ := I.tuple hs
    rw [Vals.ref1 r]
    exact SumT.run (I.ok.hd hc) hl rv.ints fun h' tk t' hk => ⟨.int _, H, I.kept hk, ⟨_, rfl⟩, q⟩
section
variable [TB] {X : Cx}
def sumAW : List W → M W
  | [w] => fun S => match seqW S w with
    | some ws => match intsO ws with
      | some ns => .val (.int ns.sum) S
      | none => .bad
    | none => .bad
  | _ => bad
theorem ca_sumA : CaS X (rSumA X.K) sumAW := by
  intro ρ δ S H ws vs Q E s r hp
  cases r with
  | nil => exact hp.elim
  | @cons w v ws vs r t =>
    cases t with
    | cons _ _ => exact hp.elim
    | nil =>
      simp only [sumAW] at hp
      cases e : seqW S w with
      | none => rw [e] at hp; exact hp.elim
      | some us =>
        simp only [e] at hp
        cases e2 : intsO us with
        | none => rw [e2] at hp; exact hp.elim
        | some ns =>
          rw [e2] at hp
          obtain ⟨p, xs, rfl, hq, t⟩ := seqW_rep s r e
          refine ⟨p, ns, rfl, ?_, PostV.here (v := .int _) hp s .int⟩
          rw [← intsO_rep t e2]
          exact hq
end
end Sm

set_option Elab.async false
set_option linter.all false
set_option maxRecDepth 100000
/-! in a list of data of any depth; a comprehension whose list is changed later -/
namespace Sm
open PySem PySem.Spec PyProof.Rows L2 LamX
variable [TB]
theorem room65 {k : Nat} {A : Around} (r : Room k A) : A.units + 65 < cLine := by have := r.un; omega
def inDW (neg : Bool) (x y : W) : M W := fun S => match toD x, toDS S y with
  | some d, some (.list ds) => if SeqAt.shaped d = true ∧ SeqAt.shaped (.list ds) = true then .val (.bl (if neg = true then !ds.any fun z => PyData.eqv z d else ds.any fun z => PyData.eqv z d)) S else .bad
  | _, _ => .bad
section
variable {X : Cx}
theorem inDW_inv {neg : Bool} {x y : W} {S : Sto} {X : Cx} {ρ δ : List Addr} {H : Hp} {Q : VK} {E : XK} (hp : PostV X ρ δ H Q E (inDW neg x y S)) : ∃ d ds, toD x = some d ∧ toDS S y = some (.list ds) ∧ SeqAt.shaped d = true ∧ SeqAt.shaped (.list ds) = true ∧ PostV X ρ δ H Q E (.val (.bl (if neg = true then !ds.any fun z => PyData.eqv z d else ds.any fun z => PyData.eqv z d)) S) := by
  unfold inDW at hp
  cases e1 : toD x with
  | none => rw [e1] at hp; exact hp.elim
  | some d =>
    cases e2 : toDS S y with
    | none => rw [e1, e2] at hp; exact hp.elim
    | some e =>
      rw [e1, e2] at hp
      cases e with
      | list ds =>
        obtain ⟨hs, hp⟩ := PostV.if hp
        exact ⟨d, ds, rfl, rfl, hs.1, hs.2, hp⟩
      | _ => exact hp.elim
theorem os_inD : OpS X (rInD X.K) (inDW false) := by
  intro ρ δ S H x y v u Q E s rx ry hp
  obtain ⟨d, ds, e1, e2, h1, h2, hp⟩ := inDW_inv hp
  exact ⟨d, ds, toD_dp rx e1, toDS_dp s ry e2, h1, h2, PostV.here (v := .bl _) hp s .bl⟩
theorem os_notInD : OpS X (rNotInD X.K) (inDW true) := by
  intro ρ δ S H x y v u Q E s rx ry hp
  obtain ⟨d, ds, e1, e2, h1, h2, hp⟩ := inDW_inv hp
  exact ⟨d, ds, toD_dp rx e1, toDS_dp s ry e2, h1, h2, PostV.here (v := .bl _) hp s .bl⟩
end
def mLCB (own : List Nat) (mi : EM It8) (g : W → Env → Option Env) (tst : EM Bool) (el : EM W) : EM W := fun env => bnd (mi env) fun it S => match lcI it g tst el S.length (wipeE env own) (it.fuel S) 0 (S ++ [.lst []]) with
  | .val _ S1 => .val (.box S.length) S1
  | _ => .bad
section
variable {X : Cx} {W0 : WX} {J : JI} {elt tg iter : Expr} {ifs : List Expr} {scope : Scope} {own : List (Str × Nat)} {pos : Pos} {mi : EM It8} {g : W → Env → Option Env} {gt : TG} {tst : EM Bool} {el : EM W} {ixs : List Nat}
theorem lcB_go {wi : TI} (ki : ∀ ρ δ S H env σ R, EnvR X.K ρ δ H env σ → Sts X.K ρ δ S H → J.p ρ H → Post X.mg X.K ρ δ H (ItR X.K δ) R (WE W0 σ) (mi env S) → wi σ H R) (gs : GS X.K ixs gt g) (hix : ∀ i ∈ ixs, i ∈ own.map (·.2))
    (ρ δ S H env σ Q) (he : EnvR X.K ρ δ H env σ) (hs : Sts X.K ρ δ S H) (hj : J.p ρ H) (hp : PostV X ρ δ H Q (WE W0 σ) (mLCB (own.map (·.2)) mi g tst el env S)) : tLc wi gt (TTc X.K X.mg WF J tst) (TEc X.K X.mg WF J el) (own.map (·.2)) σ H Q := by
  refine ki _ _ S _ env σ _ he hs hj (Post.bind hp fun it S1 ρ1 Jt H1 _ g1 s1 ir hp1 => ?_)
  intro D nD
  have gB : Grow ρ1 H1 (ρ1 ++ [D]) (upd H1 D (.lst [])) := Grow.boxed nD
  have sB : Sts X.K (ρ1 ++ [D]) δ (S1 ++ [.lst []]) (upd H1 D (.lst [])) := s1.boxed (c := .lst []) nD ⟨[], rfl, .nil⟩
  have hn : (ρ1 ++ [D])[S1.length]? = some D := by rw [s1.ln]; simp
  have p0 : ∃ S3, lcI it g tst el S1.length (wipeE env (own.map (·.2))) (it.fuel S1) 0 (S1 ++ [.lst []]) = .val () S3 ∧ PostV X ρ1 δ H1 Q (WE W0 σ) (.val (.box S1.length) S3) := by
    cases e : lcI it g tst el S1.length (wipeE env (own.map (·.2))) (it.fuel S1) 0 (S1 ++ [.lst []]) with
    | val u S3 => simp only [e] at hp1; exact ⟨S3, rfl, hp1⟩
    | exc _ _ => simp only [e] at hp1; exact hp1.elim
    | bad => simp only [e] at hp1; exact hp1.elim
  refine ⟨fun i k H' => ∃ ρ' S', Grow (ρ1 ++ [D]) (upd H1 D (.lst [])) ρ' H' ∧ Sts X.K ρ' δ S' H' ∧ ∃ S3, lcI it g tst el S1.length (wipeE env (own.map (·.2))) k i S' = .val () S3 ∧ PostV X ρ1 δ H1 Q (WE W0 σ) (.val (.box S1.length) S3),
    ⟨it.fuel S1, _, _, Grow.refl _ _, sB, p0⟩, ?_⟩
  rintro i k H' ⟨ρ', S', g2, s2, S3, p2, q2⟩
  cases k with
  | zero => exact absurd p2 (by intro z; cases z)
  | succ k =>
    have gA : Grow ρ1 H1 ρ' H' := gB.trans g2
    have lt : Later X.K ρ1 δ H1 ρ' δ S' H' := ⟨gA, fun a ha => .inl ha, s2⟩
    obtain ⟨ir1, ir2⟩ := ir i ρ' δ S' H' lt
    unfold lcI at p2
    cases ea : it.at S' i with
    | none => rw [ea] at p2; cases p2
    | some o =>
      cases o with
      | none =>
        rw [ea] at p2
        cases p2
        exact .inl ⟨ir1 ea, q2 ρ' (.ref D) H' gA s2 (.box (g2.at hn) (by rw [g2.ty D (by rw [kdH_lst upd_same]; decide)]; exact kdH_lst upd_same))⟩
      | some w =>
        rw [ea] at p2
        obtain ⟨go, yl⟩ := ir2 w ea
        refine .inr ⟨go, fun H4 => ∃ ρ4 S4, Grow (ρ1 ++ [D]) (upd H1 D (.lst [])) ρ4 H4 ∧ Sts X.K ρ4 δ S4 H4 ∧ ∃ S3, lcI it g tst el S1.length (wipeE env (own.map (·.2))) k (i + 1) S4 = .val () S3 ∧ PostV X ρ1 δ H1 Q (WE W0 σ) (.val (.box S1.length) S3), fun H4 h4 => ⟨k, by omega, h4⟩, fun x H4 y => ?_⟩
        obtain ⟨g4, s4, r4, _⟩ := yl x H4 y
        cases eg : g w (wipeE env (own.map (·.2))) with
        | none => simp only [eg] at p2; cases p2
        | some env1 =>
          simp only [eg] at p2
          have e4 : EnvR X.K ρ' δ H4 (wipeE env (own.map (·.2))) (wipe σ (own.map (·.2))) := ((he.grow g1).grow (gA.trans g4)).wipe _
          refine gs ρ' δ S' H4 _ _ w x _ e4 s4 r4 env1 eg fun σ5 e5 hw => ⟨by rw [hw _ hix, wipe_wipe], ?_⟩
          refine ⟨ρ', δ, S', env1, e5, s4, J.st _ _ _ _ (g1.trans (gA.trans g4)) hj, ?_⟩
          cases et : tst env1 S' with
          | bad => rw [et] at p2; cases p2
          | exc ex S6 => rw [et] at p2; cases p2
          | val b S6 =>
            rw [et] at p2
            intro ρ6 b' H6 g6 s6 r6
            have r6' : b = b' := r6
            subst r6'
            cases b with
            | false => exact iteF ⟨ρ6, S6, g2.trans (g4.trans g6), s6, S3, p2, q2⟩
            | true =>
              refine iteT ⟨ρ6, δ, S6, env1, e5.grow g6, s6, J.st _ _ _ _ (g1.trans (gA.trans (g4.trans g6))) hj, ?_⟩
              cases ee : el env1 S6 with
              | bad => simp only [ee] at p2; cases p2
              | exc ex S7 => simp only [ee] at p2; cases p2
              | val z S7 =>
                simp only [ee] at p2
                intro ρ7 zv H7 g7 s7 r7
                have gAll : Grow (ρ1 ++ [D]) (upd H1 D (.lst [])) ρ7 H7 := g2.trans (g4.trans (g6.trans g7))
                have hn7 : ρ7[S1.length]? = some D := gAll.at hn
                cases eS : S7[S1.length]? with
                | none => rw [eS] at p2; cases p2
                | some c =>
                  cases c with
                  | dk _ => rw [eS] at p2; cases p2
                  | dt _ => rw [eS] at p2; cases p2
                  | lst acc =>
                    rw [eS] at p2
                    obtain ⟨vacc, hD, ra⟩ := s7.box hn7 eS
                    by_cases hl : acc.length ≤ lim
                    · simp only [if_pos hl] at p2
                      exact ⟨vacc, hD, by rw [← Reps.length ra]; exact lim_lt hl, ρ7, _, gAll.trans (Grow.put hn7 (by rw [kdH_lst hD]; decide) (kdH_lst hD).symm), s7.put (c := .lst (acc ++ [z])) hn7 (kdH_lst hD).symm ⟨_, rfl, ra.append (.cons r7 .nil)⟩, S3, p2, q2⟩
                    · simp only [if_neg hl] at p2; cases p2
theorem sim_lcB (hc : X.calm = true) (hN : X.N.Nodup) (hi : SimI X W0 J tg iter mi) (ok : BlkOk X.N X.env.scope scope own) (gs : GS X.K ixs gt g) (hix : ∀ i ∈ ixs, i ∈ own.map (·.2))
    (hg : ∀ (s : Shared) (H : Hp) (C : Addr) (cl : List (Str × Addr)) (fp : List Addr), PG (X.blk s H scope (compEnvC scope cl C X.env) fp) tg gt) (ht : ∀ (s : Shared) (H : Hp) (C : Addr) (cl : List (Str × Addr)) (fp : List Addr), PTs (X.blk s H scope (compEnvC scope cl C X.env) fp) ifs (TTc X.K X.mg WF J tst))
    (he : ∀ (s : Shared) (H : Hp) (C : Addr) (cl : List (Str × Addr)) (fp : List Addr), SimE (X.blk s H scope (compEnvC scope cl C X.env) fp) WF J elt el) (hs : ∀ x, foldedSetIterable iter X.env x = pure x := by intro _; rfl) :
    SimE X W0 J (.ListComp elt [⟨tg, iter, ifs, 0⟩] scope pos) (mLCB (own.map (·.2)) mi g tst el) := by
  obtain ⟨wi, pi, ki⟩ := hi
  exact ⟨_, pe_lc (te := TEc X.K X.mg WF J el) hc hN pi ok hg ht (fun s H C cl fp => (he s H C cl fp).can) hs, lcB_go ki gs hix⟩
theorem sims_setLcB {i : Nat} {y : Str} {py spos : Pos} (hc : X.calm = true) (hN : X.N.Nodup) (hy : X.N[i]? = some y) (hyl : X.env.scope.names.lookup y = some .local)
    (hsw : swapsWith (.ListComp elt [⟨tg, iter, ifs, 0⟩] scope pos) (some (.Name y py)) spos.line X.env = pure true) (hi : SimI X W0 J tg iter mi) (ok : BlkOk X.N X.env.scope scope own) (gs : GS X.K ixs gt g) (hix : ∀ i ∈ ixs, i ∈ own.map (·.2))
    (hg : ∀ (s : Shared) (H : Hp) (C : Addr) (cl : List (Str × Addr)) (fp : List Addr), PG (X.blk s H scope (compEnvC scope cl C X.env) fp) tg gt) (ht : ∀ (s : Shared) (H : Hp) (C : Addr) (cl : List (Str × Addr)) (fp : List Addr), PTs (X.blk s H scope (compEnvC scope cl C X.env) fp) ifs (TTc X.K X.mg WF J tst))
    (he : ∀ (s : Shared) (H : Hp) (C : Addr) (cl : List (Str × Addr)) (fp : List Addr), SimE (X.blk s H scope (compEnvC scope cl C X.env) fp) WF J elt el) (hs : ∀ x, foldedSetIterable iter X.env x = pure x := by intro _; rfl) :
    SimS X W0 J (.Assign [.Name y py] (.ListComp elt [⟨tg, iter, ifs, 0⟩] scope pos) spos) (sSet i (mLCB (own.map (·.2)) mi g tst el)) := by
  obtain ⟨wi, pi, ki⟩ := hi
  refine ⟨_, ps_setLc (te := TEc X.K X.mg WF J el) hc hN hy hyl hsw pi ok hg ht (fun s H C cl fp => (he s H C cl fp).can) hs, fun ρ δ S H env σ D hen hst hj hp => ?_⟩
  refine lcB_go ki gs hix ρ δ S H env σ _ hen hst hj (PostS.ofE hen hp fun w S1 ρ1 v H1 _ g s r q => ?_)
  exact PostS.here q s ((hen.grow g).set i r)
end
end Sm

set_option Elab.async false
set_option linter.all false
set_option maxRecDepth 100000
/-! comb -/
namespace Sm
open PySem PySem.Spec PyProof.Rows L2 LamX
def rComb : List V → Hp → VK → Prop := fun vs H Q => ∃ a b : Int, vs = [.int a, .int b] ∧ (0 ≤ a ∧ 0 ≤ b ∧ a ≤ 10000) ∧ Q (.int (PySem.W.mcComb a b)) H
theorem cr_comb {X : Cx} : CallR X (.builtin "math.comb") rComb := by
  intro pins s σ H vs us Q I r h
  obtain ⟨a, b, rfl, ⟨h1, h2, h3⟩, q⟩ := h
  obtain ⟨t, u, rfl⟩ := Vals.int2 r
  exact PySem.W.mc_comb h1 h2 (by omega) (.inr (by omega)) fun _ => ⟨.int _, H, I.tok _, ⟨_, rfl⟩, q⟩
section
variable [TB] {X : Cx} {W0 : WX} {J : JI}
def combW : List W → M W
  | [.int a, .int b] => fun S => if 0 ≤ a ∧ 0 ≤ b ∧ a ≤ 10000 then .val (.int (PySem.W.mcComb a b)) S else .bad
  | _ => bad
theorem ca_comb : CaS X rComb combW := by
  intro ρ δ S H ws vs Q E s r hp
  unfold combW at hp
  split at hp
  · rename_i a b
    cases r with
    | cons r1 r =>
      cases r with
      | cons r2 r =>
        cases r
        cases r1
        cases r2
        obtain ⟨h, hp⟩ := PostV.if hp
        exact ⟨a, b, rfl, h, PostV.here (v := .int _) hp s .int⟩
  · exact hp.elim
theorem sim_callBf {id : String} {r : List V → Hp → VK → Prop} {f : List W → M W} {x : Str} {p pos : Pos} {a : Expr} {es : List Expr} {ms : EM (List W)} (hc : CallR X (.builtin id) r) (os : CaS X r f) (hg : Gl X x) (hm : X.mg x = some (.builtin id)) (ha : SimA X W0 J (a :: es) ms) (hdb : (x == ("__debug__" : Str)) = false := by decide)
    (he : starEach (a :: es) X.env = (false, eval a X.env) :: starEach es X.env := by rfl) (hpl : (backTo pos (starEach es X.env)).any (·.1) = false := by rfl) : SimE X W0 J (.Call (.Name x p) (a :: es) [] pos) (mCa f ms) := by
  obtain ⟨t, pa, k⟩ := ha
  exact ⟨_, pe_callBfun hc hg hm pa hdb he hpl, call_go k os⟩
end
end Sm

set_option Elab.async false
set_option linter.all false
set_option maxRecDepth 100000
/-! a, b = x, y and a, b, c = x, y, z, stored from the right -/
namespace Sm
open PySem PySem.Spec PyProof.Rows L2 LamX
variable [TB]
section
variable {X : Cx} {W0 : WX} {J : JI} {a b c : Expr} {pos : Pos}
def ofL (o : Out (List W)) (env : Env) (k : List W → Sto → Fl) : Fl := match o with
  | .val w S => k w S
  | .exc e S => .xc e env S
  | .bad => .bad
@[simp] theorem ofL_val {env : Env} {k : List W → Sto → Fl} {w : List W} {S : Sto} : ofL (.val w S) env k = k w S := rfl
@[simp] theorem ofL_exc {env : Env} {k : List W → Sto → Fl} {e : Exn} {S : Sto} : ofL (.exc e S) env k = .xc e env S := rfl
theorem PostS.ofL {ρ δ : List Addr} {H : Hp} {D : Ends} {env : Env} {σ : L2.St} {o : Out (List W)} {k : List W → Sto → Fl} {Q : List V → Hp → Prop} (he : EnvR X.K ρ δ H env σ) (h : PostS X.mg X.K ρ δ H W0 D (ofL o env k))
    (q : ∀ w S ρ1 v H1, o = .val w S → Grow ρ H ρ1 H1 → Sts X.K ρ1 δ S H1 → Reps X.K ρ1 δ H1 w v → PostS X.mg X.K ρ1 δ H1 W0 D (k w S) → Q v H1) : Post X.mg X.K ρ δ H (RWs X.K δ) Q (WE W0 σ) o := by
  cases o with
  | val w S => exact fun ρ1 v H1 g s r => q w S ρ1 v H1 rfl g s r (PostS.mono g h)
  | exc e S => exact fun ρ1 c d H1 g s r => h ρ1 c d σ H1 g s (he.grow g) r
  | bad => exact h
def sPar (i j : Nat) (ms : EM (List W)) : SM := fun env S => ofL (ms env S) env fun ws S1 => match ws with
  | [u, w] => .nx ((env.set i (some u)).set j (some w)) S1
  | _ => .bad
def sPar3 (i j l : Nat) (ms : EM (List W)) : SM := fun env S => ofL (ms env S) env fun ws S1 => match ws with
  | [u, v, w] => .nx (((env.set i (some u)).set j (some v)).set l (some w)) S1
  | _ => .bad
theorem sims_par {i j : Nat} {x y : Str} {px py pt : Pos} {kt k2 pt2} {ms : EM (List W)} (hc : X.calm = true) (hN : X.N.Nodup) (hi : X.N[i]? = some x) (hj : X.N[j]? = some y) (hij : i ≠ j)
    (hx : X.env.scope.names.lookup x = some .local) (hy : X.env.scope.names.lookup y = some .local) (h : SimA X W0 J [a, b] ms)
    (hw : swappedStores [.Tuple [.Name x px, .Name y py] kt pt] (.Tuple [a, b] k2 pt2) X.env = pure (some [x, y]))
    (hs : swapsWithSole [.Tuple [.Name x px, .Name y py] kt pt] (.Tuple [a, b] k2 pt2) pos.line X.env = pure false := by rfl) :
    SimS X W0 J (.Assign [.Tuple [.Name x px, .Name y py] kt pt] (.Tuple [a, b] k2 pt2) pos) (sPar i j ms) := by
  obtain ⟨t, p, k⟩ := h
  refine ⟨_, ps_par hc hN hi hj hij hx hy p hw hs, fun ρ δ S H env σ D he hst hJ hp => ?_⟩
  refine k ρ δ S H env σ _ he hst hJ (PostS.ofL he hp fun ws S1 ρ1 vs H1 _ g s r q => ?_)
  cases r with
  | nil => exact q.elim
  | cons r1 r =>
    cases r with
    | nil => exact q.elim
    | cons r2 r =>
      cases r with
      | cons _ _ => exact q.elim
      | nil => exact ⟨_, _, rfl, PostS.here q s (((he.grow g).set i r1).set j r2)⟩
theorem sims_par3 {i j l : Nat} {x y z : Str} {px py pz pt : Pos} {kt k2 pt2} {ms : EM (List W)} (hc : X.calm = true) (hN : X.N.Nodup) (hi : X.N[i]? = some x) (hj : X.N[j]? = some y) (hl : X.N[l]? = some z) (hij : i ≠ j) (hil : i ≠ l) (hjl : j ≠ l)
    (hx : X.env.scope.names.lookup x = some .local) (hy : X.env.scope.names.lookup y = some .local) (hz : X.env.scope.names.lookup z = some .local) (h : SimA X W0 J [a, b, c] ms)
    (hw : swappedStores [.Tuple [.Name x px, .Name y py, .Name z pz] kt pt] (.Tuple [a, b, c] k2 pt2) X.env = pure (some [x, y, z]))
    (hs : swapsWithSole [.Tuple [.Name x px, .Name y py, .Name z pz] kt pt] (.Tuple [a, b, c] k2 pt2) pos.line X.env = pure false := by rfl) :
    SimS X W0 J (.Assign [.Tuple [.Name x px, .Name y py, .Name z pz] kt pt] (.Tuple [a, b, c] k2 pt2) pos) (sPar3 i j l ms) := by
  obtain ⟨t, p, k⟩ := h
  refine ⟨_, ps_par3 hc hN hi hj hl hij hil hjl hx hy hz p hw hs, fun ρ δ S H env σ D he hst hJ hp => ?_⟩
  refine k ρ δ S H env σ _ he hst hJ (PostS.ofL he hp fun ws S1 ρ1 vs H1 _ g s r q => ?_)
  cases r with
  | nil => exact q.elim
  | cons r1 r =>
    cases r with
    | nil => exact q.elim
    | cons r2 r =>
      cases r with
      | nil => exact q.elim
      | cons r3 r =>
        cases r with
        | cons _ _ => exact q.elim
        | nil => exact ⟨_, _, _, rfl, PostS.here q s ((((he.grow g).set i r1).set j r2).set l r3)⟩
end
end Sm

set_option Elab.async false
set_option linter.all false
set_option maxRecDepth 100000
/-! tools for chains of statements and short loops -/
namespace Sm
open PySem PySem.Spec PyProof.Rows L2
variable [TB]
theorem sseq {a b : SM} {env env1 : Sm.Env} {S S1 : Sto} (h : a env S = .nx env1 S1) : sSeq a b env S = b env1 S1 := by
  simp [sSeq, h]
theorem set_eq {i : Nat} {m : EM W} {env : Sm.Env} {S S1 : Sto} {w : W} (h : m env S = .val w S1) : sSet i m env S = .nx (env.set i (some w)) S1 := by
  simp [h]
theorem rangeW_succ (lo : Int) (k : Nat) : rangeW lo (k + 1) = .int lo :: rangeW (lo + 1) k := by
  unfold rangeW
  rw [List.range_succ_eq_map, List.map_cons, List.map_map]
  congr 1
  · simp
  · apply List.map_congr_left
    intro a _
    simp only [Function.comp, Nat.succ_eq_add_one, W.int.injEq]
    omega
theorem for_range {body : SM} {i : Nat} (P : Nat → Sm.Env → Sto → Prop) : ∀ (n lo : Nat), (∀ k, lo ≤ k → k < lo + n → ∀ env S, P k env S → ∃ env' S', body (env.set i (some (.int (k : Int)))) S = .nx env' S' ∧ P (k + 1) env' S') →
    ∀ env S, P lo env S → ∃ env' S', loopL (gN i) body (rangeW (lo : Int) n) env S = .nx env' S' ∧ P (lo + n) env' S'
  | 0, lo, _, env, S, h => ⟨env, S, rfl, h⟩
  | n + 1, lo, hs, env, S, h => by
    obtain ⟨env1, S1, e1, h1⟩ := hs lo (Nat.le_refl _) (by omega) env S h
    obtain ⟨env2, S2, e2, h2⟩ := for_range P n (lo + 1) (fun k k1 k2 => hs k (by omega) (by omega)) env1 S1 h1
    refine ⟨env2, S2, ?_, by rw [show lo + (n + 1) = lo + 1 + n by omega]; exact h2⟩
    rw [rangeW_succ, loopL_cons]
    simp only [gN, e1]
    rw [show ((lo : Int) + 1) = ((lo + 1 : Nat) : Int) by omega]
    exact e2
theorem itR1_nat {m : Nat} (h : m ≤ 1000) (S : Sto) : itR1 [.int (m : Int)] S = .val (.seq (rangeW 0 m)) S := by
  rw [itR1_int, if_pos (by unfold big; omega)]
  rfl
theorem itR2_nat {k m : Nat} (hm : m ≤ 1000) (hk : k ≤ m) (S : Sto) : itR2 [.int (k : Int), .int (m : Int)] S = .val (.seq (rangeW (k : Int) (m - k))) S := by
  rw [itR2_int, if_pos (by unfold big; omega), show ((m : Int) - (k : Int)).toNat = m - k by omega]
theorem mIa_is {f : List W → M It8} {ms : EM (List W)} {env : Sm.Env} {S S' : Sto} {vs : List W} {r : Out It8} (h : ms env S = .val vs S') (hf : f vs S' = r) : mIa f ms env S = r := by
  show (ms env S).bind f = r
  rw [h]
  exact hf
/-- a for over a range, its loop known -/
theorem for1_eq {i : Nat} {body : SM} {ms : EM (List W)} {m : Nat} {env env' : Sm.Env} {S S' : Sto} (hm : m ≤ 1000) (h : ms env S = .val [.int (m : Int)] S) (e : loopL (gN i) body (rangeW ((0 : Nat) : Int) m) env S = .nx env' S') : sFor (mIa itR1 ms) (gN i) body env S = .nx env' S' := by
  have e0 := mIa_is (f := itR1) h (itR1_nat hm S)
  unfold sFor
  generalize (gN i) = g7 at *
  rw [e0, ofI_val, fuel_seq, loopF_all]
  exact e
theorem for2_eq {i : Nat} {body : SM} {ms : EM (List W)} {k m : Nat} {env env' : Sm.Env} {S S' : Sto} (hm : m ≤ 1000) (hk : k ≤ m) (h : ms env S = .val [.int (k : Int), .int (m : Int)] S) (e : loopL (gN i) body (rangeW (k : Int) (m - k)) env S = .nx env' S') : sFor (mIa itR2 ms) (gN i) body env S = .nx env' S' := by
  have e0 := mIa_is (f := itR2) h (itR2_nat hm hk S)
  unfold sFor
  generalize (gN i) = g7 at *
  rw [e0, ofI_val, fuel_seq, loopF_all]
  exact e
/-- a for over a list or a tuple -/
theorem forS_eq {g : W → Sm.Env → Option Sm.Env} {body : SM} {me : EM W} {ws : List W} {v : W} {env env' : Sm.Env} {S S' : Sto} (h : me env S = .val v S) (hv : itSeq v S = .val (.seq ws) S) (e : loopL g body ws env S = .nx env' S') : sFor (mI itSeq me) g body env S = .nx env' S' := by
  have e0 : mI itSeq me env S = .val (.seq ws) S := by
    show (me env S).bind itSeq = _
    rw [h]
    exact hv
  unfold sFor
  rw [e0, ofI_val, fuel_seq, loopF_all]
  exact e
/-- a loop of which each turn ends where it began -/
theorem loop_same {body : SM} {i : Nat} : ∀ (ws : List W) (env : Sm.Env) (S : Sto), (∀ w ∈ ws, body (env.set i (some w)) S = .nx (env.set i (some w)) S) → ∃ y, loopL (gN i) body ws env S = .nx y S ∧ (y = env ∨ ∃ w, y = env.set i (some w))
  | [], env, S, _ => ⟨env, rfl, .inl rfl⟩
  | w :: ws, env, S, h => by
    have h0 := h w List.mem_cons_self
    obtain ⟨y, e, q⟩ := loop_same (body := body) (i := i) ws (env.set i (some w)) S fun z hz => by
      have hz := h z (List.mem_cons_of_mem _ hz)
      simpa only [List.set_set] using hz
    refine ⟨y, ?_, ?_⟩
    · rw [loopL_cons]
      show (match body (env.set i (some w)) S with | .nx env2 S2 => loopL (gN i) body ws env2 S2 | .ct env2 S2 => loopL (gN i) body ws env2 S2 | .bk env2 S2 => .nx env2 S2 | .rt v S2 => .rt v S2 | .xc e env2 S2 => .xc e env2 S2 | .bad => .bad) = _
      rw [h0]
      exact e
    · rcases q with q | ⟨z, q⟩
      · exact .inr ⟨w, q⟩
      · exact .inr ⟨z, by rw [q, List.set_set]⟩
theorem pur_val {f : List W → M W} {ws : List W} {w : W} {S S' : Sto} (h : f ws [] = .val w S') (hn : nbs ws = true) (hw : nb w = true) : pur f ws S = .val w S := by
  unfold pur
  rw [if_pos hn, h]
  simp [purA, hw]
theorem ix_at {ws : List W} {d : Int} (h0 : 0 ≤ d) (h1 : d < (ws.length : Int)) (S : Sto) : ∃ w, w ∈ ws ∧ ixW (.lst ws) (.int d) S = .val w S := by
  obtain ⟨k, rfl⟩ : ∃ k : Nat, d = (k : Int) := ⟨d.toNat, by omega⟩
  have hk : k < ws.length := by omega
  refine ⟨ws[k], List.getElem_mem hk, ?_⟩
  unfold ixW
  simp only [seqW]
  rw [atI_at, List.getElem?_eq_getElem hk]
/-- pure results told by the first run -/
def isS (o : Out W) (s : Str) : Bool := match o with | .val (.str z) _ => decide (z = s) | _ => false
theorem isS_eq {o : Out W} {s : Str} (h : isS o s = true) : ∃ S, o = .val (.str s) S := by
  unfold isS at h
  split at h
  · have h := of_decide_eq_true h
    subst h
    exact ⟨_, rfl⟩
  · cases h
def isB (o : Out W) (b : Bool) : Bool := match o with | .val (.bl z) _ => z == b | _ => false
theorem isB_eq {o : Out W} {b : Bool} (h : isB o b = true) : ∃ S, o = .val (.bl b) S := by
  unfold isB at h
  split at h
  · have h := eq_of_beq h
    subst h
    exact ⟨_, rfl⟩
  · cases h
def isI (o : Out W) (z : Int) : Bool := match o with | .val (.int x) _ => decide (x = z) | _ => false
theorem isI_eq {o : Out W} {z : Int} (h : isI o z = true) : ∃ S, o = .val (.int z) S := by
  unfold isI at h
  split at h
  · have h := of_decide_eq_true h
    subst h
    exact ⟨_, rfl⟩
  · cases h
def isN (o : Out W) : Bool := match o with | .val .non _ => true | _ => false
theorem isN_eq {o : Out W} (h : isN o = true) : ∃ S, o = .val .non S := by
  unfold isN at h
  split at h
  · exact ⟨_, rfl⟩
  · cases h
end Sm

set_option Elab.async false
set_option linter.all false
set_option maxRecDepth 100000
/-! sorted of tuples of ints, and of tuples of such tuples -/
namespace SmD
open PySem PySem.Spec PyProof.Rows Srt SrtO
/-! ### orders -/
structure SLO {α : Type} (lt : α → α → Bool) : Prop where
  asym : ∀ x y, lt x y = true → lt y x = false
  trans : ∀ x y z, lt x y = true → lt y z = true → lt x z = true
  tot : ∀ x y, lt x y = false → lt y x = false → x = y
theorem bcs (b : Bool) : b = true ∨ b = false := by cases b <;> simp
theorem SLO.irr {α : Type} {lt : α → α → Bool} (O : SLO lt) (x : α) : lt x x = false := by
  rcases bcs (lt x x) with h | h
  · exact O.asym x x h
  · exact h
theorem slo_int : SLO fun a b : Int => decide (a < b) := by
  refine ⟨fun x y h => ?_, fun x y z h1 h2 => ?_, fun x y h1 h2 => ?_⟩
  · have := of_decide_eq_true h
    exact decide_eq_false (by omega)
  · have := of_decide_eq_true h1
    have := of_decide_eq_true h2
    exact decide_eq_true (by omega)
  · have := of_decide_eq_false h1
    have := of_decide_eq_false h2
    omega
def lexOf {α : Type} [DecidableEq α] (lt : α → α → Bool) : List α → List α → Bool
  | [], [] => false
  | [], _ :: _ => true
  | _ :: _, [] => false
  | x :: xs, y :: ys => if x = y then lexOf lt xs ys else lt x y
section
variable {α : Type} [DecidableEq α] {lt : α → α → Bool}
theorem lex_asym (O : SLO lt) : ∀ x y : List α, lexOf lt x y = true → lexOf lt y x = false
  | [], [], h => by cases h
  | [], _ :: _, _ => rfl
  | _ :: _, [], h => by cases h
  | x :: xs, y :: ys, h => by
    unfold lexOf at h ⊢
    by_cases e : x = y
    · rw [if_pos e] at h
      rw [if_pos e.symm]
      exact lex_asym O xs ys h
    · rw [if_neg e] at h
      rw [if_neg (Ne.symm e)]
      exact O.asym x y h
theorem lex_trans (O : SLO lt) : ∀ x y z : List α, lexOf lt x y = true → lexOf lt y z = true → lexOf lt x z = true
  | [], [], _, h, _ => by cases h
  | [], _ :: _, [], _, h => by cases h
  | [], _ :: _, _ :: _, _, _ => rfl
  | _ :: _, [], _, h, _ => by cases h
  | _ :: _, _ :: _, [], _, h => by cases h
  | x :: xs, y :: ys, z :: zs, h1, h2 => by
    unfold lexOf at h1 h2 ⊢
    by_cases e1 : x = y
    · subst e1
      rw [if_pos rfl] at h1
      by_cases e2 : x = z
      · rw [if_pos e2] at h2 ⊢
        exact lex_trans O xs ys zs h1 h2
      · rw [if_neg e2] at h2 ⊢
        exact h2
    · rw [if_neg e1] at h1
      by_cases e2 : y = z
      · subst e2
        rw [if_neg e1]
        exact h1
      · rw [if_neg e2] at h2
        have h3 := O.trans x y z h1 h2
        have e3 : ¬ x = z := fun e => by
          subst e
          rw [O.irr] at h3
          cases h3
        rw [if_neg e3]
        exact h3
theorem lex_tot (O : SLO lt) : ∀ x y : List α, lexOf lt x y = false → lexOf lt y x = false → x = y
  | [], [], _, _ => rfl
  | [], _ :: _, h, _ => by cases h
  | _ :: _, [], _, h => by cases h
  | x :: xs, y :: ys, h1, h2 => by
    unfold lexOf at h1 h2
    by_cases e : x = y
    · rw [if_pos e] at h1
      rw [if_pos e.symm] at h2
      rw [e, lex_tot O xs ys h1 h2]
    · rw [if_neg e] at h1
      rw [if_neg (Ne.symm e)] at h2
      exact absurd (O.tot x y h1 h2) e
theorem slo_lex (O : SLO lt) : SLO (lexOf lt) := ⟨lex_asym O, lex_trans O, lex_tot O⟩
end
theorem lexLt_is : ∀ a b : List Int, HT.lexLt a b = lexOf (fun a b : Int => decide (a < b)) a b
  | [], [] => rfl
  | [], _ :: _ => rfl
  | _ :: _, [] => rfl
  | x :: a, y :: b => by
    unfold HT.lexLt lexOf
    rw [lexLt_is a b]
abbrev El := Sum Int (List Int)
def elLt : El → El → Bool
  | .inl a, .inl b => decide (a < b)
  | .inl _, .inr _ => true
  | .inr _, .inl _ => false
  | .inr a, .inr b => HT.lexLt a b
theorem elLt_rr (a b : List Int) : elLt (.inr a) (.inr b) = lexOf (fun a b : Int => decide (a < b)) a b := lexLt_is a b
theorem slo_el : SLO elLt := by
  have L := slo_lex slo_int
  refine ⟨fun x y h => ?_, fun x y z h1 h2 => ?_, fun x y h1 h2 => ?_⟩
  · rcases x with x | x <;> rcases y with y | y
    · exact slo_int.asym x y h
    · rfl
    · cases h
    · rw [elLt_rr] at h ⊢
      exact L.asym x y h
  · rcases x with x | x <;> rcases y with y | y <;> rcases z with z | z
    · exact slo_int.trans x y z h1 h2
    · rfl
    · cases h2
    · rfl
    · cases h1
    · cases h1
    · cases h2
    · rw [elLt_rr] at h1 h2 ⊢
      exact L.trans x y z h1 h2
  · rcases x with x | x <;> rcases y with y | y
    · rw [slo_int.tot x y h1 h2]
    · cases h1
    · cases h2
    · rw [elLt_rr] at h1 h2
      rw [L.tot x y h1 h2]
def keyLt : List El → List El → Bool := lexOf elLt
theorem slo_key : SLO keyLt := slo_lex slo_el
theorem swo_of {α : Type} {lt : α → α → Bool} (O : SLO lt) (k : Value → α) : Swo fun v u => lt (k v) (k u) := by
  refine ⟨fun x y h => O.asym _ _ h, fun x y z h1 h2 => ?_⟩
  rcases bcs (lt (k z) (k x)) with h | h
  · rcases bcs (lt (k x) (k y)) with h3 | h3
    · have := O.trans _ _ _ h h3
      rw [h2] at this
      cases this
    · have e := O.tot _ _ h3 h1
      have h : lt (k z) (k x) = true := h
      rw [e, h2] at h
      cases h
  · exact h
/-! ### on the heap -/
def ElIs (h : Heap) (u : Value) : El → Prop
  | .inl i => ∃ t, u = .int i t
  | .inr ns => ∃ (b : Addr) (its : Array Value), u = .ref b ∧ h.IsTuple b its ∧ IntsAre its.toList ns
inductive ElAll (h : Heap) : List Value → List El → Prop
  | nil : ElAll h [] []
  | cons {u us e es} : ElIs h u e → ElAll h us es → ElAll h (u :: us) (e :: es)
def ItIs (h : Heap) (v : Value) (ks : List El) : Prop := ∃ (a : Addr) (o : Obj) (items : Array Value) (n : Nat), v = .ref a ∧ h.get? a = some o ∧ o.cls = .type "tuple" ∧ o.data = .seq items n ∧ ElAll h items.toList ks
section
variable {h h' : Heap}
theorem ints_fn {vs : List Value} {ns ms : List Int} (a : IntsAre vs ns) (b : IntsAre vs ms) : ns = ms := by rw [← iv_ints a, iv_ints b]
theorem ElIs.fn {u : Value} {e e' : El} (a : ElIs h u e) (b : ElIs h u e') : e = e' := by
  rcases e with e | e <;> rcases e' with e' | e'
  · obtain ⟨t, rfl⟩ := a
    obtain ⟨t', q⟩ := b
    cases q
    rfl
  · obtain ⟨t, rfl⟩ := a
    obtain ⟨b, its, q, _⟩ := b
    cases q
  · obtain ⟨b', its, rfl, _⟩ := a
    obtain ⟨t, q⟩ := b
    cases q
  · obtain ⟨b1, its, rfl, ⟨o, ho, hc, n, hd⟩, i1⟩ := a
    obtain ⟨b2, its2, q, ⟨o2, ho2, hc2, n2, hd2⟩, i2⟩ := b
    cases q
    rw [ho] at ho2
    cases ho2
    rw [hd] at hd2
    cases hd2
    rw [ints_fn i1 i2]
theorem ElAll.fn : ∀ {us : List Value} {es es' : List El}, ElAll h us es → ElAll h us es' → es = es'
  | _, _, _, .nil, .nil => rfl
  | _, _, _, .cons a r, .cons b r' => by rw [a.fn b, ElAll.fn r r']
theorem ItIs.fn {v : Value} {ks ks' : List El} (a : ItIs h v ks) (b : ItIs h v ks') : ks = ks' := by
  obtain ⟨a1, o, its, n, rfl, ho, hc, hd, r⟩ := a
  obtain ⟨a2, o2, its2, n2, q, ho2, hc2, hd2, r2⟩ := b
  cases q
  rw [ho] at ho2
  cases ho2
  rw [hd] at hd2
  cases hd2
  exact r.fn r2
theorem ElIs.keeps {u : Value} {e : El} (k : ∀ b o, h.get? b = some o → o.cls = .type "tuple" → h'.get? b = some o) (a : ElIs h u e) : ElIs h' u e := by
  rcases e with e | e
  · exact a
  · obtain ⟨b1, its, rfl, ⟨o, ho, hc, n, hd⟩, i1⟩ := a
    exact ⟨b1, its, rfl, ⟨o, k _ _ ho hc, hc, n, hd⟩, i1⟩
theorem ElAll.keeps (k : ∀ b o, h.get? b = some o → o.cls = .type "tuple" → h'.get? b = some o) : ∀ {us : List Value} {es : List El}, ElAll h us es → ElAll h' us es
  | _, _, .nil => .nil
  | _, _, .cons a r => .cons (a.keeps k) (ElAll.keeps k r)
theorem ItIs.keeps {v : Value} {ks : List El} (k : ∀ b o, h.get? b = some o → o.cls = .type "tuple" → h'.get? b = some o) (a : ItIs h v ks) : ItIs h' v ks := by
  obtain ⟨a1, o, its, n, rfl, ho, hc, hd, r⟩ := a
  exact ⟨a1, o, its, n, rfl, k _ _ ho hc, hc, hd, r.keeps k⟩
open Classical in
noncomputable def kOf (h : Heap) (v : Value) : List El := if q : ∃ ks, ItIs h v ks then Classical.choose q else []
theorem kOf_eq {v : Value} {ks : List El} (a : ItIs h v ks) : kOf h v = ks := by
  have q : ∃ ks, ItIs h v ks := ⟨ks, a⟩
  unfold kOf
  rw [dif_pos q]
  exact (Classical.choose_spec q).fn a
end
/-! ### one test -/
theorem lay_ints : ∀ ns : List Int, PyData.canLayAll0 (ns.map PyData.int) = true
  | [] => rfl
  | _ :: r => by simp [PyData.canLayAll0, PyData.canLay0, lay_ints r]
theorem dep_ints : ∀ ns : List Int, PyData.depthAll (ns.map PyData.int) = 0
  | [] => rfl
  | _ :: r => by simp [PyData.depthAll, PyData.depth, dep_ints r]
theorem eqv_ints : ∀ a b : List Int, PyData.eqvAll (a.map PyData.int) (b.map PyData.int) = decide (a = b)
  | [], [] => by simp [PyData.eqvAll]
  | [], _ :: _ => by simp [PyData.eqvAll]
  | _ :: _, [] => by simp [PyData.eqvAll]
  | x :: a, y :: b => by
    simp only [List.map_cons, PyData.eqvAll, PyData.eqv, eqv_ints a b]
    by_cases h : x = y <;> by_cases h' : a = b <;> simp [h, h']
theorem reads_ints {h : Heap} : ∀ {vs : List Value} {ns : List Int}, IntsAre vs ns → ∃ as, ReadsAll h vs (ns.map PyData.int) as
  | _, _, .nil => ⟨_, .nil⟩
  | _, _, .cons n t r => by
    obtain ⟨as, q⟩ := reads_ints (h := h) r
    exact ⟨_, .cons (.int n t) q⟩
section
variable {prog : Program} {w : World} {A : Around} {E : Value → Shared → Prop} {s : Shared}
theorem el_eq {u u' : Value} {e e' : El} (a : ElIs s.heap u e) (b : ElIs s.heap u' e') (hk : e.isLeft = e'.isLeft) (hu : A.units + 4 < cLine) : ∃ c, SeqAt.EqAt A s u u' c ∧ (c = true ↔ e = e') := by
  rcases e with e | e <;> rcases e' with e' | e'
  · obtain ⟨t, rfl⟩ := a
    obtain ⟨t', rfl⟩ := b
    exact ⟨(e == e'), SeqAt.EqAt.int_int e t e' t', by simp⟩
  · cases hk
  · cases hk
  · obtain ⟨b1, its, rfl, ⟨o, ho, hc, n, hd⟩, i1⟩ := a
    obtain ⟨b2, its2, rfl, ⟨o2, ho2, hc2, n2, hd2⟩, i2⟩ := b
    obtain ⟨as, r1⟩ := reads_ints (h := s.heap) i1
    obtain ⟨bs, r2⟩ := reads_ints (h := s.heap) i2
    have d1 : (PyData.tuple (e.map PyData.int)).depth ≤ 1 := by simp [PyData.depth, dep_ints]
    refine ⟨_, SeqAt.eqAt_reads _ _ A s _ _ as bs (.tuple ho hc hd r1) (.tuple ho2 hc2 hd2 r2) (by simp [PyData.canLay0, lay_ints]) (by simp [PyData.canLay0, lay_ints]) (by omega), ?_⟩
    simp only [PyData.eqv, eqv_ints, decide_eq_true_eq, Sum.inr.injEq]
theorem el_lt {u u' : Value} {e e' : El} {Q : Value → Shared → Prop} (a : ElIs s.heap u e) (b : ElIs s.heap u' e') (hk : e.isLeft = e'.isLeft) (hu : A.units < cLine) (h : Q (.bool (elLt e e')) s) : wpAny (model prog w) A (compareOp .Lt u u') Q E s := by
  rcases e with e | e <;> rcases e' with e' | e'
  · obtain ⟨t, rfl⟩ := a
    obtain ⟨t', rfl⟩ := b
    exact PyProof.Rows.lt_int h
  · cases hk
  · cases hk
  · obtain ⟨b1, its, rfl, q1, i1⟩ := a
    obtain ⟨b2, its2, rfl, q2, i2⟩ := b
    exact HT.lt_tupInts q1 q2 i1 i2 hu h
end
end SmD

set_option Elab.async false
set_option linter.all false
set_option maxRecDepth 100000
namespace SmD
open PySem PySem.Spec PyProof.Rows Srt SrtO
section
variable {prog : Program} {w : World} {A : Around} {E : Value → Shared → Prop} {s : Shared}
theorem katlex {b : Bool} (hu : A.units + 4 < cLine) : ∀ {us us' : List Value} {ks ks' : List El} {i : Nat} {fin : Bool}, ElAll s.heap us ks → ElAll s.heap us' ks' → (∀ e ∈ ks, e.isLeft = b) → (∀ e ∈ ks', e.isLeft = b) → fin = decide (ks.length < ks'.length) →
    PySem.W.KatLex prog w A b fin (fun r s' => s' = s ∧ r = lexOf elLt ks ks') (us.zip us') i s
  | _, _, _, _, i, fin, .nil, .nil, _, _, hf => PySem.W.kat_nil ⟨rfl, by rw [hf]; rfl⟩
  | _, _, _, _, i, fin, .nil, .cons _ _, _, _, hf => PySem.W.kat_nil ⟨rfl, by rw [hf]; simp [lexOf]⟩
  | _, _, _, _, i, fin, .cons _ _, .nil, _, _, hf => PySem.W.kat_nil ⟨rfl, by rw [hf]; simp [lexOf]⟩
  | _, _, _, _, i, fin, .cons (e := e) (es := es) a r, .cons (e := e') (es := es') a' r', h1, h2, hf => by
    have k1 := h1 e List.mem_cons_self
    have k2 := h2 e' List.mem_cons_self
    obtain ⟨c, q, hc⟩ := el_eq (A := A) a a' (by rw [k1, k2]) hu
    refine PySem.W.kat_cons (q prog w _ _ ?_)
    refine PySem.W.kat_go (fun e1 => ?_) (fun e1 => ?_)
    · have ee := hc.mp e1
      have ih := katlex (b := b) hu (i := i + 1) (fin := fin) r r' (fun z hz => h1 z (List.mem_cons_of_mem _ hz)) (fun z hz => h2 z (List.mem_cons_of_mem _ hz)) (by rw [hf]; simp)
      have e3 : lexOf elLt (e :: es) (e' :: es') = lexOf elLt es es' := by
        show (if e = e' then _ else _) = _
        rw [if_pos ee]
      rw [e3]
      exact PySem.W.kat_yes ih
    · have ne : ¬ e = e' := fun z => by rw [hc.mpr z] at e1; cases e1
      have e3 : lexOf elLt (e :: es) (e' :: es') = elLt e e' := by
        show (if e = e' then _ else _) = _
        rw [if_neg ne]
      rw [e3]
      refine PySem.W.kat_no ?_
      rcases bcs (b && i == 0) with hb | hb
      · rw [hb]
        have hb' : b = true := by
          cases b
          · cases hb
          · rfl
        rw [hb'] at k1 k2
        rcases e with e | e
        · rcases e' with e' | e'
          · obtain ⟨t, rfl⟩ := a
            obtain ⟨t', rfl⟩ := a'
            exact oneLt_int ⟨rfl, rfl⟩
          · cases k2
        · cases k1
      · rw [hb]
        exact PySem.W.kat_one _ _ (el_lt a a' (by rw [k1, k2]) (by omega) (show s = s ∧ elLt e e' = elLt e e' from ⟨rfl, rfl⟩))
theorem firsts {h : Heap} {b : Bool} : ∀ (vs : List Value), (∀ v ∈ vs, ∃ e ks, ItIs h v (e :: ks) ∧ e.isLeft = b) → ∃ fs, PySem.W.KatTups h vs fs ∧ fs.length = vs.length ∧ ∀ f ∈ fs, ∃ e, ElIs h f e ∧ e.isLeft = b
  | [], _ => ⟨[], PySem.W.KatTups.nil, rfl, fun _ q => absurd q (by simp)⟩
  | v :: vs, hv => by
    obtain ⟨fs, h1, h2, h3⟩ := firsts vs fun u hu => hv u (List.mem_cons_of_mem _ hu)
    obtain ⟨e, ks, ⟨a, o, its, n, rfl, ho, hc, hd, r⟩, hb⟩ := hv v List.mem_cons_self
    obtain ⟨f, us, hu⟩ : ∃ f us, its.toList = f :: us := by
      cases hq : its.toList with
      | nil => rw [hq] at r; cases r
      | cons f us => exact ⟨f, us, rfl⟩
    rw [hu] at r
    cases r with
    | cons r0 r =>
      refine ⟨f :: fs, PySem.W.KatTups.cons ho hc hd ?_ h1, by simp [h2], fun z hz => ?_⟩
      · rw [← Array.getElem?_toList, hu]
        rfl
      · rcases List.mem_cons.mp hz with rfl | hz
        · exact ⟨e, r0, hb⟩
        · exact h3 z hz
theorem data_sortable {a : Addr} {vs : List Value} {b : Bool} {kk : Value → List El} (h0 : 0 < vs.length) (hp : ∀ v ∈ vs, ItIs s.heap v (kk v) ∧ kk v ≠ [] ∧ ∀ e ∈ kk v, e.isLeft = b) (ha : ∀ o, s.heap.get? a = some o → o.cls ≠ .type "tuple") (hu : A.units + 4 < cLine) : SortableO prog w A s a vs fun v u => keyLt (kk v) (kk u) := by
  intro h' keep
  have hp' : ∀ v ∈ vs, ItIs h' v (kk v) := fun v hm => (hp v hm).1.keeps fun b o e c => keep b o (fun z => by subst z; exact ha o e c) e
  obtain ⟨fs, h1, h2, h3⟩ := firsts (h := h') (b := b) vs fun v hm => by
    obtain ⟨-, q2, q3⟩ := hp v hm
    have q1 := hp' v hm
    cases hk : kk v with
    | nil => exact absurd hk q2
    | cons e ks =>
      rw [hk] at q1 q3
      exact ⟨e, ks, q1, q3 e List.mem_cons_self⟩
  refine ⟨tuples' b, fun Q E hq => ?_, ?_⟩
  · have fin : ∀ (T : Value), (T == T) = true → (∀ v ∈ fs, PySem.W.Looks (model prog w) h' (typeOf v) T) → (T != Value.type "tuple") = b → wpAny (model prog w) A (keyKind' vs.toArray) Q E { s with heap := h' } := fun T t1 t2 t3 => by
      refine PySem.W.kat_kind (s := { s with heap := h' }) (T := T) h1 (by omega) t2 t1 ?_
      rw [t3]
      exact hq
    cases b with
    | true =>
      refine fin (.type "int") (by rfl) (fun f hm => ?_) (by first | decide +kernel | rfl | decide)
      obtain ⟨e, q, he⟩ := h3 f hm
      rcases e with e | e
      · obtain ⟨t, rfl⟩ := q
        exact PySem.W.Looks.now
      · cases he
    | false =>
      refine fin (.type "tuple") (by rfl) (fun f hm => ?_) (by first | decide +kernel | rfl | decide)
      obtain ⟨e, q, he⟩ := h3 f hm
      rcases e with e | e
      · cases he
      · obtain ⟨b1, its, rfl, ⟨o, ho, hc, n, hd⟩, i1⟩ := q
        have := show PySem.W.Looks (model prog w) h' (typeOf (.ref b1)) o.cls from (PySem.W.Looks.ld ho).andThen PySem.W.Looks.now
        rw [hc] at this
        exact this
  · intro p q hm hm'
    obtain ⟨a1, o, its, n, e1, ho, hc, hd, r⟩ := hp' _ hm
    obtain ⟨a2, o2, its2, n2, e2, ho2, hc2, hd2, r2⟩ := hp' _ hm'
    show wpAny (model prog w) A (keyLt' (tuples' b) p.1 q.1) (fun r s' => s' = { s with heap := h' } ∧ r = keyLt (kk p.1) (kk q.1)) (fun _ _ => False) { s with heap := h' }
    have l1 : ∀ {us : List Value} {es : List El}, ElAll h' us es → us.length = es.length := by
      intro us es h
      induction h with
      | nil => rfl
      | cons _ _ ih => simp [ih]
    have kl := katlex (prog := prog) (w := w) (A := A) (s := { s with heap := h' }) (b := b) hu (i := 0) (fin := decide (its.size < its2.size)) r r2 (hp _ hm).2.2 (hp _ hm').2.2 (by
      have z1 := l1 r
      have z2 := l1 r2
      simp only [Array.length_toList] at z1 z2
      rw [z1, z2])
    rw [e1, e2] at kl ⊢
    exact PySem.W.kat_lt ho hd ho2 hd2 kl
end
/-! ### ranks -/
def rnk (kv : List (List El)) (q : List El) : Int := ((kv.countP fun p => keyLt p q : Nat) : Int)
def ranks (kv : List (List El)) : List Int := kv.map (rnk kv)
theorem cnt_lt {α : Type} {p q : α → Bool} : ∀ {l : List α} {x : α}, x ∈ l → p x = false → q x = true → (∀ y ∈ l, p y = true → q y = true) → l.countP p < l.countP q
  | y :: l, x, hx, h1, h2, h => by
    have hm : l.countP p ≤ l.countP q := List.countP_mono_left fun z hz => h z (List.mem_cons_of_mem _ hz)
    rcases List.mem_cons.mp hx with rfl | hx
    · rw [List.countP_cons_of_neg (by simp [h1]), List.countP_cons_of_pos h2]
      omega
    · have ih := cnt_lt hx h1 h2 fun z hz => h z (List.mem_cons_of_mem _ hz)
      have hy := h y List.mem_cons_self
      rcases bcs (p y) with e | e
      · rw [List.countP_cons_of_pos e, List.countP_cons_of_pos (hy e)]
        omega
      · rw [List.countP_cons_of_neg (by simp [e])]
        have : l.countP q ≤ (y :: l).countP q := by
          rw [List.countP_cons]
          omega
        omega
theorem rnk_lt {kv : List (List El)} {p q : List El} (hp : p ∈ kv) (h : keyLt p q = true) : rnk kv p < rnk kv q := by
  unfold rnk
  have := cnt_lt (p := fun z => keyLt z p) (q := fun z => keyLt z q) hp (slo_key.irr p) h fun y _ hy => slo_key.trans _ _ _ hy h
  omega
theorem rnk_ge {kv : List (List El)} {p q : List El} (h : keyLt p q = false) : rnk kv q ≤ rnk kv p := by
  unfold rnk
  have : (kv.countP fun z => keyLt z q) ≤ kv.countP fun z => keyLt z p := List.countP_mono_left fun z _ hz => by
    rcases bcs (keyLt z p) with e | e
    · exact e
    · exfalso
      rcases bcs (keyLt p z) with e2 | e2
      · have := slo_key.trans _ _ _ e2 hz
        rw [h] at this
        cases this
      · have := slo_key.tot _ _ e e2
        rw [this, h] at hz
        cases hz
  omega
theorem zip_self {α β : Type} (f : α → β) : ∀ l : List α, (l.map f).zip l = l.map fun v => (f v, v)
  | [] => rfl
  | x :: l => by simp [zip_self f l]
theorem out_is [Sm.TB] {vs out : List Value} {kk : Value → List El} (h1 : Srtd (fun v u => keyLt (kk v) (kk u)) out) (h2 : Stb (fun v u => keyLt (kk v) (kk u)) out vs) : out = (Sm.sortG ((ranks (vs.map kk)).zip vs)).map Prod.snd := by
  have e : out = (out.map fun v => (rnk (vs.map kk) (kk v), v)).map Prod.snd := by
    rw [List.map_map]
    exact (List.map_id _).symm
  have ez : (ranks (vs.map kk)).zip vs = vs.map fun v => (rnk (vs.map kk) (kk v), v) := by
    unfold ranks
    rw [List.map_map]
    exact zip_self _ vs
  rw [ez]
  refine Eq.trans e (congrArg (List.map Prod.snd) ?_)
  refine Sm.stab_uniq ?_ (Sm.sortG_srt _) fun c => ?_
  · exact List.pairwise_map.mpr (h1.imp fun {x y} h => rnk_ge h)
  · rw [Sm.sortG_fil, List.filter_map, List.filter_map]
    refine congrArg _ ?_
    show out.filter (fun v => rnk (vs.map kk) (kk v) == c) = vs.filter (fun v => rnk (vs.map kk) (kk v) == c)
    by_cases hx : ∃ v ∈ vs, rnk (vs.map kk) (kk v) = c
    · obtain ⟨v, hv, rfl⟩ := hx
      have same : ∀ u ∈ vs, (rnk (vs.map kk) (kk u) == rnk (vs.map kk) (kk v)) = eqv (fun v u => keyLt (kk v) (kk u)) v u := fun u hu => by
        have mv : kk v ∈ vs.map kk := List.mem_map.mpr ⟨v, hv, rfl⟩
        have mu : kk u ∈ vs.map kk := List.mem_map.mpr ⟨u, hu, rfl⟩
        rcases bcs (eqv (fun v u => keyLt (kk v) (kk u)) v u) with q | q
        · obtain ⟨q1, q2⟩ := eqv_iff.mp q
          rw [q, slo_key.tot _ _ q1 q2]
          simp
        · rw [q]
          have : ¬ (keyLt (kk v) (kk u) = false ∧ keyLt (kk u) (kk v) = false) := fun z => by
            have q' := (eqv_iff (lt := fun v u => keyLt (kk v) (kk u)) (x := v) (y := u)).mpr z
            rw [q] at q'
            cases q'
          rcases bcs (keyLt (kk v) (kk u)) with z | z
          · have := rnk_lt mv z
            simp
            omega
          · rcases bcs (keyLt (kk u) (kk v)) with z2 | z2
            · have := rnk_lt mu z2
              simp
              omega
            · exact absurd ⟨z, z2⟩ this
      rw [List.filter_congr fun u hu => same u (h2.perm.mem_iff.mp hu), List.filter_congr fun u hu => same u hu]
      exact h2.cls v
    · have no : ∀ u ∈ vs, (rnk (vs.map kk) (kk u) == c) = false := fun u hu => by
        simp
        exact fun z => hx ⟨u, hu, z⟩
      rw [List.filter_eq_nil_iff.mpr fun u hu => by rw [no u (h2.perm.mem_iff.mp hu)]; simp, List.filter_eq_nil_iff.mpr fun u hu => by rw [no u hu]; simp]
end SmD

namespace Sm
open PySem PySem.Spec PyProof.Rows L2 LamX SmD
variable [TB]
section
variable {X : Cx}
def ElV (K : Fr) (H : Hp) (y : V) : El → Prop
  | .inl i => y = .int i
  | .inr ns => ∃ b : Addr, y = .ref b ∧ SqT K H b (ns.map V.int)
inductive ElsV (K : Fr) (H : Hp) : List V → List El → Prop
  | nil : ElsV K H [] []
  | cons {y ys e es} : ElV K H y e → ElsV K H ys es → ElsV K H (y :: ys) (e :: es)
inductive KeysV (K : Fr) (H : Hp) : List V → List (List El) → Prop
  | nil : KeysV K H [] []
  | cons {a ys k xs kv} : SqT K H a ys → ElsV K H ys k → KeysV K H xs kv → KeysV K H (.ref a :: xs) (k :: kv)
/-- sorted(xs), tuples of ints or of tuples of ints, none of them empty -/
def rSrtD (K : Fr) : List V → Hp → VK → Prop := fun vs H Q => ∃ (a : Addr) (xs : List V) (kv : List (List El)) (b : Bool), vs = [V.ref a] ∧ (SqL K H a xs ∨ SqT K H a xs) ∧ KeysV K H xs kv ∧ (∀ k ∈ kv, k ≠ [] ∧ ∀ e ∈ k, e.isLeft = b) ∧
  ∀ p, H p = none → Q (.ref p) (upd H p (.lst ((sortG ((ranks kv).zip xs)).map Prod.snd)))
section
variable {pins : List (Addr × Obj)} {σ : L2.St} {H : Hp} {s : Shared}
theorem els_at (I : Inv X pins σ H s) : ∀ {ys : List V} {es : List El} {us : List Value}, ElsV X.K H ys es → Vals ys us → ElAll s.heap us es
  | _, _, _, .nil, .nil => .nil
  | _, _, _, .cons (e := e) h r, .cons r0 r' => by
    refine .cons ?_ (els_at I r r')
    rcases e with e | e
    · have h : _ = _ := h
      subst h
      obtain ⟨t, rfl⟩ := r0
      exact ⟨t, rfl⟩
    · obtain ⟨b, rfl, hs⟩ := h
      obtain ⟨its, rv, hl, _⟩ := I.tuple hs
      cases r0
      exact ⟨b, its.toArray, rfl, hl, by simpa using rv.ints⟩
theorem keys_at (I : Inv X pins σ H s) : ∀ {xs : List V} {kv : List (List El)} {us : List Value}, KeysV X.K H xs kv → Vals xs us → (∀ (i : Nat) (v : Value) (k : List El), us[i]? = some v → kv[i]? = some k → ItIs s.heap v k) ∧ us.length = kv.length
  | _, _, _, .nil, .nil => ⟨fun i v k h => by simp at h, rfl⟩
  | _, _, _, .cons hs he r, .cons r0 r' => by
    obtain ⟨q1, q2⟩ := keys_at I r r'
    refine ⟨fun i v k h1 h2 => ?_, by simp [q2]⟩
    cases i with
    | zero =>
      simp at h1 h2
      subst h1 h2
      obtain ⟨its, rv, ⟨o, ho, hc, n, hd⟩, _⟩ := I.tuple hs
      cases r0
      exact ⟨_, o, its.toArray, n, rfl, ho, hc, hd, by simpa using els_at I he rv⟩
    | succ i => exact q1 i v k (by simpa using h1) (by simpa using h2)
theorem kof_map {h : Heap} {us : List Value} {kv : List (List El)} (q1 : ∀ (i : Nat) (v : Value) (k : List El), us[i]? = some v → kv[i]? = some k → ItIs h v k) (q2 : us.length = kv.length) : us.map (kOf h) = kv := by
  refine List.ext_getElem? fun i => ?_
  rw [List.getElem?_map]
  cases e : us[i]? with
  | none =>
    have := List.getElem?_eq_none_iff.mp e
    exact (List.getElem?_eq_none (by omega)).symm
  | some v =>
    have hi := (List.getElem?_eq_some_iff.mp e).1
    have e2 : kv[i]? = some kv[i] := List.getElem?_eq_getElem (by omega)
    rw [e2]
    exact congrArg some (kOf_eq (q1 i v _ e e2))
end
theorem cr_srtD (hu : X.A.units + 64 < cLine) : CallR X (.builtin "sorted") (rSrtD X.K) := by
  intro pins s σ H vs us Q I r h
  obtain ⟨a, xs, kv, b, rfl, hs, hk, hb, q⟩ := h
  have main : ∀ {its : List Value} (rv : Vals xs its) (hz : xs.length ≤ sizeLine) , (∀ v ∈ its, ItIs s.heap v (kOf s.heap v) ∧ kOf s.heap v ≠ [] ∧ ∀ e ∈ kOf s.heap v, e.isLeft = b) ∧
      ∀ (out : List Value), SrtO.Srtd (fun v u => keyLt (kOf s.heap v) (kOf s.heap u)) out → SrtO.Stb (fun v u => keyLt (kOf s.heap v) (kOf s.heap u)) out its → EP X pins σ Q (.ref (s.heap.objs.size + 1)) { s with heap := sortedAll s.heap its out.toArray } := by
    intro its rv hz
    obtain ⟨q1, q2⟩ := keys_at I hk rv
    have km := kof_map q1 q2
    refine ⟨fun v hv => ?_, fun out h1 h2 => ?_⟩
    · obtain ⟨i, hi, rfl⟩ := List.mem_iff_getElem.mp hv
      have e2 : kv[i]? = some kv[i] := List.getElem?_eq_getElem (by omega)
      have it := q1 i _ _ (List.getElem?_eq_getElem hi) e2
      rw [kOf_eq it]
      obtain ⟨z1, z2⟩ := hb _ (List.mem_of_getElem? e2)
      exact ⟨it, z1, z2⟩
    · have e := out_is h1 h2
      rw [km] at e
      obtain ⟨-, va⟩ := sortG_vals (ks := ranks kv) rv
      rw [← e] at va
      obtain ⟨ep, he'⟩ := PyProof.Rows.sortedAll_at s.heap its out.toArray
      have hlen : ((sortG ((ranks kv).zip xs)).map Prod.snd).length ≤ sizeLine := by
        rw [va.length, h2.len, ← rv.length]
        exact hz
      exact ⟨.ref _, upd H (s.heap.objs.size + 1) (.lst ((sortG ((ranks kv).zip xs)).map Prod.snd)), I.laid (t' := s.toks) (fun _ _ => PyProof.Rows.sortedAll_old) (Nat.le_succ _) ⟨hlen, out, ep, va, he'⟩, rfl, q _ (I.hok.fresh (Nat.le_succ _))⟩
  have ha : ∀ {vs : List Value} {h₁ : Heap} {a' : Addr}, h₁.get? a' = some (seqObj "list" vs.toArray 0) → ∀ o, h₁.get? a' = some o → o.cls ≠ .type "tuple" := by
    intro vs h₁ a' q1 o q2 c
    have e' : some o = some (seqObj "list" vs.toArray 0) := q2.symm.trans q1
    cases e'
    exact absurd (Value.type.inj c) (by decide)
  rcases hs with hs | hs
  · obtain ⟨its, rv, hl, hz⟩ := I.list hs
    rw [Vals.ref1 r]
    obtain ⟨m1, m2⟩ := main rv hz
    exact SrtO.sorted_ord (swo_of slo_key (kOf s.heap)) hl.isList (by rw [← rv.length]; exact hz) (fun h2 h₁ a' e1 e2 => data_sortable (s := { s with heap := h₁ }) (b := b) (by omega) (fun v hv => ⟨(m1 v hv).1.keeps fun b o e _ => (e2 b o e).2, (m1 v hv).2⟩) (ha e1) (by show X.A.units + 1 + 1 + 4 < cLine; omega)) fun out h1 h2 => m2 out h1 h2
  · obtain ⟨its, rv, hl, hz⟩ := I.tuple hs
    rw [Vals.ref1 r]
    obtain ⟨m1, m2⟩ := main rv hz
    exact SmS.sorted_ordT (swo_of slo_key (kOf s.heap)) hl (by rw [← rv.length]; exact hz) (fun h2 h₁ a' e1 e2 => data_sortable (s := { s with heap := h₁ }) (b := b) (by omega) (fun v hv => ⟨(m1 v hv).1.keeps fun b o e _ => (e2 b o e).2, (m1 v hv).2⟩) (ha e1) (by show X.A.units + 1 + 1 + 4 < cLine; omega)) fun out h1 h2 => m2 out h1 h2
/-- ints, or what is told above -/
def rSrtA (K : Fr) : List V → Hp → VK → Prop := fun vs H Q => rSrtW K vs H Q ∨ rSrtD K vs H Q
theorem cr_srtA (hu : X.A.units + 64 < cLine) : CallR X (.builtin "sorted") (rSrtA X.K) := by
  intro pins s σ H vs us Q I r h
  rcases h with h | h
  · exact cr_srtW pins s σ H vs us Q I r h
  · exact cr_srtD hu pins s σ H vs us Q I r h
/-! ### mirrored -/
def elW : W → Option El
  | .int i => some (.inl i)
  | .tup ws => (intsO ws).map .inr
  | _ => none
def elsW : List W → Option (List El)
  | [] => some []
  | w :: ws => match elW w, elsW ws with
    | some e, some es => some (e :: es)
    | _, _ => none
def keysW : List W → Option (List (List El))
  | [] => some []
  | .tup us :: ws => match elsW us, keysW ws with
    | some k, some kv => some (k :: kv)
    | _, _ => none
  | _ :: _ => none
def okKeys (kv : List (List El)) (b : Bool) : Bool := kv.all fun k => !k.isEmpty && k.all fun e => e.isLeft == b
def sortedA : List W → M W
  | [w] => fun S => match seqW S w with
    | some ws => match intsO ws with
      | some ns => .val (.lst ((sortI ns).map W.int)) S
      | none => match keysW ws with
        | some kv => if okKeys kv true = true ∨ okKeys kv false = true then .val (.lst ((sortG ((ranks kv).zip ws)).map Prod.snd)) S else .bad
        | none => .bad
    | none => .bad
  | _ => bad
theorem elsW_rep {K : Fr} {ρ δ : List Addr} {H : Hp} : ∀ {ws : List W} {vs : List V} {es : List El}, Reps K ρ δ H ws vs → elsW ws = some es → ElsV K H vs es
  | [], _, _, .nil, e => by cases e; exact .nil
  | w :: ws, _, _, .cons r0 r, e => by
    unfold elsW at e
    cases e1 : elW w with
    | none => rw [e1] at e; cases e
    | some k =>
      cases e2 : elsW ws with
      | none => rw [e1, e2] at e; cases e
      | some es =>
        rw [e1, e2] at e
        cases e
        refine .cons ?_ (elsW_rep r e2)
        cases r0 with
        | int => cases e1; rfl
        | tup f t =>
          rename_i us vs'
          have e1 : (intsO us).map Sum.inr = some k := e1
          cases e3 : intsO us with
          | none => rw [e3] at e1; cases e1
          | some ns =>
            rw [e3] at e1
            cases e1
            have := intsO_rep t e3
            subst this
            exact ⟨_, rfl, f.sq⟩
        | _ => cases e1
theorem keysW_rep {K : Fr} {ρ δ : List Addr} {H : Hp} : ∀ {ws : List W} {vs : List V} {kv : List (List El)}, Reps K ρ δ H ws vs → keysW ws = some kv → KeysV K H vs kv
  | [], _, _, .nil, e => by cases e; exact .nil
  | w :: ws, _, _, .cons r0 r, e => by
    cases r0 with
    | tup f t =>
      rename_i us vs'
      unfold keysW at e
      cases e1 : elsW us with
      | none => rw [e1] at e; cases e
      | some k =>
        cases e2 : keysW ws with
        | none => rw [e1, e2] at e; cases e
        | some kv =>
          rw [e1, e2] at e
          cases e
          exact .cons f.sq (elsW_rep t e1) (keysW_rep r e2)
    | _ => cases e
theorem okKeys_all {kv : List (List El)} {b : Bool} (h : okKeys kv b = true) : ∀ k ∈ kv, k ≠ [] ∧ ∀ e ∈ k, e.isLeft = b := fun k hk => by
  have := List.all_eq_true.mp h k hk
  rw [Bool.and_eq_true] at this
  obtain ⟨h1, h2⟩ := this
  refine ⟨fun z => (by rw [z] at h1; cases h1), fun e he => ?_⟩
  exact eq_of_beq (List.all_eq_true.mp h2 e he)
theorem ca_srtA : CaS X (rSrtA X.K) sortedA := by
  intro ρ δ S H ws vs Q E s r hp
  cases r with
  | nil => exact hp.elim
  | @cons w v ws vs r t =>
    cases t with
    | cons _ _ => exact hp.elim
    | nil =>
      simp only [sortedA] at hp
      cases e : seqW S w with
      | none => rw [e] at hp; exact hp.elim
      | some us =>
        simp only [e] at hp
        obtain ⟨p, vs, rfl, hq, t⟩ := seqW_rep s r e
        cases e2 : intsO us with
        | some ns =>
          rw [e2] at hp
          have ev := intsO_rep t e2
          subst ev
          exact .inl ⟨p, ns, rfl, hq, fun l hl => PostV.lst hp s (Reps.ints _) hl⟩
        | none =>
          simp only [e2] at hp
          cases e3 : keysW us with
          | none => rw [e3] at hp; exact hp.elim
          | some kv =>
            simp only [e3] at hp
            obtain ⟨hok, hp⟩ := PostV.if hp
            have kr := keysW_rep t e3
            obtain ⟨-, sr⟩ := sortG_reps (ks := ranks kv) t
            rcases hok with hok | hok
            · exact .inr ⟨p, vs, kv, true, rfl, hq, kr, okKeys_all hok, fun l hl => PostV.lst hp s sr hl⟩
            · exact .inr ⟨p, vs, kv, false, rfl, hq, kr, okKeys_all hok, fun l hl => PostV.lst hp s sr hl⟩
end
end Sm

set_option Elab.async false
set_option linter.all false
set_option maxRecDepth 100000
/-! a comprehension run from the left, its list built from the right: the same, but quicker to work out -/
namespace Sm
open PySem PySem.Spec PyProof.Rows L2
variable [TB]
def lcG (g : W → Env → Option Env) (tst : EM Bool) (el : EM W) (env0 : Env) : List W → Nat → M (List W)
  | [], _ => fun S => .val [] S
  | w :: ws, n => fun S => match g w env0 with
      | none => .bad
      | some env1 => match tst env1 S with
        | .val false S1 => lcG g tst el env0 ws n S1
        | .val true S1 => match el env1 S1 with
          | .val y S2 => if n ≤ lim then (match lcG g tst el env0 ws (n + 1) S2 with | .val ys S3 => .val (y :: ys) S3 | _ => .bad) else .bad
          | _ => .bad
        | _ => .bad
def lcR (acc : List W) (o : Out (List W)) : Out W := match o with | .val ys S => .val (.lst (acc ++ ys)) S | _ => .bad
theorem lcG_eq (g : W → Env → Option Env) (tst : EM Bool) (el : EM W) (env0 : Env) : ∀ (ws acc : List W) (S : Sto), lcL g tst el env0 ws acc S = lcR acc (lcG g tst el env0 ws acc.length S)
  | [], acc, S => by
    show Out.val (W.lst acc) S = lcR acc (.val [] S)
    unfold lcR
    simp
  | w :: ws, acc, S => by
    unfold lcL lcG
    cases g w env0 with
    | none => rfl
    | some env1 =>
      show (match tst env1 S with | .val false S1 => lcL g tst el env0 ws acc S1 | .val true S1 => (match el env1 S1 with | .val y S2 => if acc.length ≤ lim then lcL g tst el env0 ws (acc ++ [y]) S2 else .bad | _ => .bad) | _ => .bad) = lcR acc (match tst env1 S with | .val false S1 => lcG g tst el env0 ws acc.length S1 | .val true S1 => (match el env1 S1 with | .val y S2 => if acc.length ≤ lim then (match lcG g tst el env0 ws (acc.length + 1) S2 with | .val ys S3 => .val (y :: ys) S3 | _ => .bad) else .bad | _ => .bad) | _ => .bad)
      cases tst env1 S with
      | bad => rfl
      | exc e S1 => rfl
      | val b S1 =>
        cases b with
        | false => exact lcG_eq g tst el env0 ws acc S1
        | true =>
          show (match el env1 S1 with | .val y S2 => if acc.length ≤ lim then lcL g tst el env0 ws (acc ++ [y]) S2 else .bad | _ => .bad) = lcR acc (match el env1 S1 with | .val y S2 => if acc.length ≤ lim then (match lcG g tst el env0 ws (acc.length + 1) S2 with | .val ys S3 => .val (y :: ys) S3 | _ => .bad) else .bad | _ => .bad)
          cases el env1 S1 with
          | bad => rfl
          | exc e S2 => rfl
          | val y S2 =>
            show (if acc.length ≤ lim then lcL g tst el env0 ws (acc ++ [y]) S2 else .bad) = lcR acc (if acc.length ≤ lim then (match lcG g tst el env0 ws (acc.length + 1) S2 with | .val ys S3 => .val (y :: ys) S3 | _ => .bad) else .bad)
            by_cases h : acc.length ≤ lim
            · rw [if_pos h, if_pos h, lcG_eq g tst el env0 ws (acc ++ [y]) S2, List.length_append]
              show lcR (acc ++ [y]) (lcG g tst el env0 ws (acc.length + 1) S2) = _
              cases lcG g tst el env0 ws (acc.length + 1) S2 with
              | bad => rfl
              | exc e S3 => rfl
              | val ys S3 =>
                show Out.val (W.lst (acc ++ [y] ++ ys)) S3 = Out.val (W.lst (acc ++ (y :: ys))) S3
                rw [List.append_assoc]
                rfl
            · rw [if_neg h, if_neg h]
              rfl
def mLCf (own : List Nat) (mi : EM It8) (g : W → Env → Option Env) (tst : EM Bool) (el : EM W) : EM W := fun env => bnd (mi env) fun it => match it with
  | .seq ws => fun S => lcR [] (lcG g tst el (wipeE env own) ws 0 S)
  | it => fun S => lcF it g tst el (wipeE env own) (it.fuel S) 0 [] S
theorem mLC_f (own : List Nat) (mi : EM It8) (g : W → Env → Option Env) (tst : EM Bool) (el : EM W) : mLC own mi g tst el = mLCf own mi g tst el := by
  funext env
  unfold mLC mLCf
  congr 1
  funext it S
  cases it with
  | seq ws =>
    show lcF (.seq ws) g tst el (wipeE env own) (It8.fuel (.seq ws) S) 0 [] S = lcR [] (lcG g tst el (wipeE env own) ws 0 S)
    rw [fuel_seq, lcF_all, lcG_eq]
    rfl
  | _ => rfl
end Sm

set_option Elab.async false
set_option linter.all false
set_option maxRecDepth 100000
/-! a def under another global name; xs.index(k), xs.remove(k) of a box of ints; divmod -/
namespace Sm
open PySem PySem.Spec PyProof.Rows L2 LamX
variable [TB]
def DefA (K : Fr) (mg : Str → Option Value) (g x : Str) (st : Stmt) (ps : List Str) : Prop := ∃ (f : Addr) (fd : FuncData), Fun K x x st f fd ∧ mg g = some (.ref f) ∧ Binds K fd ps []
theorem sim_defA {P : Program} {w : World} {K : Fr} {mg : Str → Option Value} {base : Heap} {g x : Str} {ps : List Str} {k : Nat} {st : Stmt} {N : List Str} {m : SM} (D : DefA K mg g x st ps) (Sc : FnScope N ps (defScope st))
    (h : ∀ (f : Addr) (cdv : Value) (A : Around) (outer : List PySem.Env) (s : Shared) (H : Hp) (E : XK), Room k (A.deeper (envOfC x (defScope st) s.heap.objs.size f cdv)) →
      SimSs (cxOf (L2.CX P w) P w K mg base N x (defScope st) f cdv A outer s H E) (WE0 E) JTb (defBody st) m) : FnG P w K mg base (k + 1) g ps (runDef N.length m) := by
  obtain ⟨f, fd, F, g, b⟩ := D
  exact ⟨f, fd, sim_def F Sc (h f), g, F.kp, b⟩
theorem er_map {α β : Type} (f : α → β) : ∀ (l : List α) (j : Nat), (l.map f).eraseIdx j = (l.eraseIdx j).map f
  | [], _ => rfl
  | _ :: _, 0 => rfl
  | x :: l, j + 1 => by
    show f x :: (l.map f).eraseIdx j = f x :: (l.eraseIdx j).map f
    rw [er_map f l j]
/-- the first place of k -/
def posI (k : Int) : List Int → Option Nat
  | [] => none
  | x :: xs => if x = k then some 0 else (posI k xs).map (· + 1)
theorem posI_spec {k : Int} : ∀ {ns : List Int} {j : Nat}, posI k ns = some j → ns[j]? = some k ∧ ∀ m : Nat, m < j → ns[m]? ≠ some k
  | [], _, h => by cases h
  | x :: xs, j, h => by
    unfold posI at h
    by_cases e : x = k
    · rw [if_pos e] at h
      cases h
      subst e
      exact ⟨rfl, fun m hm => absurd hm (Nat.not_lt_zero m)⟩
    · rw [if_neg e] at h
      cases q : posI k xs with
      | none => rw [q] at h; cases h
      | some i =>
        rw [q] at h
        cases h
        obtain ⟨h1, h2⟩ := posI_spec q
        refine ⟨by simpa using h1, fun m hm => ?_⟩
        cases m with
        | zero => simp; exact e
        | succ m =>
          have hm : m + 1 < i + 1 := hm
          simpa using h2 m (by omega)
section
variable {X : Cx} {W0 : WX} {J : JI}
def indexW : W → List W → M W
  | .box n, [.int k] => fun S => match S[n]? with
    | some (.lst ws) => match (intsO ws).bind (posI k) with
      | some j => .val (.int (j : Nat)) S
      | none => .bad
    | _ => .bad
  | _, _ => bad
def removeW : W → List W → M W
  | .box n, [.int k] => fun S => match S[n]? with
    | some (.lst ws) => match (intsO ws).bind (posI k) with
      | some j => .val .non (S.set n (.lst (ws.eraseIdx j)))
      | none => .bad
    | _ => .bad
  | _, _ => bad
theorem eqV_int (i j : Int) : eqV (.int i) (.int j) = decide (i = j) := by
  first | rfl | simp [eqV] | (unfold eqV; simp)
theorem mt_indexA : MtS X (rIndex X.K) indexW := by
  intro ρ δ S H w v ws vs Q E s r rs hp
  cases r with
  | @box n a f hk =>
    cases rs with
    | nil => exact hp.elim
    | cons r1 rs => cases rs with
      | cons _ _ => cases r1 <;> exact hp.elim
      | nil => cases r1 with
        | @int i =>
          obtain ⟨xs, us, h1, h2, r'⟩ := s.lst f hk
          simp only [indexW, h1] at hp
          cases e1 : intsO xs with
          | none => simp only [e1, Option.bind_none] at hp; exact hp.elim
          | some ns =>
            cases e2 : posI i ns with
            | none => simp only [e1, Option.bind_some, e2] at hp; exact hp.elim
            | some j =>
              simp only [e1, Option.bind_some, e2] at hp
              have ev := intsO_rep r' e1
              subst ev
              obtain ⟨q1, q2⟩ := posI_spec e2
              refine ⟨a, ns.map V.int, .int i, j, .int i, rfl, rfl, .inl (.inl h2), rfl, ?_, by rw [List.getElem?_map, q1]; rfl, by rw [eqV_int]; simp, fun m z hm hz => ?_, PostV.here (v := .int _) hp s .int⟩
              · rw [List.all_eq_true]
                intro v hv
                obtain ⟨x, _, rfl⟩ := List.mem_map.mp hv
                rfl
              · rw [List.getElem?_map] at hz
                cases e3 : ns[m]? with
                | none => rw [e3] at hz; cases hz
                | some x =>
                  rw [e3] at hz
                  cases hz
                  rw [eqV_int]
                  exact decide_eq_false fun z => q2 m hm (by rw [e3, z])
        | _ => exact hp.elim
  | _ => cases rs with
    | nil => exact hp.elim
    | cons r1 rs => cases rs <;> cases r1 <;> exact hp.elim
theorem mt_removeA : MtS X rRemI removeW := by
  intro ρ δ S H w v ws vs Q E s r rs hp
  cases r with
  | @box n a f hk =>
    cases rs with
    | nil => exact hp.elim
    | cons r1 rs => cases rs with
      | cons _ _ => cases r1 <;> exact hp.elim
      | nil => cases r1 with
        | @int i =>
          obtain ⟨xs, us, h1, h2, r'⟩ := s.lst f hk
          simp only [removeW, h1] at hp
          cases e1 : intsO xs with
          | none => simp only [e1, Option.bind_none] at hp; exact hp.elim
          | some ns =>
            cases e2 : posI i ns with
            | none => simp only [e1, Option.bind_some, e2] at hp; exact hp.elim
            | some j =>
              simp only [e1, Option.bind_some, e2] at hp
              have ev := intsO_rep r' e1
              subst ev
              obtain ⟨q1, q2⟩ := posI_spec e2
              have er : (ns.map V.int).eraseIdx j = (ns.eraseIdx j).map V.int := er_map V.int ns j
              refine ⟨a, ns, i, j, rfl, rfl, h2, q1, q2, ?_⟩
              rw [← er]
              exact PostV.put hp s f hk (Reps.erase _ r') .non
        | _ => exact hp.elim
  | _ => cases rs with
    | nil => exact hp.elim
    | cons r1 rs => cases rs <;> cases r1 <;> exact hp.elim
section
variable {o e : Expr} {apos cpos : Pos} {mo : EM W} {ms : EM (List W)}
theorem sim_index (ho : SimE X W0 J o mo) (ha : SimA X W0 J [e] ms)
    (hbase : attributeBase o "index" X.env (eval o X.env) = eval o X.env := by rfl)
    (hfew : ((backTo cpos (starEach [e] X.env)).all (fun x => !x.1) && (backToKw cpos (keywordEach [] X.env)).all (fun x => x.1.isSome)
      && decide ([e].length + ([] : List Keyword).length + (if ([] : List Keyword).isEmpty then 0 else 1) < 30)) = true := by rfl)
    (hline : (apos.endLine == cpos.line) = true := by rfl) (hs : starEach [e] X.env = (false, eval e X.env) :: starEach [] X.env := by rfl) :
    SimE X W0 J (.Call (.Attribute o "index" apos) [e] [] cpos) (mMt indexW mo ms) :=
  sim_mt PySem.F.slot_list_index PySem.F.type_list_index mt_index mt_indexA ho ha hbase hfew hline hs rfl
theorem sim_remove (ho : SimE X W0 J o mo) (ha : SimA X W0 J [e] ms)
    (hbase : attributeBase o "remove" X.env (eval o X.env) = eval o X.env := by rfl)
    (hfew : ((backTo cpos (starEach [e] X.env)).all (fun x => !x.1) && (backToKw cpos (keywordEach [] X.env)).all (fun x => x.1.isSome)
      && decide ([e].length + ([] : List Keyword).length + (if ([] : List Keyword).isEmpty then 0 else 1) < 30)) = true := by rfl)
    (hline : (apos.endLine == cpos.line) = true := by rfl) (hs : starEach [e] X.env = (false, eval e X.env) :: starEach [] X.env := by rfl) :
    SimE X W0 J (.Call (.Attribute o "remove" apos) [e] [] cpos) (mMt removeW mo ms) :=
  sim_mt PySem.F.slot_list_remove PySem.F.type_list_remove mt_remove mt_removeA ho ha hbase hfew hline hs rfl
end
def rDm : List V → Hp → VK → Prop := fun xs H Q => ∃ i j, xs = [.int i, .int j] ∧ CDiv i j ∧ ∀ p, H p = none → Q (.ref p) (upd H p (.tup [.int (i / j), .int (i % j)]))
theorem cr_dm : CallR X (.builtin "divmod") rDm := call_divmod
def divmodW : List W → M W
  | [.int i, .int j] => fun S => if 0 < j ∧ j < 1073741824 then .val (.tup [.int (i / j), .int (i % j)]) S else .bad
  | _ => bad
theorem ca_dm : CaS X rDm divmodW := by
  intro ρ δ S H ws vs Q E s r hp
  unfold divmodW at hp
  split at hp
  · rename_i a b
    cases r with
    | cons r1 r =>
      cases r with
      | cons r2 r =>
        cases r
        cases r1
        cases r2
        obtain ⟨h, hp⟩ := PostV.if hp
        exact ⟨a, b, rfl, h, fun p np => PostV.tup hp s (.cons .int (.cons .int .nil)) np⟩
  · exact hp.elim
end
end Sm

set_option Elab.async false
set_option linter.all false
set_option maxRecDepth 100000
/-! a range that goes down by one -/
namespace Sm
open PySem PySem.Spec PyProof.Rows L2
variable [TB]
def rangeD (hi : Int) (n : Nat) : List W := (List.range n).map fun (i : Nat) => W.int (hi + (i : Int) * (-1))
theorem itR_dwn {K : Fr} {ρ δ : List Addr} {H : Hp} {lo : Int} {n : Nat} : ItR K δ ρ H (.seq (rangeD lo n)) (Itc lo (-1) n) := by
  intro i ρ' δ' S' H' l
  refine ⟨fun e => ?_, fun w e => ?_⟩
  · have e' : (rangeD lo n)[i]? = none := by simpa [It8.at] using e
    have := List.getElem?_eq_none_iff.mp e'
    show n ≤ i
    simpa [rangeD] using this
  · have e' : (rangeD lo n)[i]? = some w := by simpa [It8.at] using e
    have hl : i < n := by
      have := (List.getElem?_eq_some_iff.mp e').1
      simpa [rangeD] using this
    have ew : w = .int (lo + (i : Int) * (-1)) := by
      unfold rangeD at e'
      rw [List.getElem?_map, List.getElem?_range hl] at e'
      exact (Option.some.inj e').symm
    subst ew
    refine ⟨hl, fun x H'' y => ?_⟩
    obtain ⟨rfl, rfl⟩ := y
    exact ⟨Grow.refl _ _, l.s, .int, fun _ _ => rfl⟩
def itR3 : List W → M It8
  | [.int i, .int j, .int c] => fun S => if c = -1 ∧ (-big ≤ i ∧ i ≤ big) ∧ -big ≤ j ∧ j ≤ big then .val (.seq (rangeD i (i - j).toNat)) S else .bad
  | _ => bad
theorem itR3_val {i j : Int} (h1 : -big ≤ i) (h2 : i ≤ big) (h3 : -big ≤ j) (h4 : j ≤ big) (S : Sto) : itR3 [.int i, .int j, .int (-1)] S = .val (.seq (rangeD i (i - j).toNat)) S := if_pos ⟨rfl, ⟨h1, h2⟩, h3, h4⟩
section
variable {X : Cx} {W0 : WX} {J : JI} {tg e a b c : Expr} {pos p : Pos}
theorem itR3_inv {ws : List W} {S : Sto} {X : Cx} {ρ1 δ : List Addr} {H1 : Hp} {R : It → Hp → Prop} {E : XK} (h : Post X.mg X.K ρ1 δ H1 (ItR X.K δ) R E (itR3 ws S)) :
    ∃ i j : Int, ws = [.int i, .int j, .int (-1)] ∧ (-big ≤ i ∧ i ≤ big) ∧ (-big ≤ j ∧ j ≤ big) ∧ Post X.mg X.K ρ1 δ H1 (ItR X.K δ) R E (.val (.seq (rangeD i (i - j).toNat)) S) := by
  unfold itR3 at h
  split at h
  · rename_i i j c
    by_cases hc : c = -1 ∧ (-big ≤ i ∧ i ≤ big) ∧ -big ≤ j ∧ j ≤ big
    · rw [if_pos hc] at h
      obtain ⟨rfl, h1, h2⟩ := hc
      exact ⟨i, j, rfl, h1, h2, h⟩
    · rw [if_neg hc] at h
      exact h.elim
  · exact h.elim
theorem simi_r3 {ms : EM (List W)} (hg : Gl X "range") (hm : X.mg "range" = none) (ha : SimA X W0 J [a, b, c] ms) (hs : starEach [a, b, c] X.env = (false, eval a X.env) :: starEach [b, c] X.env := by rfl) (hpl : (backTo pos (starEach [b, c] X.env)).any (·.1) = false := by rfl) : SimI X W0 J tg (.Call (.Name "range" p) [a, b, c] [] pos) (mIa itR3 ms) := by
  obtain ⟨t, pa, k⟩ := ha
  refine ⟨_, pi_range3 hg hm pa hs hpl, fun ρ δ S H env σ R he hs hj hp => ?_⟩
  refine k _ _ S _ env σ _ he hs hj (Post.bind hp fun x S1 ρ1 v H1 _ g1 s1 r1 hp1 => ?_)
  obtain ⟨i, j, rfl, ⟨h1, h2⟩, ⟨h3, h4⟩, hp1⟩ := itR3_inv hp1
  cases r1 with
  | cons r r1 =>
    cases r1 with
    | cons r' r1 =>
      cases r1 with
      | cons r'' r1 =>
        cases r1
        cases r
        cases r'
        cases r''
        unfold big at h1 h2 h3 h4
        exact ⟨i, j, -1, _, rfl, RgC.neg (by omega) (by omega) (by omega) (by omega), hp1 ρ1 _ H1 (Grow.refl _ _) s1 itR_dwn⟩
end
end Sm

set_option Elab.async false
set_option linter.all false
set_option maxRecDepth 100000
/-! loops: what is put behind a list, the first that is found, a state that goes on -/
namespace Sm
open PySem PySem.Spec PyProof.Rows L2 LamX
variable [TB]
theorem loop_nx {g : W → Env → Option Env} {body : SM} {w : W} {ws : List W} {env env1 env2 : Env} {S S2 : Sto} (hg : g w env = some env1) (hb : body env1 S = .nx env2 S2) : loopL g body (w :: ws) env S = loopL g body ws env2 S2 := by
  rw [loopL_cons, hg]; simp only; rw [hb]
theorem loop_rt {g : W → Env → Option Env} {body : SM} {w v : W} {ws : List W} {env env1 : Env} {S S2 : Sto} (hg : g w env = some env1) (hb : body env1 S = .rt v S2) : loopL g body (w :: ws) env S = .rt v S2 := by
  rw [loopL_cons, hg]; simp only; rw [hb]
/-- each turn puts mk w behind the list in the box n, N at the most -/
theorem loop_app {g : W → Env → Option Env} {body : SM} {P : Env → Prop} {n : Nat} {mk : W → List W} {N : Nat} {S : Sto} : ∀ (ws acc : List W),
    (∀ w ∈ ws, ∀ env acc, P env → acc.length + N ≤ 1000 → ∃ env1, g w env = some env1 ∧ ∃ env2, body env1 (S.set n (.lst acc)) = .nx env2 (S.set n (.lst (acc ++ mk w))) ∧ P env2) →
    (∀ w ∈ ws, (mk w).length ≤ N) → acc.length + N * ws.length ≤ 1000 → ∀ env, P env →
    ∃ env', loopL g body ws env (S.set n (.lst acc)) = .nx env' (S.set n (.lst (acc ++ ws.flatMap mk))) ∧ P env'
  | [], acc, _, _, _, env, hp => ⟨env, by simp [loopL_nil], hp⟩
  | w :: ws, acc, hs, hn, hl, env, hp => by
    have hlw : N * (ws.length + 1) = N * ws.length + N := Nat.mul_succ N ws.length
    simp only [List.length_cons] at hl
    rw [hlw] at hl
    obtain ⟨env1, e1, env2, e2, hp2⟩ := hs w List.mem_cons_self env acc hp (by omega)
    have hm := hn w List.mem_cons_self
    obtain ⟨env', e3, hp3⟩ := loop_app ws (acc ++ mk w) (fun u hu => hs u (List.mem_cons_of_mem _ hu)) (fun u hu => hn u (List.mem_cons_of_mem _ hu)) (by rw [List.length_append]; omega) env2 hp2
    refine ⟨env', ?_, hp3⟩
    rw [loop_nx e1 e2, e3, List.flatMap_cons, List.append_assoc]
/-- the first that is found is returned -/
theorem loop_find {g : W → Env → Option Env} {body : SM} {P : Env → Prop} {f : W → Option W} {S : Sto} : ∀ (ws : List W),
    (∀ w ∈ ws, ∀ env, P env → ∃ env1, g w env = some env1 ∧ (match f w with | some v => body env1 S = .rt v S | none => ∃ env2, body env1 S = .nx env2 S ∧ P env2)) →
    ∀ env, P env → (match ws.findSome? f with | some v => loopL g body ws env S = .rt v S | none => ∃ env', loopL g body ws env S = .nx env' S ∧ P env')
  | [], _, env, hp => ⟨env, rfl, hp⟩
  | w :: ws, hs, env, hp => by
    obtain ⟨env1, e1, h⟩ := hs w List.mem_cons_self env hp
    rw [List.findSome?_cons]
    cases hf : f w with
    | some v =>
      rw [hf] at h
      exact loop_rt e1 h
    | none =>
      rw [hf] at h
      obtain ⟨env2, e2, hp2⟩ := h
      have ih := loop_find ws (fun u hu => hs u (List.mem_cons_of_mem _ hu)) env2 hp2
      rw [loop_nx e1 e2]
      exact ih
/-- a state that goes on by f -/
theorem loop_fold {σ : Type} {g : W → Env → Option Env} {body : SM} {P : σ → Env → Sto → Prop} {f : σ → W → σ} : ∀ (ws : List W) (s : σ),
    (∀ w ∈ ws, ∀ s env S, P s env S → ∃ env1, g w env = some env1 ∧ ∃ env2 S2, (body env1 S = .nx env2 S2 ∨ body env1 S = .ct env2 S2) ∧ P (f s w) env2 S2) →
    ∀ env S, P s env S → ∃ env' S', loopL g body ws env S = .nx env' S' ∧ P (ws.foldl f s) env' S'
  | [], s, _, env, S, hp => ⟨env, S, rfl, hp⟩
  | w :: ws, s, hs, env, S, hp => by
    obtain ⟨env1, e1, env2, S2, e2, hp2⟩ := hs w List.mem_cons_self s env S hp
    obtain ⟨env', S', e3, hp3⟩ := loop_fold ws (f s w) (fun u hu => hs u (List.mem_cons_of_mem _ hu)) env2 S2 hp2
    refine ⟨env', S', ?_, hp3⟩
    rw [loopL_cons, e1]
    simp only
    rcases e2 with e2 | e2
    · rw [e2]; exact e3
    · rw [e2]; exact e3
theorem forI_eq {g : W → Env → Option Env} {body : SM} {mi : EM It8} {ws : List W} {env : Env} {S S' : Sto} (h : mi env S = .val (.seq ws) S') : sFor mi g body env S = loopL g body ws env S' := by
  generalize hb : body = b
  unfold sFor
  rw [h, ofI_val, fuel_seq, loopF_all]
theorem run_rt {n : Nat} {m : SM} {ws : List W} {S S' : Sto} {v : W} (h : m (ws.map some ++ List.replicate (n - ws.length) none) S = .rt v S') : runDef n m ws S = .val v S' := by
  unfold runDef
  rw [h]
  rfl
theorem run_xc {n : Nat} {m : SM} {ws : List W} {S S' : Sto} {e : Exn} {env : Env} (h : m (ws.map some ++ List.replicate (n - ws.length) none) S = .xc e env S') : runDef n m ws S = .exc e S' := by
  unfold runDef
  rw [h]
  rfl
theorem seq_rt {a b : SM} {env : Env} {S S1 : Sto} {v : W} (h : a env S = .rt v S1) : sSeq a b env S = .rt v S1 := by
  unfold sSeq; rw [h]; rfl
theorem seq_xc {a b : SM} {env env1 : Env} {S S1 : Sto} {e : Exn} (h : a env S = .xc e env1 S1) : sSeq a b env S = .xc e env1 S1 := by
  unfold sSeq; rw [h]; rfl
theorem ret_eq {m : EM W} {env : Env} {S S1 : Sto} {w : W} (h : m env S = .val w S1) : sRet m env S = .rt w S1 := by
  unfold sRet; rw [h]; rfl
theorem call1e {f : List W → M W} {a : EM W} {env : Env} {S S1 : Sto} {w : W} {r : Out W} (ha : a env S = .val w S1) (h : f [w] S1 = r) : mCa (cal 1 f) (mCons a (mNil)) env S = r := by
  generalize hf : f = f' at *
  simp [ha, h]
theorem call2e {f : List W → M W} {a b : EM W} {env : Env} {S S1 S2 : Sto} {w u : W} {r : Out W} (ha : a env S = .val w S1) (hb : b env S1 = .val u S2) (h : f [w, u] S2 = r) : mCa (cal 2 f) (mCons a (mCons b (mNil))) env S = r := by
  generalize hf : f = f' at *
  simp [ha, hb, h]
theorem call3e {f : List W → M W} {a b c : EM W} {env : Env} {S S1 S2 S3 : Sto} {w u x : W} {r : Out W} (ha : a env S = .val w S1) (hb : b env S1 = .val u S2) (hc : c env S2 = .val x S3) (h : f [w, u, x] S3 = r) : mCa (cal 3 f) (mCons a (mCons b (mCons c (mNil)))) env S = r := by
  generalize hf : f = f' at *
  simp [ha, hb, hc, h]
end Sm
namespace Sm
open PySem PySem.Spec PyProof.Rows L2 LamX
variable [TB]
/-- a search over what a box holds, which stays -/
theorem loopF_find_bx {g : W → Env → Option Env} {body : SM} {P : Env → Prop} {f : W → Option W} {S : Sto} {n : Nat} {ws : List W} (hS : S[n]? = some (.lst ws))
    (hs : ∀ w ∈ ws, ∀ env, P env → ∃ env1, g w env = some env1 ∧ (match f w with | some v => body env1 S = .rt v S | none => ∃ env2, body env1 S = .nx env2 S ∧ P env2)) :
    ∀ (k i : Nat), i + k = ws.length → ∀ env, P env → (match (ws.drop i).findSome? f with | some v => loopF (.bx n) g body (k + 1) i env S = .rt v S | none => ∃ env', loopF (.bx n) g body (k + 1) i env S = .nx env' S ∧ P env')
  | 0, i, h, env, hp => by
    have e : ws.drop i = [] := List.drop_eq_nil_of_le (by omega)
    have e2 : ws[i]? = none := List.getElem?_eq_none (by omega)
    rw [e]
    refine ⟨env, ?_, hp⟩
    unfold loopF
    simp only [It8.at, hS, e2]
  | k + 1, i, h, env, hp => by
    have hi : i < ws.length := by omega
    have e : ws.drop i = ws[i] :: ws.drop (i + 1) := List.drop_eq_getElem_cons hi
    have e2 : ws[i]? = some ws[i] := List.getElem?_eq_getElem hi
    obtain ⟨env1, e1, h1⟩ := hs ws[i] (List.getElem_mem hi) env hp
    rw [e, List.findSome?_cons]
    cases hf : f ws[i] with
    | some v =>
      rw [hf] at h1
      show loopF (.bx n) g body (k + 1 + 1) i env S = .rt v S
      rw [loopF.eq_def]
      simp only [It8.at, hS, e2, e1]
      rw [h1]
    | none =>
      rw [hf] at h1
      obtain ⟨env2, e3, hp2⟩ := h1
      have ih := loopF_find_bx hS hs k (i + 1) (by omega) env2 hp2
      have es : loopF (.bx n) g body (k + 1 + 1) i env S = loopF (.bx n) g body (k + 1) (i + 1) env2 S := by
        rw [loopF.eq_def]
        simp only [It8.at, hS, e2, e1]
        rw [e3]
      rw [es]
      exact ih
theorem for_find_bx {g : W → Env → Option Env} {body : SM} {P : Env → Prop} {f : W → Option W} {S : Sto} {n j : Nat} {ws : List W} {env : Env} (hS : S[n]? = some (.lst ws)) (hj : env[j]? = some (some (.box n)))
    (hs : ∀ w ∈ ws, ∀ env, P env → ∃ env1, g w env = some env1 ∧ (match f w with | some v => body env1 S = .rt v S | none => ∃ env2, body env1 S = .nx env2 S ∧ P env2)) (hp : P env) :
    (match ws.findSome? f with | some v => sFor (mI itSeq (mV j)) g body env S = .rt v S | none => ∃ env', sFor (mI itSeq (mV j)) g body env S = .nx env' S ∧ P env') := by
  have h := loopF_find_bx hS hs ws.length 0 (by omega) env hp
  have e : sFor (mI itSeq (mV j)) g body env S = loopF (.bx n) g body (ws.length + 1) 0 env S := by
    generalize hb : body = b at *
    simp [hj, It8.fuel, hS]
  rw [e]
  exact h
theorem find_some {α β : Type} {f : α → Option β} {l : List α} : (l.findSome? f).isSome = true ↔ ∃ x ∈ l, (f x).isSome = true := by
  rw [List.isSome_findSome?, List.any_eq_true]
end Sm
namespace Sm
open PySem PySem.Spec PyProof.Rows L2 LamX
variable [TB]
/-- a loop over the first m of a row F -/
theorem loop_upto {g : W → Env → Option Env} {body : SM} {F : Nat → W} (P : Nat → Env → Sto → Prop) {m : Nat}
    (hs : ∀ k, k < m → ∀ env S, P k env S → ∃ env1, g (F k) env = some env1 ∧ ∃ env2 S2, body env1 S = .nx env2 S2 ∧ P (k + 1) env2 S2) :
    ∀ env S, P 0 env S → ∃ env' S', loopL g body ((List.range m).map F) env S = .nx env' S' ∧ P m env' S' := by
  have key : ∀ (n lo : Nat), lo + n = m → ∀ env S, P lo env S → ∃ env' S', loopL g body ((List.range' lo n).map F) env S = .nx env' S' ∧ P m env' S' := by
    intro n
    induction n with
    | zero =>
      intro lo h env S hp
      have : lo = m := by omega
      subst this
      exact ⟨env, S, rfl, hp⟩
    | succ n ih =>
      intro lo h env S hp
      obtain ⟨env1, e1, env2, S2, e2, hp2⟩ := hs lo (by omega) env S hp
      obtain ⟨env', S', e3, hp3⟩ := ih (lo + 1) (by omega) env2 S2 hp2
      refine ⟨env', S', ?_, hp3⟩
      rw [List.range'_succ, List.map_cons, loop_nx e1 e2, e3]
  intro env S hp
  rw [List.range_eq_range']
  exact key m 0 (by omega) env S hp
end Sm
namespace Sm
open PySem PySem.Spec PyProof.Rows L2 LamX
variable [TB]
theorem m2_val {f : W → W → M W} {a b : EM W} {x y : W} {env : Sm.Env} {S S1 S2 : Sto} {r : Out W} (ha : a env S = .val x S1) (hb : b env S1 = .val y S2) (h : f x y S2 = r) : m2 f a b env S = r := by
  simp [ha, hb, h]
theorem not_skip {E : EM W} {env : Sm.Env} {S S1 : Sto} {r : SM} (h : E env S = .val (.bl true) S1) : (sIf (mNotT (mB E)) r (sNil)) env S = .nx env S1 := by
  simp [h]
theorem allm {α : Type} {l : List α} {f : α → Bool} (h : l.all f = true) {x : α} (hx : x ∈ l) : f x = true := List.all_eq_true.mp h x hx
theorem eqb_str {s : Str} (h : PyData.strOk s = true) : eqB (.str s) (.str s) = some true := by
  simp [eqB, toD, SeqAt.shaped, PyData.eqv, PyData.canLay0, PyData.depth, h]
theorem ne_str {s : Str} (h : PyData.strOk s = true) (S : Sto) : neW (.str s) (.str s) S = .val (.bl false) S := by
  simp [neW, eqb_str h]
theorem eq_str {s : Str} (h : PyData.strOk s = true) (S : Sto) : eqW (.str s) (.str s) S = .val (.bl true) S := by
  simp [eqW, eqb_str h]
end Sm

set_option Elab.async false
set_option linter.all false
set_option maxRecDepth 100000
/-! is, is not with True or False -/
namespace Sm
open PySem PySem.Spec PyProof.Rows L2 LamX
variable [TB]
variable {X : Cx}
def isBW : W → W → M W
  | .bl a, .bl b => fun S => .val (.bl (decide (a = b))) S
  | _, _ => bad
def notBW : W → W → M W
  | .bl a, .bl b => fun S => .val (.bl (!decide (a = b))) S
  | _, _ => bad
@[simp] theorem isBW_bl (a b : Bool) (S : Sto) : isBW (.bl a) (.bl b) S = .val (.bl (decide (a = b))) S := rfl
@[simp] theorem notBW_bl (a b : Bool) (S : Sto) : notBW (.bl a) (.bl b) S = .val (.bl (!decide (a = b))) S := rfl
theorem os_isB : OpS X rIsB isBW := by
  intro ρ δ S H x y v u Q E s rx ry hp
  cases rx with
  | @bl a =>
    cases ry with
    | @bl b => exact ⟨a, b, rfl, rfl, PostV.here (v := .bl _) hp s .bl⟩
    | _ => exact hp.elim
  | _ => cases ry <;> exact hp.elim
theorem os_notB : OpS X rNotB notBW := by
  intro ρ δ S H x y v u Q E s rx ry hp
  cases rx with
  | @bl a =>
    cases ry with
    | @bl b => exact ⟨a, b, rfl, rfl, PostV.here (v := .bl _) hp s .bl⟩
    | _ => exact hp.elim
  | _ => cases ry <;> exact hp.elim
end Sm

set_option Elab.async false
set_option linter.all false
set_option maxRecDepth 100000
/-! a comprehension into a box, of pure elements; rows put behind one another -/
namespace Sm
open PySem PySem.Spec PyProof.Rows L2 LamX
variable [TB]
theorem lcI_pure {g : W → Env → Option Env} {tst : EM Bool} {el : EM W} {env0 : Env} {n : Nat} {S0 : Sto} (c : W → Bool) (f : W → W) {ws : List W}
    (h : ∀ w ∈ ws, ∀ acc : List W, ∃ env1, g w env0 = some env1 ∧ tst env1 (S0 ++ [.lst acc]) = .val (c w) (S0 ++ [.lst acc]) ∧ (c w = true → el env1 (S0 ++ [.lst acc]) = .val (f w) (S0 ++ [.lst acc]))) (hn : n = S0.length) :
    ∀ (k i : Nat) (acc : List W), i + k = ws.length → acc.length + k ≤ 1000 → lcI (.seq ws) g tst el n env0 (k + 1) i (S0 ++ [.lst acc]) = .val () (S0 ++ [.lst (acc ++ ((ws.drop i).filter c).map f)])
  | 0, i, acc, hi, _ => by
    have e : ws.drop i = [] := List.drop_eq_nil_of_le (by omega)
    have e2 : ws[i]? = none := List.getElem?_eq_none (by omega)
    rw [e]
    simp [lcI, It8.at, e2]
  | k + 1, i, acc, hi, hl => by
    have hi' : i < ws.length := by omega
    have e : ws.drop i = ws[i] :: ws.drop (i + 1) := List.drop_eq_getElem_cons hi'
    have e2 : ws[i]? = some ws[i] := List.getElem?_eq_getElem hi'
    obtain ⟨env1, e1, e3, e4⟩ := h ws[i] (List.getElem_mem hi') acc
    rw [e]
    rw [lcI.eq_def]
    simp only [It8.at, e2, e1, e3]
    by_cases hc : c ws[i] = true
    · have ih := lcI_pure c f h hn k (i + 1) (acc ++ [f ws[i]]) (by omega) (by simp; omega)
      have e5 : (S0 ++ [Cell.lst acc])[n]? = some (.lst acc) := by rw [hn]; simp
      have e6 : (S0 ++ [Cell.lst acc]).set n (.lst (acc ++ [f ws[i]])) = S0 ++ [Cell.lst (acc ++ [f ws[i]])] := by rw [hn]; simp
      simp only [hc, e4 hc, e5]
      rw [if_pos (by unfold lim; omega), e6, ih, List.filter_cons, if_pos hc, List.map_cons, List.append_assoc]
      rfl
    · have hc' : c ws[i] = false := by simpa using hc
      have ih := lcI_pure c f h hn k (i + 1) acc (by omega) (by omega)
      simp only [hc', ih]
      rw [List.filter_cons, if_neg hc]
theorem mLCB_pure {own : List Nat} {mi : EM It8} {g : W → Env → Option Env} {tst : EM Bool} {el : EM W} {env env0 : Env} {S : Sto} {ws : List W} (c : W → Bool) (f : W → W) (hm : mi env S = .val (.seq ws) S) (hw : wipeE env own = env0) (hl : ws.length ≤ 1000)
    (h : ∀ w ∈ ws, ∀ acc : List W, ∃ env1, g w env0 = some env1 ∧ tst env1 (S ++ [.lst acc]) = .val (c w) (S ++ [.lst acc]) ∧ (c w = true → el env1 (S ++ [.lst acc]) = .val (f w) (S ++ [.lst acc]))) :
    mLCB own mi g tst el env S = .val (.box S.length) (S ++ [.lst ((ws.filter c).map f)]) := by
  have e := lcI_pure (S0 := S) c f h rfl ws.length 0 [] (by omega) (by simpa using hl)
  unfold mLCB
  show (mi env S).bind _ = _
  rw [hm, bind_val, hw]
  show (match lcI (.seq ws) g tst el S.length env0 (ws.length + 1) 0 (S ++ [.lst []]) with
  | .val _ S1 => Out.val (W.box S.length) S1
  | _ => .bad) = _
  rw [e]
  simp
theorem mLC_pure {own : List Nat} {mi : EM It8} {g : W → Env → Option Env} {tst : EM Bool} {el : EM W} {env env0 : Env} {S : Sto} {ws : List W} (c : W → Bool) (f : W → W) (hm : mi env S = .val (.seq ws) S) (hw : wipeE env own = env0) (hl : ws.length ≤ 1000)
    (h : ∀ w ∈ ws, ∃ env1, g w env0 = some env1 ∧ tst env1 S = .val (c w) S ∧ (c w = true → el env1 S = .val (f w) S)) :
    mLC own mi g tst el env S = .val (.lst ((ws.filter c).map f)) S := by
  have e := lcL_pure (S := S) c f ws [] (by simpa using hl) h
  have : mLC own mi g tst el env S = lcL g tst el env0 ws [] S := by
    rw [← hw]
    unfold mLC
    show (mi env S).bind _ = _
    rw [hm, bind_val]
    exact lcF_all g tst el (wipeE env own) ws S
  rw [this, e]
  simp
theorem mLC_map {own : List Nat} {mi : EM It8} {g : W → Env → Option Env} {el : EM W} {env env0 : Env} {S : Sto} {ws : List W} (f : W → W) (hm : mi env S = .val (.seq ws) S) (hw : wipeE env own = env0) (hl : ws.length ≤ 1000)
    (h : ∀ w ∈ ws, ∃ env1, g w env0 = some env1 ∧ el env1 S = .val (f w) S) :
    mLC own mi g mYes el env S = .val (.lst (ws.map f)) S := by
  have e := lcL_map (S := S) f ws hl h
  have : mLC own mi g mYes el env S = lcL g mYes el env0 ws [] S := by
    rw [← hw]
    unfold mLC
    show (mi env S).bind _ = _
    rw [hm, bind_val]
    exact lcF_all g mYes el (wipeE env own) ws S
  rw [this, e]
theorem sif_t {t : EM Bool} {a b : SM} {env : Env} {S S1 : Sto} (h : t env S = .val true S1) : sIf t a b env S = a env S1 := by
  simp [h]
theorem sif_f {t : EM Bool} {a b : SM} {env : Env} {S S1 : Sto} (h : t env S = .val false S1) : sIf t a b env S = b env S1 := by
  simp [h]
theorem expr_eq {m : EM W} {env : Env} {S S1 : Sto} {w : W} (h : m env S = .val w S1) : sExpr m env S = .nx env S1 := by
  simp [h]
/-- two things the one after another as a test -/
theorem and_t {a b : EM Bool} {env : Env} {S S1 S2 : Sto} {r : Bool} (h : a env S = .val true S1) (h2 : b env S1 = .val r S2) : mAndT a b env S = .val r S2 := by
  simp [h, h2]
theorem and_f {a b : EM Bool} {env : Env} {S S1 : Sto} (h : a env S = .val false S1) : mAndT a b env S = .val false S1 := by
  simp [h]
theorem or_t {a b : EM Bool} {env : Env} {S S1 : Sto} (h : a env S = .val true S1) : mOrT a b env S = .val true S1 := by
  simp [h]
theorem or_f {a b : EM Bool} {env : Env} {S S1 S2 : Sto} {r : Bool} (h : a env S = .val false S1) (h2 : b env S1 = .val r S2) : mOrT a b env S = .val r S2 := by
  simp [h, h2]
theorem mB_val {a : EM W} {env : Env} {S S1 : Sto} {b : Bool} (h : a env S = .val (.bl b) S1) : mB a env S = .val b S1 := by
  simp [h]
theorem not_val {a : EM Bool} {env : Env} {S S1 : Sto} {b : Bool} (h : a env S = .val b S1) : mNotT a env S = .val (!b) S1 := by
  simp [h]
theorem range1 {ms : EM (List W)} {env : Env} {S : Sto} {m : Nat} (hm : m ≤ 1000) (h : ms env S = .val [.int (m : Int)] S) : mIa itR1 ms env S = .val (.seq (rangeW 0 m)) S := mIa_is h (itR1_nat hm S)
theorem range2 {ms : EM (List W)} {env : Env} {S : Sto} {k m : Nat} (hm : m ≤ 1000) (hk : k ≤ m) (h : ms env S = .val [.int (k : Int), .int (m : Int)] S) : mIa itR2 ms env S = .val (.seq (rangeW (k : Int) (m - k))) S := mIa_is h (itR2_nat hm hk S)
theorem range_all (m : Nat) : rangeW 0 m = (List.range m).map fun (k : Nat) => W.int (k : Int) := by
  unfold rangeW
  apply List.map_congr_left
  intro k _
  simp
/-- each turn puts mk w behind a list that a slot has -/
theorem loop_lst {g : W → Env → Option Env} {body : SM} {P : List W → Env → Prop} {mk : W → List W} {N B : Nat} {S : Sto} : ∀ (ws acc : List W),
    (∀ w ∈ ws, ∀ env acc, P acc env → acc.length + N ≤ B → ∃ env1, g w env = some env1 ∧ ∃ env2, body env1 S = .nx env2 S ∧ P (acc ++ mk w) env2) →
    (∀ w ∈ ws, (mk w).length ≤ N) → acc.length + N * ws.length ≤ B → ∀ env, P acc env →
    ∃ env', loopL g body ws env S = .nx env' S ∧ P (acc ++ ws.flatMap mk) env'
  | [], acc, _, _, _, env, hp => ⟨env, rfl, by simpa using hp⟩
  | w :: ws, acc, hs, hn, hl, env, hp => by
    have hlw : N * (ws.length + 1) = N * ws.length + N := Nat.mul_succ N ws.length
    simp only [List.length_cons] at hl
    rw [hlw] at hl
    obtain ⟨env1, e1, env2, e2, hp2⟩ := hs w List.mem_cons_self env acc hp (by omega)
    have hm := hn w List.mem_cons_self
    obtain ⟨env', e3, hp3⟩ := loop_lst ws (acc ++ mk w) (fun u hu => hs u (List.mem_cons_of_mem _ hu)) (fun u hu => hn u (List.mem_cons_of_mem _ hu)) (by rw [List.length_append]; omega) env2 hp2
    refine ⟨env', by rw [loop_nx e1 e2, e3], ?_⟩
    rw [List.flatMap_cons, ← List.append_assoc]
    exact hp3
theorem sif_skip {t : EM Bool} {a : SM} {env : Env} {S S1 : Sto} (h : t env S = .val false S1) : sIf t a (sNil) env S = .nx env S1 := by
  simp [h]
end Sm

set_option Elab.async false
set_option linter.all false
set_option maxRecDepth 100000
/-! x or y, x and y of any values, by their truth; a comprehension whose test changes the store -/
namespace Sm
open PySem PySem.Spec PyProof.Rows L2 LamX
variable [TB]
def mOrG (ma mb : EM W) : EM W := fun env => bnd (ma env) fun x => bnd (toT x) fun k => if k = true then ret x else mb env
def mAndG (ma mb : EM W) : EM W := fun env => bnd (ma env) fun x => bnd (toT x) fun k => if k = true then mb env else ret x
theorem toT_same {x : W} {S S' : Sto} {b : Bool} (h : toT x S = .val b S') : S' = S := by
  unfold toT at h
  cases x <;> simp only [] at h <;> first
    | (cases h; rfl)
    | (split at h <;> (cases h; try rfl))
theorem toT_exc {x : W} {S S' : Sto} {e : Exn} (h : toT x S = .exc e S') : False := by
  unfold toT at h
  cases x <;> simp only [] at h <;> first
    | cases h
    | (split at h <;> cases h)
section
variable {X : Cx} {W0 : WX} {J : JI} {a b : Expr} {ma mb : EM W} {rest : List Expr} {pos : Pos}
theorem truth_of {ρ δ : List Addr} {H : Hp} {S : Sto} {x : W} {v : V} {k : Bool} (s : Sts X.K ρ δ S H) (r : Rep X.K ρ δ H x v) (e : toT x S = .val k S) : TruV X.K v H k := by
  have h : Post X.mg X.K ρ δ H RB (fun b _ => b = k) (fun _ _ _ => False) (toT x S) := by
    rw [e]
    intro ρ' b H' _ _ q
    exact q.symm
  obtain ⟨k', t, q⟩ := Post.toT h s r
  subst q
  exact t
theorem sim_orG (ha : SimE X W0 J a ma) (hb : SimE X W0 J (.BoolOp .Or (b :: rest) pos) mb) : SimE X W0 J (.BoolOp .Or (a :: b :: rest) pos) (mOrG ma mb) := by
  obtain ⟨ta, pa, ka⟩ := ha
  obtain ⟨tb, pb, kb⟩ := hb
  refine ⟨_, pe_orT pa pb, fun ρ δ S H env σ Q he hs hj hp => ?_⟩
  refine ka _ _ S _ env σ _ he hs hj (Post.bind hp fun x S1 ρ1 v H1 _ g1 s1 r1 hp1 => ?_)
  cases e : toT x S1 with
  | bad =>
    simp only [bnd, Out.bind, e] at hp1
    exact hp1.elim
  | exc z S' => exact (toT_exc e).elim
  | val k S' =>
    have := toT_same e
    subst this
    simp only [bnd, Out.bind, e] at hp1
    refine ⟨k, truth_of s1 r1 e, ?_⟩
    cases k with
    | true => exact iteT (PostV.here hp1 s1 r1)
    | false => exact iteF (kb _ _ S' _ env σ _ (he.grow g1) s1 (J.st _ _ _ _ g1 hj) hp1)
theorem sim_andG (ha : SimE X W0 J a ma) (hb : SimE X W0 J (.BoolOp .And (b :: rest) pos) mb) : SimE X W0 J (.BoolOp .And (a :: b :: rest) pos) (mAndG ma mb) := by
  obtain ⟨ta, pa, ka⟩ := ha
  obtain ⟨tb, pb, kb⟩ := hb
  refine ⟨_, pe_andT pa pb, fun ρ δ S H env σ Q he hs hj hp => ?_⟩
  refine ka _ _ S _ env σ _ he hs hj (Post.bind hp fun x S1 ρ1 v H1 _ g1 s1 r1 hp1 => ?_)
  cases e : toT x S1 with
  | bad =>
    simp only [bnd, Out.bind, e] at hp1
    exact hp1.elim
  | exc z S' => exact (toT_exc e).elim
  | val k S' =>
    have := toT_same e
    subst this
    simp only [bnd, Out.bind, e] at hp1
    refine ⟨k, truth_of s1 r1 e, ?_⟩
    cases k with
    | true => exact iteT (kb _ _ S' _ env σ _ (he.grow g1) s1 (J.st _ _ _ _ g1 hj) hp1)
    | false => exact iteF (PostV.here hp1 s1 r1)
end
/-- a comprehension whose test draws: what is kept is some sublist -/
theorem lcL_sub {g : W → Env → Option Env} {tst : EM Bool} {el : EM W} {env0 : Env} {Q : Sto → Prop} {ws0 : List W} (hs : ∀ w ∈ ws0, ∀ S, Q S → ∃ env1 b S1, g w env0 = some env1 ∧ tst env1 S = .val b S1 ∧ Q S1 ∧ (b = true → el env1 S1 = .val w S1)) :
    ∀ (ws acc : List W) (S : Sto), (∀ w ∈ ws, w ∈ ws0) → acc.length + ws.length ≤ 1000 → Q S → ∃ out S1, lcL g tst el env0 ws acc S = .val (.lst (acc ++ out)) S1 ∧ Q S1 ∧ out.Sublist ws
  | [], acc, S, _, _, h => ⟨[], S, by simp [lcL], h, .slnil⟩
  | w :: ws, acc, S, hm, hl, h => by
    obtain ⟨env1, b, S1, e1, e2, h1, e3⟩ := hs w (hm w List.mem_cons_self) S h
    simp only [List.length_cons] at hl
    cases b with
    | false =>
      obtain ⟨out, S2, e4, h2, s2⟩ := lcL_sub hs ws acc S1 (fun u hu => hm u (List.mem_cons_of_mem _ hu)) (by omega) h1
      refine ⟨out, S2, ?_, h2, s2.cons _⟩
      unfold lcL
      simp only [e1, e2]
      exact e4
    | true =>
      obtain ⟨out, S2, e4, h2, s2⟩ := lcL_sub hs ws (acc ++ [w]) S1 (fun u hu => hm u (List.mem_cons_of_mem _ hu)) (by simp; omega) h1
      refine ⟨w :: out, S2, ?_, h2, s2.cons₂ _⟩
      unfold lcL
      simp only [e1, e2, e3 rfl]
      rw [if_pos (by unfold lim; omega), e4, List.append_assoc]
      rfl
theorem mLC_sub {own : List Nat} {mi : EM It8} {g : W → Env → Option Env} {tst : EM Bool} {el : EM W} {env env0 : Env} {S : Sto} {ws : List W} {Q : Sto → Prop} (hm : mi env S = .val (.seq ws) S) (hw : wipeE env own = env0) (hl : ws.length ≤ 1000) (hq : Q S)
    (h : ∀ w ∈ ws, ∀ S, Q S → ∃ env1 b S1, g w env0 = some env1 ∧ tst env1 S = .val b S1 ∧ Q S1 ∧ (b = true → el env1 S1 = .val w S1)) :
    ∃ out S1, mLC own mi g tst el env S = .val (.lst out) S1 ∧ Q S1 ∧ out.Sublist ws := by
  obtain ⟨out, S1, e, h1, h2⟩ := lcL_sub h ws [] S (fun _ hw => hw) (by simpa using hl) hq
  refine ⟨out, S1, ?_, h1, h2⟩
  have : mLC own mi g tst el env S = lcL g tst el env0 ws [] S := by
    rw [← hw]
    unfold mLC
    show (mi env S).bind _ = _
    rw [hm, bind_val]
    exact lcF_all g tst el (wipeE env own) ws S
  rw [this, e]
  rfl
end Sm

set_option Elab.async false
set_option linter.all false
set_option maxRecDepth 100000
namespace Sm
open PySem PySem.Spec PyProof.Rows L2 LamX
/-! ### a range that is kept in a name -/
section
variable {X : Cx}
theorem cr_rng1 : CallR X (.type "range") (fun vs H Q => ∃ j, vs = [V.int j] ∧ ∀ p, H p = none → Q (.ref p) (upd H p (.rng 0 j))) := by
  intro pins s σ H vs us Q I r ⟨j, e, q⟩
  subst e
  cases r with
  | cons r1 rr =>
    cases rr
    obtain ⟨t, rfl⟩ := r1
    refine call_range_1 ⟨.ref s.heap.objs.size, _, I.laid (t' := s.toks + 1 + 1) (fun b o e => Heap.get?_push_of_some _ e) (Nat.le_refl _) ?_, rfl, q _ (I.hok.fresh (Nat.le_refl _))⟩
    exact ⟨s.toks, t, s.toks + 1, Heap.get?_push_size _ rfl⟩
end
def rngW1 : List W → M W
  | [.int j] => ret (.rng 0 j)
  | _ => bad
variable [TB]
theorem PostV.rng {X : Cx} {ρ δ : List Addr} {S : Sto} {H : Hp} {Q : VK} {E : XK} {lo hi : Int} {p : Addr} (h : PostV X ρ δ H Q E (.val (.rng lo hi) S)) (s : Sts X.K ρ δ S H) (hp : H p = none) : Q (.ref p) (upd H p (.rng lo hi)) := by
  obtain ⟨n1, n2⟩ := s.new hp
  exact h ρ _ _ (Grow.laid hp) (s.laid hp) (.rng ⟨upd_same, n1, n2⟩)
theorem ca_rng1 {X : Cx} : CaS X (fun vs H Q => ∃ j, vs = [V.int j] ∧ ∀ p, H p = none → Q (.ref p) (upd H p (.rng 0 j))) rngW1 := by
  intro ρ δ S H ws vs Q E s r hp
  cases r with
  | nil => exact hp.elim
  | @cons w v ws vs r t =>
    cases t with
    | cons _ _ => cases r <;> exact hp.elim
    | nil =>
      cases r with
      | @int j => exact ⟨j, rfl, fun p np => PostV.rng hp s np⟩
      | _ => exact hp.elim
/-! ### min and max of a list or a tuple of ints -/
theorem alike_ints (ns : List Int) : PySem.W.AlikeAll (ns.map PyData.int) := by
  constructor
  · intro x hx y hy
    obtain ⟨i, _, rfl⟩ := List.mem_map.mp hx
    obtain ⟨j, _, rfl⟩ := List.mem_map.mp hy
    rfl
  · intro x hx e
    obtain ⟨i, _, rfl⟩ := List.mem_map.mp hx
    cases e
theorem reads_int {h : Heap} {v : Value} {i : Int} {as : List Addr} (r : Reads h v (.int i) as) : ∃ t, v = .int i t := by
  cases r
  exact ⟨_, rfl⟩
def rMnS (f : Int → Int → Int) (K : PySem.W.Frag) : List V → Hp → VK → Prop := fun vs H Q => ∃ (a : Addr) (n : Int) (ns : List Int), vs = [V.ref a] ∧ (SqL K H a ((n :: ns).map V.int) ∨ SqT K H a ((n :: ns).map V.int)) ∧ Q (.int (ns.foldl f n)) H
theorem cr_minS {X : Cx} (hc : X.calm = true) (hu : X.A.units + 64 < cLine) : CallR X (.builtin "min") (rMnS min X.K) := by
  intro pins s σ H vs us Q I r ⟨a, n, ns, e, hs, q⟩
  subst e
  rw [Vals.ref1 r]
  rcases hs with hs | hs
  · obtain ⟨its, rv, hl, _⟩ := I.list hs
    obtain ⟨as, ra⟩ := SmD.reads_ints (h := s.heap) (rv.ints (ns := n :: ns))
    refine PySem.W.min_list_data (I.ok.hd hc) hl.isList ra (alike_ints (n :: ns)) (by have := SmD.dep_ints (n :: ns); simp only [List.map_cons] at this; rw [this]; omega) fun i v h' tk bs e r2 k => ?_
    rw [PySem.W.minD_ints] at r2
    obtain ⟨t, rfl⟩ := reads_int r2
    exact ⟨.int _, H, I.kept k, ⟨_, rfl⟩, q⟩
  · obtain ⟨its, rv, hl, _⟩ := I.tuple hs
    obtain ⟨as, ra⟩ := SmD.reads_ints (h := s.heap) (rv.ints (ns := n :: ns))
    refine PySem.W.min_tuple_data (I.ok.hd hc) hl ra (alike_ints (n :: ns)) (by have := SmD.dep_ints (n :: ns); simp only [List.map_cons] at this; rw [this]; omega) fun i v h' tk bs e r2 k => ?_
    rw [PySem.W.minD_ints] at r2
    obtain ⟨t, rfl⟩ := reads_int r2
    exact ⟨.int _, H, I.kept k, ⟨_, rfl⟩, q⟩
theorem cr_maxS {X : Cx} (hc : X.calm = true) (hu : X.A.units + 64 < cLine) : CallR X (.builtin "max") (rMnS max X.K) := by
  intro pins s σ H vs us Q I r ⟨a, n, ns, e, hs, q⟩
  subst e
  rw [Vals.ref1 r]
  rcases hs with hs | hs
  · obtain ⟨its, rv, hl, _⟩ := I.list hs
    obtain ⟨as, ra⟩ := SmD.reads_ints (h := s.heap) (rv.ints (ns := n :: ns))
    refine PySem.W.max_list_data (I.ok.hd hc) hl.isList ra (alike_ints (n :: ns)) (by have := SmD.dep_ints (n :: ns); simp only [List.map_cons] at this; rw [this]; omega) fun i v h' tk bs e r2 k => ?_
    rw [PySem.W.maxD_ints] at r2
    obtain ⟨t, rfl⟩ := reads_int r2
    exact ⟨.int _, H, I.kept k, ⟨_, rfl⟩, q⟩
  · obtain ⟨its, rv, hl, _⟩ := I.tuple hs
    obtain ⟨as, ra⟩ := SmD.reads_ints (h := s.heap) (rv.ints (ns := n :: ns))
    refine PySem.W.max_tuple_data (I.ok.hd hc) hl ra (alike_ints (n :: ns)) (by have := SmD.dep_ints (n :: ns); simp only [List.map_cons] at this; rw [this]; omega) fun i v h' tk bs e r2 k => ?_
    rw [PySem.W.maxD_ints] at r2
    obtain ⟨t, rfl⟩ := reads_int r2
    exact ⟨.int _, H, I.kept k, ⟨_, rfl⟩, q⟩
def mnW (f : Int → Int → Int) : List W → M W
  | [w] => fun S => match (seqW S w).bind intsO with
    | some (n :: ns) => .val (.int (ns.foldl f n)) S
    | _ => .bad
  | _ => bad
abbrev minW : List W → M W := mnW min
abbrev maxW : List W → M W := mnW max
theorem ca_mnS {X : Cx} {f : Int → Int → Int} : CaS X (rMnS f X.K) (mnW f) := by
  intro ρ δ S H ws vs Q E s r hp
  cases r with
  | nil => exact hp.elim
  | @cons w v ws vs r t =>
    cases t with
    | cons _ _ => exact hp.elim
    | nil =>
      have hp : PostV X ρ δ H Q E (match (seqW S w).bind intsO with | some (n :: ns) => .val (.int (ns.foldl f n)) S | _ => .bad) := hp
      cases e : seqW S w with
      | none => rw [e] at hp; exact hp.elim
      | some us =>
        rw [e] at hp
        have hp : PostV X ρ δ H Q E (match intsO us with | some (n :: ns) => .val (.int (ns.foldl f n)) S | _ => .bad) := hp
        cases e2 : intsO us with
        | none => rw [e2] at hp; exact hp.elim
        | some ks =>
          rw [e2] at hp
          cases ks with
          | nil => exact hp.elim
          | cons n ns =>
            obtain ⟨p, vs, rfl, hq, t⟩ := seqW_rep s r e
            have ev := intsO_rep t e2
            subst ev
            exact ⟨p, n, ns, rfl, hq, PostV.here hp s .int⟩
end Sm

set_option Elab.async false
set_option linter.all false
set_option maxRecDepth 100000
namespace Sm
open PySem PySem.Spec PyProof.Rows L2 LamX
variable [TB]
/-! ### min of a list or a tuple of tuples of ints -/
abbrev tI (ns : List Int) : PyData := .tuple (ns.map PyData.int)
def lexI : List Int → List Int → Bool
  | [], [] => false
  | [], _ :: _ => true
  | _ :: _, [] => false
  | x :: xs, y :: ys => if x = y then lexI xs ys else decide (x < y)
theorem alike_tI (a b : List Int) : PySem.W.alike (tI a) (tI b) = true := by
  simp only [PySem.W.alike]
  exact PySem.W.alike_ints a b
theorem alike_rows (R : List (List Int)) : PySem.W.AlikeAll (R.map tI) := by
  constructor
  · intro x hx y hy
    obtain ⟨i, _, rfl⟩ := List.mem_map.mp hx
    obtain ⟨j, _, rfl⟩ := List.mem_map.mp hy
    exact alike_tI i j
  · intro x hx e
    obtain ⟨i, _, rfl⟩ := List.mem_map.mp hx
    cases e
theorem lt_rows : ∀ a b : List Int, PySem.W.dataLt (tI a) (tI b) = lexI a b
  | [], [] => by decide +kernel
  | [], _ :: _ => by
    rw [PySem.W.dataLt_tuple]
    rfl
  | _ :: _, [] => by
    rw [PySem.W.dataLt_tuple]
    rfl
  | x :: a, y :: b => by
    have e2 := PySem.W.dataLt_all_yes (x := .int x) (y := .int x) (xs := a.map PyData.int) (ys := b.map PyData.int) (by simp [PySem.W.alike]) (by simp [PyData.eqv])
    have e3 := lt_rows a b
    rw [PySem.W.dataLt_tuple] at e3 ⊢
    by_cases e : x = y
    · subst e
      refine e2.trans ?_
      rw [e3]
      simp [lexI]
    · refine (PySem.W.dataLt_all_no (x := .int x) (y := .int y) (xs := a.map PyData.int) (ys := b.map PyData.int) (by simp [PySem.W.alike]) (by simp [PyData.eqv, e])).trans ?_
      rw [PySem.W.dataLt_int]
      simp [lexI, e]
def mnR (r : List Int) (rs : List (List Int)) : List Int := rs.foldl (fun a y => if lexI y a = true then y else a) r
theorem minD_rows (r : List Int) (rs : List (List Int)) : PySem.W.minD (tI r) (rs.map tI) = tI (mnR r rs) := by
  unfold PySem.W.minD mnR
  induction rs generalizing r with
  | nil => rfl
  | cons y rs ih =>
    rw [List.map_cons, List.foldl_cons, List.foldl_cons, ← ih, lt_rows]
    congr 1
    by_cases e : lexI y r = true
    · rw [if_pos e, if_pos e]
    · rw [if_neg e, if_neg e]
theorem ints_rd {h : Heap} : ∀ {vs : List Value} {ns ms : List Int} {as : List Addr}, IntsAre vs ns → ReadsAll h vs (ms.map PyData.int) as → ns = ms
  | _, _, [], _, .nil, _ => rfl
  | _, _, _ :: _, _, .nil, r => by cases r
  | _, _, [], _, .cons n t r, q => by cases q
  | _, _, m :: ms, _, .cons n t r, q => by
    have q : ReadsAll h _ (PyData.int m :: ms.map PyData.int) _ := q
    cases q with
    | cons h1 h2 =>
      cases h1
      rw [ints_rd r h2]
inductive RowsV (K : Fr) (H : Hp) : List V → List (List Int) → Prop
  | nil : RowsV K H [] []
  | cons {a ns xs rs} : SqT K H a (ns.map V.int) → RowsV K H xs rs → RowsV K H (.ref a :: xs) (ns :: rs)
theorem dep_rows (R : List (List Int)) : PyData.depthAll (R.map tI) ≤ 1 := by
  induction R with
  | nil => simp [PyData.depthAll]
  | cons r R ih =>
    rw [List.map_cons]
    simp only [PyData.depthAll, PyData.depth, SmD.dep_ints]
    omega
section
variable {X : Cx}
section
variable {pins : List (Addr × Obj)} {σ : L2.St} {H : Hp} {s : Shared}
theorem rowsV_rd (I : Inv X pins σ H s) : ∀ {xs : List V} {R : List (List Int)} {us : List Value}, RowsV X.K H xs R → Vals xs us → ∃ as, ReadsAll s.heap us (R.map tI) as
  | _, _, _, .nil, .nil => ⟨_, .nil⟩
  | _, _, _, .cons hs r, .cons r0 r' => by
    obtain ⟨as, q⟩ := rowsV_rd I r r'
    obtain ⟨its, rv, ⟨o, ho, hc, n, hd⟩, _⟩ := I.tuple hs
    cases r0
    obtain ⟨bs, q2⟩ := SmD.reads_ints (h := s.heap) rv.ints
    exact ⟨_, .cons (.tuple ho hc hd (by simpa using q2)) q⟩
/-- the item that reads as a row -/
theorem rowsV_at (I : Inv X pins σ H s) {h' : Heap} (k : ∀ b o, s.heap.get? b = some o → h'.get? b = some o) : ∀ {xs : List V} {R : List (List Int)} {us : List Value} (i : Nat) {v : Value} {m : List Int} {bs : List Addr}, RowsV X.K H xs R → Vals xs us → us[i]? = some v → Reads h' v (tI m) bs →
    ∃ a, v = .ref a ∧ xs[i]? = some (.ref a) ∧ R[i]? = some m
  | _, _, _, _, _, _, _, .nil, .nil, e, _ => by simp at e
  | _, _, _, 0, v, m, bs, .cons hs r, .cons r0 r', e, q => by
    obtain ⟨its, rv, ⟨o, ho, hc, n, hd⟩, _⟩ := I.tuple hs
    cases r0
    have e : some _ = some v := e
    cases e
    cases q with
    | tuple h1 h2 h3 h4 =>
      have e1 := (k _ _ ho).symm.trans h1
      cases e1
      rw [hd] at h3
      cases h3
      have e5 := ints_rd rv.ints h4
      subst e5
      exact ⟨_, rfl, rfl, rfl⟩
  | _, _, _, i + 1, v, m, bs, .cons hs r, .cons r0 r', e, q => by
    obtain ⟨a, e1, e2, e3⟩ := rowsV_at I k i r r' (by simpa using e) q
    exact ⟨a, e1, by simpa using e2, by simpa using e3⟩
end
def rMnR (K : PySem.W.Frag) : List V → Hp → VK → Prop := fun vs H Q => ∃ (a : Addr) (xs : List V) (r : List Int) (rs : List (List Int)), vs = [V.ref a] ∧ (SqL K H a xs ∨ SqT K H a xs) ∧ RowsV K H xs (r :: rs) ∧
  ∀ (i : Nat) (b : Addr), xs[i]? = some (V.ref b) → (r :: rs)[i]? = some (mnR r rs) → Q (.ref b) H
theorem cr_minR (hc : X.calm = true) (hu : X.A.units + 64 < cLine) : CallR X (.builtin "min") (rMnR X.K) := by
  intro pins s σ H vs us Q I r0 ⟨a, xs, r, rs, e, hs, hr, q⟩
  subst e
  rw [Vals.ref1 r0]
  have dp := dep_rows (r :: rs)
  rw [List.map_cons] at dp
  rcases hs with hs | hs
  · obtain ⟨its, rv, hl, _⟩ := I.list hs
    obtain ⟨as, ra⟩ := rowsV_rd I hr rv
    refine PySem.W.min_list_data (I.ok.hd hc) hl.isList (by simpa using ra) (alike_rows (r :: rs)) (by omega) fun i v h' tk bs e r2 k => ?_
    rw [minD_rows] at r2
    obtain ⟨b, rfl, e2, e3⟩ := rowsV_at I k i hr rv (by simpa using e) r2
    exact ⟨V.ref b, H, I.kept k, rfl, q i b e2 e3⟩
  · obtain ⟨its, rv, hl, _⟩ := I.tuple hs
    obtain ⟨as, ra⟩ := rowsV_rd I hr rv
    refine PySem.W.min_tuple_data (I.ok.hd hc) hl (by simpa using ra) (alike_rows (r :: rs)) (by omega) fun i v h' tk bs e r2 k => ?_
    rw [minD_rows] at r2
    obtain ⟨b, rfl, e2, e3⟩ := rowsV_at I k i hr rv (by simpa using e) r2
    exact ⟨V.ref b, H, I.kept k, rfl, q i b e2 e3⟩
def rMnA (K : PySem.W.Frag) : List V → Hp → VK → Prop := fun vs H Q => rMnS min K vs H Q ∨ rMnR K vs H Q
theorem cr_minA (hc : X.calm = true) (hu : X.A.units + 64 < cLine) : CallR X (.builtin "min") (rMnA X.K) := by
  intro pins s σ H vs us Q I r h
  rcases h with h | h
  · exact cr_minS hc hu pins s σ H vs us Q I r h
  · exact cr_minR hc hu pins s σ H vs us Q I r h
end
/-! mirrored -/
def rowsO : List W → Option (List (List Int))
  | [] => some []
  | .tup us :: ws => match intsO us, rowsO ws with
    | some k, some kv => some (k :: kv)
    | _, _ => none
  | _ :: _ => none
def minA : List W → M W
  | [w] => fun S => match seqW S w with
    | some ws => match intsO ws with
      | some (n :: ns) => .val (.int (ns.foldl min n)) S
      | _ => match rowsO ws with
        | some (r :: rs) => .val (.tup ((mnR r rs).map W.int)) S
        | _ => .bad
    | none => .bad
  | _ => bad
theorem intsO_inv {ws : List W} {ns : List Int} (h : intsO ws = some ns) : ws = ns.map W.int := by
  induction ws generalizing ns with
  | nil =>
    have h : some [] = some ns := h
    cases h
    rfl
  | cons w ws ih =>
    cases w with
    | int i =>
      have h : (intsO ws).bind (fun bs => some (i :: bs)) = some ns := h
      cases e : intsO ws with
      | none => rw [e] at h; cases h
      | some k =>
        rw [e] at h
        have h : i :: k = ns := Option.some.inj h
        subst h
        rw [ih e]
        rfl
    | _ => cases h
theorem rowsO_rep {K : Fr} {ρ δ : List Addr} {H : Hp} : ∀ {ws : List W} {vs : List V} {R : List (List Int)}, Reps K ρ δ H ws vs → rowsO ws = some R → RowsV K H vs R ∧ ∀ (i : Nat) (b : Addr) (m : List Int), vs[i]? = some (.ref b) → R[i]? = some m → Rep K ρ δ H (.tup (m.map W.int)) (.ref b)
  | [], _, _, .nil, e => by cases e; exact ⟨.nil, fun i b m h => by simp at h⟩
  | w :: ws, _, _, .cons r0 r, e => by
    cases r0 with
    | tup f t =>
      rename_i us vs'
      unfold rowsO at e
      cases e1 : intsO us with
      | none => rw [e1] at e; cases e
      | some k =>
        cases e2 : rowsO ws with
        | none => rw [e1, e2] at e; cases e
        | some kv =>
          rw [e1, e2] at e
          cases e
          obtain ⟨z1, z2⟩ := rowsO_rep r e2
          have e3 := intsO_inv e1
          have e4 := intsO_rep t e1
          subst e3 e4
          refine ⟨.cons f.sq z1, fun i b m h1 h2 => ?_⟩
          cases i with
          | zero =>
            simp at h1 h2
            subst h1 h2
            exact .tup f t
          | succ i => exact z2 i b m (by simpa using h1) (by simpa using h2)
    | _ => cases e
theorem ca_mnA {X : Cx} : CaS X (rMnA X.K) minA := by
  intro ρ δ S H ws vs Q E s r hp
  cases r with
  | nil => exact hp.elim
  | @cons w v ws vs r t =>
    cases t with
    | cons _ _ => exact hp.elim
    | nil =>
      simp only [minA] at hp
      cases e : seqW S w with
      | none => rw [e] at hp; exact hp.elim
      | some us =>
        simp only [e] at hp
        obtain ⟨p, vs, rfl, hq, t⟩ := seqW_rep s r e
        have rows : PostV X ρ δ H Q E (match rowsO us with | some (r :: rs) => .val (.tup ((mnR r rs).map W.int)) S | _ => .bad) → rMnA X.K [.ref p] H Q := fun hp => by
          cases e3 : rowsO us with
          | none => rw [e3] at hp; exact hp.elim
          | some R =>
            rw [e3] at hp
            cases R with
            | nil => exact hp.elim
            | cons r rs =>
              obtain ⟨z1, z2⟩ := rowsO_rep t e3
              exact .inr ⟨p, vs, r, rs, rfl, hq, z1, fun i b h1 h2 => PostV.here hp s (z2 i b _ h1 h2)⟩
        cases e2 : intsO us with
        | some ns =>
          cases ns with
          | nil => simp only [e2] at hp; exact rows hp
          | cons n ns =>
            simp only [e2] at hp
            have ev := intsO_rep t e2
            subst ev
            exact .inl ⟨p, n, ns, rfl, hq, PostV.here hp s .int⟩
        | none =>
          simp only [e2] at hp
          exact rows hp
end Sm

set_option Elab.async false
set_option linter.all false
set_option maxRecDepth 100000
/-! a comprehension with two clauses, of pure parts; a while whose turns are known -/
namespace Sm
open PySem PySem.Spec PyProof.Rows L2 LamX
variable [TB]
theorem lcO_pure {it : It8} {g gb : W → Env → Option Env} {tst tst1 : EM Bool} {mi1 : EM It8} {el : EM W} {vs1 : List Nat} {env0 : Env} {n N : Nat} {S0 : Sto} {ws : List W} (c : W → Bool) (us : W → List W) (c1 : W → W → Bool) (f : W → W → W)
    (hit : ∀ (acc : List W) (i : Nat), it.at (S0 ++ [.lst acc]) i = some ws[i]?)
    (h : ∀ w ∈ ws, ∃ env1, g w env0 = some env1 ∧ (us w).length ≤ N ∧ ∀ acc : List W, tst env1 (S0 ++ [.lst acc]) = .val (c w) (S0 ++ [.lst acc]) ∧ (c w = true → mi1 env1 (S0 ++ [.lst acc]) = .val (.seq (us w)) (S0 ++ [.lst acc]) ∧
      ∀ u ∈ us w, ∃ env2, gb u (wipeE env1 vs1) = some env2 ∧ tst1 env2 (S0 ++ [.lst acc]) = .val (c1 w u) (S0 ++ [.lst acc]) ∧ (c1 w u = true → el env2 (S0 ++ [.lst acc]) = .val (f w u) (S0 ++ [.lst acc])))) (hn : n = S0.length) :
    ∀ (k i : Nat) (acc : List W), i + k = ws.length → acc.length + (((ws.drop i).filter c).flatMap fun w => ((us w).filter (c1 w)).map (f w)).length + N ≤ 1000 →
      lcO it g tst mi1 gb tst1 el vs1 n env0 (k + 1) i (S0 ++ [.lst acc]) = .val (.box n) (S0 ++ [.lst (acc ++ ((ws.drop i).filter c).flatMap fun w => ((us w).filter (c1 w)).map (f w))])
  | 0, i, acc, hi, _ => by
    have e : ws.drop i = [] := List.drop_eq_nil_of_le (by omega)
    have e2 : ws[i]? = none := List.getElem?_eq_none (by omega)
    rw [e]
    simp [lcO, hit, e2]
  | k + 1, i, acc, hi, hl => by
    have hi' : i < ws.length := by omega
    have e : ws.drop i = ws[i] :: ws.drop (i + 1) := List.drop_eq_getElem_cons hi'
    have e2 : ws[i]? = some ws[i] := List.getElem?_eq_getElem hi'
    obtain ⟨env1, e1, hN, e3⟩ := h ws[i] (List.getElem_mem hi')
    obtain ⟨e4, e5⟩ := e3 acc
    rw [e] at hl ⊢
    rw [lcO.eq_def]
    simp only [hit, e2, e1, e4]
    by_cases hc : c ws[i] = true
    · rw [List.filter_cons, if_pos hc, List.flatMap_cons] at hl ⊢
      obtain ⟨e6, -⟩ := e5 hc
      have key := lcI_pure (g := gb) (tst := tst1) (el := el) (env0 := wipeE env1 vs1) (n := n) (S0 := S0) (c1 ws[i]) (f ws[i]) (ws := us ws[i]) (fun u hu acc => ((e3 acc).2 hc).2 u hu) hn (us ws[i]).length 0 acc (by omega) (by
        rw [List.length_append] at hl
        omega)
      rw [List.drop_zero] at key
      have fu : (It8.seq (us ws[i])).fuel (S0 ++ [Cell.lst acc]) = (us ws[i]).length + 1 := rfl
      simp only [hc, e6, fu, key]
      have ih := lcO_pure (it := it) (g := g) (gb := gb) (tst := tst) (tst1 := tst1) (mi1 := mi1) (el := el) (vs1 := vs1) (env0 := env0) (N := N) c us c1 f hit h hn k (i + 1) (acc ++ ((us ws[i]).filter (c1 ws[i])).map (f ws[i])) (by omega) (by
        rw [List.length_append] at hl ⊢
        omega)
      rw [ih, List.append_assoc]
    · have hc' : c ws[i] = false := by simpa using hc
      rw [List.filter_cons, if_neg hc] at hl ⊢
      have ih := lcO_pure (it := it) (g := g) (gb := gb) (tst := tst) (tst1 := tst1) (mi1 := mi1) (el := el) (vs1 := vs1) (env0 := env0) (N := N) c us c1 f hit h hn k (i + 1) acc (by omega) hl
      simp only [hc', ih]
theorem mLC2_pure {own vs1 : List Nat} {mi mi1 : EM It8} {it : It8} {g gb : W → Env → Option Env} {tst tst1 : EM Bool} {el : EM W} {env env0 : Env} {S : Sto} {ws : List W} (N : Nat) (c : W → Bool) (us : W → List W) (c1 : W → W → Bool) (f : W → W → W)
    (hm : mi env S = .val it S) (hw : wipeE env own = env0) (hf : it.fuel S = ws.length + 1)
    (hit : ∀ (acc : List W) (i : Nat), it.at (S ++ [.lst acc]) i = some ws[i]?)
    (hl : ((ws.filter c).flatMap fun w => ((us w).filter (c1 w)).map (f w)).length + N ≤ 1000)
    (h : ∀ w ∈ ws, ∃ env1, g w env0 = some env1 ∧ (us w).length ≤ N ∧ ∀ acc : List W, tst env1 (S ++ [.lst acc]) = .val (c w) (S ++ [.lst acc]) ∧ (c w = true → mi1 env1 (S ++ [.lst acc]) = .val (.seq (us w)) (S ++ [.lst acc]) ∧
      ∀ u ∈ us w, ∃ env2, gb u (wipeE env1 vs1) = some env2 ∧ tst1 env2 (S ++ [.lst acc]) = .val (c1 w u) (S ++ [.lst acc]) ∧ (c1 w u = true → el env2 (S ++ [.lst acc]) = .val (f w u) (S ++ [.lst acc])))) :
    mLC2 own vs1 mi g tst mi1 gb tst1 el env S = .val (.box S.length) (S ++ [.lst ((ws.filter c).flatMap fun w => ((us w).filter (c1 w)).map (f w))]) := by
  have e := lcO_pure (it := it) (g := g) (gb := gb) (tst := tst) (tst1 := tst1) (mi1 := mi1) (el := el) (vs1 := vs1) (env0 := env0) (S0 := S) c us c1 f hit h rfl ws.length 0 [] (by omega) (by rw [List.drop_zero]; simpa using hl)
  unfold mLC2
  show (mi env S).bind _ = _
  rw [hm, bind_val, hw, hf, e]
  simp
theorem it_seq_at {ws : List W} {S : Sto} (acc : List W) (i : Nat) : (It8.seq ws).at (S ++ [.lst acc]) i = some ws[i]? := rfl
theorem it_bx_at {n : Nat} {ws : List W} {S : Sto} (h : S[n]? = some (.lst ws)) (acc : List W) (i : Nat) : (It8.bx n).at (S ++ [.lst acc]) i = some ws[i]? := by
  have hn : n < S.length := (List.getElem?_eq_some_iff.mp h).1
  simp only [It8.at]
  rw [List.getElem?_append_left hn, h]
theorem it_bx_fuel {n : Nat} {ws : List W} {S : Sto} (h : S[n]? = some (.lst ws)) : (It8.bx n).fuel S = ws.length + 1 := by
  simp only [It8.fuel, h]
/-- a while: what is true before each turn, and how often it goes on -/
theorem while_inv {mt : EM Bool} {body : SM} (P : Nat → Env → Sto → Prop) (h : ∀ k env S, P (k + 1) env S → ∃ S1, (mt env S = .val false S1 ∧ P 0 env S1) ∨ (mt env S = .val true S1 ∧ ∃ env2 S2, body env S1 = .nx env2 S2 ∧ P k env2 S2))
    (h0 : ∀ env S, P 0 env S → mt env S = .val false S) : ∀ (fuel k : Nat) (env : Env) (S : Sto), k < fuel → P k env S → ∃ env' S', whileF mt body fuel env S = .nx env' S' ∧ P 0 env' S'
  | 0, k, env, S, hk, _ => by omega
  | n + 1, 0, env, S, _, p => by
    refine ⟨env, S, ?_, p⟩
    show ofB (mt env S) env _ = _
    rw [h0 env S p]
    rfl
  | n + 1, k + 1, env, S, hk, p => by
    obtain ⟨S1, ⟨e1, p1⟩ | ⟨e1, env2, S2, e2, p2⟩⟩ := h k env S p
    · refine ⟨env, S1, ?_, p1⟩
      show ofB (mt env S) env _ = _
      rw [e1]
      rfl
    · obtain ⟨env', S', e3, p3⟩ := while_inv P h h0 n k env2 S2 (by omega) p2
      refine ⟨env', S', ?_, p3⟩
      show ofB (mt env S) env _ = _
      rw [e1]
      show (match body env S1 with
        | .nx env2 S2 => whileF mt body n env2 S2
        | .ct env2 S2 => whileF mt body n env2 S2
        | .bk env2 S2 => .nx env2 S2
        | .rt v S2 => .rt v S2
        | .xc e env2 S2 => .xc e env2 S2
        | .bad => .bad) = _
      rw [e2]
      exact e3
/-- each turn puts mk w behind a list that a slot has; the whole list is short -/
theorem loop_lst2 {g : W → Env → Option Env} {body : SM} {P : List W → Env → Prop} {mk : W → List W} {N B : Nat} {S : Sto} : ∀ (ws acc : List W),
    (∀ w ∈ ws, ∀ env acc, P acc env → acc.length + N ≤ B → ∃ env1, g w env = some env1 ∧ ∃ env2, body env1 S = .nx env2 S ∧ P (acc ++ mk w) env2) →
    (acc ++ ws.flatMap mk).length + N ≤ B → ∀ env, P acc env →
    ∃ env', loopL g body ws env S = .nx env' S ∧ P (acc ++ ws.flatMap mk) env'
  | [], acc, _, _, env, hp => ⟨env, rfl, by simpa using hp⟩
  | w :: ws, acc, hs, hl, env, hp => by
    obtain ⟨env1, e1, env2, e2, hp2⟩ := hs w List.mem_cons_self env acc hp (by rw [List.length_append] at hl; omega)
    obtain ⟨env', e3, hp3⟩ := loop_lst2 ws (acc ++ mk w) (fun u hu => hs u (List.mem_cons_of_mem _ hu)) (by rw [List.flatMap_cons, ← List.append_assoc] at hl; exact hl) env2 hp2
    refine ⟨env', by rw [loop_nx e1 e2, e3], ?_⟩
    rw [List.flatMap_cons, ← List.append_assoc]
    exact hp3
end Sm

set_option Elab.async false
set_option linter.all false
set_option maxRecDepth 100000
/-! dicts with keys that are ints or texts -/
namespace Sm
open PySem PySem.Spec PyProof.Rows L2 LamX
variable [TB]
theorem room1 {k : Nat} {A : Around} (r : Room k A) : A.units + 1 < cLine := by have := r.un; omega
def keyW : W → Option L2.Key
  | .int i => some (.inl i)
  | .str x => some (.inr x)
  | _ => none
def lookK (kvs : List (L2.Key × W)) (k : L2.Key) : Option W := (kvs.find? fun kv => decide (kv.1 = k)).map (·.2)
def putW (kvs : List (L2.Key × W)) (k : L2.Key) (w : W) : List (L2.Key × W) := if (kvs.any fun kv => decide (kv.1 = k)) = true then kvs.map (fun kv => if kv.1 = k then (kv.1, w) else kv) else kvs ++ [(k, w)]
section
variable {K : Fr} {ρ δ : List Addr} {H : Hp}
theorem look_rep : ∀ {kws : List (L2.Key × W)} {kvs : List (L2.Key × V)}, kvs.map Prod.fst = kws.map Prod.fst → Reps K ρ δ H (kws.map Prod.snd) (kvs.map Prod.snd) → ∀ k, (lookK kws k = none ∧ valV kvs k = none) ∨ ∃ w v, lookK kws k = some w ∧ valV kvs k = some v ∧ Rep K ρ δ H w v
  | [], [], _, _, k => .inl ⟨rfl, rfl⟩
  | [], _ :: _, h, _, _ => by simp at h
  | _ :: _, [], h, _, _ => by simp at h
  | (a, w) :: kws, (b, v) :: kvs, h, r, k => by
    have h1 : b = a ∧ kvs.map Prod.fst = kws.map Prod.fst := by simpa using h
    obtain ⟨rfl, h2⟩ := h1
    have r : Reps K ρ δ H (w :: kws.map Prod.snd) (v :: kvs.map Prod.snd) := r
    cases r with
    | cons r0 r =>
      by_cases e : b = k
      · right
        refine ⟨w, v, ?_, ?_, r0⟩
        · unfold lookK; simp [e]
        · exact valV_pos (p := (b, v)) e
      · have e1 : lookK ((b, w) :: kws) k = lookK kws k := by unfold lookK; simp [e]
        have e2 : valV ((b, v) :: kvs) k = valV kvs k := valV_neg (p := (b, v)) e
        rw [e1, e2]
        exact look_rep h2 r k
theorem any_fst {α β : Type} [DecidableEq α] (k : α) : ∀ (l : List (α × β)), (l.any fun kv => decide (kv.1 = k)) = (l.map Prod.fst).any fun x => decide (x = k)
  | [] => rfl
  | p :: l => by rw [List.any_cons, List.map_cons, List.any_cons, any_fst k l]
theorem put_map : ∀ {kws : List (L2.Key × W)} {kvs : List (L2.Key × V)} {k : L2.Key} {w : W} {v : V}, kvs.map Prod.fst = kws.map Prod.fst → Reps K ρ δ H (kws.map Prod.snd) (kvs.map Prod.snd) → Rep K ρ δ H w v →
    (kvs.map (fun kv => if kv.1 = k then (kv.1, v) else kv)).map Prod.fst = (kws.map (fun kv => if kv.1 = k then (kv.1, w) else kv)).map Prod.fst ∧ Reps K ρ δ H ((kws.map (fun kv => if kv.1 = k then (kv.1, w) else kv)).map Prod.snd) ((kvs.map (fun kv => if kv.1 = k then (kv.1, v) else kv)).map Prod.snd)
  | [], [], _, _, _, _, _, _ => ⟨rfl, .nil⟩
  | [], _ :: _, _, _, _, h, _, _ => by simp at h
  | _ :: _, [], _, _, _, h, _, _ => by simp at h
  | (a, w0) :: kws, (b, v0) :: kvs, k, w, v, h, r, rw => by
    have h1 : b = a ∧ kvs.map Prod.fst = kws.map Prod.fst := by simpa using h
    obtain ⟨rfl, h2⟩ := h1
    have r : Reps K ρ δ H (w0 :: kws.map Prod.snd) (v0 :: kvs.map Prod.snd) := r
    cases r with
    | cons r0 r =>
      obtain ⟨q1, q2⟩ := put_map (k := k) h2 r rw
      simp only [List.map_cons]
      by_cases e : b = k
      · rw [if_pos e, if_pos e]
        exact ⟨by simp only [q1], .cons rw q2⟩
      · rw [if_neg e, if_neg e]
        exact ⟨by simp only [q1], .cons r0 q2⟩
theorem put_rep {kws : List (L2.Key × W)} {kvs : List (L2.Key × V)} {k : L2.Key} {w : W} {v : V} (h : kvs.map Prod.fst = kws.map Prod.fst) (r : Reps K ρ δ H (kws.map Prod.snd) (kvs.map Prod.snd)) (rw : Rep K ρ δ H w v) :
    (putK kvs k v).map Prod.fst = (putW kws k w).map Prod.fst ∧ Reps K ρ δ H ((putW kws k w).map Prod.snd) ((putK kvs k v).map Prod.snd) := by
  have ea : (kvs.any fun kv => decide (kv.1 = k)) = kws.any fun kv => decide (kv.1 = k) := by rw [any_fst, any_fst, h]
  unfold putK putW
  rw [ea]
  by_cases c : (kws.any fun kv => decide (kv.1 = k)) = true
  · rw [if_pos c, if_pos c]
    exact put_map h r rw
  · rw [if_neg c, if_neg c]
    rw [List.map_append, List.map_append, List.map_append, List.map_append, h]
    exact ⟨rfl, r.append (.cons rw .nil)⟩
theorem keyW_rep {w : W} {v : V} {k : L2.Key} (r : Rep K ρ δ H w v) (e : keyW w = some k) : v = kV k := by
  cases r <;> cases e <;> rfl
variable {S : Sto}
theorem Sts.dk (s : Sts K ρ δ S H) {n : Nat} {a : Addr} {kws : List (L2.Key × W)} (hp : ρ[n]? = some a) (e : S[n]? = some (.dk kws)) : ∃ kvs, H a = some (.dK kvs) ∧ kvs.map Prod.fst = kws.map Prod.fst ∧ Reps K ρ δ H (kws.map Prod.snd) (kvs.map Prod.snd) := by
  obtain ⟨c, o, h1, h2, h3⟩ := s.bx n a hp
  rw [e] at h1
  cases h1
  obtain ⟨kvs, rfl, h4, h5⟩ := h3
  exact ⟨kvs, h2, h4, h5⟩
end
section
variable {X : Cx} {W0 : WX} {J : JI} {a b c o e i f : Expr} {pos p2 apos cpos : Pos} {ma mb mc mo me mi mf : EM W}
/-! {} and {k: v} -/
def mDnK : EM W := fun _ S => .val (.dct S.length) (S ++ [.dk []])
def mDnT : EM W := fun _ S => .val (.dct S.length) (S ++ [.dt []])
theorem sim_dnK : SimE X W0 J (.Dict [] [] pos) mDnK :=
  ⟨_, pe_dnewK, fun ρ δ S H env σ Q he hs hj hp p np => hp (ρ ++ [p]) _ _ (Grow.boxed np) (hs.boxed (c := .dk []) np ⟨[], rfl, rfl, .nil⟩) (.dct (by rw [hs.ln]; simp) (.inl (kdH_some upd_same)))⟩
theorem sim_dnT : SimE X W0 J (.Dict [] [] pos) mDnT :=
  ⟨_, pe_dnewT, fun ρ δ S H env σ Q he hs hj hp p np => hp (ρ ++ [p]) _ _ (Grow.boxed np) (hs.boxed (c := .dt []) np ⟨[], rfl, rfl, .nil⟩) (.dct (by rw [hs.ln]; simp) (.inr (kdH_some upd_same)))⟩
def mDisp1 (mk mv : EM W) : EM W := fun env S => bnd (mk env) (fun k => bnd (mv env) fun v S2 => match S2[S.length]?, keyW k with
  | some (.dk []), some κ => .val (.dct S.length) (S2.set S.length (.dk [(κ, v)]))
  | _, _ => .bad) (S ++ [.dk []])
theorem sim_disp1 (ha : SimE X W0 J a ma) (hb : SimE X W0 J b mb) : SimE X W0 J (.Dict [some a] [b] pos) (mDisp1 ma mb) := by
  obtain ⟨ta, pa, ka⟩ := ha
  obtain ⟨tb, pb, kb⟩ := hb
  refine ⟨_, pe_disp (pps_cons pa pb pps_nil) rfl rfl (by simp) (by simp), fun ρ δ S H env σ Q he hs hj hp p np => ?_⟩
  have gB : Grow ρ H (ρ ++ [p]) (upd H p (.dK [])) := Grow.boxed np
  have sB : Sts X.K (ρ ++ [p]) δ (S ++ [.dk []]) (upd H p (.dK [])) := hs.boxed (c := .dk []) np ⟨[], rfl, rfl, .nil⟩
  have hnB : (ρ ++ [p])[S.length]? = some p := by rw [hs.ln]; simp
  have hp : PostV X (ρ ++ [p]) δ (upd H p (.dK [])) Q (WE W0 σ) (bnd (ma env) (fun k => bnd (mb env) fun v S2 => match S2[S.length]?, keyW k with
    | some (.dk []), some κ => .val (.dct S.length) (S2.set S.length (.dk [(κ, v)]))
    | _, _ => .bad) (S ++ [.dk []])) := Post.mono gB hp fun _ _ z => z
  refine ka _ _ _ _ env σ _ (he.grow gB) sB (J.st _ _ _ _ gB hj) (Post.bind hp fun k S1 ρ1 vk H1 _ g1 s1 r1 hp1 => ?_)
  refine kb _ _ _ _ env σ _ (he.grow (gB.trans g1)) s1 (J.st _ _ _ _ (gB.trans g1) hj) (Post.bind hp1 fun v S2 ρ2 vv H2 _ g2 s2 r2 hp2 => ?_)
  have hn2 := (g1.trans g2).at hnB
  have hp2 : PostV X ρ2 δ H2 Q (WE W0 σ) (match S2[S.length]?, keyW k with
    | some (.dk []), some κ => .val (.dct S.length) (S2.set S.length (.dk [(κ, v)]))
    | _, _ => .bad) := hp2
  cases e1 : S2[S.length]? with
  | none => rw [e1] at hp2; exact hp2.elim
  | some c => cases c with
    | lst _ => rw [e1] at hp2; exact hp2.elim
    | dt _ => rw [e1] at hp2; exact hp2.elim
    | dk kws => cases kws with
      | cons _ _ => rw [e1] at hp2; exact hp2.elim
      | nil =>
        obtain ⟨kvs, h1, h2, h3⟩ := s2.dk hn2 e1
        have : kvs = [] := by simpa using h2
        subst this
        rw [e1] at hp2
        cases e2 : keyW k with
        | none => rw [e2] at hp2; exact hp2.elim
        | some κ =>
          rw [e2] at hp2
          have ev := keyW_rep (g2.rep r1) e2
          refine ⟨h1, [(κ, vv)], by rw [ev]; rfl, by simp, ?_⟩
          have hk : kdH H2 p = 2 := kdH_some h1
          have g3 : Grow ρ2 H2 ρ2 (upd H2 p (.dK [(κ, vv)])) := Grow.put hn2 (by rw [hk]; decide) hk.symm
          have s3 := s2.put (c := .dk [(κ, v)]) (o := .dK [(κ, vv)]) hn2 hk.symm ⟨_, rfl, rfl, .cons r2 .nil⟩
          exact hp2 ρ2 (.ref p) _ g3 s3 (.dct hn2 (.inl (kdH_some upd_same)))
/-! d[k] = v -/
def dputW : W → W → W → Sto → Option Sto
  | .dct n, i, w, S => match S[n]?, keyW i with
    | some (.dk kws), some k => if kws.length < 1000 then some (S.set n (.dk (putW kws k w))) else none
    | _, _ => none
  | _, _, _, _ => none
def sDPut (me mo mi : EM W) : SM := fun env S => ofE (me env S) env fun w S1 => ofE (mo env S1) env fun o S2 => ofE (mi env S2) env fun i S3 => match dputW o i w S3 with
  | some S4 => .nx env S4
  | none => .bad
theorem sims_dput (hu : X.A.units + 1 < cLine) (he : SimE X W0 J e me) (ho : SimE X W0 J o mo) (hi : SimE X W0 J i mi)
    (has : ∀ v, assign (.Subscript o i p2) X.env v = (do
      let ov ← holding [v] (eval o X.env)
      let iv ← holding [v, ov] (eval i X.env)
      standAt p2
      holding [v, ov, iv] (setItem ov iv v)
      release [v, ov, iv] []) := by intro _; rfl)
    (hs : swapsWithSole [.Subscript o i p2] e pos.line X.env = pure false := by rfl) (hw : swappedStores [.Subscript o i p2] e X.env = pure none := by rfl)
    (h1 : (assignEach [.Subscript o i p2] X.env).map (·.2) = [assign (.Subscript o i p2) X.env] := by rfl) : SimS X W0 J (.Assign [.Subscript o i p2] e pos) (sDPut me mo mi) := by
  obtain ⟨te, pe, ke⟩ := he
  obtain ⟨to, po, ko⟩ := ho
  obtain ⟨ti, pi, ki⟩ := hi
  refine ⟨_, ps_asg pe (pg_sub po pi (set_dict hu) has) hs hw h1, fun ρ δ S H env σ D hen hst hj hp => ?_⟩
  refine ke _ _ S _ env σ _ hen hst hj (PostS.ofE hen hp fun w S1 ρ1 v H1 _ g1 s1 r1 hp1 => ?_)
  refine ko _ _ S1 _ env σ _ (hen.grow g1) s1 (J.st _ _ _ _ g1 hj) (PostS.ofE (hen.grow g1) hp1 fun wo S2 ρ2 vo H2 _ g2 s2 r2 hp2 => ?_)
  refine ki _ _ S2 _ env σ _ (hen.grow (g1.trans g2)) s2 (J.st _ _ _ _ (g1.trans g2) hj) (PostS.ofE (hen.grow (g1.trans g2)) hp2 fun wi S3 ρ3 vi H3 _ g3 s3 r3 hp3 => ?_)
  have r1 := (g2.trans g3).rep r1
  have r2 := g3.rep r2
  cases r2 with
  | @dct n a f hk =>
    have hp3 : PostS X.mg X.K ρ3 δ H3 W0 D (match (match S3[n]?, keyW wi with
      | some (.dk kws), some k => if kws.length < 1000 then some (S3.set n (.dk (putW kws k w))) else none
      | _, _ => none) with | some S4 => .nx env S4 | none => .bad) := hp3
    cases e1 : S3[n]? with
    | none => rw [e1] at hp3; exact hp3.elim
    | some c => cases c with
      | lst _ => rw [e1] at hp3; exact hp3.elim
      | dt _ => rw [e1] at hp3; exact hp3.elim
      | dk kws =>
        rw [e1] at hp3
        cases e2 : keyW wi with
        | none => rw [e2] at hp3; exact hp3.elim
        | some k =>
          rw [e2] at hp3
          by_cases hl : kws.length < 1000
          · simp only [if_pos hl] at hp3
            obtain ⟨kvs, h1, h2, h3⟩ := s3.dk f e1
            have ev := keyW_rep r3 e2
            have el : kvs.length = kws.length := by
              have := congrArg List.length h2
              simpa using this
            obtain ⟨q1, q2⟩ := put_rep (k := k) h2 h3 r1
            refine ⟨a, _, rfl, .inl ⟨kvs, k, h1, ev, by rw [el, sizeLine_eq]; omega, rfl⟩, ?_⟩
            have hk2 : kdH H3 a = 2 := kdH_some h1
            have gp : Grow ρ3 H3 ρ3 (upd H3 a (.dK (putK kvs k v))) := Grow.put f (by rw [hk2]; decide) hk2.symm
            exact hp3 ρ3 σ _ gp (s3.put (c := .dk (putW kws k w)) f hk2.symm ⟨_, rfl, q1, q2⟩) ((hen.grow (g1.trans (g2.trans g3))).grow gp)
          · simp only [if_neg hl] at hp3; exact hp3.elim
  | _ => exact hp3.elim
/-! d[k], k in d, d.get(k), d.get(k, x) -/
def dlook (S : Sto) (d k : W) : Option (Option W) := match d, keyW k with
  | .dct n, some κ => match S[n]? with
    | some (.dk kws) => some (lookK kws κ)
    | _ => none
  | _, _ => none
theorem dlook_rep {ρ δ : List Addr} {S : Sto} {H : Hp} {d k : W} {vd vk : V} {r : Option W} (s : Sts X.K ρ δ S H) (rd : Rep X.K ρ δ H d vd) (rk : Rep X.K ρ δ H k vk) (e : dlook S d k = some r) :
    ∃ a, vd = .ref a ∧ ∃ ov, DGet H a vk ov ∧ ((r = none ∧ ov = none) ∨ ∃ w v, r = some w ∧ ov = some v ∧ Rep X.K ρ δ H w v) := by
  cases rd with
  | @dct n a f hk =>
    cases e2 : keyW k with
    | none => simp only [dlook, e2] at e; cases e
    | some κ =>
      have e : (match S[n]? with | some (.dk kws) => some (lookK kws κ) | _ => none) = some r := by simpa only [dlook, e2] using e
      cases e1 : S[n]? with
      | none => rw [e1] at e; cases e
      | some c => cases c with
        | lst _ => rw [e1] at e; cases e
        | dt _ => rw [e1] at e; cases e
        | dk kws =>
          rw [e1] at e
          have e : lookK kws κ = r := Option.some.inj e
          obtain ⟨kvs, h1, h2, h3⟩ := s.dk f e1
          have ev := keyW_rep rk e2
          refine ⟨a, rfl, valV kvs κ, by rw [ev]; exact DGet.k h1, ?_⟩
          rcases look_rep h2 h3 κ with ⟨q1, q2⟩ | ⟨w, v, q1, q2, q3⟩
          · exact .inl ⟨by rw [← e, q1], q2⟩
          · exact .inr ⟨w, v, by rw [← e, q1], q2, q3⟩
  | _ => cases k <;> cases e
def dgetW (d k : W) : M W := fun S => match dlook S d k with
  | some (some w) => .val w S
  | _ => .bad
theorem sim_dget (hu : X.A.units + 1 < cLine) (ho : SimE X W0 J o mo) (hi : SimE X W0 J i mi) (hs : NoSl i := by intro _ _; rfl) : SimE X W0 J (.Subscript o i pos) (m2 dgetW mo mi) := by
  obtain ⟨to, po, ko⟩ := ho
  obtain ⟨ti, pi, ki⟩ := hi
  refine ⟨_, pe_dget hu po pi hs, fun ρ δ S H env σ Q he hst hj hp => ?_⟩
  refine ko _ _ S _ env σ _ he hst hj (Post.bind hp fun d S1 ρ1 vd H1 _ g1 s1 r1 hp1 => ?_)
  refine ki _ _ S1 _ env σ _ (he.grow g1) s1 (J.st _ _ _ _ g1 hj) (Post.bind hp1 fun k S2 ρ2 vk H2 _ g2 s2 r2 hp2 => ?_)
  have hp2 : PostV X ρ2 δ H2 Q (WE W0 σ) (match dlook S2 d k with | some (some w) => .val w S2 | _ => .bad) := hp2
  cases e : dlook S2 d k with
  | none => rw [e] at hp2; exact hp2.elim
  | some r => cases r with
    | none => rw [e] at hp2; exact hp2.elim
    | some w =>
      rw [e] at hp2
      obtain ⟨a, rfl, ov, q1, ⟨q2, q3⟩ | ⟨w', v, q2, q3, q4⟩⟩ := dlook_rep s2 (g2.rep r1) r2 e
      · cases q2
      · cases q2
        subst q3
        exact ⟨a, v, rfl, q1, PostV.here hp2 s2 q4⟩
def mDIn (neg : Bool) (mi mo : EM W) : EM W := fun env => bnd (mi env) fun k => bnd (mo env) fun d S => match dlook S d k with
  | some r => .val (.bl (if neg = true then !r.isSome else r.isSome)) S
  | none => .bad
theorem din_go {ti to : TE} (ki : ∀ ρ δ S H env σ Q, EnvR X.K ρ δ H env σ → Sts X.K ρ δ S H → J.p ρ H → PostV X ρ δ H Q (WE W0 σ) (mi env S) → ti σ H Q)
    (ko : ∀ ρ δ S H env σ Q, EnvR X.K ρ δ H env σ → Sts X.K ρ δ S H → J.p ρ H → PostV X ρ δ H Q (WE W0 σ) (mo env S) → to σ H Q) (neg : Bool) :
    ∀ ρ δ S H env σ Q, EnvR X.K ρ δ H env σ → Sts X.K ρ δ S H → J.p ρ H → PostV X ρ δ H Q (WE W0 σ) (mDIn neg mi mo env S) → ti σ H fun y H1 => to σ H1 fun x H2 => ∃ a ov, x = .ref a ∧ DGet H2 a y ov ∧ Q (.bl (if neg = true then !ov.isSome else ov.isSome)) H2 := by
  intro ρ δ S H env σ Q he hst hj hp
  refine ki _ _ S _ env σ _ he hst hj (Post.bind hp fun k S1 ρ1 vk H1 _ g1 s1 r1 hp1 => ?_)
  refine ko _ _ S1 _ env σ _ (he.grow g1) s1 (J.st _ _ _ _ g1 hj) (Post.bind hp1 fun d S2 ρ2 vd H2 _ g2 s2 r2 hp2 => ?_)
  have hp2 : PostV X ρ2 δ H2 Q (WE W0 σ) (match dlook S2 d k with | some r => .val (.bl (if neg = true then !r.isSome else r.isSome)) S2 | none => .bad) := hp2
  cases e : dlook S2 d k with
  | none => rw [e] at hp2; exact hp2.elim
  | some r =>
    rw [e] at hp2
    obtain ⟨a, rfl, ov, q1, ⟨q2, q3⟩ | ⟨w', v, q2, q3, q4⟩⟩ := dlook_rep s2 r2 (g2.rep r1) e
    · subst q2 q3
      exact ⟨a, none, rfl, q1, PostV.here (v := .bl _) hp2 s2 .bl⟩
    · subst q2 q3
      exact ⟨a, some v, rfl, q1, PostV.here (v := .bl _) hp2 s2 .bl⟩
theorem sim_din (hu : X.A.units + 1 < cLine) (hi : SimE X W0 J i mi) (ho : SimE X W0 J o mo) (hm : behindInMarks .In o = false := by with_unfolding_all rfl) : SimE X W0 J (.Compare i [.In] [o] pos) (mDIn false mi mo) := by
  obtain ⟨ti, pi, ki⟩ := hi
  obtain ⟨to, po, ko⟩ := ho
  exact ⟨_, pe_cmp (pc_din hu pi po) hm, din_go ki ko false⟩
theorem sim_dnotin (hu : X.A.units + 1 < cLine) (hi : SimE X W0 J i mi) (ho : SimE X W0 J o mo) (hm : behindInMarks .NotIn o = false := by with_unfolding_all rfl) : SimE X W0 J (.Compare i [.NotIn] [o] pos) (mDIn true mi mo) := by
  obtain ⟨ti, pi, ki⟩ := hi
  obtain ⟨to, po, ko⟩ := ho
  exact ⟨_, pe_cmp (pc_dnotin hu pi po) hm, din_go ki ko true⟩
theorem simT_din (hu : X.A.units + 1 < cLine) (hi : SimE X W0 J i mi) (ho : SimE X W0 J o mo) (hm : behindInMarks .In o = false := by with_unfolding_all rfl) : SimT X W0 J (.Compare i [.In] [o] pos) (mB (mDIn false mi mo)) := by
  obtain ⟨ti, pi, ki⟩ := hi
  obtain ⟨to, po, ko⟩ := ho
  exact simT_of (pt_cmp (pc_din hu pi po) hm) (din_go ki ko false)
theorem simT_dnotin (hu : X.A.units + 1 < cLine) (hi : SimE X W0 J i mi) (ho : SimE X W0 J o mo) (hm : behindInMarks .NotIn o = false := by with_unfolding_all rfl) : SimT X W0 J (.Compare i [.NotIn] [o] pos) (mB (mDIn true mi mo)) := by
  obtain ⟨ti, pi, ki⟩ := hi
  obtain ⟨to, po, ko⟩ := ho
  exact simT_of (pt_cmp (pc_dnotin hu pi po) hm) (din_go ki ko true)
def isDct : W → Bool
  | .dct _ => true
  | _ => false
theorem isDct_rep {ρ δ : List Addr} {H : Hp} {d : W} {v : V} (r : Rep X.K ρ δ H d v) (h : isDct d = true) : ∃ a, v = .ref a ∧ IsD H a := by
  cases r with
  | @dct n a f hk =>
    obtain ⟨o, h1, h2⟩ := kdH_ex (H := H) (a := a) (by rcases hk with hk | hk <;> rw [hk] <;> decide)
    rw [← h2] at hk
    cases o with
    | dK kvs => exact ⟨a, rfl, .inl ⟨kvs, .inl h1⟩⟩
    | dT kvs => exact ⟨a, rfl, .inr ⟨kvs, .inl h1⟩⟩
    | _ => rcases hk with hk | hk <;> cases hk
  | _ => cases h
def mGet1 (mo me : EM W) : EM W := fun env => bnd (mo env) fun d => if isDct d = true then bnd (me env) fun k S => match dlook S d k with
  | some r => .val (r.getD .non) S
  | none => .bad
  else bad
theorem sim_dget1 (hu : X.A.units + 1 < cLine) (ho : SimE X W0 J o mo) (he : SimE X W0 J e me) (m : M1 X o "get" apos e cpos := by exact ⟨rfl, rfl, rfl, rfl⟩) : SimE X W0 J (.Call (.Attribute o "get" apos) [e] [] cpos) (mGet1 mo me) := by
  obtain ⟨to, po, ko⟩ := ho
  obtain ⟨te, pe, ke⟩ := he
  refine ⟨_, pe_dget1 hu po pe m, fun ρ δ S H env σ Q he hst hj hp => ?_⟩
  refine ko _ _ S _ env σ _ he hst hj (Post.bind hp fun d S1 ρ1 vd H1 _ g1 s1 r1 hp1 => ?_)
  by_cases hd : isDct d = true
  · rw [if_pos hd] at hp1
    obtain ⟨a, ea, ia⟩ := isDct_rep r1 hd
    refine ⟨a, ea, ia, ke _ _ S1 _ env σ _ (he.grow g1) s1 (J.st _ _ _ _ g1 hj) (Post.bind hp1 fun k S2 ρ2 vk H2 _ g2 s2 r2 hp2 => ?_)⟩
    have hp2 : PostV X ρ2 δ H2 Q (WE W0 σ) (match dlook S2 d k with | some r => .val (r.getD .non) S2 | none => .bad) := hp2
    cases e : dlook S2 d k with
    | none => rw [e] at hp2; exact hp2.elim
    | some r =>
      rw [e] at hp2
      subst ea
      obtain ⟨a', e', ov, q1, q⟩ := dlook_rep s2 (g2.rep r1) r2 e
      cases e'
      refine ⟨ov, q1, ?_⟩
      rcases q with ⟨q2, q3⟩ | ⟨w', v, q2, q3, q4⟩
      · subst q2 q3
        exact PostV.here (v := .non) hp2 s2 .non
      · subst q2 q3
        exact PostV.here hp2 s2 q4
  · rw [if_neg hd] at hp1; exact hp1.elim
def mGet2 (mo me mf : EM W) : EM W := fun env => bnd (mo env) fun d => if isDct d = true then bnd (me env) fun k => bnd (mf env) fun x S => match dlook S d k with
  | some r => .val (r.getD x) S
  | none => .bad
  else bad
theorem sim_dget2 (hu : X.A.units + 1 < cLine) (ho : SimE X W0 J o mo) (he : SimE X W0 J e me) (hf : SimE X W0 J f mf) (m : M2 X o "get" apos e f cpos := by exact ⟨rfl, rfl, rfl, rfl⟩) : SimE X W0 J (.Call (.Attribute o "get" apos) [e, f] [] cpos) (mGet2 mo me mf) := by
  obtain ⟨to, po, ko⟩ := ho
  obtain ⟨te, pe, ke⟩ := he
  obtain ⟨tf, pf, kf⟩ := hf
  refine ⟨_, pe_dget2 hu po pe pf m, fun ρ δ S H env σ Q he hst hj hp => ?_⟩
  refine ko _ _ S _ env σ _ he hst hj (Post.bind hp fun d S1 ρ1 vd H1 _ g1 s1 r1 hp1 => ?_)
  by_cases hd : isDct d = true
  · rw [if_pos hd] at hp1
    obtain ⟨a, ea, ia⟩ := isDct_rep r1 hd
    refine ⟨a, ea, ia, ke _ _ S1 _ env σ _ (he.grow g1) s1 (J.st _ _ _ _ g1 hj) (Post.bind hp1 fun k S2 ρ2 vk H2 _ g2 s2 r2 hp2 => ?_)⟩
    refine kf _ _ S2 _ env σ _ (he.grow (g1.trans g2)) s2 (J.st _ _ _ _ (g1.trans g2) hj) (Post.bind hp2 fun x S3 ρ3 vx H3 _ g3 s3 r3 hp3 => ?_)
    have hp3 : PostV X ρ3 δ H3 Q (WE W0 σ) (match dlook S3 d k with | some r => .val (r.getD x) S3 | none => .bad) := hp3
    cases e : dlook S3 d k with
    | none => rw [e] at hp3; exact hp3.elim
    | some r =>
      rw [e] at hp3
      subst ea
      obtain ⟨a', e', ov, q1, q⟩ := dlook_rep s3 ((g2.trans g3).rep r1) (g3.rep r2) e
      cases e'
      refine ⟨ov, q1, ?_⟩
      rcases q with ⟨q2, q3⟩ | ⟨w', v, q2, q3, q4⟩
      · subst q2 q3
        exact PostV.here hp3 s3 r3
      · subst q2 q3
        exact PostV.here hp3 s3 q4
  · rw [if_neg hd] at hp1; exact hp1.elim
end
/-! sorted(d) -/
def intK : List (L2.Key × W) → Option (List Int)
  | [] => some []
  | (.inl i, _) :: r => (intK r).map (i :: ·)
  | (.inr _, _) :: _ => none
theorem intK_map : ∀ {kws : List (L2.Key × W)} {ns : List Int}, intK kws = some ns → kws.map Prod.fst = ns.map Sum.inl
  | [], _, e => by cases e; rfl
  | (.inl i, w) :: r, ns, e => by
    have e : (intK r).map (i :: ·) = some ns := e
    cases e1 : intK r with
    | none => rw [e1] at e; cases e
    | some m =>
      rw [e1] at e
      cases e
      rw [List.map_cons, List.map_cons, intK_map e1]
  | (.inr _, _) :: _, _, e => by cases e
def rSrtDI : List V → Hp → VK → Prop := fun xs H Q => ∃ (a : Addr) (kvs : List (L2.Key × V)) (ks : List Int), xs = [.ref a] ∧ Rd H a (.dK kvs) ∧ kvs.map (·.1) = ks.map Sum.inl ∧ ks.length < 64 ∧ ∀ (ys : List Int) (p : Addr), ys.Perm ks → ys.Pairwise (· ≤ ·) → H p = none → Q (.ref p) (upd H p (.lst (ys.map V.int)))
def sortedDI : List W → M W
  | [.dct n] => fun S => match S[n]? with
    | some (.dk kws) => match intK kws with
      | some ns => if ns.length < 64 then .val (.lst ((sortI ns).map W.int)) S else .bad
      | none => .bad
    | _ => .bad
  | _ => bad
theorem ca_sdi {X : Cx} : CaS X rSrtDI sortedDI := by
  intro ρ δ S H ws vs Q E s r hp
  cases r with
  | nil => exact hp.elim
  | @cons w v ws vs r t =>
    cases t with
    | cons _ _ => cases r <;> exact hp.elim
    | nil =>
      cases r with
      | @dct n a f hk =>
        have hp : PostV X ρ δ H Q E (match S[n]? with
          | some (.dk kws) => match intK kws with
            | some ns => if ns.length < 64 then .val (.lst ((sortI ns).map W.int)) S else .bad
            | none => .bad
          | _ => .bad) := hp
        cases e1 : S[n]? with
        | none => rw [e1] at hp; exact hp.elim
        | some c => cases c with
          | lst _ => rw [e1] at hp; exact hp.elim
          | dt _ => rw [e1] at hp; exact hp.elim
          | dk kws =>
            rw [e1] at hp
            cases e2 : intK kws with
            | none => simp only [e2] at hp; exact hp.elim
            | some ns =>
              simp only [e2] at hp
              obtain ⟨hl, hp⟩ := PostV.if hp
              obtain ⟨kvs, h1, h2, h3⟩ := s.dk f e1
              refine ⟨a, kvs, ns, rfl, .inl h1, by rw [show kvs.map (·.1) = kvs.map Prod.fst from rfl, h2, intK_map e2], hl, fun ys p hy hs np => ?_⟩
              have : ys = sortI ns := srt_uniq (hy.trans (sortI_perm ns).symm) hs (sortI_srt ns)
              subst this
              exact PostV.lst hp s (Reps.ints _) np
      | _ => exact hp.elim
end Sm

set_option Elab.async false
set_option linter.all false
set_option maxRecDepth 100000
/-! <, > and sorted of data -/
namespace Sm
open PySem PySem.Spec PyProof.Rows L2 LamX
variable [TB]
def rCmpD (K : PySem.W.Frag) (f : PyData → PyData → Bool) : R2 := fun x y H Q => ∃ d e, Dp K H x d ∧ Dp K H y e ∧ PySem.W.alike d e = true ∧ d ≠ .none ∧ d.depth ≤ 8 ∧ Q (.bl (f d e)) H
section
variable {X : Cx}
theorem op_gtD (hu : X.A.units + 64 < cLine) : OpR X (compareOp .Gt) (rCmpD X.K fun d e => PySem.W.dataLt e d) := by
  intro pins s σ H x y v u Q I rx ry ⟨d, e, hd, he, ha, hn, hl, q⟩
  obtain ⟨as, r1⟩ := Dp.reads I d x v hd rx
  obtain ⟨bs, r2⟩ := Dp.reads I e y u he ry
  exact PySem.W.gt_data r1 r2 ha hn (by omega) ⟨.bl _, H, I, rfl, q⟩
theorem op_ltD (hu : X.A.units + 64 < cLine) : OpR X (compareOp .Lt) (rCmpD X.K fun d e => PySem.W.dataLt d e) := by
  intro pins s σ H x y v u Q I rx ry ⟨d, e, hd, he, ha, hn, hl, q⟩
  obtain ⟨as, r1⟩ := Dp.reads I d x v hd rx
  obtain ⟨bs, r2⟩ := Dp.reads I e y u he ry
  exact PySem.W.lt_data r1 r2 ha hn (by omega) ⟨.bl _, H, I, rfl, q⟩
def isNonD : PyData → Bool
  | .none => true
  | _ => false
theorem isNonD_ne {d : PyData} (h : isNonD d = false) : d ≠ .none := fun e => by subst e; cases h
def cmpDW (f : PyData → PyData → Bool) (x y : W) : M W := fun S => match toD x, toD y with
  | some d, some e => if PySem.W.alike d e = true ∧ isNonD d = false ∧ d.depth ≤ 8 then .val (.bl (f d e)) S else .bad
  | _, _ => .bad
theorem os_cmpD (f : PyData → PyData → Bool) : OpS X (rCmpD X.K f) (cmpDW f) := by
  intro ρ δ S H x y v u Q E s rx ry hp
  have hp : PostV X ρ δ H Q E (match toD x, toD y with
    | some d, some e => if PySem.W.alike d e = true ∧ isNonD d = false ∧ d.depth ≤ 8 then .val (.bl (f d e)) S else .bad
    | _, _ => .bad) := hp
  cases e1 : toD x with
  | none => rw [e1] at hp; exact hp.elim
  | some d =>
    cases e2 : toD y with
    | none => rw [e1, e2] at hp; exact hp.elim
    | some e =>
      rw [e1, e2] at hp
      obtain ⟨⟨h1, h2, h3⟩, hp⟩ := PostV.if hp
      exact ⟨d, e, toD_dp rx e1, toD_dp ry e2, h1, isNonD_ne h2, h3, PostV.here (v := .bl _) hp s .bl⟩
abbrev gtDW : W → W → M W := cmpDW fun d e => PySem.W.dataLt e d
abbrev ltDW : W → W → M W := cmpDW fun d e => PySem.W.dataLt d e
/-! sorted -/
def leD (p q : PyData) : Bool := !PySem.W.dataLt q p
def isTupD : PyData → Bool
  | .tuple (_ :: _) => true
  | _ => false
def flatD : PyData → Bool
  | .none => false
  | .tuple _ => false
  | _ => true
def sortD (ds : List PyData) : Bool := ds.all isTupD || ds.all flatD
theorem sortD_ok {ds : List PyData} (h : sortD ds = true) : PySem.W.Sortable ds := by
  unfold sortD at h
  rw [Bool.or_eq_true] at h
  rcases h with h | h
  · refine .inl fun d hd => ?_
    have := List.all_eq_true.mp h d hd
    cases d with
    | tuple xs => cases xs with
      | nil => cases this
      | cons x r => exact ⟨x, r, rfl⟩
    | _ => cases this
  · refine .inr fun d hd => ?_
    have := List.all_eq_true.mp h d hd
    cases d with
    | none => cases this
    | tuple xs => cases this
    | _ => exact ⟨fun z => (by cases z), fun _ z => (by cases z)⟩
theorem allAl {ds : List PyData} (h : (ds.all fun d => ds.all fun e => PySem.W.alike d e) = true) : PySem.W.AllAlike ds := fun d hd e he => List.all_eq_true.mp (List.all_eq_true.mp h d hd) e he
/-- an item: its address, what it stands for, its data -/
abbrev TR := V × W × PyData
def rSrtG (K : Fr) : List V → Hp → VK → Prop := fun vs H Q => ∃ (a : Addr) (bs : List TR), vs = [V.ref a] ∧ (SqL K H a (bs.map (·.1))) ∧ (∀ b ∈ bs, Dp K H b.1 b.2.2) ∧
  PySem.W.AllAlike (bs.map (·.2.2)) ∧ PySem.W.Sortable (bs.map (·.2.2)) ∧ (∀ b ∈ bs, b.2.2.depth ≤ 8) ∧ bs.length ≤ 1000 ∧
  ∀ p, H p = none → Q (.ref p) (upd H p (.lst ((bs.mergeSort fun x y => leD x.2.2 y.2.2).map (·.1))))
section
variable {pins : List (Addr × Obj)} {σ : L2.St} {H : Hp} {s : Shared}
theorem each_rel {f : TR → V} : ∀ {bs : List TR} {us : List Value}, Vals (bs.map f) us → PySem.W.EachIs (fun u b => RelV (f b) u) us bs
  | [], _, .nil => .nil
  | b :: bs, _, .cons r t => .cons r (each_rel t)
theorem rel_each {f : TR → V} : ∀ {bs : List TR} {us : List Value}, PySem.W.EachIs (fun u b => RelV (f b) u) us bs → Vals (bs.map f) us
  | [], _, .nil => .nil
  | b :: bs, _, .cons r t => .cons r (rel_each t)
theorem each_reads (I : Inv X pins σ H s) : ∀ {bs : List TR} {us : List Value}, (∀ b ∈ bs, Dp X.K H b.1 b.2.2) → Vals (bs.map (·.1)) us → PySem.W.EachIs (fun v b => ∃ as, Reads s.heap v b.2.2 as) us bs
  | [], _, _, .nil => .nil
  | b :: bs, _, h, .cons r t => .cons (Dp.reads I _ _ _ (h b List.mem_cons_self) r) (each_reads I (fun c hc => h c (List.mem_cons_of_mem _ hc)) t)
end
theorem cr_srtG (hu : X.A.units + 64 < cLine) : CallR X (.builtin "sorted") (rSrtG X.K) := by
  intro pins s σ H vs us Q I r ⟨a, bs, e, hs, hd, hal, hk, hdp, hl, q⟩
  subst e
  rw [Vals.ref1 r]
  obtain ⟨its, rv, hli, hz⟩ := I.list hs
  refine PySem.W.sorted_data (enc := fun b : TR => b.2.2) (R := fun u b => RelV b.1 u) (bs := bs) hli.isList (each_rel rv) (each_reads I hd rv) hal hk (by rw [sizeLine_eq]; omega) (fun b hb => by have := hdp b hb; show X.A.units + 2 + b.2.2.depth < cLine; omega) fun out ho he => ?_
  have va := rel_each (f := fun b => b.1) he
  obtain ⟨ep, he'⟩ := PyProof.Rows.sortedAll_at s.heap its out.toArray
  have hlen : ((bs.mergeSort fun x y => leD x.2.2 y.2.2).map (·.1)).length ≤ sizeLine := by
    rw [List.length_map, List.length_mergeSort, sizeLine_eq]
    omega
  exact ⟨.ref _, upd H (s.heap.objs.size + 1) (.lst ((bs.mergeSort fun x y => leD x.2.2 y.2.2).map (·.1))), I.laid (t' := s.toks) (fun _ _ => PyProof.Rows.sortedAll_old) (Nat.le_succ _) ⟨hlen, out, ep, va, he'⟩, rfl, q _ (I.hok.fresh (Nat.le_succ _))⟩
end
theorem reps_of {K : Fr} {ρ δ : List Addr} {H : Hp} : ∀ {bs : List TR}, (∀ b ∈ bs, Rep K ρ δ H b.2.1 b.1) → Reps K ρ δ H (bs.map (·.2.1)) (bs.map (·.1))
  | [], _ => .nil
  | b :: bs, h => .cons (h b List.mem_cons_self) (reps_of fun c hc => h c (List.mem_cons_of_mem _ hc))
theorem zip3 {K : Fr} {ρ δ : List Addr} {H : Hp} : ∀ {ws : List W} {vs : List V} {ds : List PyData}, Reps K ρ δ H ws vs → toDs ws = some ds →
    ∃ bs : List TR, bs.map (·.1) = vs ∧ bs.map (·.2) = ws.zip ds ∧ bs.map (·.2.2) = ds ∧ ∀ b ∈ bs, Rep K ρ δ H b.2.1 b.1 ∧ Dp K H b.1 b.2.2
  | [], _, _, .nil, e => by
    have e : some [] = some _ := e
    cases e
    exact ⟨[], rfl, rfl, rfl, fun b h => absurd h (by simp)⟩
  | w :: ws, _, ds, .cons (v := v) r t, e => by
    unfold toDs at e
    cases e1 : toD w with
    | none => simp [e1] at e
    | some d =>
      cases e2 : toDs ws with
      | none => simp [e1, e2] at e
      | some ds' =>
        simp [e1, e2] at e
        subst e
        obtain ⟨bs, q1, q2, q3, q4⟩ := zip3 t e2
        refine ⟨(v, w, d) :: bs, by simp [q1], by simp [q2], by simp [q3], fun b hb => ?_⟩
        rcases List.mem_cons.mp hb with rfl | hb
        · exact ⟨r, toD_dp r e1⟩
        · exact q4 b hb
def okSrt (ds : List PyData) : Bool := (ds.all fun d => ds.all fun e => PySem.W.alike d e) && sortD ds && ds.all fun d => decide (d.depth ≤ 8)
def sortedG : List W → M W
  | [w] => fun S => if isL w = true then match seqW S w with
    | some ws => match toDs ws with
      | some ds => if okSrt ds = true ∧ ws.length ≤ 1000 then .val (.lst (((ws.zip ds).mergeSort fun x y => leD x.2 y.2).map (·.1))) S else .bad
      | none => .bad
    | none => .bad else .bad
  | _ => bad
theorem seqW_repL {X : Cx} {ρ δ : List Addr} {S : Sto} {H : Hp} {w : W} {v : V} {ws : List W} (s : Sts X.K ρ δ S H) (r : Rep X.K ρ δ H w v) (e : seqW S w = some ws) (hl : isL w = true) : ∃ p vs, v = .ref p ∧ SqL X.K H p vs ∧ Reps X.K ρ δ H ws vs := by
  cases r with
  | lst f t => cases e; exact ⟨_, _, rfl, f.sq, t⟩
  | scr f t => cases e; exact ⟨_, _, rfl, f.sq, t⟩
  | @box n a f hk =>
    obtain ⟨xs, vs, h1, h2, r'⟩ := s.lst f hk
    have e : (match S[n]? with | some (Cell.lst ws) => some ws | _ => none) = some ws := e
    rw [h1] at e
    cases e
    exact ⟨_, _, rfl, .inl (.inl h2), r'⟩
  | _ => cases hl
theorem ca_srtG {X : Cx} : CaS X (rSrtG X.K) sortedG := by
  intro ρ δ S H ws vs Q E s r hp
  cases r with
  | nil => exact hp.elim
  | @cons w v ws vs r t =>
    cases t with
    | cons _ _ => exact hp.elim
    | nil =>
      simp only [sortedG] at hp
      by_cases hL : isL w = true
      · rw [if_pos hL] at hp
        cases e : seqW S w with
        | none => rw [e] at hp; exact hp.elim
        | some us =>
          simp only [e] at hp
          obtain ⟨p, vs, rfl, hq, t⟩ := seqW_repL s r e hL
          cases e2 : toDs us with
          | none => simp only [e2] at hp; exact hp.elim
          | some ds =>
            simp only [e2] at hp
            obtain ⟨⟨hok, hlen⟩, hp⟩ := PostV.if hp
            obtain ⟨bs, q1, q2, q3, q4⟩ := zip3 t e2
            unfold okSrt at hok
            rw [Bool.and_eq_true, Bool.and_eq_true] at hok
            obtain ⟨⟨o1, o2⟩, o3⟩ := hok
            have hbl : bs.length = us.length := by
              have h1 := congrArg List.length q1
              have h2 := Reps.length t
              rw [List.length_map] at h1
              omega
            refine ⟨p, bs, rfl, by rw [q1]; exact hq, fun b hb => (q4 b hb).2, by rw [q3]; exact allAl o1, by rw [q3]; exact sortD_ok o2, fun b hb => ?_, by omega, fun l hl => ?_⟩
            · have : b.2.2 ∈ ds := by rw [← q3]; exact List.mem_map.mpr ⟨b, hb, rfl⟩
              exact of_decide_eq_true (List.all_eq_true.mp o3 _ this)
            · have em : (bs.mergeSort fun x y => leD x.2.2 y.2.2).map (·.2.1) = ((us.zip ds).mergeSort fun x y => leD x.2 y.2).map (·.1) := by
                have := List.map_mergeSort (r := fun x y : TR => leD x.2.2 y.2.2) (s := fun x y : W × PyData => leD x.2 y.2) (f := fun b : TR => b.2) (l := bs) (fun _ _ _ _ => rfl)
                rw [← q2, ← this, List.map_map]
                rfl
              rw [← em] at hp
              refine PostV.lst hp s (reps_of fun b hb => (q4 b ?_).1) hl
              exact (List.mergeSort_perm bs _).mem_iff.mp hb
      · rw [if_neg hL] at hp; exact hp.elim
/-- what stands in order stays -/
theorem sortedG_id {S : Sto} {w : W} {ws : List W} {ds : List PyData} (hL : isL w = true) (e : seqW S w = some ws) (e2 : toDs ws = some ds) (ok : okSrt ds = true) (hl : ws.length ≤ 1000) (h : (ws.zip ds).Pairwise fun x y => leD x.2 y.2 = true) : sortedG [w] S = .val (.lst ws) S := by
  have hz : ws.length ≤ ds.length := by
    have : ∀ {ws : List W} {ds : List PyData}, toDs ws = some ds → ws.length = ds.length := by
      intro ws
      induction ws with
      | nil => intro ds e; have e : some [] = some ds := e; cases e; rfl
      | cons w ws ih =>
        intro ds e
        unfold toDs at e
        cases e1 : toD w with
        | none => simp [e1] at e
        | some d =>
          cases e2 : toDs ws with
          | none => simp [e1, e2] at e
          | some ds' =>
            simp [e1, e2] at e
            subst e
            simp [ih e2]
    exact Nat.le_of_eq (this e2)
  simp only [sortedG]
  rw [if_pos hL, e]
  simp only [e2]
  rw [if_pos ⟨ok, hl⟩, List.mergeSort_of_pairwise h, List.map_fst_zip hz]
end Sm

set_option Elab.async false
set_option linter.all false
set_option maxRecDepth 100000
/-! a for over a list or a box while the store changes; dicts at hand -/
namespace Sm
open PySem PySem.Spec PyProof.Rows L2 LamX
variable [TB]
theorem loopF_at {it : It8} {g : W → Env → Option Env} {body : SM} {k i : Nat} {env : Env} {S : Sto} {o : Option (Option W)} (h : it.at S i = o) : loopF it g body (k + 1) i env S = (match (generalizing := false) o with
    | none => .bad
    | some none => .nx env S
    | some (some w) => match g w env with
      | none => .bad
      | some env1 => match body env1 S with
        | .nx env2 S2 => loopF it g body k (i + 1) env2 S2
        | .ct env2 S2 => loopF it g body k (i + 1) env2 S2
        | .bk env2 S2 => .nx env2 S2
        | .rt v S2 => .rt v S2
        | .xc e env2 S2 => .xc e env2 S2
        | .bad => .bad) := by
  cases o with
  | none => simp only [loopF, h]
  | some r => cases r with
    | none => simp only [loopF, h]
    | some w => simp only [loopF, h] <;> rfl
theorem loopF_inv {it : It8} {g : W → Env → Option Env} {body : SM} {ws : List W} (P : Nat → Env → Sto → Prop) (hit : ∀ i env S, P i env S → it.at S i = some ws[i]?)
    (h : ∀ i (hi : i < ws.length) env S, P i env S → ∃ env1, g ws[i] env = some env1 ∧ ∃ env2 S2, body env1 S = .nx env2 S2 ∧ P (i + 1) env2 S2) :
    ∀ (k i : Nat) env S, i + k = ws.length → P i env S → ∃ env' S', loopF it g body (k + 1) i env S = .nx env' S' ∧ P ws.length env' S'
  | 0, i, env, S, hi, p => by
    have e : ws[i]? = none := List.getElem?_eq_none (by omega)
    have ei : i = ws.length := by omega
    refine ⟨env, S, ?_, by rw [← ei]; exact p⟩
    rw [loopF_at ((hit i env S p).trans (congrArg some e))]
  | k + 1, i, env, S, hi, p => by
    have hl : i < ws.length := by omega
    have e : ws[i]? = some ws[i] := List.getElem?_eq_getElem hl
    obtain ⟨env1, e1, env2, S2, e2, p2⟩ := h i hl env S p
    obtain ⟨env', S', e3, p3⟩ := loopF_inv P hit h k (i + 1) env2 S2 (by omega) p2
    refine ⟨env', S', ?_, p3⟩
    rw [loopF_at ((hit i env S p).trans (congrArg some e))]
    simp only [e1, e2]
    exact e3
/-- a list, or a box that has it -/
def ItOf (x : W) (ws : List W) (S : Sto) : Prop := x = .lst ws ∨ x = .tup ws ∨ ∃ n, x = .box n ∧ S[n]? = some (.lst ws)
theorem forW {mx : EM W} {x : W} {g : W → Env → Option Env} {body : SM} {ws : List W} {env : Env} {S S1 : Sto} (P : Nat → Env → Sto → Prop) (hm : mx env S = .val x S1) (hI : ∀ i env S, P i env S → ItOf x ws S)
    (h : ∀ i (hi : i < ws.length) env S, P i env S → ∃ env1, g ws[i] env = some env1 ∧ ∃ env2 S2, body env1 S = .nx env2 S2 ∧ P (i + 1) env2 S2) (p : P 0 env S1) :
    ∃ env' S', sFor (mI itSeq mx) g body env S = .nx env' S' ∧ P ws.length env' S' := by
  have main : ∀ it : It8, (∀ i env S, P i env S → it.at S i = some ws[i]?) → it.fuel S1 = ws.length + 1 → itSeq x S1 = .val it S1 → ∃ env' S', sFor (mI itSeq mx) g body env S = .nx env' S' ∧ P ws.length env' S' := by
    intro it hit hf hx
    obtain ⟨env', S', e, p'⟩ := loopF_inv (it := it) (g := g) (body := body) P hit h ws.length 0 env S1 (by omega) p
    refine ⟨env', S', ?_, p'⟩
    have e0 : mI itSeq mx env S = .val it S1 := by
      show Out.bind (mx env S) itSeq = _
      rw [hm]
      exact hx
    show ofI (mI itSeq mx env S) env _ = _
    rw [e0]
    show loopF it g body (it.fuel S1) 0 env S1 = _
    rw [hf]
    exact e
  rcases hI 0 env S1 p with rfl | rfl | ⟨n, rfl, hn⟩
  · exact main (.seq ws) (fun _ _ _ _ => rfl) rfl rfl
  · exact main (.seq ws) (fun _ _ _ _ => rfl) rfl rfl
  · refine main (.bx n) (fun i env S q => ?_) (it_bx_fuel hn) rfl
    rcases hI i env S q with z | z | ⟨m, z, hm⟩
    · cases z
    · cases z
    · cases z
      simp only [It8.at, hm]
/-- a for that looks for one -/
theorem forW_find {mx : EM W} {x : W} {g : W → Env → Option Env} {body : SM} {ws : List W} {env : Env} {S S1 : Sto} {P : Env → Prop} {f : W → Option W} (hm : mx env S = .val x S1) (hI : ItOf x ws S1)
    (hs : ∀ w ∈ ws, ∀ env, P env → ∃ env1, g w env = some env1 ∧ (match f w with | some v => body env1 S1 = .rt v S1 | none => ∃ env2, body env1 S1 = .nx env2 S1 ∧ P env2)) (hp : P env) :
    (match ws.findSome? f with | some v => sFor (mI itSeq mx) g body env S = .rt v S1 | none => ∃ env', sFor (mI itSeq mx) g body env S = .nx env' S1 ∧ P env') := by
  have go : ∀ it : It8, (∀ i, it.at S1 i = some ws[i]?) → ∀ (k i : Nat) env, i + k = ws.length → P env → (match (ws.drop i).findSome? f with | some v => loopF it g body (k + 1) i env S1 = .rt v S1 | none => ∃ env', loopF it g body (k + 1) i env S1 = .nx env' S1 ∧ P env') := by
    intro it hit k
    induction k with
    | zero =>
      intro i env hi p
      have e : ws[i]? = none := List.getElem?_eq_none (by omega)
      rw [List.drop_eq_nil_of_le (by omega)]
      refine ⟨env, ?_, p⟩
      rw [loopF_at ((hit i).trans (congrArg some e))]
    | succ k ih =>
      intro i env hi p
      have hl : i < ws.length := by omega
      have e : ws[i]? = some ws[i] := List.getElem?_eq_getElem hl
      rw [List.drop_eq_getElem_cons hl, List.findSome?_cons]
      obtain ⟨env1, e1, e2⟩ := hs ws[i] (List.getElem_mem hl) env p
      cases c : f ws[i] with
      | some v =>
        rw [c] at e2
        have e2 : body env1 S1 = .rt v S1 := e2
        show loopF it g body (k + 1 + 1) i env S1 = .rt v S1
        rw [loopF_at ((hit i).trans (congrArg some e))]
        simp only [e1, e2]
      | none =>
        rw [c] at e2
        obtain ⟨env2, e2, p2⟩ := e2
        have := ih (i + 1) env2 (by omega) p2
        have eq : loopF it g body (k + 1 + 1) i env S1 = loopF it g body (k + 1) (i + 1) env2 S1 := by
          rw [loopF_at ((hit i).trans (congrArg some e))]
          simp only [e1, e2]
        simp only [eq]
        exact this
  have main : ∀ it : It8, (∀ i, it.at S1 i = some ws[i]?) → it.fuel S1 = ws.length + 1 → itSeq x S1 = .val it S1 → (match ws.findSome? f with | some v => sFor (mI itSeq mx) g body env S = .rt v S1 | none => ∃ env', sFor (mI itSeq mx) g body env S = .nx env' S1 ∧ P env') := by
    intro it hit hf hx
    have e0 : mI itSeq mx env S = .val it S1 := by
      show Out.bind (mx env S) itSeq = _
      rw [hm]
      exact hx
    have eq : sFor (mI itSeq mx) g body env S = loopF it g body (ws.length + 1) 0 env S1 := by
      show ofI (mI itSeq mx env S) env _ = _
      rw [e0]
      show loopF it g body (it.fuel S1) 0 env S1 = _
      rw [hf]
    rw [eq]
    have := go it hit ws.length 0 env (by omega) hp
    rw [List.drop_zero] at this
    exact this
  rcases hI with rfl | rfl | ⟨n, rfl, hn⟩
  · exact main (.seq ws) (fun _ => rfl) rfl rfl
  · exact main (.seq ws) (fun _ => rfl) rfl rfl
  · exact main (.bx n) (fun i => by simp only [It8.at, hn]) (it_bx_fuel hn) rfl
theorem dlook_eq {S : Sto} {n : Nat} {kvs : List (L2.Key × W)} (h : S[n]? = some (.dk kvs)) (i : Int) : dlook S (.dct n) (.int i) = some (lookK kvs (.inl i)) := by
  simp only [dlook, keyW, h]
theorem dput_eq {S : Sto} {n : Nat} {kvs : List (L2.Key × W)} (h : S[n]? = some (.dk kvs)) (hl : kvs.length < 1000) (i : Int) (w : W) : dputW (.dct n) (.int i) w S = some (S.set n (.dk (putW kvs (.inl i) w))) := by
  simp only [dputW, keyW, h]
  rw [if_pos hl]
theorem sdput_eq {me mo mi : EM W} {env : Env} {S S1 S2 S3 S4 : Sto} {w o i : W} (h1 : me env S = .val w S1) (h2 : mo env S1 = .val o S2) (h3 : mi env S2 = .val i S3) (h4 : dputW o i w S3 = some S4) : sDPut me mo mi env S = .nx env S4 := by
  show ofE (me env S) env _ = _
  rw [h1]
  show ofE (mo env S1) env _ = _
  rw [h2]
  show ofE (mi env S2) env _ = _
  rw [h3]
  show (match dputW o i w S3 with | some S4 => Fl.nx env S4 | none => .bad) = _
  rw [h4]
theorem din_eq {mi mo : EM W} {env : Env} {S S1 S2 : Sto} {k d : W} {r : Option W} {neg : Bool} (h1 : mi env S = .val k S1) (h2 : mo env S1 = .val d S2) (h3 : dlook S2 d k = some r) : mDIn neg mi mo env S = .val (.bl (if neg = true then !r.isSome else r.isSome)) S2 := by
  show Out.bind (mi env S) _ = _
  rw [h1]
  show Out.bind (mo env S1) _ = _
  rw [h2]
  show (match dlook S2 d k with | some r => Out.val (W.bl (if neg = true then !r.isSome else r.isSome)) S2 | none => .bad) = _
  rw [h3]
theorem dget1_eq {mo me : EM W} {env : Env} {S S1 S2 : Sto} {k : W} {n : Nat} {r : Option W} (h1 : mo env S = .val (.dct n) S1) (h2 : me env S1 = .val k S2) (h3 : dlook S2 (.dct n) k = some r) : mGet1 mo me env S = .val (r.getD .non) S2 := by
  show Out.bind (mo env S) _ = _
  rw [h1]
  show Out.bind (me env S1) _ = _
  rw [h2]
  show (match dlook S2 (.dct n) k with | some r => Out.val (r.getD .non) S2 | none => .bad) = _
  rw [h3]
theorem dget2_eq {mo me mf : EM W} {env : Env} {S S1 S2 S3 : Sto} {k x : W} {n : Nat} {r : Option W} (h1 : mo env S = .val (.dct n) S1) (h2 : me env S1 = .val k S2) (h4 : mf env S2 = .val x S3) (h3 : dlook S3 (.dct n) k = some r) : mGet2 mo me mf env S = .val (r.getD x) S3 := by
  show Out.bind (mo env S) _ = _
  rw [h1]
  show Out.bind (me env S1) _ = _
  rw [h2]
  show Out.bind (mf env S2) _ = _
  rw [h4]
  show (match dlook S3 (.dct n) k with | some r => Out.val (r.getD x) S3 | none => .bad) = _
  rw [h3]
theorem dgetW_eq {S : Sto} {d k w : W} (h : dlook S d k = some (some w)) : dgetW d k S = .val w S := by
  simp only [dgetW, h]
theorem putW_new {kvs : List (L2.Key × W)} {k : L2.Key} (w : W) (h : lookK kvs k = none) : putW kvs k w = kvs ++ [(k, w)] := by
  have : (kvs.any fun kv => decide (kv.1 = k)) = false := by
    rw [List.any_eq_false]
    intro kv hk
    simp only [decide_eq_true_eq]
    intro e
    unfold lookK at h
    rw [Option.map_eq_none_iff, List.find?_eq_none] at h
    exact h kv hk (decide_eq_true e)
  unfold putW
  rw [this]
  rfl
end Sm

set_option Elab.async false
set_option linter.all false
set_option maxRecDepth 100000
/-! sorted(range(n), key=lambda p: ..) -/
namespace Sm
open PySem PySem.Spec PyProof.Rows L2 LamX NdefX
variable [TB]
section
variable {X : Cx} {pins : List (Addr × Obj)} {σ : L2.St} {H : Hp} {s : Shared}
/-- what the built-in collects, told by the values -/
def CollsG (X : Cx) (s : Shared) (l : Value) (vs : List V) : Prop := ∀ (A : Around) (E : Value → Shared → Prop) (Q : List Value → Shared → Prop), A.handled = none →
  (∀ (h' : Heap) (tk : Nat) (its : List Value), (∀ b o, s.heap.get? b = some o → h'.get? b = some o) → Vals vs its → its.length ≤ sizeLine → Q its { s with heap := h', toks := tk }) → wpAny (model X.prog X.w) A (collect l) Q E s
theorem keysortG {l : Value} {fA : Addr} {fo : Obj} {vs : List V} {kz : List Int} {Q : VK} {E : Value → Shared → Prop} (PT : Nat → Hp → Prop) (I : Inv X pins σ H s) (hh : X.A.handled = none) (hl : CollsG X s l vs) (hlen0 : kz.length = vs.length)
    (hf : s.heap.get? fA = some fo) (hfn : H fA = none) (hfL : fA ≠ X.env.locals) (hfX : fA ∉ X.fs) (hfd : ∀ v, fo.data ≠ .cell v)
    (ha : argsOk "sorted" ⟨[l], [(Str.ofString "key", .ref fA)]⟩)
    (h0 : PT 0 H)
    (turn : ∀ (i : Nat) (v : V) (u : Value) (k : Int) (H1 : Hp) (s1 : Shared) (pins1 : List (Addr × Obj)), vs[i]? = some v → L2.RelV v u → kz[i]? = some k → PT i H1 → Inv X pins1 σ H1 s1 → s1.heap.get? fA = some fo →
      wpAny (model X.prog X.w) X.A.in1.in1 (call (.ref fA) [u]) (EP X pins1 σ fun w H2 => w = .int k ∧ PT (i + 1) H2) (fun _ _ => False) s1)
    (fin : ∀ H2, PT vs.length H2 → ∀ p, H2 p = none → Q (.ref p) (upd H2 p (.lst ((sortG (kz.zip vs)).map Prod.snd)))) :
    wpAny (model X.prog X.w) X.A (call (.builtin "sorted") [l] [(Str.ofString "key", .ref fA)]) (EP X pins σ Q) E s := by
  refine call_function_entry_kw kind_sorted plain_sorted entry_sorted ha ?_
  unfold Builtin.«sorted»
  refine wpAny_bind (m := checkCount "sorted" 1 1 _) (wpAny_pure ?_)
  refine wpAny_bind (hl X.A.in1 E _ hh fun hA tkA its kA rv hz => ?_)
  have hlen : kz.length = its.length := by rw [hlen0, rv.length]
  have hz2 := hz
  rw [sizeLine_eq] at hz2
  have IA : Inv X pins σ H { s with heap := hA, toks := tkA } := I.kept kA
  refine wpAny_bind (wpAny_newList ?_ hz)
  -- the list that is sorted
  have hoL : (hA.push (seqObj "list" its.toArray 0)).get? hA.objs.size = some (seqObj "list" its.toArray 0) := Heap.get?_push_size _ rfl
  generalize ea : hA.objs.size = a at hoL
  have hBk : ∀ b o, hA.get? b = some o → (hA.push (seqObj "list" its.toArray 0)).get? b = some o := fun b o e => Heap.get?_push_of_some _ e
  have hBs : (hA.push (seqObj "list" its.toArray 0)).objs.size = a + 1 := by rw [size_push', ea]
  generalize hB0 : hA.push (seqObj "list" its.toArray 0) = hB at hoL hBk hBs
  have IB : Inv X pins σ H { s with heap := hB, toks := tkA } := IA.kept hBk
  have fpa : FpOk X pins H a := IA.fpOk (Nat.le_of_eq ea) (IA.hok.fresh (Nat.le_of_eq ea))
  have hfa : fA < a := by rw [← ea]; exact Heap.lt_size (kA _ _ hf)
  have haf : a ≠ fA := Nat.ne_of_gt hfa
  have hka : a + 2 ≠ a := Nat.ne_of_gt (Nat.lt_add_of_pos_right (by decide))
  show wpAny _ _ _ _ _ { s with heap := hB, toks := tkA }
  refine wpAny_bind (wpAny_holding (wpAny_call_entry_kw slot_list_sort ⟨_, hoL, rfl⟩ entry_list_sort ?body (ksk_l1 _ _)))
  case body =>
    show wpAny (model X.prog X.w) X.A.in1.in1 (Builtin.«list.sort» ⟨[.ref a], [(Str.ofString "key", .ref fA)]⟩) _ _ _
    rw [ksk_t1]
    unfold ksk_tree
    refine wpAny_bind (listItems_at hoL rfl ?_)
    refine wpAny_bind (listUpdate_at hoL rfl ?_ (by rw [List.size_toArray, sizeLine_eq]; omega) (Nat.zero_le _))
    have sC := Heap.SameBut.update hB a (Obj.mapSeq fun _ => (#[] : Array Value))
    obtain ⟨e1, hoC⟩ : ∃ e1, (hB.update a (Obj.mapSeq fun _ => (#[] : Array Value))).get? a = some (seqObj "list" #[] e1) := ⟨_, get?_update_seq hoL fun _ => #[]⟩
    have hCs : (hB.update a (Obj.mapSeq fun _ => (#[] : Array Value))).objs.size = a + 1 := by rw [Heap.size_update, hBs]
    generalize hC0 : hB.update a (Obj.mapSeq fun _ => (#[] : Array Value)) = hC at sC hoC hCs
    have IC : Inv X pins σ H { s with heap := hC, toks := tkA } := Inv.turnedL (s := { s with heap := hB, toks := tkA }) (t' := tkA) IB (ch := [a]) (fun b o hb e => (sC.2 b (fun z => hb (by simp [z]))).trans e) (fun b hb => by rw [List.mem_singleton.mp hb]; exact fpa)
    show wpAny _ _ _ _ _ { s with heap := hC, toks := tkA }
    refine wpAny_bind (seqEpoch_at hoC rfl ?_)
    refine wpAny_bind (wpAny_newTuple ?_ (by show its.length ≤ _; rw [sizeLine_eq]; omega))
    refine wpAny_bind (wpAny_newList ?_ (Nat.zero_le _))
    refine wpAny_holding ?_
    have hDk : ∀ b o, hC.get? b = some o → ((hC.push (seqObj "tuple" its.toArray 0)).push (seqObj "list" #[] 0)).get? b = some o := fun b o e => Heap.get?_push_of_some _ (Heap.get?_push_of_some _ e)
    have hks : (hC.push (seqObj "tuple" its.toArray 0)).objs.size = a + 2 := by rw [size_push', hCs]
    have hoD : ((hC.push (seqObj "tuple" its.toArray 0)).push (seqObj "list" #[] 0)).get? (a + 2) = some (seqObj "list" #[] 0) := by
      rw [← hks]; exact Heap.get?_push_size _ rfl
    show wpAny _ _ (ksk_rest a (.ref fA) false its.toArray e1 (.ref (hC.push (seqObj "tuple" its.toArray 0)).objs.size)) _ _ { s with heap := (hC.push (seqObj "tuple" its.toArray 0)).push (seqObj "list" #[] 0), toks := tkA }
    rw [hks]
    generalize hD0 : (hC.push (seqObj "tuple" its.toArray 0)).push (seqObj "list" #[] 0) = hD at hDk hoD
    have ID : Inv X pins σ H { s with heap := hD, toks := tkA } := IC.kept hDk
    have fpk : FpOk X pins H (a + 2) := IC.fpOk (by show hC.objs.size ≤ _; omega) (IC.hok.fresh (by show hC.objs.size ≤ _; omega))
    have hkf : a + 2 ≠ fA := Nat.ne_of_gt (Nat.lt_of_lt_of_le hfa (Nat.le_add_right a 2))
    have cellS : ∀ (n : String) (xs : Array Value) (e : Nat) (v : Option Value), (seqObj n xs e).data ≠ .cell v := fun n xs e v z => by cases z
    have I0 : Inv X (pins ++ [(fA, fo), (a, seqObj "list" #[] e1), (a + 2, seqObj "list" #[] 0)]) σ H { s with heap := hD, toks := tkA } := ID.pins_of fun p hp => by
      rcases List.mem_append.mp hp with hp | hp
      · exact ID.pin p (List.mem_append_right _ hp)
      · simp only [List.mem_cons, List.not_mem_nil, or_false] at hp
        rcases hp with rfl | rfl | rfl
        · exact ⟨hDk _ _ ((sC.2 fA haf.symm).trans (hBk _ _ (kA _ _ hf))), hfn, hfL, hfX, hfd⟩
        · exact ⟨hDk _ _ hoC, fpa.1, fpa.2.1, fpa.2.2.1, cellS _ _ _⟩
        · exact ⟨hoD, fpk.1, fpk.2.1, fpk.2.2.1, cellS _ _ _⟩
    unfold ksk_rest
    refine wpAny_bind (wpAny_rule ?_)
    first
      | rw [List.forIn_toArray]
      | (rw [← Array.forIn_toList]; simp only [List.toList_toArray])
      | rw [← Array.forIn_toList]
    refine wpAny_bind (ksk_fold (fun i s' => ∃ H1 kA e, Inv X (pins ++ [(fA, fo), (a, seqObj "list" #[] e1), (a + 2, seqObj "list" kA e)]) σ H1 s' ∧ IntsAre kA.toList (kz.take i) ∧ PT i H1) its 0 _
      ⟨H, #[], 0, I0, by simpa using IntsAre.nil, h0⟩ ?step ?done)
    case step =>
      rintro j x s' hx ⟨H1, kA, e, Ij, hk, pt⟩
      simp only [Nat.zero_add] at hk pt ⊢
      have hj : j < its.length := (List.getElem?_eq_some_iff.mp hx).1
      obtain ⟨k, hkj⟩ : ∃ k, kz[j]? = some k := ⟨_, List.getElem?_eq_getElem (by omega)⟩
      obtain ⟨v, hv⟩ : ∃ v, vs[j]? = some v := ⟨_, List.getElem?_eq_getElem (by rw [rv.length]; exact hj)⟩
      have rvj : L2.RelV v x := by
        obtain ⟨u, q1, q2⟩ := rv.get hv
        rw [hx] at q1
        cases q1
        exact q2
      have hzk : kA.size ≤ its.length := by
        have h1 := hk.length
        rw [Array.length_toList, List.length_take] at h1
        omega
      have hfo := (Ij.pin (fA, fo) (by simp)).1
      refine wpAny_bind (wpAny_attempt (wpAny_mono (turn j v x k H1 s' _ hv rvj hkj pt Ij hfo) (fun w s'' he => ?_) fun _ _ hF => hF.elim))
      obtain ⟨w1, H2, I2, rw1, rfl, pt2⟩ := he
      obtain ⟨t2, rfl⟩ := rw1
      try dsimp only
      have nk := I2.pin (a + 2, seqObj "list" kA e) (by simp)
      have na := I2.pin (a, seqObj "list" #[] e1) (by simp)
      have nf := I2.pin (fA, fo) (by simp)
      have s1 := Heap.SameBut.update s''.heap (a + 2) (Obj.mapSeq (·.push (.int k t2)))
      obtain ⟨c2, hc2⟩ : ∃ c2, (s''.heap.update (a + 2) (Obj.mapSeq (·.push (.int k t2)))).get? (a + 2) = some (seqObj "list" (kA.push (.int k t2)) c2) := ⟨_, get?_update_seq nk.1 (·.push (.int k t2))⟩
      have ek : kz.take (j + 1) = kz.take j ++ [k] := by rw [List.take_add_one, hkj]; simp
      have ea2 : (kA.push (Value.int k t2)).toList = kA.toList ++ [Value.int k t2] := by simp
      refine wpAny_bind (listUpdate_at nk.1 rfl ?_ (by rw [sizeLine_eq]; omega) (Nat.le_trans (Nat.le_of_eq (Array.size_push ..)) (by rw [sizeLine_eq]; omega)))
      have fpk2 : FpOk X pins H2 (a + 2) := ⟨nk.2.1, fpk.2⟩
      have I3 : Inv X pins σ H2 { s'' with heap := s''.heap.update (a + 2) (Obj.mapSeq (·.push (.int k t2))) } := (I2.unpinned).turnedL (t' := s''.toks) (ch := [a + 2]) (fun b o hb e => (s1.2 b (fun z => hb (by simp [z]))).trans e) (fun b hb => by rw [List.mem_singleton.mp hb]; exact fpk2)
      refine wpAny_pure ⟨rfl, H2, kA.push (.int k t2), c2, I3.pins_of fun p hp => ?_, by rw [ea2, ek]; exact ksk_snoc hk, pt2⟩
      rcases List.mem_append.mp hp with hp | hp
      · exact I3.pin p (List.mem_append_right _ hp)
      · simp only [List.mem_cons, List.not_mem_nil, or_false] at hp
        rcases hp with rfl | rfl | rfl
        · exact ⟨(s1.2 _ hkf.symm).trans nf.1, nf.2⟩
        · exact ⟨(s1.2 _ hka.symm).trans na.1, na.2⟩
        · exact ⟨hc2, nk.2.1, nk.2.2.1, nk.2.2.2.1, cellS _ _ _⟩
    case done =>
      rintro s' ⟨H1, kA, e, Ij, hk, pt⟩
      have hk' : IntsAre kA.toList kz := by
        have e3 : kz.take (0 + its.length) = kz := List.take_of_length_le (by omega)
        rw [e3] at hk
        exact hk
      rw [Nat.zero_add] at pt
      have nk := Ij.pin (a + 2, seqObj "list" kA e) (by simp)
      have na := Ij.pin (a, seqObj "list" #[] e1) (by simp)
      try dsimp only
      refine wpAny_bind (listItems_at nk.1 rfl ?_)
      refine SmS.keyed_end (us := its) nk.1 na.1 hka hk' hlen hz fun h' tk out c k3 ho hout => ⟨_, rfl, wpAny_pure ⟨_, rfl, ?_⟩⟩
      have I4 : Inv X pins σ H1 { s' with heap := h', toks := tk } := (Ij.unpinned).turnedL (ch := [a + 2, a]) (fun b o hb e => k3 b o (fun z => hb (by simp [z])) (fun z => hb (by simp [z])) e) (fun b hb => by
        simp only [List.mem_cons, List.not_mem_nil, or_false] at hb
        rcases hb with rfl | rfl
        · exact ⟨nk.2.1, fpk.2⟩
        · exact ⟨na.2.1, fpa.2⟩)
      have eo := ksk_is hout
      have vo : Vals ((sortG (kz.zip vs)).map Prod.snd) out.toList := by rw [eo]; exact (sortG_vals rv).2
      have lo : ((sortG (kz.zip vs)).map Prod.snd).length ≤ sizeLine := by
        rw [List.length_map, sortG_len, List.length_zip, rv.length]
        omega
      have I5 : Inv X pins σ (upd H1 a (.lst ((sortG (kz.zip vs)).map Prod.snd))) { s' with heap := h', toks := tk } := I4.take (t' := tk) (fun b o _ e => e) ⟨na.2.1, fpa.2⟩ ⟨lo, out.toList, c, vo, by rw [Array.toArray_toList]; exact ho⟩
      exact ⟨.ref a, _, I5, rfl, fin H1 (by rw [rv.length]; exact pt) a na.2.1⟩
end
section
variable {X : Cx} {W0 : WX}
theorem key_runG {pins : List (Addr × Obj)} {s : Shared} {σ : L2.St} {H : Hp} {Q : VK} {E : Value → Shared → Prop} {N : List Str} {p : Str} {fr : List Str} {js : List Nat} {pr : Arguments} {scp : Scope} {bd : Expr} {lpos : Pos} {k : Nat} {mb : EM W} {ρ δ : List Addr} {S : Sto} {env : Env} {ws : List W} {vs : List V} {l : Value}
    (I : Inv X pins σ H s) (L : KeyL X N p fr js pr scp bd) (TX : TabX X) (hr : Room (k + 3) X.A) (hT : Tabs TB.T H)
    (hb : ∀ (f c' : Addr) (A : Around) (outer : List PySem.Env) (s : Shared) (H : Hp), Room k (A.deeper (envF (lamF X pr scp c') f s.heap.objs.size)) → SimE (lamX X N pr scp f c' A outer s H) WF JTb bd mb)
    (he : EnvR X.K ρ δ H env σ) (hs : Sts X.K ρ δ S H) (rw_ : Reps X.K ρ δ H ws vs)
    (hl : ∀ (H1 : Hp) (t : Shared), Inv X pins σ H1 t → (∀ b u, H b = some u → NT u → H1 b = some u) → CollsG X t l vs) (ha : ∀ v : Value, argsOk "sorted" ⟨[l], [(Str.ofString "key", v)]⟩)
    (hp : PostV X ρ δ H Q (WE W0 σ) (sortW N.length js mb env ws S)) :
    wpAny (model X.prog X.w) X.A (eval (.Lambda pr bd scp lpos) X.env) (fun f t => wpAny (model X.prog X.w) X.A (call (.builtin "sorted") [l] [(Str.ofString "key", f)]) (EP X pins σ Q) E t) E s := by
  obtain ⟨c, P, TBc, hcode, hm, hu⟩ := TX.ex
  refine lam_made (ρ := ρ) I TBc hcode hm hu hT L.df (fun y hy e => (L.cap y hy e).elim (fun z => I.ok.has _ (.inl z)) fun z => I.ok.has _ (.inr z)) fun f c' o H1 t J g ext hf hla fn fx hco => ?_
  have hs1 := sts_ext hs g ext
  have hcl := hl H1 t J ext
  have hp1 : PostV X ρ δ H1 Q (WE W0 σ) (sortW N.length js mb env ws S) := Post.mono g hp fun _ _ z => z
  obtain ⟨hlim, hp1⟩ := PostV.if hp1
  cases ek : mKeys N.length js mb env ws S with
  | bad => rw [ek] at hp1; exact hp1.elim
  | exc x S1 => rw [ek] at hp1; exact hp1.elim
  | val ks Sf =>
    rw [ek] at hp1
    have kl : ks.length = vs.length := by rw [mKeys_len ek, Reps.length rw_]
    have he1 : EnvR X.K ρ δ H1 env σ := he.grow g
    have rw1 : Reps X.K ρ δ H1 ws vs := g.reps rw_
    have fL : f ≠ X.env.locals ∧ f ∉ X.fs := by
      refine ⟨fun z => ?_, fun z => ?_⟩
      · obtain ⟨m, ⟨oo, es, ep, ho, hd, _⟩, _⟩ := J.loc
        obtain ⟨pm, ctv, rfl⟩ := hla
        rw [← z, hf] at ho
        cases ho
        cases hd
      · rcases J.ok.stk with e | ⟨e, hfr⟩
        · exact fx (by rw [e]; exact z)
        · refine fx ?_
          rw [e]
          unfold frs
          rw [List.filterMap_cons, hfr]
          exact List.mem_cons_of_mem _ z
    have fd : ∀ v, o.data ≠ .cell v := by
      obtain ⟨pm, ctv, rfl⟩ := hla
      intro v z
      cases z
    have cps := fun ok : X.Ok => Caps.made (fr := fr) (js := js) ok L.cap L.frn L.jsn
    refine keysortG (fun i Hi => ∃ ρi Si, Grow ρ H1 ρi Hi ∧ Sts X.K ρi δ Si Hi ∧ Hi c' = some (CodeO c' (X.env.qual ++ "<lambda>")) ∧ mKeys N.length js mb env (ws.drop i) Si = .val (ks.drop i) Sf) J hr.hd hcl kl hf fn fL.1 fL.2 fd (ha _)
      ⟨ρ, S, Grow.refl _ _, hs1, hco, by simpa using ek⟩ ?turn ?fin
    case turn =>
      intro i v u kk Hi si pins1 hv rvi hk ⟨ρi, Si, gi, si_, ci, mi⟩ Ji hfi
      have hwi : ∃ w, ws[i]? = some w := by
        have : i < ws.length := by rw [Reps.length rw_]; exact (List.getElem?_eq_some_iff.mp hv).1
        exact ⟨_, List.getElem?_eq_getElem this⟩
      obtain ⟨w, hw⟩ := hwi
      obtain ⟨v', hv', rwi⟩ := (gi.reps rw1).get hw
      rw [hv] at hv'
      cases hv'
      have dw : ws.drop i = w :: ws.drop (i + 1) := by
        obtain ⟨h1, h2⟩ := List.getElem?_eq_some_iff.mp hw
        rw [← h2, List.drop_eq_getElem_cons h1]
      have dk : ks.drop i = kk :: ks.drop (i + 1) := by
        obtain ⟨h1, h2⟩ := List.getElem?_eq_some_iff.mp hk
        rw [← h2, List.drop_eq_getElem_cons h1]
      rw [dw, dk] at mi
      obtain ⟨S1, m1, m2⟩ := mKeys_cons mi
      refine run_lam (vs := [v]) (us := [u]) (tb := TEc X.K X.mg WF JTb mb) Ji L.ns (cps Ji.ok) hfi hla ci L.bd Ji.env0.in1.in1 hr.in1.in1 (.cons rvi .nil) rfl (fun A outer s H hr2 => (hb f c' A outer s H hr2).can) ?_
      refine ⟨ρi, δ, Si, lamEnvM N.length js [w] env, lam_env (he1.grow gi) (.cons rwi .nil), si_, (g.trans gi).tb hT, ?_⟩
      rw [m1]
      intro ρ' b H' g' s' r'
      cases r'
      refine ⟨rfl, ρ', S1, gi.trans g', s', ?_, m2⟩
      refine g'.keep _ _ ci (fun z => ?_) (fun _ z => codeO_ne _ z)
      obtain ⟨n, hn⟩ := List.mem_iff_getElem?.mp z
      obtain ⟨c0, o0, q1, q2, q3⟩ := si_.bx n c' hn
      have k0 := q3.kd
      rw [ci] at q2
      unfold CodeO at q2
      cases q2
      exact k0 rfl
    case fin =>
      intro H2 ⟨ρ2, S2, g2, s2, _, m2⟩ q nq
      have e2 : ws.drop vs.length = [] := List.drop_eq_nil_of_le (by rw [Reps.length rw_]; exact Nat.le_refl _)
      have e3 : ks.drop vs.length = [] := List.drop_eq_nil_of_le (by omega)
      rw [e2, e3] at m2
      have m2 : Out.val ([] : List Int) S2 = Out.val [] Sf := m2
      cases m2
      have hp2 : PostV X ρ2 δ H2 Q (WE W0 σ) (.val (.lst ((sortG (ks.zip ws)).map Prod.snd)) Sf) := Post.mono g2 hp1 fun _ _ z => z
      exact PostV.lst hp2 s2 (sortG_reps (g2.reps rw1)).2 nq
end

def mSKg (n : Nat) (js : List Nat) (ma mb : EM W) : EM W := fun env => bnd (ma env) fun w S => match w with
  | .rng a b => if okRg a b then sortW n js mb env (rangeW a (b - a).toNat) S else .bad
  | _ => .bad
section
variable {X : Cx}
theorem colls_rng {pins : List (Addr × Obj)} {σ : L2.St} {H : Hp} {s : Shared} {r : Addr} {a b : Int} (I : Inv X pins σ H s) (hr : H r = some (.rng a b)) (ok : RgOk a b) : CollsG X s (.ref r) (rgV a b) := by
  intro A E Q hh h
  obtain ⟨b1, b2, b3, b4, b5⟩ := ok
  obtain ⟨t, u, v, ho⟩ : ∃ t u v, s.heap.get? r = some { cls := .type "range", data := .fields #[.int a t, .int b u, .int 1 v] } := (I.hok r _ hr)
  refine collect_range (n := (b - a).toNat) hh (show PySem.IsRange s.heap r a b 1 t u v from ho) (small_one b1 b2 b3 b4) (rangeSize_nat a b) b5 fun h' tk acc hk hi => ?_
  refine h h' tk acc.toList hk (vals_rg hi) ?_
  rw [← (vals_rg hi).length, rgV_length, sizeLine_eq]
  omega
end
section
variable {X : Cx} {W0 : WX}
theorem sim_sortKeyR {N : List Str} {p : Str} {fr : List Str} {js : List Nat} {pr : Arguments} {scp : Scope} {bd xs : Expr} {lpos kp np pos : Pos} {k : Nat} {ma mb : EM W}
    (hg : Gl X "sorted") (hm : X.mg "sorted" = none) (L : KeyL X N p fr js pr scp bd) (TX : TabX X) (hr : Room (k + 3) X.A) (ha : SimE X W0 JTb xs ma)
    (hb : ∀ (f c' : Addr) (A : Around) (outer : List PySem.Env) (s : Shared) (H : Hp), Room k (A.deeper (envF (lamF X pr scp c') f s.heap.objs.size)) → SimE (lamX X N pr scp f c' A outer s H) WF JTb bd mb)
    (hpl : backTo pos (starEach [xs] X.env) = (false, eval xs X.env) :: backTo pos (starEach [] X.env) := by rfl) (hst : (backTo pos (starEach [xs] X.env)).any (·.1) = false := by rfl) (hse : starEach [xs] X.env = (false, eval xs X.env) :: starEach [] X.env := by rfl) :
    SimE X W0 JTb (.Call (.Name "sorted" np) [xs] [{ arg := some "key", value := .Lambda pr bd scp lpos, pos := kp }] pos) (mSKg N.length js ma mb) := by
  obtain ⟨te, pe, ke⟩ := ha
  refine ⟨fun σ H Q => ∃ ρ δ S env, EnvR X.K ρ δ H env σ ∧ Sts X.K ρ δ S H ∧ Tabs TB.T H ∧ PostV X ρ δ H Q (WE W0 σ) (mSKg N.length js ma mb env S), ⟨fun pins s σ H Q I h => ?_⟩, fun ρ δ S H env σ Q he hs hj hp => ⟨ρ, δ, S, env, he, hs, hj, hp⟩⟩
  obtain ⟨ρ, δ, S, env, he, hs, hT, hp⟩ := h
  have arg : tCons te tNil σ H fun vs H1 => ∃ v ρ1 S1 w, vs = [v] ∧ Grow ρ H ρ1 H1 ∧ Sts X.K ρ1 δ S1 H1 ∧ Rep X.K ρ1 δ H1 w v ∧ PostV X ρ1 δ H1 Q (WE W0 σ) (match w with
    | .rng a b => if okRg a b then sortW N.length js mb env (rangeW a (b - a).toNat) S1 else .bad
    | _ => .bad) :=
    ke ρ δ S H env σ _ he hs hT (Post.bind hp fun w S1 ρ1 v H1 _ g1 s1 r1 hp1 => ⟨v, ρ1, S1, w, rfl, g1, s1, r1, hp1⟩)
  refine wpAny_Call_Name_kw (ld_blt I hg hm (u := .builtin "sorted") rfl ?_ (by decide) (by decide))
  refine PyProof.Rows.callWith_kw (thn ((pa_cons pe pa_nil hse).run pos pins s σ H _ I arg) fun us s1 ⟨vs, H1, I1, r1, q1⟩ => ?_) hpl hst rfl rfl
  obtain ⟨v, ρ1, S1, w, rfl, g1, t1, rw1, hp1⟩ := q1
  cases rw1 with
  | @rng l a b f =>
    obtain ⟨ok, hp1⟩ := PostV.if hp1
    obtain rfl := Vals.ref1 r1
    have run := key_runG (E := X.xe) (lpos := lpos) (l := .ref l) I1 L TX hr (g1.tb hT) hb (he.grow g1) t1 (rg_rep a b) (fun H2 t J ext => colls_rng J (ext _ _ f.1 fun _ z => by cases z) ok.rg) (fun v => ksk_s1 _ _) hp1
    refine PyProof.Rows.kwAll_cons (wpAny_mono run (fun f t h => PyProof.Rows.kwAll_nil h) fun _ _ z => z)
  | _ => exact hp1.elim
end
end Sm

set_option Elab.async false
set_option linter.all false
set_option maxRecDepth 100000
/-! comprehensions over a list, a tuple or a box, the store as it was -/
namespace Sm
open PySem PySem.Spec PyProof.Rows L2 LamX
variable [TB]
theorem lcF_ix {it : It8} {g : W → Env → Option Env} {tst : EM Bool} {el : EM W} {env0 : Env} {S : Sto} {ws : List W} (c : W → Bool) (f : W → W) (hit : ∀ i, it.at S i = some ws[i]?)
    (h : ∀ w ∈ ws, ∃ env1, g w env0 = some env1 ∧ tst env1 S = .val (c w) S ∧ (c w = true → el env1 S = .val (f w) S)) :
    ∀ (k i : Nat) (acc : List W), i + k = ws.length → acc.length + k ≤ 1000 → lcF it g tst el env0 (k + 1) i acc S = .val (.lst (acc ++ ((ws.drop i).filter c).map f)) S
  | 0, i, acc, hi, ha => by
    have e : ws[i]? = none := List.getElem?_eq_none (by omega)
    have e2 : ws.drop i = [] := List.drop_eq_nil_of_le (by omega)
    unfold lcF
    simp only [hit, e, e2]
    simp
  | k + 1, i, acc, hi, ha => by
    have hl : i < ws.length := by omega
    have e : ws[i]? = some ws[i] := List.getElem?_eq_getElem hl
    have e2 : ws.drop i = ws[i] :: ws.drop (i + 1) := List.drop_eq_getElem_cons hl
    obtain ⟨env1, e3, e4, e5⟩ := h ws[i] (List.getElem_mem hl)
    rw [e2, List.filter_cons]
    unfold lcF
    simp only [hit, e, e3, e4]
    cases hc : c ws[i]
    · simp only
      rw [lcF_ix c f hit h k (i + 1) acc (by omega) (by omega)]
      rfl
    · simp only [e5 hc]
      rw [if_pos (by unfold lim; omega), lcF_ix c f hit h k (i + 1) (acc ++ [f ws[i]]) (by omega) (by simp; omega)]
      simp
theorem mLCx {own : List Nat} {mx : EM W} {x : W} {g : W → Env → Option Env} {tst : EM Bool} {el : EM W} {env env0 : Env} {S S1 : Sto} {ws : List W} (c : W → Bool) (f : W → W) (hm : mx env S = .val x S1) (hI : ItOf x ws S1) (hw : wipeE env own = env0) (hl : ws.length ≤ 1000)
    (h : ∀ w ∈ ws, ∃ env1, g w env0 = some env1 ∧ tst env1 S1 = .val (c w) S1 ∧ (c w = true → el env1 S1 = .val (f w) S1)) :
    mLC own (mI itSeq mx) g tst el env S = .val (.lst ((ws.filter c).map f)) S1 := by
  have main : ∀ it : It8, (∀ i, it.at S1 i = some ws[i]?) → it.fuel S1 = ws.length + 1 → itSeq x S1 = .val it S1 → mLC own (mI itSeq mx) g tst el env S = .val (.lst ((ws.filter c).map f)) S1 := by
    intro it hit hf hx
    have e := lcF_ix (g := g) (env0 := env0) (tst := tst) (el := el) c f hit h ws.length 0 [] (by omega) (by simpa using hl)
    have em : mI itSeq mx env S = .val it S1 := by
      show (mx env S).bind _ = _
      rw [hm]
      exact hx
    unfold mLC
    show (mI itSeq mx env S).bind _ = _
    rw [em, hw, bind_val, hf, e]
    simp
  rcases hI with rfl | rfl | ⟨n, rfl, hn⟩
  · exact main (.seq ws) (fun i => rfl) rfl rfl
  · exact main (.seq ws) (fun i => rfl) rfl rfl
  · refine main (.bx n) (fun i => at_box hn i) ?_ rfl
    simp only [It8.fuel, hn]
theorem mLCxm {own : List Nat} {mx : EM W} {x : W} {g : W → Env → Option Env} {el : EM W} {env env0 : Env} {S S1 : Sto} {ws : List W} (f : W → W) (hm : mx env S = .val x S1) (hI : ItOf x ws S1) (hw : wipeE env own = env0) (hl : ws.length ≤ 1000)
    (h : ∀ w ∈ ws, ∃ env1, g w env0 = some env1 ∧ el env1 S1 = .val (f w) S1) :
    mLC own (mI itSeq mx) g mYes el env S = .val (.lst (ws.map f)) S1 := by
  have e := mLCx (tst := mYes) (el := el) (fun _ => true) f hm hI hw hl (fun w hw => by
    obtain ⟨env1, e1, e2⟩ := h w hw
    exact ⟨env1, e1, rfl, fun _ => e2⟩)
  rw [e]
  congr 2
  rw [List.filter_eq_self.mpr (fun _ _ => rfl)]
end Sm

set_option Elab.async false
set_option linter.all false
set_option maxRecDepth 100000
/-! a tuple times one: the tuple itself; times more -/
namespace Sm
open PySem PySem.Spec PyProof.Rows L2 LamX
set_option maxHeartbeats 4000000 in
theorem tmul_one (l : Addr) (vals : Array Value) (cnt : Nat) (dct : Option Addr) (slo : Array (Option Value)) (u : Tok) :
    Meets (Builtin.«tuple.__mul__» ⟨[.ref l, .int 1 u], []⟩) (fun _ R st => st.heap.get? l = some { cls := .type "tuple", dict := dct, data := .seq vals cnt, slots := slo } ∧ R (.ok (.ret (Value.ref l))) st) :=
  .of_wp fun prog w A R st hh => by
    obtain ⟨hp, ge, dr, tks, osx⟩ := st
    obtain ⟨hl, hh⟩ := hh
    have f1 := AutoSeq1.idx_int
    have c1 : (vals.isEmpty || (1 : Int) == 1) = true := by simp
    wp_walk using wpAny_loadPart' hl
    exact ⟨_, rfl, hh⟩
def rRepOne (K : PySem.W.Frag) : R2 := fun x y H Q => ∃ l xs, x = .ref l ∧ y = .int 1 ∧ SqT K H l xs ∧ Q (.ref l) H
section
variable {X : Cx}
theorem op_repOne : OpR X (binaryOp .Mult) (rRepOne X.K) := by
  intro pin st sg HH x y v u QQ II rx ry hh
  obtain ⟨l, xs, rfl, rfl, hT, q⟩ := hh
  cases rx
  obtain ⟨tk, rfl⟩ := ry
  obtain ⟨vals, rv, ⟨⟨cl, dct, dat, slo⟩, ho, hc, cnt, hd⟩, hz⟩ := II.tuple hT
  simp only at hc hd
  subst hc hd
  refine wpAny_binaryOp_repeat_ref (T := "tuple") (U := "int") (by decide) ⟨_, ho, rfl⟩ (fun st' => typeIs_int st' 1 tk) noFill_tuple_mul F.fills_int_mul F.slot_int_rmul repeat_tuple F.slot_int_index.lookup ?_
  exact call_meets F.slot_int_rmul (typeIs_int st 1 tk) F.entry_int_rmul (F.args_int_rmul_2 _ _) (int_rmul_tuple 1 tk l vals.toArray cnt dct slo)
    ⟨ho, rfl, ⟨_, ho, rfl⟩, call_meets F.slot_tuple_mul ⟨_, ho, rfl⟩ F.entry_tuple_mul (F.args_tuple_mul_2 _ _) (tmul_one l vals.toArray cnt dct slo tk) ⟨ho, .ref l, HH, II, rfl, q⟩⟩
end
variable [TB]
/-- the product of a tuple and an int, one too -/
def mulTW (x y : W) : M W := match x, y with
  | .tup a, .int k => if k = 1 then (fun S => .val (.tup a) S) else mulW x y
  | x, y => mulW x y
def rMulT (K : Fr) : R2 := fun x y H Q => rMul K x y H Q ∨ rRepOne K x y H Q
theorem op_mulT {X : Cx} : OpR X (binaryOp .Mult) (rMulT X.K) := OpR.or op_mulW op_repOne
theorem os_mulT {X : Cx} : OpS X (rMulT X.K) mulTW := by
  intro ρ δ S H x y v u Q E s rx ry hp
  unfold mulTW at hp
  split at hp
  · rename_i a k
    split at hp
    · rename_i hk
      subst hk
      cases rx with
      | tup f t =>
        cases ry
        exact .inr ⟨_, _, rfl, rfl, f.sq, PostV.here hp s (.tup f t)⟩
    · exact .inl (os_mul ρ δ S H _ _ v u Q E s rx ry hp)
  · exact .inl (os_mul ρ δ S H _ _ v u Q E s rx ry hp)
theorem mulT_one (a : List W) (S : Sto) : mulTW (.tup a) (.int 1) S = .val (.tup a) S := rfl
theorem mulT_rep {a : W} {k : Nat} (h1 : 1 ≤ k) (h : k ≤ 1000) (S : Sto) : mulTW (.tup [a]) (.int (k : Int)) S = .val (.tup (List.replicate k a)) S := by
  unfold mulTW
  by_cases c : k = 1
  · subst c; rfl
  · show (if ((k : Int) = 1) then _ else _ : M W) S = _
    rw [if_neg (by omega), mulW_tup, if_pos (by simp; omega), Int.toNat_natCast]
    congr 2
    induction k with
    | zero => rfl
    | succ k ih =>
      rw [List.replicate_succ, List.flatten_cons, List.replicate_succ]
      have : ∀ n : Nat, (List.replicate n [a]).flatten = List.replicate n a := fun n => by
        induction n with
        | zero => rfl
        | succ n ih => rw [List.replicate_succ, List.flatten_cons, ih, List.replicate_succ]; rfl
      rw [this]
      rfl
end Sm

set_option Elab.async false
set_option linter.all false
set_option maxRecDepth 100000
/-! dicts whose keys are tuples of ints and texts -/
namespace Sm
open PySem PySem.Spec PyProof.Rows L2 LamX
variable [TB]
def keyT : W → Option (List L2.Key)
  | .tup ws => mapO keyW ws
  | _ => none
def lookT (kvs : List (List L2.Key × W)) (k : List L2.Key) : Option W := (kvs.find? fun kv => decide (kv.1 = k)).map (·.2)
def putTW (kvs : List (List L2.Key × W)) (k : List L2.Key) (w : W) : List (List L2.Key × W) := if (kvs.any fun kv => decide (kv.1 = k)) = true then kvs.map (fun kv => if kv.1 = k then (kv.1, w) else kv) else kvs ++ [(k, w)]
section
variable {K : Fr} {ρ δ : List Addr} {H : Hp}
theorem kysT_rep : ∀ {ws : List W} {vs : List V} {k : List L2.Key}, Reps K ρ δ H ws vs → mapO keyW ws = some k → vs = k.map kV
  | [], _, _, r, e => by
    cases r
    cases e
    rfl
  | w :: ws, _, k, r, e => by
    cases r with
    | cons r0 r =>
      have e : ((keyW w).bind fun b => (mapO keyW ws).bind fun bs => some (b :: bs)) = some k := e
      cases e1 : keyW w with
      | none => rw [e1] at e; cases e
      | some k0 =>
        cases e2 : mapO keyW ws with
        | none => rw [e1, e2] at e; cases e
        | some ks =>
          rw [e1, e2] at e
          cases e
          rw [List.map_cons, keyW_rep r0 e1, kysT_rep r e2]
theorem keyT_rep {w : W} {v : V} {k : List L2.Key} (r : Rep K ρ δ H w v) (e : keyT w = some k) : ∃ b, v = .ref b ∧ H b = some (.tup (k.map kV)) := by
  cases r with
  | @tup a ws vs f t =>
    have ev := kysT_rep t e
    subst ev
    exact ⟨a, rfl, f.1⟩
  | _ => cases e
theorem lookT_rep : ∀ {kws : List (List L2.Key × W)} {kvs : List (List L2.Key × V)}, kvs.map Prod.fst = kws.map Prod.fst → Reps K ρ δ H (kws.map Prod.snd) (kvs.map Prod.snd) → ∀ k, (lookT kws k = none ∧ valV kvs k = none) ∨ ∃ w v, lookT kws k = some w ∧ valV kvs k = some v ∧ Rep K ρ δ H w v
  | [], [], _, _, k => .inl ⟨rfl, rfl⟩
  | [], _ :: _, h, _, _ => by simp at h
  | _ :: _, [], h, _, _ => by simp at h
  | (a, w) :: kws, (b, v) :: kvs, h, r, k => by
    have h1 : b = a ∧ kvs.map Prod.fst = kws.map Prod.fst := by simpa using h
    obtain ⟨rfl, h2⟩ := h1
    have r : Reps K ρ δ H (w :: kws.map Prod.snd) (v :: kvs.map Prod.snd) := r
    cases r with
    | cons r0 r =>
      by_cases e : b = k
      · right
        refine ⟨w, v, ?_, ?_, r0⟩
        · unfold lookT; simp [e]
        · exact valV_pos (p := (b, v)) e
      · have e1 : lookT ((b, w) :: kws) k = lookT kws k := by unfold lookT; simp [e]
        have e2 : valV ((b, v) :: kvs) k = valV kvs k := valV_neg (p := (b, v)) e
        rw [e1, e2]
        exact lookT_rep h2 r k
theorem putT_map : ∀ {kws : List (List L2.Key × W)} {kvs : List (List L2.Key × V)} {k : List L2.Key} {w : W} {v : V}, kvs.map Prod.fst = kws.map Prod.fst → Reps K ρ δ H (kws.map Prod.snd) (kvs.map Prod.snd) → Rep K ρ δ H w v →
    (kvs.map (fun kv => if kv.1 = k then (kv.1, v) else kv)).map Prod.fst = (kws.map (fun kv => if kv.1 = k then (kv.1, w) else kv)).map Prod.fst ∧ Reps K ρ δ H ((kws.map (fun kv => if kv.1 = k then (kv.1, w) else kv)).map Prod.snd) ((kvs.map (fun kv => if kv.1 = k then (kv.1, v) else kv)).map Prod.snd)
  | [], [], _, _, _, _, _, _ => ⟨rfl, .nil⟩
  | [], _ :: _, _, _, _, h, _, _ => by simp at h
  | _ :: _, [], _, _, _, h, _, _ => by simp at h
  | (a, w0) :: kws, (b, v0) :: kvs, k, w, v, h, r, rw => by
    have h1 : b = a ∧ kvs.map Prod.fst = kws.map Prod.fst := by simpa using h
    obtain ⟨rfl, h2⟩ := h1
    have r : Reps K ρ δ H (w0 :: kws.map Prod.snd) (v0 :: kvs.map Prod.snd) := r
    cases r with
    | cons r0 r =>
      obtain ⟨q1, q2⟩ := putT_map (k := k) h2 r rw
      simp only [List.map_cons]
      by_cases e : b = k
      · rw [if_pos e, if_pos e]
        exact ⟨by simp only [q1], .cons rw q2⟩
      · rw [if_neg e, if_neg e]
        exact ⟨by simp only [q1], .cons r0 q2⟩
theorem putT_rep {kws : List (List L2.Key × W)} {kvs : List (List L2.Key × V)} {k : List L2.Key} {w : W} {v : V} (h : kvs.map Prod.fst = kws.map Prod.fst) (r : Reps K ρ δ H (kws.map Prod.snd) (kvs.map Prod.snd)) (rw : Rep K ρ δ H w v) :
    (putK kvs k v).map Prod.fst = (putTW kws k w).map Prod.fst ∧ Reps K ρ δ H ((putTW kws k w).map Prod.snd) ((putK kvs k v).map Prod.snd) := by
  have ea : (kvs.any fun kv => decide (kv.1 = k)) = kws.any fun kv => decide (kv.1 = k) := by rw [any_fst, any_fst, h]
  unfold putK putTW
  rw [ea]
  by_cases c : (kws.any fun kv => decide (kv.1 = k)) = true
  · rw [if_pos c, if_pos c]
    exact putT_map h r rw
  · rw [if_neg c, if_neg c]
    rw [List.map_append, List.map_append, List.map_append, List.map_append, h]
    exact ⟨rfl, r.append (.cons rw .nil)⟩
variable {S : Sto}
theorem Sts.dt (s : Sts K ρ δ S H) {n : Nat} {a : Addr} {kws : List (List L2.Key × W)} (hp : ρ[n]? = some a) (e : S[n]? = some (.dt kws)) : ∃ kvs, H a = some (.dT kvs) ∧ kvs.map Prod.fst = kws.map Prod.fst ∧ Reps K ρ δ H (kws.map Prod.snd) (kvs.map Prod.snd) := by
  obtain ⟨c, o, h1, h2, h3⟩ := s.bx n a hp
  rw [e] at h1
  cases h1
  obtain ⟨kvs, rfl, h4, h5⟩ := h3
  exact ⟨kvs, h2, h4, h5⟩
end
section
variable {X : Cx} {W0 : WX} {J : JI} {a b c o e i f : Expr} {pos p2 apos cpos : Pos} {ma mb mc mo me mi mf : EM W}
/-! d[k] = v -/
def dputT : W → W → W → Sto → Option Sto
  | .dct n, i, w, S => match S[n]?, keyT i with
    | some (.dt kws), some k => if kws.length < 1000 then some (S.set n (.dt (putTW kws k w))) else none
    | _, _ => none
  | _, _, _, _ => none
def sDPutT (me mo mi : EM W) : SM := fun env S => ofE (me env S) env fun w S1 => ofE (mo env S1) env fun o S2 => ofE (mi env S2) env fun i S3 => match dputT o i w S3 with
  | some S4 => .nx env S4
  | none => .bad
theorem sims_dputT (hu : X.A.units + 1 < cLine) (he : SimE X W0 J e me) (ho : SimE X W0 J o mo) (hi : SimE X W0 J i mi)
    (has : ∀ v, assign (.Subscript o i p2) X.env v = (do
      let ov ← holding [v] (eval o X.env)
      let iv ← holding [v, ov] (eval i X.env)
      standAt p2
      holding [v, ov, iv] (setItem ov iv v)
      release [v, ov, iv] []) := by intro _; rfl)
    (hs : swapsWithSole [.Subscript o i p2] e pos.line X.env = pure false := by rfl) (hw : swappedStores [.Subscript o i p2] e X.env = pure none := by rfl)
    (h1 : (assignEach [.Subscript o i p2] X.env).map (·.2) = [assign (.Subscript o i p2) X.env] := by rfl) : SimS X W0 J (.Assign [.Subscript o i p2] e pos) (sDPutT me mo mi) := by
  obtain ⟨te, pe, ke⟩ := he
  obtain ⟨to, po, ko⟩ := ho
  obtain ⟨ti, pi, ki⟩ := hi
  refine ⟨_, ps_asg pe (pg_sub po pi (set_dict hu) has) hs hw h1, fun ρ δ S H env σ D hen hst hj hp => ?_⟩
  refine ke _ _ S _ env σ _ hen hst hj (PostS.ofE hen hp fun w S1 ρ1 v H1 _ g1 s1 r1 hp1 => ?_)
  refine ko _ _ S1 _ env σ _ (hen.grow g1) s1 (J.st _ _ _ _ g1 hj) (PostS.ofE (hen.grow g1) hp1 fun wo S2 ρ2 vo H2 _ g2 s2 r2 hp2 => ?_)
  refine ki _ _ S2 _ env σ _ (hen.grow (g1.trans g2)) s2 (J.st _ _ _ _ (g1.trans g2) hj) (PostS.ofE (hen.grow (g1.trans g2)) hp2 fun wi S3 ρ3 vi H3 _ g3 s3 r3 hp3 => ?_)
  have r1 := (g2.trans g3).rep r1
  have r2 := g3.rep r2
  cases r2 with
  | @dct n a f hk =>
    have hp3 : PostS X.mg X.K ρ3 δ H3 W0 D (match (match S3[n]?, keyT wi with
      | some (.dt kws), some k => if kws.length < 1000 then some (S3.set n (.dt (putTW kws k w))) else none
      | _, _ => none) with | some S4 => .nx env S4 | none => .bad) := hp3
    cases e1 : S3[n]? with
    | none => rw [e1] at hp3; exact hp3.elim
    | some c => cases c with
      | lst _ => rw [e1] at hp3; exact hp3.elim
      | dk _ => rw [e1] at hp3; exact hp3.elim
      | dt kws =>
        rw [e1] at hp3
        cases e2 : keyT wi with
        | none => rw [e2] at hp3; exact hp3.elim
        | some k =>
          rw [e2] at hp3
          by_cases hl : kws.length < 1000
          · simp only [if_pos hl] at hp3
            obtain ⟨kvs, h1, h2, h3⟩ := s3.dt f e1
            obtain ⟨b, ev, hb⟩ := keyT_rep r3 e2
            have el : kvs.length = kws.length := by
              have := congrArg List.length h2
              simpa using this
            obtain ⟨q1, q2⟩ := putT_rep (k := k) h2 h3 r1
            refine ⟨a, _, rfl, .inr ⟨kvs, k, b, h1, ev, hb, by rw [el, sizeLine_eq]; omega, rfl⟩, ?_⟩
            have hk2 : kdH H3 a = 3 := kdH_some h1
            have gp : Grow ρ3 H3 ρ3 (upd H3 a (.dT (putK kvs k v))) := Grow.put f (by rw [hk2]; decide) hk2.symm
            exact hp3 ρ3 σ _ gp (s3.put (c := .dt (putTW kws k w)) f hk2.symm ⟨_, rfl, q1, q2⟩) ((hen.grow (g1.trans (g2.trans g3))).grow gp)
          · simp only [if_neg hl] at hp3; exact hp3.elim
  | _ => exact hp3.elim
/-! k in d, d[k] -/
def dlookT (S : Sto) (d k : W) : Option (Option W) := match d, keyT k with
  | .dct n, some κ => match S[n]? with
    | some (.dt kws) => some (lookT kws κ)
    | _ => none
  | _, _ => none
theorem dlookT_rep {ρ δ : List Addr} {S : Sto} {H : Hp} {d k : W} {vd vk : V} {r : Option W} (s : Sts X.K ρ δ S H) (rd : Rep X.K ρ δ H d vd) (rk : Rep X.K ρ δ H k vk) (e : dlookT S d k = some r) :
    ∃ a, vd = .ref a ∧ ∃ ov, DGet H a vk ov ∧ ((r = none ∧ ov = none) ∨ ∃ w v, r = some w ∧ ov = some v ∧ Rep X.K ρ δ H w v) := by
  cases rd with
  | @dct n a f hk =>
    cases e2 : keyT k with
    | none => simp only [dlookT, e2] at e; cases e
    | some κ =>
      have e : (match S[n]? with | some (.dt kws) => some (lookT kws κ) | _ => none) = some r := by simpa only [dlookT, e2] using e
      cases e1 : S[n]? with
      | none => rw [e1] at e; cases e
      | some c => cases c with
        | lst _ => rw [e1] at e; cases e
        | dk _ => rw [e1] at e; cases e
        | dt kws =>
          rw [e1] at e
          have e : lookT kws κ = r := Option.some.inj e
          obtain ⟨kvs, h1, h2, h3⟩ := s.dt f e1
          obtain ⟨b, ev, hb⟩ := keyT_rep rk e2
          refine ⟨a, rfl, valV kvs κ, by rw [ev]; exact DGet.t h1 hb, ?_⟩
          rcases lookT_rep h2 h3 κ with ⟨q1, q2⟩ | ⟨w, v, q1, q2, q3⟩
          · exact .inl ⟨by rw [← e, q1], q2⟩
          · exact .inr ⟨w, v, by rw [← e, q1], q2, q3⟩
  | _ => cases hk : keyT k <;> simp only [dlookT, hk] at e <;> cases e
def mDInT (neg : Bool) (mi mo : EM W) : EM W := fun env => bnd (mi env) fun k => bnd (mo env) fun d S => match dlookT S d k with
  | some r => .val (.bl (if neg = true then !r.isSome else r.isSome)) S
  | none => .bad
theorem dinT_go {ti to : TE} (ki : ∀ ρ δ S H env σ Q, EnvR X.K ρ δ H env σ → Sts X.K ρ δ S H → J.p ρ H → PostV X ρ δ H Q (WE W0 σ) (mi env S) → ti σ H Q)
    (ko : ∀ ρ δ S H env σ Q, EnvR X.K ρ δ H env σ → Sts X.K ρ δ S H → J.p ρ H → PostV X ρ δ H Q (WE W0 σ) (mo env S) → to σ H Q) (neg : Bool) :
    ∀ ρ δ S H env σ Q, EnvR X.K ρ δ H env σ → Sts X.K ρ δ S H → J.p ρ H → PostV X ρ δ H Q (WE W0 σ) (mDInT neg mi mo env S) → ti σ H fun y H1 => to σ H1 fun x H2 => ∃ a ov, x = .ref a ∧ DGet H2 a y ov ∧ Q (.bl (if neg = true then !ov.isSome else ov.isSome)) H2 := by
  intro ρ δ S H env σ Q he hst hj hp
  refine ki _ _ S _ env σ _ he hst hj (Post.bind hp fun k S1 ρ1 vk H1 _ g1 s1 r1 hp1 => ?_)
  refine ko _ _ S1 _ env σ _ (he.grow g1) s1 (J.st _ _ _ _ g1 hj) (Post.bind hp1 fun d S2 ρ2 vd H2 _ g2 s2 r2 hp2 => ?_)
  have hp2 : PostV X ρ2 δ H2 Q (WE W0 σ) (match dlookT S2 d k with | some r => .val (.bl (if neg = true then !r.isSome else r.isSome)) S2 | none => .bad) := hp2
  cases e : dlookT S2 d k with
  | none => rw [e] at hp2; exact hp2.elim
  | some r =>
    rw [e] at hp2
    obtain ⟨a, rfl, ov, q1, ⟨q2, q3⟩ | ⟨w', v, q2, q3, q4⟩⟩ := dlookT_rep s2 r2 (g2.rep r1) e
    · subst q2 q3
      exact ⟨a, none, rfl, q1, PostV.here (v := .bl _) hp2 s2 .bl⟩
    · subst q2 q3
      exact ⟨a, some v, rfl, q1, PostV.here (v := .bl _) hp2 s2 .bl⟩
theorem sim_dinT (hu : X.A.units + 1 < cLine) (hi : SimE X W0 J i mi) (ho : SimE X W0 J o mo) (hm : behindInMarks .In o = false := by with_unfolding_all rfl) : SimE X W0 J (.Compare i [.In] [o] pos) (mDInT false mi mo) := by
  obtain ⟨ti, pi, ki⟩ := hi
  obtain ⟨to, po, ko⟩ := ho
  exact ⟨_, pe_cmp (pc_din hu pi po) hm, dinT_go ki ko false⟩
theorem sim_dnotinT (hu : X.A.units + 1 < cLine) (hi : SimE X W0 J i mi) (ho : SimE X W0 J o mo) (hm : behindInMarks .NotIn o = false := by with_unfolding_all rfl) : SimE X W0 J (.Compare i [.NotIn] [o] pos) (mDInT true mi mo) := by
  obtain ⟨ti, pi, ki⟩ := hi
  obtain ⟨to, po, ko⟩ := ho
  exact ⟨_, pe_cmp (pc_dnotin hu pi po) hm, dinT_go ki ko true⟩
theorem simT_dinT (hu : X.A.units + 1 < cLine) (hi : SimE X W0 J i mi) (ho : SimE X W0 J o mo) (hm : behindInMarks .In o = false := by with_unfolding_all rfl) : SimT X W0 J (.Compare i [.In] [o] pos) (mB (mDInT false mi mo)) := by
  obtain ⟨ti, pi, ki⟩ := hi
  obtain ⟨to, po, ko⟩ := ho
  exact simT_of (pt_cmp (pc_din hu pi po) hm) (dinT_go ki ko false)
theorem simT_dnotinT (hu : X.A.units + 1 < cLine) (hi : SimE X W0 J i mi) (ho : SimE X W0 J o mo) (hm : behindInMarks .NotIn o = false := by with_unfolding_all rfl) : SimT X W0 J (.Compare i [.NotIn] [o] pos) (mB (mDInT true mi mo)) := by
  obtain ⟨ti, pi, ki⟩ := hi
  obtain ⟨to, po, ko⟩ := ho
  exact simT_of (pt_cmp (pc_dnotin hu pi po) hm) (dinT_go ki ko true)
end
/-! what steps give -/
theorem keyT_pair (a b : Int) : keyT (.tup [.int a, .int b]) = some [.inl a, .inl b] := rfl
theorem sdputT_eq {me mo mi : EM W} {env : Env} {S S1 S2 S3 S4 : Sto} {w o i : W} (h1 : me env S = .val w S1) (h2 : mo env S1 = .val o S2) (h3 : mi env S2 = .val i S3) (h4 : dputT o i w S3 = some S4) : sDPutT me mo mi env S = .nx env S4 := by
  unfold sDPutT
  rw [h1]
  show ofE (mo env S1) env _ = _
  rw [h2]
  show ofE (mi env S2) env _ = _
  rw [h3]
  show (match dputT o i w S3 with | some S4 => Fl.nx env S4 | none => .bad) = _
  rw [h4]
theorem dinT_eq {mi mo : EM W} {env : Env} {S S1 S2 : Sto} {k d : W} {r : Option W} {neg : Bool} (h1 : mi env S = .val k S1) (h2 : mo env S1 = .val d S2) (h3 : dlookT S2 d k = some r) : mDInT neg mi mo env S = .val (.bl (if neg = true then !r.isSome else r.isSome)) S2 := by
  unfold mDInT
  show (mi env S).bind _ = _
  rw [h1, bind_val]
  show (mo env S1).bind _ = _
  rw [h2, bind_val]
  show (match dlookT S2 d k with | some r => Out.val (W.bl (if neg = true then !r.isSome else r.isSome)) S2 | none => .bad) = _
  rw [h3]
end Sm

set_option Elab.async false
set_option linter.all false
set_option maxRecDepth 100000
/-! sorted of alike tuples, the first of them empty -/
namespace Sm
open PySem PySem.Spec PyProof.Rows L2 LamX
section
open PySem PySem.Calls PySem.SeqAt PyProof.Rows PySem.W
theorem call_tup_lt {prog : Program} {w : World} {A : Around} {s : Shared} {E : Value → Shared → Prop} {Q : Value → Shared → Prop} {l b : Addr} {items items2 : Array Value} {e r : Nat → Bool} (hl : s.heap.IsTuple l items) (hb : s.heap.IsTuple b items2)
    (he : ∀ j (h1 : j < items.size) (h2 : j < items2.size), EqAt A.in1 s items[j] items2[j] (e j)) (hr : ∀ j (h1 : j < items.size) (h2 : j < items2.size), e j = false → RcLt A.in1 s items[j] items2[j] (r j))
    (h : Q (.bool (firstLt e r (decide (items.size < items2.size)) (List.range (min items.size items2.size)))) s) : wpAny (model prog w) A (call (.builtin "tuple.__lt__") [.ref l, .ref b]) Q E s := by
  obtain ⟨⟨cls, dd, data, sl⟩, ho, hc, n, hd⟩ := id hl
  obtain ⟨⟨cls2, dd2, data2, sl2⟩, ho2, hc2, n2, hd2⟩ := id hb
  simp only at hc hd hc2 hd2
  subst hc hd hc2 hd2
  exact call_meets F.slot_tuple_lt ⟨_, ho, rfl⟩ F.entry_tuple_lt (F.args_tuple_lt_2 _ _) (SeqAt.tuple_ltAt l b items items2 n n2 dd dd2 sl sl2 e r) ⟨ho, ho2, he, hr, h⟩
section
variable {prog : Program} {w : World} {A : Around} {E : Value → Shared → Prop} {s : Shared}
theorem oneLt_tup {xs ys : List PyData} {a b : Value} {as bs : List Addr} {Q : Bool → Shared → Prop} (ra : Reads s.heap a (.tuple xs) as) (rb : Reads s.heap b (.tuple ys) bs) (hal : alikeAll xs ys = true)
    (hu : A.units + min (PyData.tuple xs).depth (PyData.tuple ys).depth < cLine) (hq : Q (dataLt (.tuple xs) (.tuple ys)) s) : wpAny (model prog w) A (oneLt' true a b) Q E s := by
  cases ra with
  | @tuple l o vs n _ as₁ h1 h2 h3 h4 =>
    cases rb with
    | @tuple l' o' vs' n' _ bs₁ k1 k2 k3 k4 =>
      have n1 : vs.size = xs.length := by simpa using ReadsAll.length _ _ _ h4
      have n2 : vs'.size = ys.length := by simpa using ReadsAll.length _ _ _ k4
      rw [dataLt_tuple, ← firstLt_toks xs ys hal, ← n1, ← n2] at hq
      rw [oneLt'_eq]
      simp only [if_true]
      refine wpAny_bind (wpAny_cRoomFor (room_here hu) ?_)
      refine wpAny_bind (wpAny_callSpecialIfBound?_slot (T := "tuple") ⟨_, h1, h2⟩ F.slot_tuple_lt (call_tup_lt (e := pairEq xs ys) (r := fun j => dataLt (xs.getD j .none) (ys.getD j .none)) ⟨_, h1, h2, _, h3⟩ ⟨_, k1, k2, _, k3⟩ (fun j j1 j2 => ?_) (fun j j1 j2 hj => ?_) ?_))
      · have := eqAt_alikeAll xs ys A.in1 s vs.toList vs'.toList _ _ h4 k4 hal (room_in hu) j (by simpa using j1) (by simpa using j2)
        simpa using this
      · have := rcLt_alikeAll xs ys A.in1 s vs.toList vs'.toList _ _ h4 k4 hal (room_in hu) j (by simpa using j1) (by simpa using j2) hj
        simpa using this
      · exact wpAny_truthy_bool hq
/-- the first items of tuples -/
def firstV (d : PyData) (v : Value) (r : Option Value) : Prop := d = .tuple [] → r = none
theorem first_tup {v : Value} {xs : List PyData} {as : List Addr} (r : Reads s.heap v (.tuple xs) as) {Q : Option Value → Shared → Prop} (h : ∀ o, (xs = [] → o = none) → Q o s) : wpAny (model prog w) A (firstOfTuple' v) Q E s := by
  cases r with
  | @tuple l o vs n _ as₁ h1 h2 h3 h4 =>
    rw [kas_first_eq]
    refine wpAny_bind ((looks_reads (d := .tuple xs) (.tuple h1 h2 h3 h4)).here ?_)
    rw [if_neg (show ¬ ((dataType (PyData.tuple xs) != Value.type "tuple") = true) by simp [dataType])]
    refine wpAny_bind (listItems_at h1 h3 ?_)
    refine wpAny_pure (h _ fun e => ?_)
    subst e
    have : vs.toList = [] := by
      cases q : vs.toList with
      | nil => rfl
      | cons a b => rw [q] at h4; cases h4
    have : vs.size = 0 := by rw [← Array.length_toList, this]; rfl
    exact Array.getElem?_eq_none (by omega)
theorem firsts_tup : ∀ {vs : List Value} {ds : List PyData}, EachIs (fun v d => ∃ as, Reads s.heap v d as) vs ds → (∀ d ∈ ds, ∃ xs, d = .tuple xs) → ∀ {Q : List (Option Value) → Shared → Prop}, (∀ os, Q os s) → wpAny (model prog w) A (vs.mapM firstOfTuple') Q E s
  | _, _, .nil, _, Q, h => by rw [List.mapM_nil]; exact wpAny_pure (h _)
  | _, _, .cons (b := d) ⟨as, r⟩ t, ht, Q, h => by
    obtain ⟨xs, rfl⟩ := ht d List.mem_cons_self
    rw [List.mapM_cons]
    exact wpAny_bind (first_tup r fun o _ => wpAny_bind (firsts_tup t (fun d hd => ht d (List.mem_cons_of_mem _ hd)) fun os => wpAny_pure (h _)))
theorem kind_tupE {v₀ : Value} {vs : List Value} {ds : List PyData} {as : List Addr} (r0 : Reads s.heap v₀ (.tuple []) as) (e : EachIs (fun v d => ∃ as, Reads s.heap v d as) vs ds) (ht : ∀ d ∈ ds, ∃ xs, d = .tuple xs) {Q : SortKind → Shared → Prop} (h : Q oneType' s) :
    wpAny (model prog w) A (keyKind' (v₀ :: vs).toArray) Q E s := by
  rw [keyKind'_eq, List.mapM_toArray, map_eq_pure_bind, List.mapM_cons]
  refine wpAny_bind (wpAny_bind (wpAny_bind (first_tup r0 fun o ho => wpAny_bind (firsts_tup e ht fun os => wpAny_pure (wpAny_pure ?_)))))
  have ho := ho rfl
  subst ho
  rw [if_neg (by simp), if_neg (by simp)]
  rw [oneTypeOnly'_eq, List.mapM_toArray, map_eq_pure_bind]
  have hT : ∀ v ∈ v₀ :: vs, Looks (model prog w) s.heap (typeOf v) (Value.type "tuple") := by
    intro v hv
    rcases List.mem_cons.mp hv with rfl | hv
    · exact looks_reads r0
    · obtain ⟨d, hd, as, r⟩ := e.left v hv
      obtain ⟨xs, rfl⟩ := ht d hd
      exact looks_reads r
  refine wpAny_bind (wpAny_bind (wpAny_bind (kas_mapM (r := Value.type "tuple") _ (fun v hv Q' hq => (hT v hv).here hq) (wpAny_pure ?_))))
  have hall : ((List.map (fun _ => Value.type "tuple") (v₀ :: vs)).toArray.all fun x => x == Value.type "tuple") = true := by
    simp only [List.all_toArray, List.all_map, List.all_eq_true]
    intro _ _
    exact beq_self_eq_true _
  have h0 : (List.map (fun _ => Value.type "tuple") (v₀ :: vs)).toArray[0]? = some (Value.type "tuple") := by simp
  rw [h0]
  simp only [hall, if_true]
  exact wpAny_pure (wpAny_pure h)
/-- tuples, the first of them empty -/
def EmptyFirst (ds : List PyData) : Prop := (∃ r, ds = .tuple [] :: r) ∧ ∀ d ∈ ds, ∃ xs, d = .tuple xs
theorem SortsAt.emptyF {vs : List Value} {ds : List PyData} (e : EachIs (fun v d => ∃ as, Reads s.heap v d as) vs ds) (hal : AllAlike ds) (hk : EmptyFirst ds) (hu : ∀ d, d ∈ ds → A.units + d.depth < cLine) : SortsAt prog w A s (dataKind s.heap ds) vs := by
  have room : ∀ {d d' : PyData}, d ∈ ds → A.units + min d.depth d'.depth < cLine := fun {d d'} hd => Nat.lt_of_le_of_lt (Nat.add_le_add_left (Nat.min_le_left _ _) _) (hu d hd)
  refine ⟨fun v hv => ?_, oneType', ?_, fun h2 E Q hq => ?_⟩
  · obtain ⟨d, hd, as, r⟩ := e.left v hv
    exact ⟨_, dataKind_some hal hd r⟩
  · intro E x y a b Q ha hb hq
    obtain ⟨d, as, hd, ra, rfl⟩ := dataKind_inv ha
    obtain ⟨d', as', hd', rb, rfl⟩ := dataKind_inv hb
    have hdd := hal d hd d' hd'
    have hroom := room (d' := d') hd
    obtain ⟨xs, rfl⟩ := hk.2 d hd
    obtain ⟨ys, rfl⟩ := hk.2 d' hd'
    rw [keyLt'_oneType]
    exact oneLt_tup ra rb (by simpa [alike] using hdd) hroom hq
  · obtain ⟨⟨r, rfl⟩, ht⟩ := hk
    cases e with
    | cons h t =>
      obtain ⟨as, r0⟩ := h
      exact kind_tupE r0 t (fun d hd => ht d (List.mem_cons_of_mem _ hd)) hq
theorem sortedE_data {β : Type} {vs : List Value} {bs : List β} {enc : β → PyData} {R : Value → β → Prop} {l : Addr} {Q : Value → Shared → Prop} (hl : s.heap.IsList l vs.toArray) (e : EachIs R vs bs) (er : EachIs (fun v b => ∃ as, Reads s.heap v (enc b) as) vs bs) (hal : AllAlike (bs.map enc)) (hk : Sortable (bs.map enc) ∨ EmptyFirst (bs.map enc)) (hL : bs.length ≤ sizeLine)
    (hu : ∀ b, b ∈ bs → A.units + 2 + (enc b).depth < cLine) (h : ∀ out, out.length = bs.length → EachIs R out (bs.mergeSort (dataLe false enc)) → Q (.ref (s.heap.objs.size + 1)) { s with heap := sortedAll s.heap vs (List.toArray out) }) :
    wpAny (model prog w) A (call (.builtin "sorted") [.ref l]) Q E s := by
  rcases hk with hk | hk
  · exact sorted_data hl e er hal hk hL hu h
  · have er' : EachIs (fun v b => ∃ as, Reads (sortingHeap (copyHeap s.heap vs) (s.heap.objs.size + 1) vs) v (enc b) as) vs bs := er.mono fun _ _ ⟨as, r⟩ => ⟨as, PyProof.Rows.Reads.keeps (fun _ _ => sorting_copy_old) r⟩
    exact sorted_vals hl (SortsAt.emptyF (s := { s with heap := sortingHeap (copyHeap s.heap vs) (s.heap.objs.size + 1) vs }) (each_map (R := fun v d => ∃ as, Reads (sortingHeap (copyHeap s.heap vs) (s.heap.objs.size + 1) vs) v d as) enc er') hal hk (bound_map hu)) (by rw [e.length]; exact hL)
      (h _ (by rw [sortVals_length false rfl]; exact e.length) (sortVals_data false e er' hal))
end
end
variable [TB]
def isTupA : PyData → Bool
  | .tuple _ => true
  | _ => false
def sortE (ds : List PyData) : Bool := match ds with
  | .tuple [] :: r => r.all isTupA
  | _ => false
theorem sortE_ok {ds : List PyData} (h : sortE ds = true) : EmptyFirst ds := by
  unfold sortE at h
  split at h
  next r =>
    refine ⟨⟨r, rfl⟩, fun d hd => ?_⟩
    rcases List.mem_cons.mp hd with rfl | hd
    · exact ⟨[], rfl⟩
    · have := List.all_eq_true.mp h d hd
      cases d with
      | tuple xs => exact ⟨xs, rfl⟩
      | _ => cases this
  next => cases h
def rSrtE (K : Fr) : List V → Hp → VK → Prop := fun vs H Q => ∃ (a : Addr) (bs : List TR), vs = [V.ref a] ∧ (SqL K H a (bs.map (·.1))) ∧ (∀ b ∈ bs, Dp K H b.1 b.2.2) ∧
  PySem.W.AllAlike (bs.map (·.2.2)) ∧ (PySem.W.Sortable (bs.map (·.2.2)) ∨ EmptyFirst (bs.map (·.2.2))) ∧ (∀ b ∈ bs, b.2.2.depth ≤ 8) ∧ bs.length ≤ 1000 ∧
  ∀ p, H p = none → Q (.ref p) (upd H p (.lst ((bs.mergeSort fun x y => leD x.2.2 y.2.2).map (·.1))))
section
variable {X : Cx}
theorem cr_srtE (hu : X.A.units + 64 < cLine) : CallR X (.builtin "sorted") (rSrtE X.K) := by
  intro pins s σ H vs us Q I r ⟨a, bs, e, hs, hd, hal, hk, hdp, hl, q⟩
  subst e
  rw [Vals.ref1 r]
  obtain ⟨its, rv, hli, hz⟩ := I.list hs
  refine sortedE_data (enc := fun b : TR => b.2.2) (R := fun u b => RelV b.1 u) (bs := bs) hli.isList (each_rel rv) (each_reads I hd rv) hal hk (by rw [sizeLine_eq]; omega) (fun b hb => by have := hdp b hb; show X.A.units + 2 + b.2.2.depth < cLine; omega) fun out ho he => ?_
  have va := rel_each (f := fun b => b.1) he
  obtain ⟨ep, he'⟩ := PyProof.Rows.sortedAll_at s.heap its out.toArray
  have hlen : ((bs.mergeSort fun x y => leD x.2.2 y.2.2).map (·.1)).length ≤ sizeLine := by
    rw [List.length_map, List.length_mergeSort, sizeLine_eq]
    omega
  exact ⟨.ref _, upd H (s.heap.objs.size + 1) (.lst ((bs.mergeSort fun x y => leD x.2.2 y.2.2).map (·.1))), I.laid (t' := s.toks) (fun _ _ => PyProof.Rows.sortedAll_old) (Nat.le_succ _) ⟨hlen, out, ep, va, he'⟩, rfl, q _ (I.hok.fresh (Nat.le_succ _))⟩
end
/-! insertion: what can be computed -/
def insB {α : Type} (le : α → α → Bool) (x : α) : List α → List α
  | [] => [x]
  | y :: r => if le x y = true then x :: y :: r else y :: insB le x r
def isort {α : Type} (le : α → α → Bool) : List α → List α
  | [] => []
  | x :: r => insB le x (isort le r)
theorem insB_split {α : Type} {le : α → α → Bool} {x : α} : ∀ {l₁ l₂ : List α}, (∀ b ∈ l₁, (!le x b) = true) → (∀ b ∈ l₂, le x b = true) → insB le x (l₁ ++ l₂) = l₁ ++ x :: l₂
  | [], [], _, _ => rfl
  | [], b :: l₂, _, h => by
    show insB le x (b :: l₂) = _
    unfold insB
    rw [if_pos (h b List.mem_cons_self)]
    rfl
  | b :: l₁, l₂, h, h2 => by
    have hb := h b List.mem_cons_self
    show insB le x (b :: (l₁ ++ l₂)) = _
    unfold insB
    rw [if_neg (by simpa using hb), insB_split (fun c hc => h c (List.mem_cons_of_mem _ hc)) h2]
    rfl
theorem isort_eq {α : Type} {le : α → α → Bool} (tr : ∀ a b c, le a b = true → le b c = true → le a c = true) (to : ∀ a b, (le a b || le b a) = true) : ∀ l : List α, l.mergeSort le = isort le l
  | [] => by rw [List.mergeSort_nil]; rfl
  | x :: l => by
    obtain ⟨l₁, l₂, e1, e2, h⟩ := List.mergeSort_cons tr to x l
    have hs := List.pairwise_mergeSort tr to (x :: l)
    rw [e1] at hs ⊢
    show _ = insB le x (isort le l)
    rw [← isort_eq tr to l, e2, insB_split h fun b hb => ?_]
    exact (List.pairwise_cons.mp (List.pairwise_append.mp hs).2.1).1 b hb
def ltI : List Int → List Int → Bool
  | [], [] => false
  | [], _ :: _ => true
  | _ :: _, [] => false
  | x :: xs, y :: ys => decide (x < y) || (decide (x = y) && ltI xs ys)
theorem ltI_eq : ∀ xs ys : List Int, ltI xs ys = decide (xs < ys)
  | [], [] => by simp [ltI]
  | [], _ :: _ => by simp [ltI]
  | _ :: _, [] => by simp [ltI]
  | x :: xs, y :: ys => by
    unfold ltI
    rw [ltI_eq xs ys]
    by_cases h : x < y <;> by_cases h2 : x = y <;> by_cases h3 : xs < ys <;> simp [List.cons_lt_cons_iff, h, h2, h3]
def leI (xs ys : List Int) : Bool := !ltI ys xs
theorem leI_eq (xs ys : List Int) : leI xs ys = decide (xs ≤ ys) := by
  unfold leI
  rw [ltI_eq]
  by_cases h : ys < xs
  · have : ¬ xs ≤ ys := fun q => List.not_lt.mpr q h
    simp [h, this]
  · have : xs ≤ ys := List.not_lt.mp h
    simp [h, this]
theorem leI_tr (a b c : List Int) (h : leI a b = true) (k : leI b c = true) : leI a c = true := by
  rw [leI_eq] at *
  exact decide_eq_true (List.le_trans (of_decide_eq_true h) (of_decide_eq_true k))
theorem leI_to (a b : List Int) : (leI a b || leI b a) = true := by
  rw [leI_eq, leI_eq, Bool.or_eq_true, decide_eq_true_eq, decide_eq_true_eq]
  exact List.le_total a b
/-- a tuple of whole numbers -/
def intO : W → Option Int
  | .int n => some n
  | _ => none
def rowO : W → Option (List Int)
  | .tup ws => mapO intO ws
  | _ => none
def rowD (r : List Int) : PyData := .tuple (r.map .int)
theorem rowD_le (x y : List Int) : leD (rowD x) (rowD y) = leI x y := by
  unfold leD rowD leI
  rw [PySem.W.dataLt_tuple]
  have := PySem.W.dataLt_ints y x
  unfold PySem.W.rowLt at this
  rw [this, ltI_eq]
theorem rowD_alike (x y : List Int) : PySem.W.alike (rowD x) (rowD y) = true := by
  unfold rowD
  rw [PySem.W.alike]
  exact PySem.W.alike_ints x y
theorem rowD_depth (x : List Int) : (rowD x).depth ≤ 8 := by
  unfold rowD
  rw [PyData.depth, PySem.W.depth_ints]
  omega
theorem intO_d : ∀ {w : W} {n : Int}, intO w = some n → toD w = some (.int n)
  | .int _, _, e => by cases e; rfl
theorem ints_d : ∀ {ws : List W} {r : List Int}, mapO intO ws = some r → toDs ws = some (r.map .int)
  | [], _, e => by cases e; rfl
  | w :: ws, r, e => by
    have e : ((intO w).bind fun b => (mapO intO ws).bind fun bs => some (b :: bs)) = some r := e
    cases e1 : intO w with
    | none => rw [e1] at e; cases e
    | some n =>
      cases e2 : mapO intO ws with
      | none => rw [e1, e2] at e; cases e
      | some r' =>
        rw [e1, e2] at e
        cases e
        show (match toD w, toDs ws with
          | some d, some ds => some (d :: ds)
          | _, _ => none) = _
        rw [intO_d e1, ints_d e2]
        rfl
theorem rowO_d : ∀ {w : W} {r : List Int}, rowO w = some r → toD w = some (rowD r)
  | .tup ws, r, e => by
    show (toDs ws).map PyData.tuple = _
    rw [ints_d e]
    rfl
theorem rows_d : ∀ {ws : List W} {rs : List (List Int)}, mapO rowO ws = some rs → toDs ws = some (rs.map rowD)
  | [], _, e => by cases e; rfl
  | w :: ws, r, e => by
    have e : ((rowO w).bind fun b => (mapO rowO ws).bind fun bs => some (b :: bs)) = some r := e
    cases e1 : rowO w with
    | none => rw [e1] at e; cases e
    | some n =>
      cases e2 : mapO rowO ws with
      | none => rw [e1, e2] at e; cases e
      | some r' =>
        rw [e1, e2] at e
        cases e
        show (match toD w, toDs ws with
          | some d, some ds => some (d :: ds)
          | _, _ => none) = _
        rw [rowO_d e1, rows_d e2]
        rfl
def firstE : List (List Int) → Bool
  | [] :: _ => true
  | _ => false
theorem firstE_ok {rs : List (List Int)} (h : firstE rs = true) : EmptyFirst (rs.map rowD) := by
  cases rs with
  | nil => cases h
  | cons r rs =>
    cases r with
    | cons _ _ => cases h
    | nil =>
      refine ⟨⟨rs.map rowD, rfl⟩, fun d hd => ?_⟩
      obtain ⟨r, _, rfl⟩ := List.mem_map.mp hd
      exact ⟨_, rfl⟩
theorem sort_rows (ws : List W) (rs : List (List Int)) : ((ws.zip (rs.map rowD)).mergeSort fun x y => leD x.2 y.2).map (·.1) = (isort (fun x y : W × List Int => leI x.2 y.2) (ws.zip rs)).map (·.1) := by
  have hz : ws.zip (rs.map rowD) = (ws.zip rs).map (fun p => (p.1, rowD p.2)) := by
    rw [List.zip_map_right]
    rfl
  have := List.map_mergeSort (r := fun x y : W × List Int => leI x.2 y.2) (s := fun x y : W × PyData => leD x.2 y.2) (f := fun p : W × List Int => (p.1, rowD p.2)) (l := ws.zip rs) (fun a _ b _ => (rowD_le a.2 b.2).symm)
  rw [hz, ← this, List.map_map, isort_eq (fun a b c => leI_tr a.2 b.2 c.2) (fun a b => leI_to a.2 b.2)]
  rfl
def sortedE : List W → M W
  | [w] => fun S => if isL w = true then match seqW S w with
    | some ws => match mapO rowO ws with
      | some rs => if firstE rs = true ∧ ws.length ≤ 1000 then .val (.lst ((isort (fun x y : W × List Int => leI x.2 y.2) (ws.zip rs)).map (·.1))) S else .bad
      | none => .bad
    | none => .bad else .bad
  | _ => bad
theorem ca_srtE {X : Cx} : CaS X (rSrtE X.K) sortedE := by
  intro ρ δ S H ws vs Q E s r hp
  cases r with
  | nil => exact hp.elim
  | @cons w v ws vs r t =>
    cases t with
    | cons _ _ => exact hp.elim
    | nil =>
      simp only [sortedE] at hp
      by_cases hL : isL w = true
      · rw [if_pos hL] at hp
        cases e : seqW S w with
        | none => rw [e] at hp; exact hp.elim
        | some us =>
          simp only [e] at hp
          obtain ⟨p, vs, rfl, hq, t⟩ := seqW_repL s r e hL
          cases e2 : mapO rowO us with
          | none => simp only [e2] at hp; exact hp.elim
          | some rs =>
            simp only [e2] at hp
            obtain ⟨⟨hok, hlen⟩, hp⟩ := PostV.if hp
            obtain ⟨bs, q1, q2, q3, q4⟩ := zip3 t (rows_d e2)
            have hbl : bs.length = us.length := by
              have h1 := congrArg List.length q1
              have h2 := Reps.length t
              rw [List.length_map] at h1
              omega
            refine ⟨p, bs, rfl, by rw [q1]; exact hq, fun b hb => (q4 b hb).2, by rw [q3]; exact PySem.W.AllAlike.of rowD_alike, by rw [q3]; exact .inr (firstE_ok hok), fun b hb => ?_, by omega, fun l hl => ?_⟩
            · have : b.2.2 ∈ rs.map rowD := by rw [← q3]; exact List.mem_map.mpr ⟨b, hb, rfl⟩
              obtain ⟨r, _, er⟩ := List.mem_map.mp this
              rw [← er]
              exact rowD_depth r
            · have em : (bs.mergeSort fun x y => leD x.2.2 y.2.2).map (·.2.1) = (isort (fun x y : W × List Int => leI x.2 y.2) (us.zip rs)).map (·.1) := by
                have := List.map_mergeSort (r := fun x y : TR => leD x.2.2 y.2.2) (s := fun x y : W × PyData => leD x.2 y.2) (f := fun b : TR => b.2) (l := bs) (fun _ _ _ _ => rfl)
                rw [← sort_rows, ← q2, ← this, List.map_map]
                rfl
              rw [← em] at hp
              refine PostV.lst hp s (reps_of fun b hb => (q4 b ?_).1) hl
              exact (List.mergeSort_perm bs _).mem_iff.mp hb
      · rw [if_neg hL] at hp; exact hp.elim
end Sm

set_option Elab.async false
set_option linter.all false
set_option maxRecDepth 100000
/-! sorted of any tuples of ints -/
namespace Sm
open PySem PySem.Spec PyProof.Rows L2 LamX
section
open PySem PySem.Calls PySem.SeqAt PyProof.Rows PySem.W
variable {prog : Program} {w : World} {A : Around} {E : Value → Shared → Prop} {s : Shared}
theorem first_some {v : Value} {x : PyData} {xs : List PyData} {as : List Addr} (r : Reads s.heap v (.tuple (x :: xs)) as) {Q : Option Value → Shared → Prop} (h : ∀ u, Q (some u) s) : wpAny (model prog w) A (firstOfTuple' v) Q E s := by
  cases r with
  | @tuple l o vs n _ as₁ h1 h2 h3 h4 =>
    rw [kas_first_eq]
    refine wpAny_bind ((looks_reads (d := .tuple (x :: xs)) (.tuple h1 h2 h3 h4)).here ?_)
    rw [if_neg (show ¬ ((dataType (PyData.tuple (x :: xs)) != Value.type "tuple") = true) by simp [dataType])]
    refine wpAny_bind (listItems_at h1 h3 ?_)
    cases q : vs.toList with
    | nil => rw [q] at h4; cases h4
    | cons f fr =>
      have hf : vs[0]? = some f := by rw [← Array.getElem?_toList, q]; rfl
      rw [hf]
      exact wpAny_pure (h f)
/-- the first items, one of them missing -/
theorem firsts_gap : ∀ {vs : List Value} {ds : List PyData}, EachIs (fun v d => ∃ as, Reads s.heap v d as) vs ds → (∀ d ∈ ds, ∃ xs, d = .tuple xs) → PyData.tuple [] ∈ ds → ∀ {Q : List (Option Value) → Shared → Prop}, (∀ os : List (Option Value), none ∈ os → Q os s) → wpAny (model prog w) A (vs.mapM firstOfTuple') Q E s
  | _, _, .nil, _, hm, Q, h => absurd hm (by simp)
  | _, _, .cons (b := d) ⟨as, r⟩ t, ht, hm, Q, h => by
    obtain ⟨xs, rfl⟩ := ht d List.mem_cons_self
    rw [List.mapM_cons]
    cases xs with
    | nil =>
      refine wpAny_bind (first_tup r fun o ho => wpAny_bind (firsts_tup t (fun d hd => ht d (List.mem_cons_of_mem _ hd)) fun os => wpAny_pure (h _ ?_)))
      rw [ho rfl]
      exact List.mem_cons_self
    | cons x xs =>
      have hm' : PyData.tuple [] ∈ _ := (List.mem_cons.mp hm).resolve_left (fun e => by cases e)
      exact wpAny_bind (first_some r fun u => wpAny_bind (firsts_gap t (fun d hd => ht d (List.mem_cons_of_mem _ hd)) hm' fun os ho => wpAny_pure (h _ (List.mem_cons_of_mem _ ho))))
theorem kind_gap {v₀ : Value} {vs : List Value} {x : PyData} {xs : List PyData} {ds : List PyData} {as : List Addr} (r0 : Reads s.heap v₀ (.tuple (x :: xs)) as) (e : EachIs (fun v d => ∃ as, Reads s.heap v d as) vs ds) (ht : ∀ d ∈ ds, ∃ xs, d = .tuple xs) (hm : PyData.tuple [] ∈ ds) {Q : SortKind → Shared → Prop} (h : Q general' s) :
    wpAny (model prog w) A (keyKind' (v₀ :: vs).toArray) Q E s := by
  rw [keyKind'_eq, List.mapM_toArray, map_eq_pure_bind, List.mapM_cons]
  refine wpAny_bind (wpAny_bind (wpAny_bind (first_some r0 fun u => wpAny_bind (firsts_gap e ht hm fun os ho => wpAny_pure (wpAny_pure ?_)))))
  rw [if_neg, if_pos]
  · exact wpAny_pure h
  · simp
  · intro hall
    have : (List.toArray (some u :: os)).all (·.isSome) = true := hall
    rw [List.all_toArray, List.all_eq_true] at this
    have := this none (List.mem_cons_of_mem _ ho)
    cases this
theorem keyLt'_general (x y : Value) : keyLt' general' x y = oneLt' false x y := rfl
theorem SortsAt.tups {vs : List Value} {ds : List PyData} (e : EachIs (fun v d => ∃ as, Reads s.heap v d as) vs ds) (hal : AllAlike ds) (hk : ∀ d ∈ ds, ∃ xs, d = .tuple xs) (hu : ∀ d, d ∈ ds → A.units + d.depth < cLine) : SortsAt prog w A s (dataKind s.heap ds) vs := by
  by_cases hm : PyData.tuple [] ∈ ds
  · cases ds with
    | nil => exact absurd hm (by simp)
    | cons d ds =>
      obtain ⟨xs, rfl⟩ := hk d List.mem_cons_self
      cases xs with
      | nil => exact SortsAt.emptyF e hal ⟨⟨ds, rfl⟩, hk⟩ hu
      | cons x xs =>
        have hm' : PyData.tuple [] ∈ ds := (List.mem_cons.mp hm).resolve_left (fun e => by cases e)
        refine ⟨fun v hv => ?_, general', ?_, fun h2 E Q hq => ?_⟩
        · obtain ⟨d, hd, as, r⟩ := e.left v hv
          exact ⟨_, dataKind_some hal hd r⟩
        · intro E x' y a b Q ha hb hq
          obtain ⟨d, as, hd, ra, rfl⟩ := dataKind_inv ha
          obtain ⟨d', as', hd', rb, rfl⟩ := dataKind_inv hb
          have hdd := hal d hd d' hd'
          have hn : d ≠ .none := by
            obtain ⟨zs, rfl⟩ := hk d hd
            intro z
            cases z
          rw [keyLt'_general]
          exact oneLt_alike (f := false) (fun z => by cases z) ra rb hdd hn (Nat.lt_of_le_of_lt (Nat.add_le_add_left (Nat.min_le_left _ _) _) (hu d hd)) hq
        · cases e with
          | cons h t =>
            obtain ⟨as, r0⟩ := h
            exact kind_gap r0 t (fun d hd => hk d (List.mem_cons_of_mem _ hd)) hm' hq
  · exact SortsAt.data e hal (.inl fun d hd => by
      obtain ⟨xs, rfl⟩ := hk d hd
      cases xs with
      | nil => exact absurd hd hm
      | cons x r => exact ⟨x, r, rfl⟩) hu
theorem sortedH_data {β : Type} {vs : List Value} {bs : List β} {enc : β → PyData} {R : Value → β → Prop} {l : Addr} {Q : Value → Shared → Prop} (hl : s.heap.IsList l vs.toArray) (e : EachIs R vs bs) (er : EachIs (fun v b => ∃ as, Reads s.heap v (enc b) as) vs bs) (hal : AllAlike (bs.map enc)) (hk : ∀ d ∈ bs.map enc, ∃ xs, d = .tuple xs) (hL : bs.length ≤ sizeLine)
    (hu : ∀ b, b ∈ bs → A.units + 2 + (enc b).depth < cLine) (h : ∀ out, out.length = bs.length → EachIs R out (bs.mergeSort (dataLe false enc)) → Q (.ref (s.heap.objs.size + 1)) { s with heap := sortedAll s.heap vs (List.toArray out) }) :
    wpAny (model prog w) A (call (.builtin "sorted") [.ref l]) Q E s := by
  have er' : EachIs (fun v b => ∃ as, Reads (sortingHeap (copyHeap s.heap vs) (s.heap.objs.size + 1) vs) v (enc b) as) vs bs := er.mono fun _ _ ⟨as, r⟩ => ⟨as, PyProof.Rows.Reads.keeps (fun _ _ => sorting_copy_old) r⟩
  exact sorted_vals hl (SortsAt.tups (s := { s with heap := sortingHeap (copyHeap s.heap vs) (s.heap.objs.size + 1) vs }) (each_map (R := fun v d => ∃ as, Reads (sortingHeap (copyHeap s.heap vs) (s.heap.objs.size + 1) vs) v d as) enc er') hal hk (bound_map hu)) (by rw [e.length]; exact hL)
    (h _ (by rw [sortVals_length false rfl]; exact e.length) (sortVals_data false e er' hal))
end
variable [TB]
def rSrtH (K : Fr) : List V → Hp → VK → Prop := fun vs H Q => ∃ (a : Addr) (bs : List TR), vs = [V.ref a] ∧ (SqL K H a (bs.map (·.1))) ∧ (∀ b ∈ bs, Dp K H b.1 b.2.2) ∧
  PySem.W.AllAlike (bs.map (·.2.2)) ∧ (∀ d ∈ bs.map (·.2.2), ∃ xs, d = PyData.tuple xs) ∧ (∀ b ∈ bs, b.2.2.depth ≤ 8) ∧ bs.length ≤ 1000 ∧
  ∀ p, H p = none → Q (.ref p) (upd H p (.lst ((bs.mergeSort fun x y => leD x.2.2 y.2.2).map (·.1))))
section
variable {X : Cx}
theorem cr_srtH (hu : X.A.units + 64 < cLine) : CallR X (.builtin "sorted") (rSrtH X.K) := by
  intro pins s σ H vs us Q I r ⟨a, bs, e, hs, hd, hal, hk, hdp, hl, q⟩
  subst e
  rw [Vals.ref1 r]
  obtain ⟨its, rv, hli, hz⟩ := I.list hs
  refine sortedH_data (enc := fun b : TR => b.2.2) (R := fun u b => RelV b.1 u) (bs := bs) hli.isList (each_rel rv) (each_reads I hd rv) hal hk (by rw [sizeLine_eq]; omega) (fun b hb => by have := hdp b hb; show X.A.units + 2 + b.2.2.depth < cLine; omega) fun out ho he => ?_
  have va := rel_each (f := fun b => b.1) he
  obtain ⟨ep, he'⟩ := PyProof.Rows.sortedAll_at s.heap its out.toArray
  have hlen : ((bs.mergeSort fun x y => leD x.2.2 y.2.2).map (·.1)).length ≤ sizeLine := by
    rw [List.length_map, List.length_mergeSort, sizeLine_eq]
    omega
  exact ⟨.ref _, upd H (s.heap.objs.size + 1) (.lst ((bs.mergeSort fun x y => leD x.2.2 y.2.2).map (·.1))), I.laid (t' := s.toks) (fun _ _ => PyProof.Rows.sortedAll_old) (Nat.le_succ _) ⟨hlen, out, ep, va, he'⟩, rfl, q _ (I.hok.fresh (Nat.le_succ _))⟩
end
def sortedH : List W → M W
  | [w] => fun S => if isL w = true then match seqW S w with
    | some ws => match mapO rowO ws with
      | some rs => if ws.length ≤ 1000 then .val (.lst ((isort (fun x y : W × List Int => leI x.2 y.2) (ws.zip rs)).map (·.1))) S else .bad
      | none => .bad
    | none => .bad else .bad
  | _ => bad
theorem ca_srtH {X : Cx} : CaS X (rSrtH X.K) sortedH := by
  intro ρ δ S H ws vs Q E s r hp
  cases r with
  | nil => exact hp.elim
  | @cons w v ws vs r t =>
    cases t with
    | cons _ _ => exact hp.elim
    | nil =>
      simp only [sortedH] at hp
      by_cases hL : isL w = true
      · rw [if_pos hL] at hp
        cases e : seqW S w with
        | none => rw [e] at hp; exact hp.elim
        | some us =>
          simp only [e] at hp
          obtain ⟨p, vs, rfl, hq, t⟩ := seqW_repL s r e hL
          cases e2 : mapO rowO us with
          | none => simp only [e2] at hp; exact hp.elim
          | some rs =>
            simp only [e2] at hp
            obtain ⟨hlen, hp⟩ := PostV.if hp
            obtain ⟨bs, q1, q2, q3, q4⟩ := zip3 t (rows_d e2)
            have hbl : bs.length = us.length := by
              have h1 := congrArg List.length q1
              have h2 := Reps.length t
              rw [List.length_map] at h1
              omega
            refine ⟨p, bs, rfl, by rw [q1]; exact hq, fun b hb => (q4 b hb).2, by rw [q3]; exact PySem.W.AllAlike.of rowD_alike, by rw [q3]; exact fun d hd => by (obtain ⟨r, _, rfl⟩ := List.mem_map.mp hd; exact ⟨_, rfl⟩), fun b hb => ?_, by omega, fun l hl => ?_⟩
            · have : b.2.2 ∈ rs.map rowD := by rw [← q3]; exact List.mem_map.mpr ⟨b, hb, rfl⟩
              obtain ⟨r, _, er⟩ := List.mem_map.mp this
              rw [← er]
              exact rowD_depth r
            · have em : (bs.mergeSort fun x y => leD x.2.2 y.2.2).map (·.2.1) = (isort (fun x y : W × List Int => leI x.2 y.2) (us.zip rs)).map (·.1) := by
                have := List.map_mergeSort (r := fun x y : TR => leD x.2.2 y.2.2) (s := fun x y : W × PyData => leD x.2 y.2) (f := fun b : TR => b.2) (l := bs) (fun _ _ _ _ => rfl)
                rw [← sort_rows, ← q2, ← this, List.map_map]
                rfl
              rw [← em] at hp
              refine PostV.lst hp s (reps_of fun b hb => (q4 b ?_).1) hl
              exact (List.mergeSort_perm bs _).mem_iff.mp hb
      · rw [if_neg hL] at hp; exact hp.elim
end Sm

set_option Elab.async false
set_option linter.all false
set_option maxRecDepth 100000
/-! in a tuple of data of any depth -/
namespace Sm
open PySem PySem.Spec PyProof.Rows L2 LamX
variable [TB]
def rInDT (K : PySem.W.Frag) (neg : Bool) : R2 := fun x y H Q => ∃ d ds, Dp K H x d ∧ Dp K H y (.tuple ds) ∧ SeqAt.shaped d = true ∧ SeqAt.shaped (.tuple ds) = true ∧ Q (.bl (if neg = true then !ds.any fun z => PyData.eqv z d else ds.any fun z => PyData.eqv z d)) H
section
variable {X : Cx}
theorem lay_shaped {ds : List PyData} (h : SeqAt.shaped (.tuple ds) = true) : PyData.canLayAll0 ds = true := by
  simp only [SeqAt.shaped, PyData.canLay0, Bool.and_eq_true] at h
  exact h.1
theorem op_inDT (hu : X.A.units + 65 < cLine) : OpR X (compareOp .In) (rInDT X.K false) := by
  intro pins s σ H x y v u Q I rx ry ⟨d, ds, hd, he, sd, se, q⟩
  obtain ⟨as, r1⟩ := Dp.reads I d x v hd rx
  obtain ⟨bs, r2⟩ := Dp.reads I (.tuple ds) y u he ry
  exact SeqAt.in_tuple_reads r2 r1 (lay_shaped se) (SeqAt.canLay_of_shaped sd) (room_in_shaped sd hu) ⟨.bl _, H, I, rfl, q⟩
theorem op_notInDT (hu : X.A.units + 65 < cLine) : OpR X (compareOp .NotIn) (rInDT X.K true) := by
  intro pins s σ H x y v u Q I rx ry ⟨d, ds, hd, he, sd, se, q⟩
  obtain ⟨as, r1⟩ := Dp.reads I d x v hd rx
  obtain ⟨bs, r2⟩ := Dp.reads I (.tuple ds) y u he ry
  exact SeqAt.notIn_tuple_reads r2 r1 (lay_shaped se) (SeqAt.canLay_of_shaped sd) (room_in_shaped sd hu) ⟨.bl _, H, I, rfl, q⟩
def inDTW (neg : Bool) (x y : W) : M W := fun S => match toD x, toDS S y with
  | some d, some (.tuple ds) => if SeqAt.shaped d = true ∧ SeqAt.shaped (.tuple ds) = true then .val (.bl (if neg = true then !ds.any fun z => PyData.eqv z d else ds.any fun z => PyData.eqv z d)) S else .bad
  | _, _ => .bad
theorem os_inDT (neg : Bool) : OpS X (rInDT X.K neg) (inDTW neg) := by
  intro ρ δ S H x y v u Q E s rx ry hp
  unfold inDTW at hp
  cases e1 : toD x with
  | none => rw [e1] at hp; exact hp.elim
  | some d =>
    cases e2 : toDS S y with
    | none => rw [e1, e2] at hp; exact hp.elim
    | some e =>
      rw [e1, e2] at hp
      cases e with
      | tuple ds =>
        obtain ⟨hs, hp⟩ := PostV.if hp
        exact ⟨d, ds, toD_dp rx e1, toDS_dp s ry e2, hs.1, hs.2, PostV.here (v := .bl _) hp s .bl⟩
      | _ => exact hp.elim
end
end Sm

set_option Elab.async false
set_option linter.all false
set_option maxRecDepth 100000
/-! a list that is changed, and another one behind it: a new list that is changed -/
namespace Sm
open PySem PySem.Spec PyProof.Rows L2 LamX
variable [TB]
def addWX : W → W → M W
  | .box n, .lst b => fun S => match S[n]? with
    | some (.lst a) => if a.length + b.length ≤ lim then .val (.box S.length) (S ++ [.lst (a ++ b)]) else .bad
    | _ => .bad
  | _, _ => bad
section
variable {X : Cx}
theorem os_addX : OpS X (rAdd X.K) addWX := by
  intro ρ δ S H x y v u Q E s rx ry hp
  cases rx with
  | @box n a hb => cases ry with
    | @lst b ws' vs' f' t' =>
      simp only [addWX] at hp
      cases hS : S[n]? with
      | none => rw [hS] at hp; exact hp.elim
      | some c =>
        rw [hS] at hp
        cases c with
        | lst ws =>
          obtain ⟨vs, ha, t⟩ := s.box hb hS
          obtain ⟨hl, hp⟩ := PostV.if hp
          exact .inr (.inr ⟨_, _, _, _, rfl, rfl, ha, f'.1, by rw [← Reps.length t, ← Reps.length t']; exact lim_ok hl, fun p np => PostV.box hp s (t.append t') np⟩)
        | _ => exact hp.elim
    | _ => exact hp.elim
  | _ => cases ry <;> exact hp.elim
end
theorem addWX_box {S : Sto} {n : Nat} {a b : List W} (h : S[n]? = some (.lst a)) (hl : a.length + b.length ≤ 100000) : addWX (.box n) (.lst b) S = .val (.box S.length) (S ++ [.lst (a ++ b)]) := by
  simp only [addWX, h]
  rw [if_pos (show a.length + b.length ≤ lim from hl)]
end Sm
namespace Sm
open PySem PySem.Spec PyProof.Rows L2 LamX
variable [TB]
/-! ### a list taken apart -/
def gU (gs : List W → Env → Option Env) : W → Env → Option Env
  | .lst ws, env => gs ws env
  | _, _ => none
theorem gs_unl {K : Fr} {ixs : List Nat} {n : Nat} {gts : TGs} {gs : List W → Env → Option Env} (h : GSs K ixs gts gs) (hn : ∀ ws env env', gs ws env = some env' → ws.length = n) : GS K ixs (gUnl K n gts) (gU gs) := by
  intro ρ δ S H env σ w v Q he hs r env' e k
  cases r with
  | lst f t => exact ⟨_, _, rfl, f.sq, by rw [← Reps.length t]; exact hn _ _ _ e, h ρ δ S H env σ _ _ _ he hs t env' e k⟩
  | _ => cases e
end Sm

set_option Elab.async false
set_option linter.all false
set_option maxRecDepth 100000
/-! sorted of a tuple of data; min of pairs of a number and a pair -/
namespace SmS
open PySem PyProof.Rows PySem.W
section
variable {prog : Program} {w : World} {A : Around} {E : Value → Shared → Prop} {s : Shared} {κ : PyProof.Rows.KeyKind}
theorem sortedT_vals {l : Addr} {vs : List Value} {Q : Value → Shared → Prop} (hl : s.heap.IsTuple l vs.toArray) (S : SortsAt prog w A.in1.in1 { s with heap := sortingHeap (copyHeap s.heap vs) (s.heap.objs.size + 1) vs } κ vs) (hz : vs.length ≤ sizeLine)
    (h : Q (.ref (s.heap.objs.size + 1)) { s with heap := sortedAll s.heap vs (sortVals κ false vs vs).toArray }) : wpAny (model prog w) A (call (.builtin "sorted") [.ref l]) Q E s := by
  refine Calls.call_function_entry kind_sorted plain_sorted entry_sorted (args_sorted1 _) ?_
  unfold Builtin.«sorted»
  refine wpAny_bind (m := checkCount "sorted" 1 1 _) (wpAny_pure ?_)
  refine wpAny_bind (collect_tup hl ?_ hz)
  refine wpAny_bind (wpAny_newList ?_ hz)
  have hsz : ((s.heap.push (seqObj "list" #[] 0)).update s.heap.objs.size (Obj.mapSeq (· ++ vs.toArray))).objs.size = s.heap.objs.size + 1 := by
    rw [Heap.size_update, size_push']
  show wpAny _ _ _ _ _ { s with heap := copyHeap s.heap vs }
  rw [hsz]
  exact wpAny_bind (wpAny_holding (wpAny_call_entry slot_list_sort ⟨_, copyHeap_at s.heap vs, rfl⟩ entry_list_sort (list_sort_vals (s := { s with heap := copyHeap s.heap vs }) (copyHeap_at s.heap vs) S hz ⟨_, rfl, wpAny_pure ⟨_, rfl, h⟩⟩) (args_list_sort _)))
theorem sortedT_data {β : Type} {vs : List Value} {bs : List β} {enc : β → PyData} {R : Value → β → Prop} {l : Addr} {Q : Value → Shared → Prop} (hl : s.heap.IsTuple l vs.toArray) (e : EachIs R vs bs) (er : EachIs (fun v b => ∃ as, Reads s.heap v (enc b) as) vs bs) (hal : AllAlike (bs.map enc)) (hk : Sortable (bs.map enc)) (hL : bs.length ≤ sizeLine)
    (hu : ∀ b, b ∈ bs → A.units + 2 + (enc b).depth < cLine) (h : ∀ out, out.length = bs.length → EachIs R out (bs.mergeSort (dataLe false enc)) → Q (.ref (s.heap.objs.size + 1)) { s with heap := sortedAll s.heap vs (List.toArray out) }) :
    wpAny (model prog w) A (call (.builtin "sorted") [.ref l]) Q E s := by
  have er2 : EachIs (fun v b => ∃ as, Reads (sortingHeap (copyHeap s.heap vs) (s.heap.objs.size + 1) vs) v (enc b) as) vs bs := er.mono fun _ _ ⟨as, r⟩ => ⟨as, PyProof.Rows.Reads.keeps (fun _ _ => sorting_copy_old) r⟩
  have sa := SortsAt.data (prog := prog) (w := w) (A := A.in1.in1) (s := { s with heap := sortingHeap (copyHeap s.heap vs) (s.heap.objs.size + 1) vs }) (each_map (R := fun v d => ∃ as, Reads (sortingHeap (copyHeap s.heap vs) (s.heap.objs.size + 1) vs) v d as) enc er2) hal hk (bound_map (A := A.in1.in1) fun b hb => hu b hb)
  exact sortedT_vals hl sa (by rw [e.length]; exact hL) (h _ (by rw [sortVals_length false rfl]; exact e.length) (sortVals_data false e er2 hal))
end
end SmS
namespace Sm
open PySem PySem.Spec PyProof.Rows L2 LamX
variable [TB]
section
variable {X : Cx}
def rSrtGT (K : Fr) : List V → Hp → VK → Prop := fun vs H Q => ∃ (a : Addr) (bs : List TR), vs = [V.ref a] ∧ (SqT K H a (bs.map (·.1))) ∧ (∀ b ∈ bs, Dp K H b.1 b.2.2) ∧
  PySem.W.AllAlike (bs.map (·.2.2)) ∧ PySem.W.Sortable (bs.map (·.2.2)) ∧ (∀ b ∈ bs, b.2.2.depth ≤ 8) ∧ bs.length ≤ 1000 ∧
  ∀ p, H p = none → Q (.ref p) (upd H p (.lst ((bs.mergeSort fun x y => leD x.2.2 y.2.2).map (·.1))))
theorem cr_srtGT (hu : X.A.units + 64 < cLine) : CallR X (.builtin "sorted") (rSrtGT X.K) := by
  intro pins s σ H vs us Q I r ⟨a, bs, e, hs, hd, hal, hk, hdp, hl, q⟩
  subst e
  rw [Vals.ref1 r]
  obtain ⟨its, rv, hli, hz⟩ := I.tuple hs
  refine SmS.sortedT_data (enc := fun b : TR => b.2.2) (R := fun u b => RelV b.1 u) (bs := bs) hli (each_rel rv) (each_reads I hd rv) hal hk (by rw [sizeLine_eq]; omega) (fun b hb => by have := hdp b hb; show X.A.units + 2 + b.2.2.depth < cLine; omega) fun out ho he => ?_
  have va := rel_each (f := fun b => b.1) he
  obtain ⟨ep, he'⟩ := PyProof.Rows.sortedAll_at s.heap its out.toArray
  have hlen : ((bs.mergeSort fun x y => leD x.2.2 y.2.2).map (·.1)).length ≤ sizeLine := by
    rw [List.length_map, List.length_mergeSort, sizeLine_eq]
    omega
  exact ⟨.ref _, upd H (s.heap.objs.size + 1) (.lst ((bs.mergeSort fun x y => leD x.2.2 y.2.2).map (·.1))), I.laid (t' := s.toks) (fun _ _ => PyProof.Rows.sortedAll_old) (Nat.le_succ _) ⟨hlen, out, ep, va, he'⟩, rfl, q _ (I.hok.fresh (Nat.le_succ _))⟩
def sortedGT : List W → M W
  | [.tup ws] => fun S => match toDs ws with
    | some ds => if okSrt ds = true ∧ ws.length ≤ 1000 then .val (.lst (((ws.zip ds).mergeSort fun x y => leD x.2 y.2).map (·.1))) S else .bad
    | none => .bad
  | _ => bad
theorem ca_srtGT : CaS X (rSrtGT X.K) sortedGT := by
  intro ρ δ S H ws vs Q E s r hp
  cases r with
  | nil => exact hp.elim
  | @cons w v ws vs r t =>
    cases t with
    | cons _ _ => cases w <;> exact hp.elim
    | nil =>
      cases r with
      | @tup a us vs f t =>
        simp only [sortedGT] at hp
        cases e2 : toDs us with
        | none => simp only [e2] at hp; exact hp.elim
        | some ds =>
          simp only [e2] at hp
          obtain ⟨⟨hok, hlen⟩, hp⟩ := PostV.if hp
          obtain ⟨bs, q1, q2, q3, q4⟩ := zip3 t e2
          unfold okSrt at hok
          rw [Bool.and_eq_true, Bool.and_eq_true] at hok
          obtain ⟨⟨o1, o2⟩, o3⟩ := hok
          have hbl : bs.length = us.length := by
            have h1 := congrArg List.length q1
            have h2 := Reps.length t
            rw [List.length_map] at h1
            omega
          refine ⟨a, bs, rfl, by rw [q1]; exact f.sq, fun b hb => (q4 b hb).2, by rw [q3]; exact allAl o1, by rw [q3]; exact sortD_ok o2, fun b hb => ?_, by omega, fun l hl => ?_⟩
          · have : b.2.2 ∈ ds := by rw [← q3]; exact List.mem_map.mpr ⟨b, hb, rfl⟩
            exact of_decide_eq_true (List.all_eq_true.mp o3 _ this)
          · have em : (bs.mergeSort fun x y => leD x.2.2 y.2.2).map (·.2.1) = ((us.zip ds).mergeSort fun x y => leD x.2 y.2).map (·.1) := by
              have := List.map_mergeSort (r := fun x y : TR => leD x.2.2 y.2.2) (s := fun x y : W × PyData => leD x.2 y.2) (f := fun b : TR => b.2) (l := bs) (fun _ _ _ _ => rfl)
              rw [← q2, ← this, List.map_map]
              rfl
            rw [← em] at hp
            refine PostV.lst hp s (reps_of fun b hb => (q4 b ?_).1) hl
            exact (List.mergeSort_perm bs _).mem_iff.mp hb
      | _ => exact hp.elim
end
/-! ### the least of pairs of a number and a pair -/
abbrev KP := Int × Int × Int
def kpW (z : KP) : W := .tup [.int z.1, .tup [.int z.2.1, .int z.2.2]]
def kpD (z : KP) : PyData := .tuple [.int z.1, .tuple [.int z.2.1, .int z.2.2]]
def kpO : W → Option KP
  | .tup [.int k, .tup [.int a, .int b]] => some (k, a, b)
  | _ => none
theorem kpO_some {w : W} {z : KP} (h : kpO w = some z) : w = kpW z := by
  unfold kpO at h
  split at h
  · cases h; rfl
  · cases h
theorem kpD_inj {z z' : KP} (h : kpD z = kpD z') : z = z' := by
  obtain ⟨a, b, c⟩ := z
  obtain ⟨a', b', c'⟩ := z'
  unfold kpD at h
  simp at h
  obtain ⟨h1, h2, h3⟩ := h
  rw [h1, h2, h3]
theorem kp_lay (z : KP) : (kpD z).canLay0 = true := by
  simp [kpD, PyData.canLay0, PyData.canLayAll0]
theorem kp_dep (z : KP) : (kpD z).depth ≤ 4 := by
  simp [kpD, PyData.depth, PyData.depthAll]
theorem toD_kp (z : KP) : toD (kpW z) = some (kpD z) := by
  simp [kpW, kpD, toD, toDs]
def kpsO : List W → Option (List KP)
  | [] => some []
  | w :: ws => match kpO w, kpsO ws with
    | some z, some zs => some (z :: zs)
    | _, _ => none
theorem kpsO_some : ∀ {ws : List W} {zs : List KP}, kpsO ws = some zs → ws = zs.map kpW
  | [], zs, h => by
    have h : some [] = some zs := h
    cases h
    rfl
  | w :: ws, zs, h => by
    unfold kpsO at h
    cases e1 : kpO w with
    | none => rw [e1] at h; cases h
    | some z =>
      cases e2 : kpsO ws with
      | none => rw [e1, e2] at h; cases h
      | some zs' =>
        rw [e1, e2] at h
        cases h
        rw [kpO_some e1, kpsO_some e2]
        rfl
theorem kpsO_map : ∀ zs : List KP, kpsO (zs.map kpW) = some zs
  | [] => rfl
  | z :: zs => by
    show (match kpO (kpW z), kpsO (zs.map kpW) with
      | some z, some zs => some (z :: zs)
      | _, _ => none) = _
    rw [kpsO_map zs]
    rfl
def mnP (z : KP) (zs : List KP) : KP := zs.foldl (fun a y => if PySem.W.dataLt (kpD y) (kpD a) then y else a) z
theorem minD_kp (z : KP) (zs : List KP) : PySem.W.minD (kpD z) (zs.map kpD) = kpD (mnP z zs) := by
  unfold PySem.W.minD mnP
  induction zs generalizing z with
  | nil => rfl
  | cons y zs ih =>
    rw [List.map_cons, List.foldl_cons, List.foldl_cons, ← ih]
    congr 1
    by_cases e : PySem.W.dataLt (kpD y) (kpD z) = true
    · rw [if_pos e, if_pos e]
    · rw [if_neg e, if_neg e]
theorem kp_alike (zs : List KP) : PySem.W.AlikeAll (zs.map kpD) := by
  constructor
  · intro x hx y hy
    obtain ⟨i, _, rfl⟩ := List.mem_map.mp hx
    obtain ⟨j, _, rfl⟩ := List.mem_map.mp hy
    simp [kpD, PySem.W.alike, PySem.W.alikeAll]
  · intro x hx e
    obtain ⟨i, _, rfl⟩ := List.mem_map.mp hx
    cases e
theorem kp_deps (zs : List KP) : PyData.depthAll (zs.map kpD) ≤ 4 := by
  induction zs with
  | nil => simp [PyData.depthAll]
  | cons z zs ih =>
    have := kp_dep z
    rw [List.map_cons]
    simp only [PyData.depthAll]
    omega
section
variable {X : Cx}
inductive KPs (K : Fr) (H : Hp) : List V → List KP → Prop
  | nil : KPs K H [] []
  | cons {x z xs zs} : Dp K H x (kpD z) → KPs K H xs zs → KPs K H (x :: xs) (z :: zs)
section
variable {pins : List (Addr × Obj)} {σ : L2.St} {H : Hp} {s : Shared}
theorem kps_rd (I : Inv X pins σ H s) : ∀ {xs : List V} {zs : List KP} {us : List Value}, KPs X.K H xs zs → Vals xs us → ∃ as, ReadsAll s.heap us (zs.map kpD) as
  | _, _, _, .nil, .nil => ⟨_, .nil⟩
  | _, _, _, .cons hd r, .cons r0 r' => by
    obtain ⟨as, q⟩ := kps_rd I r r'
    obtain ⟨bs, q2⟩ := Dp.reads I _ _ _ hd r0
    exact ⟨_, .cons q2 q⟩
theorem kps_at (I : Inv X pins σ H s) {h' : Heap} (k : ∀ b o, s.heap.get? b = some o → h'.get? b = some o) : ∀ {xs : List V} {zs : List KP} {us : List Value} (i : Nat) {v : Value} {m : KP} {bs : List Addr}, KPs X.K H xs zs → Vals xs us → us[i]? = some v → Reads h' v (kpD m) bs →
    ∃ x, RelV x v ∧ xs[i]? = some x ∧ zs[i]? = some m
  | _, _, _, _, _, _, _, .nil, .nil, e, _ => by simp at e
  | _, _, _, 0, v, m, bs, .cons hd r, .cons r0 r', e, q => by
    obtain ⟨cs, q2⟩ := Dp.reads I _ _ _ hd r0
    have e : some _ = some v := e
    cases e
    have q3 := PyProof.Rows.Reads.keeps k q2
    have := PySem.SeqAt.Reads.unique _ _ _ _ _ (kp_lay _) q3 q
    exact ⟨_, r0, rfl, by rw [kpD_inj this]; rfl⟩
  | _, _, _, i + 1, v, m, bs, .cons hd r, .cons r0 r', e, q => by
    obtain ⟨x, e1, e2, e3⟩ := kps_at I k i r r' (by simpa using e) q
    exact ⟨x, e1, by simpa using e2, by simpa using e3⟩
end
def rMnP (K : PySem.W.Frag) : List V → Hp → VK → Prop := fun vs H Q => ∃ (a : Addr) (xs : List V) (z : KP) (zs : List KP), vs = [V.ref a] ∧ SqL K H a xs ∧ KPs K H xs (z :: zs) ∧
  ∀ (i : Nat) (x : V), xs[i]? = some x → (z :: zs)[i]? = some (mnP z zs) → Q x H
theorem cr_minP (hc : X.calm = true) (hu : X.A.units + 64 < cLine) : CallR X (.builtin "min") (rMnP X.K) := by
  intro pins s σ H vs us Q I r0 ⟨a, xs, z, zs, e, hs, hr, q⟩
  subst e
  rw [Vals.ref1 r0]
  have dp := kp_deps (z :: zs)
  rw [List.map_cons] at dp
  obtain ⟨its, rv, hl, _⟩ := I.list hs
  obtain ⟨as, ra⟩ := kps_rd I hr rv
  refine PySem.W.min_list_data (I.ok.hd hc) hl.isList (by simpa using ra) (kp_alike (z :: zs)) (by omega) fun i v h' tk bs e r2 k => ?_
  rw [minD_kp] at r2
  obtain ⟨x, e1, e2, e3⟩ := kps_at I k i hr rv (by simpa using e) r2
  exact ⟨x, H, I.kept k, e1, q i x e2 e3⟩
def minP : List W → M W
  | [w] => fun S => if isL w = true then match seqW S w with
    | some ws => match kpsO ws with
      | some (z :: zs) => .val (kpW (mnP z zs)) S
      | _ => .bad
    | none => .bad else .bad
  | _ => bad
theorem kps_of {K : Fr} {ρ δ : List Addr} {H : Hp} : ∀ {zs : List KP} {vs : List V}, Reps K ρ δ H (zs.map kpW) vs → KPs K H vs zs
  | [], _, .nil => .nil
  | z :: zs, _, .cons r t => .cons (toD_dp r (toD_kp z)) (kps_of t)
theorem reps_at {K : Fr} {ρ δ : List Addr} {H : Hp} : ∀ {ws : List W} {vs : List V} (i : Nat) {w : W} {v : V}, Reps K ρ δ H ws vs → ws[i]? = some w → vs[i]? = some v → Rep K ρ δ H w v
  | _, _, _, _, _, .nil, e, _ => by simp at e
  | _, _, 0, _, _, .cons r t, e, e' => by
    have e : some _ = some _ := e
    have e' : some _ = some _ := e'
    cases e
    cases e'
    exact r
  | _, _, i + 1, _, _, .cons r t, e, e' => reps_at i t (by simpa using e) (by simpa using e')
theorem ca_mnP : CaS X (rMnP X.K) minP := by
  intro ρ δ S H ws vs Q E s r hp
  cases r with
  | nil => exact hp.elim
  | @cons w v ws vs r t =>
    cases t with
    | cons _ _ => exact hp.elim
    | nil =>
      simp only [minP] at hp
      by_cases hL : isL w = true
      · rw [if_pos hL] at hp
        cases e : seqW S w with
        | none => rw [e] at hp; exact hp.elim
        | some us =>
          simp only [e] at hp
          obtain ⟨p, vs, rfl, hq, t⟩ := seqW_repL s r e hL
          cases e2 : kpsO us with
          | none => simp only [e2] at hp; exact hp.elim
          | some zs =>
            cases zs with
            | nil => simp only [e2] at hp; exact hp.elim
            | cons z zs =>
              simp only [e2] at hp
              have eu := kpsO_some e2
              subst eu
              refine ⟨p, vs, z, zs, rfl, hq, kps_of t, fun i x hx hz => PostV.here hp s (reps_at i t ?_ hx)⟩
              rw [List.getElem?_map, hz]
              rfl
      · rw [if_neg hL] at hp; exact hp.elim
end
end Sm

set_option Elab.async false
set_option linter.all false
set_option maxRecDepth 100000
/-! a set of tuples of data, all of them different: its length -/
namespace Sm
section
open PySem PySem.Spec PyProof.Rows L2 PySem.SeqAt
variable {P : Program} {w : World} {A : Around} {E : Value → Shared → Prop} {s : Shared}
/-! ### questions that a set asks of a key -/
/- no text in it -/
mutual
def isNumK : NestedKey → Bool
  | .none => true
  | .num _ => true
  | .text _ => false
  | .tup ks => isNumA ks
def isNumA : List NestedKey → Bool
  | [] => true
  | k :: ks => isNumK k && isNumA ks
end
def ClsAt (P : Program) (w : World) (n : Nat) (s : Shared) (v : Value) : Prop := ∀ (A : Around) (E : Value → Shared → Prop) (Q : Bool → Shared → Prop), Q false s → wpAny (model P w) A (ofAClassStatement n v) Q E s
def ByvAt (P : Program) (w : World) (n : Nat) (s : Shared) (v : Value) : Prop := ∀ (A : Around) (E : Value → Shared → Prop) (Q : Bool → Shared → Prop), Q true s → wpAny (model P w) A (hashByValue n v) Q E s
theorem ClsAt.tup {n m : Nat} {a : Addr} {o : Obj} {vs : Array Value} (ho : s.heap.get? a = some o) (hc : o.cls = .type "tuple") (hd : o.data = .seq vs m) (hq : ∀ v ∈ vs.toList, ClsAt P w n s v) : ClsAt P w (n + 1) s (.ref a) := fun A E Q h => by
  have hT : s.TypeIs (.ref a) "tuple" := ⟨o, ho, hc⟩
  unfold ofAClassStatement
  refine wpAny_bind (wpAny_typeOf hT ?_)
  dsimp only
  have e : (("tuple" : String) == "tuple") = true := by decide
  simp only [e, if_true, Bool.not_true, Bool.false_eq_true, if_false]
  try refine wpAny_bind (wpAny_pure ?_)
  try simp only [Bool.not_true, Bool.false_eq_true, if_false]
  show wpAny _ _ (seqItems? (.ref a) >>= _) _ _ s
  refine wpAny_bind (wpAny_seqItems ho hd ?_)
  dsimp only
  refine wpAny_bind ?_
  show wpAny _ _ (forIn vs _ _) _ _ s
  rw [← Array.forIn_toList]
  refine wpAny_forIn_list _ (fun rest r s' => r.1 = none ∧ s' = s ∧ ∀ v ∈ rest, ClsAt P w n s v) _ ?_ ?_ _ _ ⟨rfl, rfl, hq⟩
  · rintro v rest r s' ⟨hr, rfl, hall⟩
    refine wpAny_bind (hall v List.mem_cons_self _ _ _ ?_)
    simp only [Bool.false_eq_true, if_false]
    exact wpAny_pure ⟨rfl, rfl, fun u hu' => hall u (List.mem_cons_of_mem _ hu')⟩
  · rintro ⟨r1, r2⟩ s' ⟨hr, rfl, _⟩
    simp only at hr
    subst hr
    exact wpAny_pure h
theorem ByvAt.tup {n m : Nat} {a : Addr} {o : Obj} {vs : Array Value} (ho : s.heap.get? a = some o) (hc : o.cls = .type "tuple") (hd : o.data = .seq vs m) (hq : ∀ v ∈ vs.toList, ByvAt P w n s v) : ByvAt P w (n + 1) s (.ref a) := fun A E Q h => by
  have hT : s.TypeIs (.ref a) "tuple" := ⟨o, ho, hc⟩
  unfold hashByValue
  refine wpAny_bind (wpAny_specialOf hT F.slot_tuple_hash.lookup ?_)
  show wpAny _ _ (seqItems? (.ref a) >>= _) _ _ s
  refine wpAny_bind (wpAny_seqItems ho hd ?_)
  refine wpAny_bind ?_
  show wpAny _ _ (forIn vs _ _) _ _ s
  rw [← Array.forIn_toList]
  refine wpAny_forIn_list _ (fun rest r s' => r.1 = none ∧ s' = s ∧ ∀ v ∈ rest, ByvAt P w n s v) _ ?_ ?_ _ _ ⟨rfl, rfl, hq⟩
  · rintro v rest r s' ⟨hr, rfl, hall⟩
    refine wpAny_bind (hall v List.mem_cons_self _ _ _ ?_)
    simp only [Bool.not_true, Bool.false_eq_true, if_false]
    exact wpAny_pure ⟨rfl, rfl, fun u hu' => hall u (List.mem_cons_of_mem _ hu')⟩
  · rintro ⟨r1, r2⟩ s' ⟨hr, rfl, _⟩
    simp only at hr
    subst hr
    exact wpAny_pure h
theorem ClsAt.flat {n : Nat} {v : Value} (h : ∀ a, v ≠ .ref a) : ClsAt P w n s v := fun A E Q hq => by
  cases v with
  | ref a => exact absurd rfl (h a)
  | _ => cases n <;> exact wpAny_pure hq
theorem ByvAt.flat {n : Nat} {v : Value} (h : v.scannable = true) (h2 : plainKind v = true) : ByvAt P w n s v := fun A E Q hq => by
  rw [hashByValue_scannable n h, h2]
  exact wpAny_pure hq
mutual
theorem cls_key : ∀ (k : NestedKey) (v : Value) (n : Nat), NestedIs s.heap k v → k.depth ≤ n → ClsAt P w n s v
  | .none, _, n, x, _ => by cases x; exact .flat (fun a z => by cases z)
  | .num i, _, n, x, _ => by cases x <;> exact .flat (fun a z => by cases z)
  | .text y, _, n, x, _ => by cases x; exact .flat (fun a z => by cases z)
  | .tup ks, _, n, x, hn => by
    cases x with
    | tup hg hc hd hk =>
      simp only [NestedKey.depth] at hn
      cases n with
      | zero => omega
      | succ n => exact .tup hg hc hd (cls_keys ks _ n hk (by omega))
theorem cls_keys : ∀ (ks : List NestedKey) (vs : List Value) (n : Nat), NestedAll s.heap ks vs → NestedKey.depthAll ks ≤ n → ∀ v ∈ vs, ClsAt P w n s v
  | [], _, n, x, _, v, hv => by cases x; cases hv
  | k :: ks, _, n, x, hn, v, hv => by
    cases x with
    | cons x1 x2 =>
      simp only [NestedKey.depthAll] at hn
      rcases List.mem_cons.mp hv with e | hv
      · rw [e]; exact cls_key k _ n x1 (by omega)
      · exact cls_keys ks _ n x2 (by omega) v hv
end
mutual
theorem byv_key : ∀ (k : NestedKey) (v : Value) (n : Nat), NestedIs s.heap k v → k.depth ≤ n → isNumK k = true → ByvAt P w n s v
  | .none, _, n, x, _, _ => by cases x; exact .flat rfl rfl
  | .num i, _, n, x, _, _ => by cases x <;> exact .flat rfl rfl
  | .text y, _, n, x, _, h => by simp [isNumK] at h
  | .tup ks, _, n, x, hn, h => by
    cases x with
    | tup hg hc hd hk =>
      simp only [NestedKey.depth] at hn
      cases n with
      | zero => omega
      | succ n => exact .tup hg hc hd (byv_keys ks _ n hk (by omega) (by simpa [isNumK] using h))
theorem byv_keys : ∀ (ks : List NestedKey) (vs : List Value) (n : Nat), NestedAll s.heap ks vs → NestedKey.depthAll ks ≤ n → isNumA ks = true → ∀ v ∈ vs, ByvAt P w n s v
  | [], _, n, x, _, _, v, hv => by cases x; cases hv
  | k :: ks, _, n, x, hn, h, v, hv => by
    cases x with
    | cons x1 x2 =>
      simp only [NestedKey.depthAll] at hn
      simp only [isNumA, Bool.and_eq_true] at h
      rcases List.mem_cons.mp hv with e | hv
      · rw [e]; exact byv_key k _ n x1 (by omega) h.1
      · exact byv_keys ks _ n x2 (by omega) h.2 v hv
end
/-- the tuple at a is the key k -/
structure NK (h : Heap) (k : NestedKey) (a : Addr) : Prop where
  is : NestedIs h k (.ref a)
  dp : k.depth ≤ 8
  nm : isNumK k = true
theorem NK.to {h h' : Heap} {k : NestedKey} {a : Addr} (x : NK h k a) (hk : ∀ b o vs n, h.get? b = some o → o.data = .seq vs n → h'.get? b = some o) : NK h' k a := ⟨NestedIs.at hk _ _ x.is, x.dp, x.nm⟩
theorem NK.unset {h h' : Heap} {k : NestedKey} {a b : Addr} {o : Obj} {es : Array (Int × Value)} {ep : Nat} {t : SetTable} (x : NK h k b) (ho : h.get? a = some o) (hd : o.data = .set es ep t) (hs : Heap.SameBut a h h') : NK h' k b :=
  x.to fun c oc vs n hc hv => (hs.2 c fun e => by subst e; rw [ho] at hc; cases hc; rw [hd] at hv; cases hv).trans hc
theorem unseen {k : NestedKey} {x : Addr} {Q : Bool → Shared → Prop} (hx : NK s.heap k x) {ys : List Value} (hy : ∀ y ∈ ys, ∃ k' c, y = Value.ref c ∧ NK s.heap k' c) (h : Q false s) : wpAny (model P w) A (searchCouldBeSeen (.ref x) ys) Q E s := by
  unfold searchCouldBeSeen
  refine wpAny_bind ?_
  refine wpAny_forIn_list _ (fun rest r s' => r.1 = none ∧ s' = s ∧ ∀ y ∈ rest, ∃ k' c, y = Value.ref c ∧ NK s.heap k' c) _ ?_ ?_ _ _ ⟨rfl, rfl, hy⟩
  · rintro v rest r s' ⟨hr, rfl, hall⟩
    obtain ⟨k', c, rfl, hc⟩ := hall v List.mem_cons_self
    have hrest : ∀ y ∈ rest, ∃ k' c, y = Value.ref c ∧ NK s'.heap k' c := fun u hu' => hall u (List.mem_cons_of_mem _ hu')
    dsimp only
    by_cases hv : (x == c || (carriedByValue (.ref x) && carriedByValue (.ref c))) = true
    · refine wp_if_pos hv ?_
      exact wpAny_pure ⟨rfl, rfl, hrest⟩
    · refine wp_if_neg hv ?_
      refine wpAny_bind (quiet_key k _ 8 s' hx.is hx.dp A _ _ ?_)
      simp only [Bool.not_true, Bool.false_eq_true, if_false]
      refine wpAny_bind (quiet_key k' _ 8 s' hc.is hc.dp A _ _ ?_)
      simp only [Bool.not_true, Bool.false_eq_true, if_false]
      refine wpAny_bind (cls_key k _ 8 hx.is hx.dp A _ _ ?_)
      simp only [Bool.false_eq_true, if_false]
      refine wpAny_bind (cls_key k' _ 8 hc.is hc.dp A _ _ ?_)
      simp only [Bool.false_eq_true, if_false]
      exact wpAny_pure ⟨rfl, rfl, hrest⟩
  · rintro ⟨r1, r2⟩ s' ⟨hr, rfl, _⟩
    simp only at hr
    subst hr
    exact wpAny_pure h

/-! ### the set of different keys -/
def hrow (w : World) (p : Addr × NestedKey) : Int × Value := (p.2.hash w, Value.ref p.1)
def hhs (w : World) (L : List (Addr × NestedKey)) : List Int := L.map fun p => p.2.hash w
structure SetN (w : World) (h : Heap) (a : Addr) (L : List (Addr × NestedKey)) (es : Array (Int × Value)) (ep : Nat) (t : SetTable) : Prop where
  ob : ∃ o, h.get? a = some o ∧ o.ExactSet ∧ o.data = .set es ep t
  rows : es.toList = L.map (hrow w)
  tab : TabOk t (hhs w L)
  plain : t.plain = true
  led : w.params.followText "set-order" = true ∨ t.led = true
  room : L.length * 5 < t.mask * 3
  few : L.length < 64
variable {a : Addr} {L : List (Addr × NestedKey)} {es : Array (Int × Value)} {ep : Nat} {t : SetTable}
theorem rows_size (h : es.toList = L.map (hrow w)) : es.size = L.length := by
  have := congrArg List.length h
  rwa [Array.length_toList, List.length_map] at this
theorem fits_of {n : Nat} (h1 : t.place.size = es.size) (h2 : t.dummies = #[]) (h3 : es.size ≤ t.mask) : t.fits es.size = true := by
  unfold SetTable.fits SetTable.fill
  rw [h2, Bool.and_eq_true, beq_iff_eq, decide_eq_true_eq]
  exact ⟨h1, by rw [h1]; exact h3⟩
theorem SetN.psize (R : SetN w s.heap a L es ep t) : t.place.size = es.size := by
  rw [R.tab.sz, rows_size R.rows]
  exact List.length_map _
theorem SetN.fits (R : SetN w s.heap a L es ep t) : t.fits es.size = true := by
  have h3 := R.room
  have h2 := rows_size R.rows
  exact fits_of (n := 0) R.psize R.tab.dm (by omega)
theorem row_at (h : es.toList = L.map (hrow w)) (i : Nat) : es[i]? = (L[i]?).map (hrow w) := by
  rw [← Array.getElem?_toList, h, List.getElem?_map]
/-- the way of a hash, from its beginning -/
abbrev prb (m : Nat) (h : Int) (c : Nat) : SetTable.Probe := nth m (runAt m (SetTable.bits h % (m + 1)) (SetTable.bits h)) c
theorem prb_from (m : Nat) (h : Int) (c q : Nat) : nth m (prb m h c) q = prb m h (c + q) := (nth_add m c _ q).symm
theorem prb_clean (m : Nat) (h : Int) (c : Nat) : (prb m h c).dummy = none := by
  have key : ∀ (n : Nat) (p : SetTable.Probe), p.dummy = none → (nth m p n).dummy = none := by
    intro n
    induction n with
    | zero => exact fun p h => h
    | succ n ih => exact fun p h => ih (adv m p) (by unfold adv; split <;> exact h)
  exact key c _ rfl
/-- a key that isn't there: the search ends at the first empty slot of its way -/
theorem seek_new (R : SetN w s.heap a L es ep t) (tup : ∀ p ∈ L, NK s.heap p.2 p.1) {x : Addr} {k : NestedKey} (hx : NK s.heap k x) (hn : ∀ p ∈ L, p.2 ≠ k) (hu : A.units + 8 < cLine) {h : Int} {K : Nat} (hKf : K < 10 * SetTable.turns t.mask)
    (hK : way t.mask h K ∉ t.place.toList) (hKb : ∀ c, c < K → way t.mask h c ∈ t.place.toList) {Q : SetFound → Shared → Prop} (hQ : Q (.free (way t.mask h K) false) s) :
    ∀ (f c : Nat) (stand : Option SetTable.Probe), stand.getD (t.probeStart h) = prb t.mask h c → c ≤ K → K - c < f → wpAny (model P w) A (setSearchFrom a (.ref x) h true f stand) Q E s := by
  obtain ⟨o, ho, hex, hd⟩ := R.ob
  have hgw : ¬ t.gaveWay = true := by
    unfold SetTable.gaveWay
    rw [mask_odd R.tab.mok]
    decide
  intro f
  induction f with
  | zero => exact fun c stand _ _ hf => absurd hf (Nat.not_lt_zero _)
  | succ f ih =>
    intro c stand hst hc hf
    rw [setSearchFrom_succ]
    refine wpAny_bind (wpAny_setState_of ho hd R.fits ?_)
    dsimp only
    refine wp_if_neg hgw ?_
    try refine wpAny_bind (wpAny_pure ?_)
    have ej : ∀ q, (nth t.mask (prb t.mask h c) q).j = way t.mask h (c + q) := fun q => congrArg SetTable.Probe.j (prb_from t.mask h c q)
    have eK : c + (K - c) = K := by omega
    have spec := go_spec t R.tab.ris R.tab.dm (fun i => (es[i]?.map (·.1)).getD 0) h (10 * SetTable.turns t.mask) (K - c) (prb t.mask h c) (prb_clean ..) (by omega)
      (fun q hq => by rw [ej]; exact hKb (c + q) (by omega)) (by rw [ej, eK]; exact hK)
    have go : ∀ r, SetTable.probe.go t (fun i => (es[i]?.map (·.1)).getD 0) h (10 * SetTable.turns t.mask) (prb t.mask h c) = r → t.probe (fun i => (es[i]?.map (·.1)).getD 0) h (stand.getD (t.probeStart h)) = r := fun r e => by rw [hst]; exact e
    rcases spec with ⟨q, i, hq, hi, -, -, hpr⟩ | ⟨-, hpr⟩
    · rw [go _ hpr]
      dsimp only
      have hil : i < L.length := by
        have h1 : i < t.place.toList.length := (List.getElem?_eq_some_iff.mp hi).1
        rw [Array.length_toList, R.psize, rows_size R.rows] at h1
        exact h1
      have hrow : es[i]? = some (L[i].2.hash w, Value.ref L[i].1) := by rw [row_at R.rows, List.getElem?_eq_getElem hil]; rfl
      have hm : L[i] ∈ L := List.getElem_mem hil
      generalize L[i] = p at hrow hm
      have hsl : t.slot (nth t.mask (prb t.mask h c) q).j = .live i := slot_live R.tab.ris hi
      have rest : wpAny (model P w) A (searchRest a (.ref x) h true f es t (nth t.mask (prb t.mask h c) q).j i (nth t.mask (prb t.mask h c) (q + 1))) Q E s := by
        unfold searchRest
        rw [hrow]
        dsimp only
        refine wpAny_bind (wpAny_holding ((nestedKind P w).eqBool hu ⟨(tup p hm).is, (tup p hm).dp⟩ ⟨hx.is, hx.dp⟩ ?_))
        rw [decide_eq_false (hn p hm)]
        refine wpAny_bind (wpAny_setState_of ho hd R.fits ?_)
        dsimp only
        refine wp_if_neg (by simp) ?_
        try refine wpAny_bind (wpAny_pure ?_)
        rw [sameMem]
        dsimp only
        simp only [if_true, hsl, hrow]
        refine wpAny_bind (wpAny_isSame_ref_self (wpAny_bind (wpAny_pure ?_)))
        simp only [if_true]
        refine wp_if_neg (by simp) ?_
        exact ih (c + (q + 1)) _ (by rw [Option.getD_some, prb_from]) (by omega) (by omega)
      by_cases hl : t.led = true
      · refine wp_if_neg (by simp [hl]) ?_
        try refine wpAny_bind (wpAny_pure ?_)
        exact rest
      · refine wp_if_pos (by simp [hl]) ?_
        refine wpAny_bind (unseen hx (fun y hy => ?_) ?_)
        · obtain ⟨e, he, ee⟩ := List.mem_map.mp hy
          have he2 : e ∈ es.toList := (by simpa using he : e ∈ es ∧ e.1 = h).1 |> fun z => by simpa using z
          rw [R.rows] at he2
          obtain ⟨p2, hp2, e2⟩ := List.mem_map.mp he2
          exact ⟨p2.2, p2.1, by rw [← ee, ← e2] <;> rfl, tup p2 hp2⟩
        · refine wp_if_neg (by decide) ?_
          try refine wpAny_bind (wpAny_pure ?_)
          exact rest
    · rw [go _ hpr]
      dsimp only
      rw [ej, eK]
      exact wpAny_pure hQ
theorem seek_at (R : SetN w s.heap a L es ep t) (tup : ∀ p ∈ L, NK s.heap p.2 p.1) {x : Addr} {k : NestedKey} (hx : NK s.heap k x) (hn : ∀ p ∈ L, p.2 ≠ k) (hu : A.units + 8 < cLine) {h : Int} {Q : SetFound → Shared → Prop}
    (hQ : ∀ K, way t.mask h K ∉ t.place.toList → (∀ c, c < K → way t.mask h c ∈ t.place.toList) → Q (.free (way t.mask h K) false) s) : wpAny (model P w) A (setSearch a (.ref x) h true) Q E s := by
  have hroom := R.room
  obtain ⟨K, hKf, hK, hKb⟩ := R.tab.first (by unfold hhs; rw [List.length_map]; omega) h
  have hbig : K < 100000 := by
    have : 10 * SetTable.turns t.mask ≤ 1420 := by
      unfold SetTable.turns
      rcases R.tab.mok with e | e | e <;> omega
    omega
  exact seek_new R tup hx hn hu hKf hK hKb (hQ K hK hKb) 100000 0 none rfl (Nat.zero_le _) (by omega)
/-- the rows in another order -/
theorem rows_perm {order : Array Nat} (hr : es.toList = L.map (hrow w)) (hp : order.toList.Perm (List.range L.length)) :
    ∃ L2, (order.filterMap (es[·]?)).toList = L2.map (hrow w) ∧ L2.Perm L ∧ hhs w L2 = order.toList.map fun i => (es.map (·.1)).getD i 0 := by
  refine ⟨order.toList.filterMap fun i => L[i]?, ?_, ?_, ?_⟩
  · rw [Array.toList_filterMap, List.map_filterMap]
    exact congrArg (fun f => List.filterMap f order.toList) (funext fun i => row_at hr i)
  · refine (hp.filterMap _).trans (.of_eq ?_)
    have key : ∀ n, n ≤ L.length → (List.range n).filterMap (fun i => L[i]?) = L.take n := by
      intro n
      induction n with
      | zero => intro _; rfl
      | succ n ih =>
        intro hn
        rw [List.range_succ, List.filterMap_append, ih (Nat.le_of_lt hn), List.take_succ, List.getElem?_eq_getElem hn, List.filterMap_cons_some (List.getElem?_eq_getElem hn)]
        rfl
    rw [key L.length (Nat.le_refl _), List.take_length]
  · have key : ∀ l : List Nat, (∀ i ∈ l, i < L.length) → hhs w (l.filterMap fun i => L[i]?) = l.map fun i => (es.map (·.1)).getD i 0 := by
      intro l
      induction l with
      | nil => exact fun _ => rfl
      | cons i l ih =>
        intro hl
        have hi := hl i List.mem_cons_self
        rw [List.filterMap_cons_some (List.getElem?_eq_getElem hi), List.map_cons, ← ih fun j hj => hl j (List.mem_cons_of_mem _ hj)]
        have e5 : (es.map (·.1))[i]? = some (L[i].2.hash w) := by rw [Array.getElem?_map, row_at hr, List.getElem?_eq_getElem hi]; rfl
        have e6 : (es.map (·.1)).getD i 0 = L[i].2.hash w := by simp [Array.getD_eq_getD_getElem?, e5]
        rw [e6]
        rfl
    exact key _ fun i hi => List.mem_range.mp (hp.mem_iff.mp hi)
/-- laid anew -/
theorem relay_new {o : Obj} (ho : s.heap.get? a = some o) (hex : o.ExactSet) (hd : o.data = .set es ep t) (hrows : es.toList = L.map (hrow w)) (hsz : t.place.size = es.size) (hdm : t.dummies = #[]) (hfl : es.size ≤ t.mask)
    (pl : t.plain = true) (ld : w.params.followText "set-order" = true ∨ t.led = true) (few : L.length < 64) {wanted M : Nat}
    (hw : SetTable.sizeAbove wanted - 1 = M) (hM : MaskOk M) (hw2 : SetTable.sizeAbove wanted ≤ 128) (hn : L.length * 5 < M * 3) {Q : Unit → Shared → Prop}
    (hQ : ∀ h' L' es' ep' t', Heap.SameBut a s.heap h' → SetN w h' a L' es' ep' t' → L'.Perm L → Q () { s with heap := h' }) : wpAny (model P w) A (setRelay a wanted) Q E s := by
  have hsl := rows_size hrows
  obtain ⟨t', order, e, hp, T, em, el, ep', ed⟩ := relaid_ok t (hs := es.map (·.1)) (wanted := wanted) hw hM (by rw [Array.size_map, hsl]; omega)
  rw [Array.size_map, hsl] at hp
  obtain ⟨L2, r1, r2, r3⟩ := rows_perm hrows hp
  rw [← r3] at T
  have hs2 : (order.filterMap (es[·]?)).size = es.size := by rw [rows_size r1, r2.length_eq, hsl]
  rw [setRelay_eq]
  refine wpAny_bind (wpAny_setState_of ho hd (fits_of (n := 0) hsz hdm hfl) ?_)
  dsimp only
  refine wp_if_neg (by rw [sizeLine_eq]; omega) ?_
  try refine wpAny_bind (wpAny_pure ?_)
  rw [e]
  dsimp only
  refine wpAny_bind ?_
  refine wp_if_neg (by rw [hs2]; simp) ?_
  try refine wpAny_bind (wpAny_pure ?_)
  refine wpAny_pure ?_
  dsimp only
  refine wpAny_storeSet_of ho hd ?_ (by rw [hs2, hsl, sizeLine_eq]; omega)
  have sb : Heap.SameBut a s.heap (s.heap.update a (Obj.putSet (order.filterMap (es[·]?)) t')) := Heap.SameBut.update ..
  refine hQ _ L2 (order.filterMap (es[·]?)) (ep + 1) t' sb ?_ r2
  exact ⟨⟨_, store_at ho hd, ⟨hex.1, hex.2.1, hex.2.2⟩, rfl⟩, r1, T, by rw [ep']; exact pl, by rw [el]; exact ld, by rw [r2.length_eq, em]; exact hn, by rw [r2.length_eq]; exact few⟩
/-- a key added that isn't there -/
theorem add_new (R : SetN w s.heap a L es ep t) (tup : ∀ p ∈ L, NK s.heap p.2 p.1) {x : Addr} {k : NestedKey} (hx : NK s.heap k x) (hn : ∀ p ∈ L, p.2 ≠ k) (hu : A.units + 8 < cLine) (hfew : L.length + 1 < 64) {Q : Bool → Shared → Prop}
    (hQ : ∀ h' L' es' ep' t', Heap.SameBut a s.heap h' → SetN w h' a L' es' ep' t' → L'.Perm ((x, k) :: L) → Q true { s with heap := h' }) : wpAny (model P w) A (setAddHashed a (.ref x) (k.hash w)) Q E s := by
  obtain ⟨o, ho, hex, hd⟩ := R.ob
  have hsl := rows_size R.rows
  have hroom := R.room
  unfold setAddHashed
  refine wpAny_holding ?_
  rw [show (100000 : Nat) = 99999 + 1 from rfl, setAddHashedIn_succ]
  refine wpAny_bind (wpAny_setState_of ho hd R.fits ?_)
  dsimp only
  refine wp_if_neg (by simp [byScan, Value.scannable]) ?_
  try refine wpAny_bind (wpAny_pure ?_)
  refine wpAny_bind (seek_at R tup hx hn hu fun K hK hb => ?_)
  dsimp only
  refine wpAny_bind (wpAny_setState_of ho hd R.fits ?_)
  dsimp only
  obtain ⟨q1, q2, q3, q4, q5, q6, q7, q8, q9⟩ := R.tab.put hK hb
  have hp1 : (t.put (way t.mask (k.hash w) K)).1.plain = true := q6.trans R.plain
  generalize t.put (way t.mask (k.hash w) K) = pt at q1 q3 q4 q5 q6 q7 q8 q9 hp1 ⊢
  obtain ⟨t1, p⟩ := pt
  dsimp only at q1 q3 q4 q5 q6 q7 q8 q9 hp1 ⊢
  subst q1
  have hby := byv_key (P := P) (w := w) k _ 8 hx.is hx.dp hx.nm A
  first
    | (refine wpAny_bind ?_; refine wp_if_pos hp1 ?_; refine hby _ _ ?_)
    | refine wp_if_pos hp1 (wpAny_bind (hby _ _ ?_))
  simp only [if_true]
  generalize SetTable.below t.place (way t.mask (k.hash w) K) = c at q2 q3 ⊢
  have hin : (SetTable.insertAt es c (k.hash w, Value.ref x)).toList = (L.take c ++ (x, k) :: L.drop c).map (hrow w) := by
    rw [SetTable.toList_insertAt, R.rows, List.map_append, List.map_cons, List.map_take, List.map_drop]
    rfl
  have pm := put_perm L c (x, k)
  have hhs1 : hhs w (L.take c ++ (x, k) :: L.drop c) = (hhs w L).take c ++ k.hash w :: (hhs w L).drop c := by
    unfold hhs
    rw [List.map_append, List.map_cons, List.map_take, List.map_drop]
  rw [← hhs1] at q3
  generalize L.take c ++ (x, k) :: L.drop c = L1 at pm hin q3
  have hlen : L1.length = L.length + 1 := pm.length_eq
  generalize SetTable.insertAt es c (k.hash w, Value.ref x) = es1 at hin ⊢
  have hes : es1.size = L.length + 1 := (rows_size hin).trans hlen
  refine wpAny_bind (wpAny_storeSet_of ho hd ?_ (by rw [hes, sizeLine_eq]; omega))
  have sb : Heap.SameBut a s.heap (s.heap.update a (Obj.putSet es1 t1)) := Heap.SameBut.update ..
  have ho1 := store_at (es' := es1) (t' := t1) ho hd
  generalize s.heap.update a (Obj.putSet es1 t1) = h1 at sb ho1 ⊢
  have ld1 : w.params.followText "set-order" = true ∨ t1.led = true := by rw [q5]; exact R.led
  have q9' : t1.fill = L.length + 1 := q9.trans (by unfold hhs; rw [List.length_map])
  have hfill : t1.tooFull = decide ((L.length + 1) * 5 ≥ t1.mask * 3) := by unfold SetTable.tooFull; rw [q9']
  have hsz1 : t1.place.size = es1.size := by
    rw [q3.sz, hes]
    unfold hhs
    rw [List.length_map, hlen]
  by_cases hf : t1.tooFull = true
  · first
      | (refine wpAny_bind ?_; refine wp_if_pos (by simp [hf]) ?_)
      | (refine wp_if_pos (by simp [hf]) ?_; refine wpAny_bind ?_)
    have hfull : (L.length + 1) * 5 ≥ t1.mask * 3 := of_decide_eq_true (hfill.symm.trans hf)
    rw [hsl]
    have two : (t.mask = 7 ∧ L.length = 4) ∨ (t.mask = 31 ∧ L.length = 18) := by
      rw [q4] at hfull
      rcases R.tab.mok with e | e | e
      · left; rw [e] at hfull hroom; exact ⟨e, by omega⟩
      · right; rw [e] at hfull hroom; exact ⟨e, by omega⟩
      · exfalso; rw [e] at hfull; omega
    have go : ∀ M, SetTable.sizeAbove (SetTable.grown (L.length + 1)) - 1 = M → MaskOk M → SetTable.sizeAbove (SetTable.grown (L.length + 1)) ≤ 128 → (L.length + 1) * 5 < M * 3 →
        wpAny (model P w) A (setRelay a (SetTable.grown (L.length + 1))) (fun _ s' => wpAny (model P w) A (pure true) Q E s') E { s with heap := h1 } := fun M g1 g2 g3 g4 =>
      relay_new (s := { s with heap := h1 }) ho1 ⟨hex.1, hex.2.1, hex.2.2⟩ rfl hin hsz1 q3.dm (by rw [hes, q4]; rcases two with ⟨e, e2⟩ | ⟨e, e2⟩ <;> omega) hp1 ld1 (by rw [hlen]; exact hfew) g1 g2 g3 (by rw [hlen]; exact g4)
        fun h2 L2 es2 ep2 t2 sb2 R2 pm2 => wpAny_pure (hQ h2 L2 es2 ep2 t2 (sb.trans sb2) R2 (pm2.trans pm))
    rcases two with ⟨_, e2⟩ | ⟨_, e2⟩
    · exact go 31 (by rw [e2, size_20]) (.inr (.inl rfl)) (by rw [e2, size_20]; decide) (by omega)
    · exact go 127 (by rw [e2, size_76]) (.inr (.inr rfl)) (by rw [e2, size_76]; decide) (by omega)
  · first
      | refine wp_if_neg (by simp [hf]) ?_
      | (refine wpAny_bind ?_; refine wp_if_neg (by simp [hf]) ?_; refine wpAny_pure ?_)
    refine wpAny_pure (hQ h1 L1 es1 (ep + 1) t1 sb ⟨⟨_, ho1, ⟨hex.1, hex.2.1, hex.2.2⟩, rfl⟩, hin, q3, hp1, ld1, ?_, by rw [hlen]; exact hfew⟩ pm)
    have hf2 : ¬ ((L.length + 1) * 5 ≥ t1.mask * 3) := fun z => hf (hfill.trans (decide_eq_true z))
    rw [hlen]
    omega
theorem SetN.fresh {h : Heap} (ho : h.get? a = some { cls := .type "set", dict := none, data := .set #[] 0 (.fresh 0 0 (!w.params.followText "set-order")) }) : SetN w h a [] #[] 0 (.fresh 0 0 (!w.params.followText "set-order")) where
  ob := ⟨_, ho, ⟨rfl, rfl, rfl⟩, rfl⟩
  rows := rfl
  tab := ⟨List.Pairwise.nil, rfl, rfl, .inl rfl, fun x hx => (by cases hx), fun i h j hi => (by simp [hhs] at hi)⟩
  plain := rfl
  led := by
    show _ ∨ (!w.params.followText "set-order") = true
    cases w.params.followText "set-order"
    · exact .inr rfl
    · exact .inl rfl
  room := by
    show 0 * 5 < 7 * 3
    decide
  few := by
    show 0 < 64
    decide
/-! ### set(xs), the items of xs all different -/
theorem diff_next {ks L : List (Addr × NestedKey)} {i : Nat} {x : Addr × NestedKey} (nd : (ks.map (·.2)).Nodup) (hp : L.Perm (ks.take i)) (e : ks[i]? = some x) : ∀ p ∈ L, p.2 ≠ x.2 := fun p hm he => by
  have h1 := hp.mem_iff.mp hm
  obtain ⟨hi, rfl⟩ := List.getElem?_eq_some_iff.mp e
  obtain ⟨j, hj, rfl⟩ := List.getElem_of_mem h1
  rw [List.length_take] at hj
  have hji : j < i := by omega
  have := List.pairwise_iff_getElem.mp nd j i (by rw [List.length_map]; omega) (by rw [List.length_map]; exact hi) hji
  apply this
  rw [List.getElem_map, List.getElem_map, ← he, List.getElem_take]
theorem loop_new {I : Addr} {fp wr : List Addr} {G : Array GenState → Array GenState → Prop} {n : Nat} {Pv : Nat → Value → Prop} {St : Nat → Shared → Prop} {R : Result → Shared → Prop}
    (Wk : WalksS P w A.in1 I fp wr G n Pv St) (S : Addr) (hSf : S ∉ fp) (ks : List (Addr × NestedKey)) (hn : n = ks.length) (hfew : ks.length < 64) (nd : (ks.map (·.2)).Nodup) (hval : ∀ i v, Pv i v → ∃ p, ks[i]? = some p ∧ v = .ref p.1)
    (h0 : Heap) (hk : ∀ p ∈ ks, NK h0 p.2 p.1) (hS0 : h0.get? S = none) (hw0 : ∀ b ∈ wr, h0.get? b = none) (hu : A.in1.units + 8 < cLine) :
    ∀ (k i : Nat) (s : Shared), n - i = k → i ≤ n → St i s → (∀ b o, h0.get? b = some o → s.heap.get? b = some o) → (∃ L es ep t, SetN w s.heap S L es ep t ∧ L.Perm (ks.take i)) →
      (∀ s' L es ep t, Moved (S :: wr) G s s' → SetN w s'.heap S L es ep t → L.Perm (ks.take n) → (∀ b o, h0.get? b = some o → s'.heap.get? b = some o) → R (.ok (.ret .none)) s') →
      codeAny (model P w) A (.builtin "set.update.loop" ⟨[.ref S, .ref I], []⟩) R s := by
  have hSw : S ∉ wr := fun h => hSf (Wk.sub _ h)
  have hsub : ∀ b ∈ wr, b ∈ S :: wr := fun b hb => List.mem_cons_of_mem _ hb
  have keepM : ∀ {s s' : Shared}, Moved wr G s s' → (∀ b o, h0.get? b = some o → s.heap.get? b = some o) → ∀ b o, h0.get? b = some o → s'.heap.get? b = some o := fun hm hkp b o e =>
    hm.heap b o (fun hb => by rw [hw0 b hb] at e; cases e) (hkp b o e)
  have moveS : ∀ {s s' : Shared} {L es ep t}, Moved wr G s s' → SetN w s.heap S L es ep t → SetN w s'.heap S L es ep t := fun hm R => by
    obtain ⟨o, ho, r⟩ := R.ob
    exact ⟨⟨o, hm.heap S o hSw ho, r⟩, R.rows, R.tab, R.plain, R.led, R.room, R.few⟩
  have keyK : ∀ {h : Heap}, (∀ b o, h0.get? b = some o → h.get? b = some o) → ∀ p ∈ ks, NK h p.2 p.1 := fun hkp p hp => (hk p hp).to fun b o _ _ e _ => hkp b o e
  intro k
  induction k with
  | zero =>
    intro i s hk' hi hst hkp ⟨L, es, ep, t, hS, g⟩ hR
    have hin : i = n := by omega
    subst hin
    refine codeAny_builtin F.entry_set_update_loop ?_
    rw [Around.under_plainId F.plain_set_update_loop _]
    show wpAny _ A.in1 (pyNext (.ref I) >>= _) _ _ s
    refine wpAny_bind (Wk.done s _ _ hst fun s' hm => ?_)
    show wpAny _ A.in1 (PySem.ret Value.none) _ _ s'
    exact wpAny_pure (hR s' L es ep t (hm.mono hsub) (moveS hm hS) g (keepM hm hkp))
  | succ k ih =>
    intro i s hk' hi hst hkp ⟨L, es, ep, t, hS, g⟩ hR
    have hlt : i < n := by omega
    refine codeAny_builtin F.entry_set_update_loop ?_
    rw [Around.under_plainId F.plain_set_update_loop _]
    show wpAny _ A.in1 (pyNext (.ref I) >>= _) _ _ s
    refine wpAny_bind (Wk.item i s _ _ hlt hst fun v s' hP hst' hm => ?_)
    obtain ⟨p, hp, rfl⟩ := hval i v hP
    have hkp' := keepM hm hkp
    have hS' := moveS hm hS
    have hx := keyK hkp' p (List.mem_of_getElem? hp)
    have hlen : L.length = i := by rw [g.length_eq, List.length_take]; omega
    show wpAny _ A.in1 (holding [Value.ref p.1] (setAdd S (.ref p.1)) >>= _) _ _ s'
    refine wpAny_bind (wpAny_holding ?_)
    unfold setAdd
    refine wpAny_holding ?_
    refine wpAny_bind (pyHash_key _ _ _ _ _ hx.is (by have := hx.dp; omega) ?_)
    refine add_new (s := { s' with toks := s'.toks + p.2.draws }) hS' (fun q hq => keyK hkp' q (List.mem_of_mem_take (g.mem_iff.mp hq))) hx (diff_next nd g hp) hu (by omega) fun h' L' es' ep' t' hsb hS2 pm => ?_
    have g' : L'.Perm (ks.take (i + 1)) := by
      rw [List.take_succ, hp]
      exact (pm.trans (g.cons p)).trans (List.perm_append_singleton p _).symm
    have hkp2 : ∀ b o, h0.get? b = some o → h'.get? b = some o := fun b o e => (hsb.2 b (fun z => by rw [z, hS0] at e; cases e)).trans (hkp' b o e)
    refine wpAny_pure ⟨plainId_quiet F.plain_set_update_loop _, ih (i + 1) _ (by omega) hlt (Wk.frame _ s' _ _ hst' (Nat.le_add_right _ _) fun b hb o e => ?_) hkp2 ⟨L', es', ep', t', hS2, g'⟩ fun s'' L2 es2 ep2 t2 hm'' hS'' g'' hkp'' => ?_⟩
    · rw [hsb.2 b (fun h : b = S => hSf (by rw [← h]; exact hb))]; exact e
    · refine hR s'' L2 es2 ep2 t2 (Moved.trans Wk.gtrans ((hm.mono hsub).then_heap (Nat.le_add_right _ _) fun b o hb e => ?_) hm'') hS'' g'' hkp''
      rw [hsb.2 b (fun h : b = S => hb (by rw [h]; exact List.mem_cons_self))]; exact e
set_option maxHeartbeats 3200000 in
theorem set_new {l : Addr} {items : Array Value} (ks : List (Addr × NestedKey)) {Q : Value → Shared → Prop} (hh : A.handled = none) (hl : s.heap.IsList l items) (hit : items.toList = ks.map fun p => Value.ref p.1)
    (hk : ∀ p ∈ ks, NK s.heap p.2 p.1) (nd : (ks.map (·.2)).Nodup) (hfew : ks.length < 64) (hu : A.units + 11 < cLine)
    (h : ∀ (h' : Heap) (tk : Nat) L es ep t, SetN w h' s.heap.objs.size L es ep t → L.length = ks.length → (∀ b o, s.heap.get? b = some o → h'.get? b = some o) → Q (.ref s.heap.objs.size) { s with heap := h', toks := tk }) :
    wpAny (model P w) A (call (.type "set") [.ref l]) Q E s := by
  have hisz : items.size = ks.length := by
    have q := congrArg List.length hit
    rwa [Array.length_toList, List.length_map] at q
  obtain ⟨c, tl, hmro⟩ := F.called_set.mro
  have hmade := F.called_set.made
  have hsub := F.called_set.sub
  refine wpAny_call (codeAny_of_tree ?_)
  show wpAny _ _ (callAny (.type "set") _) _ _ _
  refine wpAny_pure ⟨Code.quiet_builtin _ (by decide +kernel), codeAny_builtin F.entry_type_call ?_⟩
  rw [Around.under_plain (weight_type_call_type "set" [.ref l] []) rfl]
  have h1 := F.called_set.notType
  have h2 := F.called_set.canCreate
  have hct := F.typeCall_set_1 (.ref l)
  repeat (any_goals (first | assumption | wp_step))
  refine codeAny_mono (code_set_led1 (.ref l) (E := E) (Q₁ := fun obj s₁ => obj = .ref s.heap.objs.size ∧ s₁ = { s with heap := s.heap.push { cls := .type "set", dict := none, data := .set #[] 0 (.fresh 0 0 (!w.params.followText "set-order")) } }) ⟨rfl, rfl⟩) fun r s₁ hr => ?_
  cases r with
  | error e => exact hr
  | ok fl =>
    cases fl with
    | ret obj =>
      obtain ⟨rfl, rfl⟩ := hr
      have hS : (s.heap.push { cls := .type "set", dict := none, data := .set #[] 0 (.fresh 0 0 (!w.params.followText "set-order")) }).get? s.heap.objs.size = some { cls := .type "set", dict := none, data := .set #[] 0 (.fresh 0 0 (!w.params.followText "set-order")) } := Heap.get?_push_size _ rfl
      have hT : Shared.TypeIs { s with heap := s.heap.push { cls := .type "set", dict := none, data := .set #[] 0 (.fresh 0 0 (!w.params.followText "set-order")) } } (.ref s.heap.objs.size) "set" := ⟨_, hS, rfl⟩
      have hli := F.called_set.init.lookup
      have hbi := F.called_set.init.bind (.ref s.heap.objs.size)
      repeat (any_goals (first | assumption | wp_step))
      refine codeAny_mono (codeAny_call_builtin (R := wants (fun r s₂ => r = .none ∧ ∃ h' tk L es ep t, s₂ = { s with heap := h', toks := tk } ∧ SetN w h' s.heap.objs.size L es ep t ∧ L.Perm (ks.take ks.length) ∧
          (∀ b o, s.heap.get? b = some o → h'.get? b = some o)) E) F.called_set.init.plain F.entry_set_init (check_set_init_1 hT ?_)) fun r₂ s₂ hr₂ => ?_
      · obtain ⟨ol, hol, hcl, nl, hdl⟩ := hl
        obtain ⟨ocls, odict, odata, oslots⟩ := ol
        simp only at hcl hdl
        subst hcl; subst hdl
        have hol' : (s.heap.push { cls := .type "set", dict := none, data := .set #[] 0 (.fresh 0 0 (!w.params.followText "set-order")) }).get? l = some { cls := .type "list", dict := odict, data := .seq items nl, slots := oslots } := Heap.get?_push_of_some _ hol
        have hsls := F.sub_list_set
        have hslf := F.sub_list_frozenset
        have hne : (Value.type "list" == Value.type "dict") = false := by decide
        have hl1 : (s.heap.push { cls := .type "set", dict := none, data := .set #[] 0 (.fresh 0 0 (!w.params.followText "set-order")) }).IsList l items := ⟨_, hol', rfl, nl, rfl⟩
        unfold Builtin.«set.__init__» noKeywords Builtin.Frozenset.updateFrom
        generalize hPI : pyIter = PI
        wp_walk
        subst hPI
        refine wpAny_pyIter_list (s := { s with heap := s.heap.push { cls := .type "set", dict := none, data := .set #[] 0 (.fresh 0 0 (!w.params.followText "set-order")) } }) hl1 ?_
        refine wpAny_bind (wpAny_runValue ?_)
        have hlS : l < s.heap.objs.size := Heap.lt_size hol
        have hh3 : A.in1.in1.in1.handled = none := by simp [hh]
        have hz1 : (s.heap.push { cls := .type "set", dict := none, data := .set #[] 0 (.fresh 0 0 (!w.params.followText "set-order")) }).objs.size = s.heap.objs.size + 1 := Heap.size_push ..
        have hneI : l ≠ (s.heap.push { cls := .type "set", dict := none, data := .set #[] 0 (.fresh 0 0 (!w.params.followText "set-order")) }).objs.size := by rw [Heap.size_push]; exact Nat.ne_of_lt (Nat.lt_succ_of_lt hlS)
        have hSf : s.heap.objs.size ∉ [(s.heap.push { cls := .type "set", dict := none, data := .set #[] 0 (.fresh 0 0 (!w.params.followText "set-order")) }).objs.size, l] := by
          rw [Heap.size_push]
          simp only [List.mem_cons, List.not_mem_nil, or_false, not_or]
          exact ⟨Nat.ne_of_lt (Nat.lt_succ_self _), Nat.ne_of_gt hlS⟩
        have hval : ∀ (i : Nat) (v : Value), items[i]? = some v → ∃ p, ks[i]? = some p ∧ v = .ref p.1 := fun i v hv => by
          have q : items.toList[i]? = some v := by rw [Array.getElem?_toList]; exact hv
          rw [hit, List.getElem?_map] at q
          obtain ⟨p, hp, e⟩ := Option.map_eq_some_iff.mp q
          exact ⟨p, hp, e.symm⟩
        have none_of : ∀ b, s.heap.objs.size ≤ b → s.heap.get? b = none := fun b hb => by
          cases q : s.heap.get? b with
          | none => rfl
          | some o => exact absurd (Nat.lt_of_lt_of_le (Heap.lt_size q) hb) (Nat.lt_irrefl _)
        refine loop_new ((Walks.list hh3 _ l hneI items).toS) s.heap.objs.size hSf ks hisz hfew nd hval s.heap hk (none_of _ (Nat.le_refl _)) (fun b hb => none_of b (by rw [List.mem_singleton.mp hb, Heap.size_push]; exact Nat.le_succ _)) (by simp only [Around.in1_units]; omega) (items.size - 0) 0 _ (by omega) (Nat.zero_le _)
          ⟨⟨_, Heap.get?_push_size _ rfl, rfl, rfl⟩, (hl1.push _)⟩ (fun b o e => Heap.get?_push_of_some _ (Heap.get?_push_of_some _ e)) ?hS0 ?hR
        case hS0 =>
          exact ⟨[], #[], 0, _, SetN.fresh (Heap.get?_push_of_some _ hS), .refl _⟩
        case hR =>
          intro s' L es ep t hm hS' g' hkp
          obtain ⟨h', g2, d', tk', os'⟩ := s'
          have eg : g2 = s.gens := hm.gens
          have ed : d' = s.drawn := hm.drawn
          have eo : os' = s.os := hm.os
          subst eg; subst ed; subst eo
          show wpAny _ _ _ _ _ _
          refine wpAny_pure ?_
          show wpAny _ _ (PySem.ret Value.none) _ _ _
          rw [hisz] at g'
          exact wpAny_pure ⟨rfl, h', tk', L, es, ep, t, rfl, hS', g', hkp⟩
      · cases r₂ with
        | error e => exact hr₂
        | ok fl₂ =>
          cases fl₂ with
          | ret r =>
            obtain ⟨rfl, h', tk, L, es, ep, t, rfl, hS', g', hk'⟩ := hr₂
            repeat (any_goals (first | assumption | wp_step))
            exact h _ _ _ _ _ _ hS' (by rw [g'.length_eq, List.take_length]) hk'
          | _ => exact hr₂.elim
    | _ => exact hr.elim
theorem len_set_new {l : Addr} {items : Array Value} (ks : List (Addr × NestedKey)) {Q : Value → Shared → Prop} (hh : A.handled = none) (hl : s.heap.IsList l items) (hit : items.toList = ks.map fun p => Value.ref p.1)
    (hk : ∀ p ∈ ks, NK s.heap p.2 p.1) (nd : (ks.map (·.2)).Nodup) (hfew : ks.length < 64) (hu : A.units + 11 < cLine)
    (h : ∀ (a : Addr) (h' : Heap) (tk : Nat) (o : Obj) (es : Array (Int × Value)) (ep : Nat) (t : SetTable), h'.get? a = some o → o.ExactSet → o.data = .set es ep t → t.fits es.size = true → es.size = ks.length → (∀ b o, s.heap.get? b = some o → h'.get? b = some o) → Q (.ref a) { s with heap := h', toks := tk }) :
    wpAny (model P w) A (call (.type "set") [.ref l]) Q E s :=
  set_new ks hh hl hit hk nd hfew hu fun h' tk L es ep t R hL hk' => by
    obtain ⟨o, ho, hex, hd⟩ := R.ob
    exact h _ h' tk o es ep t ho hex hd (SetN.fits (s := { s with heap := h' }) R) ((rows_size R.rows).trans hL) hk'
end
end Sm

set_option Elab.async false
set_option linter.all false
set_option maxRecDepth 100000
/-! len(set(e)), e a list of tuples of data, all of them different -/
namespace Sm
open PySem PySem.Spec PyProof.Rows L2 LamX
mutual
def keyD : PyData → NestedKey
  | .bool b => .num (if b = true then 1 else 0)
  | .int i => .num i
  | .tuple ds => .tup (keyDs ds)
  | _ => .none
def keyDs : List PyData → List NestedKey
  | [] => []
  | d :: ds => keyD d :: keyDs ds
end
mutual
def okKD : PyData → Bool
  | .bool _ => true
  | .int _ => true
  | .tuple ds => okKDs ds
  | _ => false
def okKDs : List PyData → Bool
  | [] => true
  | d :: ds => okKD d && okKDs ds
end
mutual
theorem key_is {h : Heap} : ∀ {v : Value} {d : PyData} {as : List Addr}, Reads h v d as → okKD d = true → NestedIs h (keyD d) v
  | _, _, _, .none, e => by simp [okKD] at e
  | _, _, _, .bool b, e => by rw [keyD]; exact .bool rfl
  | _, _, _, .int i t, e => by rw [keyD]; exact .int i t
  | _, _, _, .str x t, e => by simp [okKD] at e
  | _, _, _, .list h1 h2 h3 h4, e => by simp [okKD] at e
  | _, _, _, .tuple h1 h2 h3 h4, e => by
    rw [keyD]
    exact .tup h1 h2 h3 (keys_are h4 (by simpa [okKD] using e))
  | _, _, _, .dict h1 h2 h3 h4 h5, e => by simp [okKD] at e
theorem keys_are {h : Heap} : ∀ {vs : List Value} {ds : List PyData} {as : List Addr}, ReadsAll h vs ds as → okKDs ds = true → NestedAll h (keyDs ds) vs
  | _, _, _, .nil, _ => by rw [keyDs]; exact .nil
  | _, _, _, .cons r t, e => by
    simp only [okKDs, Bool.and_eq_true] at e
    rw [keyDs]
    exact .cons (key_is r e.1) (keys_are t e.2)
end
mutual
theorem key_num : ∀ d : PyData, isNumK (keyD d) = true
  | .none => rfl
  | .bool _ => rfl
  | .int _ => rfl
  | .str _ => rfl
  | .list _ => rfl
  | .tuple ds => by rw [keyD, isNumK]; exact keys_num ds
  | .dict _ => rfl
theorem keys_num : ∀ ds : List PyData, isNumA (keyDs ds) = true
  | [] => rfl
  | d :: ds => by rw [keyDs, isNumA, key_num d, keys_num ds]; rfl
end
def isTupDD : PyData → Bool
  | .tuple _ => true
  | _ => false
def okTD (d : PyData) : Bool := isTupDD d && okKD d && decide ((keyD d).depth ≤ 8)
def diffK : List NestedKey → Bool
  | [] => true
  | k :: ks => !ks.any (NestedKey.beq k) && diffK ks
theorem diffK_nd : ∀ {ks : List NestedKey}, diffK ks = true → ks.Nodup
  | [], _ => .nil
  | k :: ks, h => by
    simp only [diffK, Bool.and_eq_true, Bool.not_eq_true'] at h
    refine List.nodup_cons.mpr ⟨fun hm => ?_, diffK_nd h.2⟩
    rw [List.any_eq_false] at h
    exact h.1 k hm (NestedKey.beq_self k)
variable [TB]
section
variable {X : Cx} {W0 : WX} {J : JI} {pins : List (Addr × Obj)} {σ : L2.St} {H : Hp} {s : Shared}
theorem keys_of (I : Inv X pins σ H s) : ∀ {bs : List (V × PyData)} {us : List Value}, (∀ b ∈ bs, Dp X.K H b.1 b.2) → Vals (bs.map (·.1)) us → (∀ b ∈ bs, okTD b.2 = true) → ∃ ks : List (Addr × NestedKey), us = ks.map (fun p => Value.ref p.1) ∧ ks.map (·.2) = bs.map (fun b => keyD b.2) ∧ ∀ p ∈ ks, NK s.heap p.2 p.1
  | [], _, _, .nil, _ => ⟨[], rfl, rfl, fun p hp => by cases hp⟩
  | (x, d) :: bs, u :: us, hd, .cons r t, ok => by
    obtain ⟨ks, e1, e2, e3⟩ := keys_of I (bs := bs) (fun b hb => hd b (List.mem_cons_of_mem _ hb)) t fun b hb => ok b (List.mem_cons_of_mem _ hb)
    have h1 := ok (x, d) List.mem_cons_self
    simp only [okTD, Bool.and_eq_true, decide_eq_true_eq] at h1
    obtain ⟨as, rd⟩ := Dp.reads I d x u (hd (x, d) List.mem_cons_self) r
    have nk := key_is rd h1.1.2
    obtain ⟨⟨ht, hk⟩, hdp⟩ := h1
    cases d with
    | tuple ds =>
      rw [keyD] at nk
      cases nk with
      | @tup a _ _ _ _ g1 g2 g3 g4 =>
        refine ⟨(a, keyD (.tuple ds)) :: ks, by rw [e1]; rfl, by rw [List.map_cons, e2]; rfl, fun p hp => ?_⟩
        rcases List.mem_cons.mp hp with e | hp
        · subst e
          refine ⟨?_, hdp, key_num _⟩
          show NestedIs _ (keyD (.tuple ds)) _
          rw [keyD]
          exact .tup g1 g2 g3 g4
        · exact e3 p hp
    | _ => cases ht

theorem bs_of {K : Fr} {ρ δ : List Addr} {H : Hp} : ∀ {ws : List W} {vs : List V} {ds : List PyData}, Reps K ρ δ H ws vs → toDs ws = some ds → ∃ bs : List (V × PyData), bs.map (·.1) = vs ∧ bs.map (·.2) = ds ∧ ∀ b ∈ bs, Dp K H b.1 b.2
  | [], _, ds, .nil, e => by simp [toDs] at e; subst e; exact ⟨[], rfl, rfl, fun b hb => by cases hb⟩
  | w :: ws, _, ds, .cons r t, e => by
    rw [toDs] at e
    cases e1 : toD w with
    | none => simp [e1] at e
    | some d =>
      cases e2 : toDs ws with
      | none => simp [e1, e2] at e
      | some ds2 =>
        simp only [e1, e2, Option.some.injEq] at e
        subst e
        obtain ⟨bs, q1, q2, q3⟩ := bs_of t e2
        refine ⟨(_, d) :: bs, by rw [List.map_cons, q1], by rw [List.map_cons, q2], fun b hb => ?_⟩
        rcases List.mem_cons.mp hb with e | hb
        · subst e; exact toD_dp r e1
        · exact q3 b hb
def lsetDW (w : W) : M W := fun S => if isL w = true then match seqW S w with
    | some ws => match toDs ws with
      | some ds => if ds.length < 64 ∧ ds.all okTD = true ∧ diffK (ds.map keyD) = true then .val (.int ds.length) S else .bad
      | none => .bad
    | none => .bad
  else .bad
theorem sim_lensetD {a : Expr} {ma : EM W} {p p2 q pos : Pos} (hg : Gl X "len") (hm : X.mg "len" = none) (hg2 : Gl X "set") (hm2 : X.mg "set" = none) (hu : X.A.units + 64 < cLine) (ha : SimE X W0 J a ma) (hc : X.calm = true := by rfl)
    (na : starEach [a] X.env = (false, eval a X.env) :: starEach [] X.env := by rfl) : SimE X W0 J (.Call (.Name "len" p) [.Call (.Name "set" p2) [a] [] q] [] pos) (m1 lsetDW ma) := by
  refine SimE.of ⟨fun pins s σ H Q I h => ?_⟩
  obtain ⟨ρ, δ, S, env, he, hst, hj, hp⟩ := h
  obtain ⟨ta, pa, k⟩ := ha
  refine Call_ (ld_blt I hg hm boot_len ?_)
  refine PyProof.Rows.callWith_builtin1 (PyProof.Rows.args_cons ?_ rfl) rfl rfl
  refine Call_ (ld_blt I hg2 hm2 boot_set ?_)
  refine PyProof.Rows.callWith_type1 (PyProof.Rows.args_cons (thn (pa.run pins s σ H (fun x H1 => ∃ (l : Addr) (bs : List (V × PyData)), x = .ref l ∧ SqL X.K H1 l (bs.map (·.1)) ∧ (∀ b ∈ bs, Dp X.K H1 b.1 b.2) ∧ bs.length < 64 ∧ (∀ b ∈ bs, okTD b.2 = true) ∧ diffK (bs.map fun b => keyD b.2) = true ∧ Q (.int (bs.length : Nat)) H1) I ?_) fun v s1 ⟨x, H1, I1, r1, q1⟩ => PyProof.Rows.args_nil ?_) na) na rfl
  · refine k _ _ S _ env σ _ he hst hj (Post.bind hp fun w S1 ρ1 v H1 _ g1 s1 r1 hp1 => ?_)
    have hp1 : PostV X ρ1 δ H1 Q (WE W0 σ) (lsetDW w S1) := hp1
    unfold lsetDW at hp1
    by_cases hL : isL w = true
    · rw [if_pos hL] at hp1
      cases e : seqW S1 w with
      | none => rw [e] at hp1; exact hp1.elim
      | some us =>
        simp only [e] at hp1
        obtain ⟨l, vs, rfl, hq, t⟩ := seqW_repL s1 r1 e hL
        cases e2 : toDs us with
        | none => simp only [e2] at hp1; exact hp1.elim
        | some ds =>
          simp only [e2] at hp1
          obtain ⟨⟨h1, h2, h3⟩, hp1⟩ := PostV.if hp1
          obtain ⟨bs, q1, q2, q3⟩ := bs_of t e2
          have hbl : bs.length = ds.length := by rw [← q2, List.length_map]
          refine ⟨l, bs, rfl, by rw [q1]; exact hq, q3, by omega, fun b hb => ?_, ?_, ?_⟩
          · rw [← q2, List.all_eq_true] at h2
            exact h2 b.2 (List.mem_map.mpr ⟨b, hb, rfl⟩)
          · rw [← q2, List.map_map] at h3
            exact h3
          · rw [hbl]
            exact PostV.here (v := .int _) hp1 s1 .int
    · rw [if_neg hL] at hp1; exact hp1.elim
  · obtain ⟨l, bs, rfl, hq, hd, hl, hok, hdf, q1⟩ := q1
    cases r1
    obtain ⟨its, r, pl, hz⟩ := I1.list hq
    obtain ⟨ks, k1, k2, k3⟩ := keys_of I1 hd r hok
    have hkl : ks.length = bs.length := by simpa using congrArg List.length k2
    refine len_set_new (P := X.prog) (w := X.w) ks (I1.ok.hd hc) pl.isList (by simpa using k1) k3 (by rw [k2]; exact diffK_nd hdf) (by omega) (by omega) fun a h' tk o es ep tb ho hex hd' hf hn hk => ?_
    refine PyProof.Rows.args_nil ?_
    have I2 : Inv X pins σ H1 { s1 with heap := h', toks := tk } := I1.kept fun b o e => hk b o e
    exact call_len_set ho hex hd' hf (by omega) ⟨.int (bs.length : Nat), H1, I2.tok _, ⟨_, by rw [hn, hkl]⟩, q1⟩
end
end Sm

set_option Elab.async false
set_option linter.all false
set_option maxRecDepth 100000
/-! texts: s[i], s[i:j], c in s, c * n; a text that the module keeps -/
namespace Sm
open PySem PySem.Spec PyProof.Rows L2 LamX
variable [TB]
def ixSW : W → W → M W
  | .str z, .int i => fun S => if z.length ≤ lim then (match atI z.cps.toList i with
    | some c => .val (.str ⟨#[c]⟩) S
    | none => .bad) else .bad
  | _, _ => bad
def inSW (neg : Bool) : W → W → M W
  | .str s, .str z => fun S => match s.cps.toList with
    | [c] => .val (.bl (if neg = true then !decide (c ∈ z.cps.toList) else decide (c ∈ z.cps.toList))) S
    | _ => .bad
  | _, _ => bad
def mulSW : W → W → M W
  | .str z, .int k => fun S => if z.length = 1 ∧ -1000 ≤ k ∧ k ≤ 1000 then .val (.str (Txt.mul z k)) S else .bad
  | _, _ => bad
theorem mul_ok {z : Str} {k : Int} (h1 : z.length = 1) (h2 : -1000 ≤ k) (h3 : k ≤ 1000) : MulOk z k := by
  refine ⟨?_, fun a b => ?_, fun a b => ?_⟩
  · rw [decide_eq_false (by omega), decide_eq_false (by omega)]
    rfl
  · rw [h1]
    intro c
    have : (1 : Int) ≤ (2 ^ 63 - 1) / k := (Int.le_ediv_iff_mul_le (by omega)).mpr (by omega)
    omega
  · rw [h1]
    unfold Builtin.Str.tooLong
    rw [sizeLine_eq]
    have : k.toNat ≤ 1000 := by omega
    simp
    omega
section
variable {X : Cx} {W0 : WX} {J : JI} {e : Expr} {me : EM W} {pos : Pos}
theorem os_ixS : OpS X rIxS ixSW := by
  intro ρ δ S H x y v u Q E s rx ry hp
  cases rx with
  | @str z => cases ry with
    | @int i =>
      obtain ⟨hl, hp⟩ := PostV.if hp
      cases h2 : atI z.cps.toList i with
      | none => rw [h2] at hp; exact hp.elim
      | some c =>
        rw [h2] at hp
        exact ⟨z, i, c, rfl, rfl, lim_ok hl, h2, PostV.here (v := .str _) hp s .str⟩
    | _ => exact hp.elim
  | _ => cases ry <;> exact hp.elim
theorem one_sign {s : Str} {c : Nat} (h : s.cps.toList = [c]) : s = ⟨#[c]⟩ := by
  obtain ⟨a⟩ := s
  obtain ⟨l⟩ := a
  have h : l = [c] := h
  subst h
  rfl
theorem os_inS : OpS X (fun x y H Q => ∃ (c : Nat) (z : Str), x = .str ⟨#[c]⟩ ∧ y = .str z ∧ Q (.bl (decide (c ∈ z.cps.toList))) H) (inSW false) := by
  intro ρ δ S H x y v u Q E s rx ry hp
  cases rx with
  | @str a => cases ry with
    | @str z =>
      have hp : PostV X ρ δ H Q E (match a.cps.toList with
        | [c] => .val (.bl (if false = true then !decide (c ∈ z.cps.toList) else decide (c ∈ z.cps.toList))) S
        | _ => .bad) := hp
      split at hp
      next c hc => exact ⟨c, z, by rw [one_sign hc], rfl, PostV.here (v := .bl _) hp s .bl⟩
      next => exact hp.elim
    | _ => exact hp.elim
  | _ => cases ry <;> exact hp.elim
theorem os_notInS : OpS X (fun x y H Q => ∃ (c : Nat) (z : Str), x = .str ⟨#[c]⟩ ∧ y = .str z ∧ Q (.bl (!decide (c ∈ z.cps.toList))) H) (inSW true) := by
  intro ρ δ S H x y v u Q E s rx ry hp
  cases rx with
  | @str a => cases ry with
    | @str z =>
      have hp : PostV X ρ δ H Q E (match a.cps.toList with
        | [c] => .val (.bl (if true = true then !decide (c ∈ z.cps.toList) else decide (c ∈ z.cps.toList))) S
        | _ => .bad) := hp
      split at hp
      next c hc => exact ⟨c, z, by rw [one_sign hc], rfl, PostV.here (v := .bl _) hp s .bl⟩
      next => exact hp.elim
    | _ => exact hp.elim
  | _ => cases ry <;> exact hp.elim
def rMulS : R2 := fun x y H Q => ∃ z k, x = .str z ∧ y = .int k ∧ MulOk z k ∧ Q (.str (Txt.mul z k)) H
theorem op_mulS : OpR X (binaryOp .Mult) rMulS := by
  intro pins s σ H x y v u Q I rx ry h
  obtain ⟨z, k, rfl, rfl, ok, q⟩ := h
  obtain ⟨t, rfl⟩ := rx
  obtain ⟨t', rfl⟩ := ry
  exact SB.mul ok fun t2 k2 => ⟨.str (Txt.mul z k), H, I.tok _, ⟨_, rfl⟩, q⟩
theorem os_mulS : OpS X rMulS mulSW := by
  intro ρ δ S H x y v u Q E s rx ry hp
  cases rx with
  | @str z => cases ry with
    | @int i =>
      obtain ⟨⟨h1, h2, h3⟩, hp⟩ := PostV.if hp
      exact ⟨z, i, rfl, rfl, mul_ok h1 h2 h3, PostV.here (v := .str _) hp s .str⟩
    | _ => exact hp.elim
  | _ => cases ry <;> exact hp.elim
def slSW (x : W) (lo hi : Option Int) : M W := fun S => match x with
  | .str z => if z.length ≤ lim then .val (.str (cutS z lo hi)) S else .bad
  | _ => .bad
def mSlS (me : EM W) (ml mh : EM (Option Int)) : EM W := fun env => bnd (me env) fun x => bnd (ml env) fun lo => bnd (mh env) fun hi => slSW x lo hi
theorem sim_sliceS {lo hi : Option Expr} {ml mh : EM (Option Int)} {p2 : Pos} (h : SimE X W0 J e me) (hl : SimO X W0 J lo ml) (hh : SimO X W0 J hi mh) : SimE X W0 J (.Subscript e (.Slice lo hi none p2) pos) (mSlS me ml mh) := by
  obtain ⟨t, p, k⟩ := h
  obtain ⟨tl, pl, kl⟩ := hl
  obtain ⟨th, ph, kh⟩ := hh
  refine ⟨_, pe_slice sl_str p pl ph, fun ρ δ S H env σ Q he hs hj hp => ?_⟩
  refine k _ _ S _ env σ _ he hs hj (Post.bind hp fun x S1 ρ1 v H1 _ g1 s1 r1 hp1 => ?_)
  refine kl _ _ S1 _ env σ _ (he.grow g1) s1 (J.st _ _ _ _ g1 hj) (Post.bind hp1 fun lo' S2 ρ2 lo2 H2 _ g2 s2 r2 hp2 => ?_)
  refine kh _ _ S2 _ env σ _ (he.grow (g1.trans g2)) s2 (J.st _ _ _ _ (g1.trans g2) hj) (Post.bind hp2 fun hi' S3 ρ3 hi2 H3 _ g3 s3 r3 hp3 => ?_)
  subst r2
  subst r3
  have r := (g2.trans g3).rep r1
  cases r with
  | @str z =>
    obtain ⟨hz, hp3⟩ := PostV.if hp3
    exact ⟨z, rfl, lim_ok hz, PostV.here (v := .str _) hp3 s3 .str⟩
  | _ => exact hp3.elim
theorem sim_gs {x : Str} {z : Str} (hg : Gl X x) (hm : ∃ t, X.mg x = some (.str z t)) (hd : (x == ("__debug__" : Str)) = false := by decide) : SimE X W0 J (.Name x pos) (mC (.str z)) := by
  obtain ⟨t, hm⟩ := hm
  exact sim_c (t := tC (.str z)) (pe_glob (v := V.str z) hg hm ⟨t, rfl⟩ hd) fun _ _ _ => .str
end
end Sm

set_option Elab.async false
set_option linter.all false
set_option maxRecDepth 100000
/-! errors of the program's own that keep two fields, the first an int, the second a text -/
namespace Sm
open PySem PySem.Spec PyProof.Rows L2 LamX
variable [TB]
def sp2 (C : Addr) (f g : Str) : Sp := fun vs H Q _ => ∃ (a : Addr) (i : Int) (z : Str), vs = [.ref a, .int i, .str z] ∧ (-big ≤ i ∧ i ≤ big) ∧ z.length ≤ 1000 ∧ H a = some (exo a C none) ∧
  ∀ d, H d = none → d ≠ a → Q .non (upd (upd (upd H d (exd d [(f, .int i)])) a (exo a C (some d))) d (exd d [(g, .str z), (f, .int i)]))
def t_in2 (K : Fr) (f g t0 t1 : Str) : TS :=
  tSeq (tDrop (tVeI K (tCons (tVar 0) (tCons (fun σ H Q => tJs [tC (.str t0), tFmt (tVar 1), tC (.str t1), tFmt (tVar 2)] Str.empty σ H fun out H1 => Q (.str out) H1) tNil)))) (tSeq (tOst K f (tVar 0) (tVar 1)) (tOst K g (tVar 0) (tVar 2)))
theorem big_log {i : Int} (h : -big ≤ i ∧ i ≤ big) : i.natAbs.log2 < 1920 := by
  unfold big at h
  by_cases h0 : i.natAbs = 0
  · rw [h0]; decide
  · have : i.natAbs.log2 < 40 := (Nat.log2_lt h0).mpr (by omega)
    omega
theorem in2_go {K : Fr} {C : Addr} {f g t0 t1 p q : Str} {vs : List V} {H : Hp} {Q : VK} {E : XK} (hC : OexC K C) (h1 : PySem.W.findIn K (.ref C) f = some none) (h2 : PySem.W.findIn K (.ref C) g = some none) (l0 : t0.length ≤ 1000) (l1 : t1.length ≤ 1000) (h : sp2 C f g vs H Q E) :
    t_in2 K f g t0 t1 { nx := fun _ H' => Q .non H', rt := Q } (start ["self", p, q] vs) H := by
  obtain ⟨a, i, z, rfl, hi, hz, ha, hQ⟩ := h
  have e1 : (start ["self", p, q] [V.ref a, V.int i, V.str z])[0]? = some (some (V.ref a)) := rfl
  have e2 : (start ["self", p, q] [V.ref a, V.int i, V.str z])[1]? = some (some (V.int i)) := rfl
  have e3 : (start ["self", p, q] [V.ref a, V.int i, V.str z])[2]? = some (some (V.str z)) := rfl
  have lg := big_log hi
  have li := int_text_len_1921 lg
  have em : Str.empty.length = 0 := rfl
  have sz := sizeLine_eq
  refine ⟨_, e1, ⟨t0, rfl, ?_, _, e2, .inr ⟨i, rfl, lg, _, rfl, ?_, t1, rfl, ?_, _, e3, .inl ⟨z, rfl, ?_, z, rfl, ?_, ?_⟩⟩⟩⟩
  · rw [Str.length_append]; omega
  · rw [Str.length_append, Str.length_append]; omega
  · rw [Str.length_append, Str.length_append, Str.length_append]; omega
  · omega
  · rw [Str.length_append, Str.length_append, Str.length_append, Str.length_append]; omega
  refine ⟨a, C, _, rfl, by simp, hC, ha, ?_⟩
  refine ⟨_, e2, _, e1, a, C, rfl, hC, h1, .inl ⟨ha, fun d hd ne => ?_⟩⟩
  refine ⟨_, e3, _, e1, a, C, rfl, hC, h2, .inr ⟨d, _, upd_same, ?_, by simp, hQ d hd ne⟩⟩
  rw [upd_ne ne]
  exact upd_same
structure ExcF2 (P : Program) (w : World) (K : Fr) (mg : Str → Option Value) (base : Heap) (x f g p q : Str) (C fI : Addr) (fd : FuncData) : Prop where
  gC : mg x = some (.ref C)
  oex : OexC K C
  iC : PySem.W.findIn K (.ref C) "__init__" = some (some (.ref fI))
  tI : PySem.W.typeIn K (.ref fI) = some (.type "function")
  F : FnOk P w K mg base (L2.CX P w) 1 fI fd ["self", p, q] (sp2 C f g)
  hb : Binds K fd ["self", p, q] []
def sRaise2 (x f g : Str) (ma mb : EM W) : SM := fun env S => ofE (ma env S) env fun w S1 => ofE (mb env S1) env fun u S2 => match w, u with
  | .int i, .str z => if (-big ≤ i ∧ i ≤ big) ∧ z.length ≤ 1000 then .xc ⟨x, [(g, .str z), (f, .int i)]⟩ env S2 else .bad
  | _, _ => .bad
section
variable {X : Cx} {W0 : WX} {J : JI} {ma mb : EM W} {e e' : Expr} {x f g p q : Str} {C fI : Addr} {fd : FuncData} {np pos pos2 : Pos}
theorem sims_raise2 (T : ExcF2 X.prog X.w X.K X.mg X.base x f g p q C fI fd) (hr : Room 2 X.A) (hc : X.calm = true) (tk : Takes X W0)
    (hx : Passes (L2.CX X.prog X.w) X (fun _ _ _ => False)) (ha : SimE X W0 J e ma) (hb : SimE X W0 J e' mb) (hg : Gl X x := by rfl) (hdb : (x == ("__debug__" : Str)) = false := by decide)
    (he : starEach [e, e'] X.env = (false, eval e X.env) :: starEach [e'] X.env := by rfl) (he2 : starEach [e'] X.env = (false, eval e' X.env) :: starEach [] X.env := by rfl) (hpl : (backTo pos (starEach [e'] X.env)).any (·.1) = false := by rfl) :
    SimS X W0 J (.Raise (some (.Call (.Name x np) [e, e'] [] pos)) none pos2) (sRaise2 x f g ma mb) := by
  obtain ⟨te, pe, k⟩ := ha
  obtain ⟨te2, pe2, k2⟩ := hb
  refine ⟨_, ps_raise hc tk (pmk_oex T.oex T.iC T.tI T.F hr T.hb .nil hx hg T.gC (pa_cons pe (pa_cons pe2 pa_nil he2) he) hdb he hpl), fun ρ δ S H env σ D hev hs hj hp => ?_⟩
  refine k ρ δ S H env σ _ hev hs hj (PostS.ofE hev hp fun w S1 ρ1 v H1 _ g1 s1 r1 hp1 => ?_)
  refine k2 ρ1 δ S1 H1 env σ _ (hev.grow g1) s1 (J.st _ _ _ _ g1 hj) (PostS.ofE (hev.grow g1) hp1 fun u S2 ρ2 v2 H2 _ g2 s2 r2 hp2 => ?_)
  cases r1 with
  | @int i => cases r2 with
    | @str z =>
      by_cases hz : (-big ≤ i ∧ i ≤ big) ∧ z.length ≤ 1000
      · simp only [if_pos hz] at hp2
        refine ⟨by simp, fun a ha => ⟨a, i, z, rfl, hz.1, hz.2, upd_same, fun d hd ne => ⟨rfl, d, [(g, .str z), (f, .int i)], ?_, upd_same, ?_, ?_⟩⟩⟩
        · rw [upd_ne (Ne.symm ne)]
          exact upd_same
        · rw [upd_ne ne] at hd
          exact hd
        · have hd1 : H2 d = none := by rw [upd_ne ne] at hd; exact hd
          have e1 : upd (del (upd (upd (upd (upd H2 a (exo a C none)) d (exd d [(f, V.int i)])) a (exo a C (some d))) d (exd d [(g, V.str z), (f, V.int i)])) a) d (.xd [(g, V.str z), (f, V.int i)]) = upd H2 d (.xd [(g, V.str z), (f, V.int i)]) := by
            funext b
            by_cases hb : b = d
            · subst hb; rw [upd_same, upd_same]
            · rw [upd_ne hb, upd_ne hb]
              by_cases hba : b = a
              · subst hba; rw [del_same, ha]
              · rw [del_ne hba, upd_ne hb, upd_ne hba, upd_ne hb, upd_ne hba]
          rw [e1]
          refine hp2 ρ2 (.ref C) (some d) σ _ (Grow.laid hd1) (s2.laid hd1) (hev.grow ((g1.trans g2).trans (Grow.laid hd1))) ⟨C, d, [(g, .str z), (f, .int i)], T.gC, rfl, rfl, upd_same, (s2.new hd1).1, (s2.new hd1).2, rfl, .str, rfl, .int, trivial⟩
      · simp only [if_neg hz] at hp2
        exact hp2.elim
    | _ => exact hp2.elim
  | _ => cases r2 <;> exact hp2.elim
end
end Sm

set_option Elab.async false
set_option linter.all false
set_option maxRecDepth 100000
/-! try with more than one clause 'except x as n', one name for all -/
namespace Sm
open PySem PySem.Spec PyProof.Rows L2 LamX
abbrev TSx := Addr → Value → Option Addr → TS
/-- the ends of a clause: its name goes -/
def offN (i : Nat) (D : Ends) : Ends := ⟨fun t h => D.nx (t.set i none) h, D.rt, fun t h => D.bk (t.set i none) h, fun t h => D.ct (t.set i none) h⟩
def wAsL (K : Fr) (i : Nat) (W : WX) (D : Ends) : List (Value × TSx) → WX
  | [] => W
  | (c, ts) :: r => fun k d t h => ∃ b, PySem.W.exmOne K k c = some b ∧ (b = true → ∀ z, h z = none → ts z k d (offN i D) (t.set i (some (.ref z))) h) ∧ (b = false → wAsL K i W D r k d t h)
inductive HdAs (X : Cx) (n : Str) : List ExceptHandler → List (Value × TSx) → Prop
  | nil : HdAs X n [] []
  | cons {x : Str} {c : Value} {ts : TSx} {f0 : Stmt} {fs : List Stmt} {q q' : Pos} {hds : List ExceptHandler} {l : List (Value × TSx)} (cl : Names X x c)
      (run : ∀ (z : Addr) (o : Obj) (k : Value) (d : Option Addr) (pp : List (Addr × Obj)), Zc k d o → (∃ vs, o.data = .fields vs) → PSs (X.suite z ((z, o) :: pp)) (f0 :: fs) (ts z k d)) (rest : HdAs X n hds l) :
      HdAs X n (.ExceptHandler (some (.Name x q)) (some n) (f0 :: fs) q' :: hds) ((c, ts) :: l)
section
variable {X : Cx} {n : Str} {i : Nat} {body : List Stmt} {h1 : ExceptHandler} {hds : List ExceptHandler} {l : List (Value × TSx)} {pos : Pos} {tb : WX → TS} {W : WX}
theorem ps_tryL (st : X.stack = X.env :: X.outer) (fr : X.env.frame = some X.env.locals) (nd : X.N.Nodup) (at_ : X.N[i]? = some n) (lc : X.env.kindOf n = some .local) (tk : Takes X W)
    (bd : ∀ (V : WX) (pp : List (Addr × Obj)) (xe : Value → Shared → Prop), Takes (X.tr pp xe) V → PassesOwn (model X.prog X.w) X.A X.env xe → PSs (X.tr pp xe) body (tb V))
    (cs : HdAs X n (h1 :: hds) l) : PS X (.Try body (h1 :: hds) [] [] pos) (fun D t h => tb (wAsL X.K i W D l) D t h) := by
  constructor
  intro pins s t0 h0 D J0 hw
  have ok := J0.ok
  have stk : X.A.frames = some (X.env :: X.outer) := by
    rw [← st]
    exact ok.frames
  refine wpAny_Try_except ?_
  let back : Value → Shared → Prop := fun e s1 =>
    wpAny (model X.prog X.w) X.A (noteFrame e X.env) (fun _ s2 =>
      wpAny (model X.prog X.w) X.A (setFlight e none) (fun _ s3 =>
        wpAny (model X.prog X.w) X.A (handleBy e X.env (h1 :: hds)) (SP X pins D) X.xe s3) X.xe s2) X.xe s1
  have caught : Takes (X.tr (X.pn ++ pins) back) (wAsL X.K i W D l) := by
    intro u s1 got
    obtain ⟨z, B, s2, pins2, t1, hh, k, d, rfl, J1, nb, up, sky, zn, os, ag, wish⟩ := got
    have J2 : Inv X pins t1 hh s2 := J1.ofTry ok
    have sk2 : Sky B (X.env :: X.outer) z (Zc k d) X.env.locals s1.heap := st ▸ sky
    show wpAny (model X.prog X.w) X.A (noteFrame (.ref z) X.env) _ _ _
    refine Sky.land Zc.steady stk fr sk2 fun g3 fl up3 => ?_
    have J3 : Inv X pins t1 hh { s1 with heap := g3 } := J2.landed nb fl.1 (up.trans up3) os ag
    obtain ⟨o3, vs3, at3, z3, dt3⟩ := fl.there
    have away : z ∉ frs (X.env :: X.outer) := by
      intro hm
      obtain ⟨_, o', at', no⟩ := fl.2.2.1.mem hm
      rw [at3] at at'
      cases at'
      exact no _ dt3
    have nL : z ≠ X.env.locals := fun eq => away (List.mem_filterMap.mpr ⟨X.env, List.mem_cons_self, by rw [fr, eq]⟩)
    have nF : z ∉ X.fs := by
      intro hm
      obtain ⟨v, hv, eq⟩ := List.mem_filterMap.mp hm
      exact away (List.mem_filterMap.mpr ⟨v, List.mem_cons_of_mem _ hv, eq⟩)
    have JS := J3.suite at3 dt3 zn nL nF
    have each : ∀ {hs2 : List ExceptHandler} {l2 : List (Value × TSx)}, HdAs X n hs2 l2 → wAsL X.K i W D l2 k d t1 hh →
        wpAny (model X.prog X.w) X.A (handleBy (.ref z) X.env hs2) (SP X pins D) X.xe { s1 with heap := g3 } := by
      intro hs2 l2 cl
      induction cl with
      | nil =>
        intro out
        refine wpAny_handleBy_nil ?_
        obtain ⟨_, _, _, o, vs, T, _, _, at4, _, dt4, one, _⟩ := id fl
        have flight : wpAny (model X.prog X.w) X.A (setFlight (.ref z) X.env.frame) (fun _ s4 =>
            wpAny (model X.prog X.w) X.A (throw (.ref z) : Sem Flow) (SP X pins D) X.xe s4) X.xe { s1 with heap := g3 } := by
          rw [fr]
          refine HandSPX.setFlight_upZ fl fun g4 hot up4 => wpAny_throw (tk _ _ ?_)
          refine ⟨z, B, s2, pins, t1, hh, k, d, rfl, J2, nb, (up.trans up3).trans up4, .inr (.inr ?_), zn, os, ag, out⟩
          rw [st]
          exact hot
        unfold PySem.passOn
        refine wpAny_bind (wpAny_field at4 dt4 one ?_)
        have some_ : ¬ ((Value.ref T == Value.none) = true) := by simp
        rw [if_neg some_]
        first
          | exact wpAny_bind (wpAny_pure (wpAny_bind flight))
          | exact wpAny_bind flight
      | @cons x c ts f0 fs q q' hs3 l3 cl run rest ih =>
        intro wh
        obtain ⟨b, eb, yes, no⟩ := wh
        refine wpAny_handleBy_cons (codeAny_handlers_test ?_) (by intro r; cases r)
        have isA : PySem.W.Looks (model X.prog X.w) g3 (typeOf (.ref z)) k := by
          intro A Q E s k2 r
          refine wpAny_typeOf_ref (k2 _ _ at3) ?_
          rw [z3.1]
          exact r
        have mt := PySem.W.exm_one (M := model X.prog X.w) (J3.kIn) isA eb
        have named : ∀ {Q E : Value → Shared → Prop}, Q c { s1 with heap := g3 } → wpAny (model X.prog X.w) (X.A.mark (some (.ref z))) (eval (.Name x q) X.env) Q E { s1 with heap := g3 } := by
          intro Q E hq
          rcases cl with ⟨gl, db, gm | ⟨gm, bv, nn⟩⟩
          · exact ld_glob (X := X.suite z ((z, o3) :: (X.pn ++ pins))) JS gl gm hq db
          · exact ld_blt (X := X.suite z ((z, o3) :: (X.pn ++ pins))) JS gl gm bv hq nn db
        refine named (mt.here ?_)
        cases b with
        | false =>
          show wpAny _ X.A (handleBy (.ref z) X.env hs3) _ _ _
          exact ih (no rfl)
        | true =>
          refine codeAny_handlers_suite_as ?_
          refine HandSPX.lands_againZ fl fun g4 fl4 up4 => ?_
          have J4 : Inv X pins t1 hh { s1 with heap := g4 } := J2.landed nb fl4.1 ((up.trans up3).trans up4) os ag
          obtain ⟨o4, _, at4, z4, dt4⟩ := fl4.there
          have JT := J4.suite at4 dt4 zn nL nF
          refine store_ok (X := X.suite z ((z, o4) :: (X.pn ++ pins))) (v := .ref z) JT nd at_ (.inl lc) rfl (fun s5 J5 => ?_) (.inr lc)
          have go := (run z o4 k d (X.pn ++ pins) z4 ⟨_, dt4⟩).run [] s5 _ hh _ J5 (yes rfl z zn)
          refine wpAny_mono go (fun f s6 end_ => ?_) (fun _ _ no => no.elim)
          have gone : ∀ {t6 : L2.St} {h6 : Hp} {Q : Shared → Prop}, Inv (X.suite z ((z, o4) :: (X.pn ++ pins))) [] t6 h6 s6 → (∀ s7, Inv X pins (t6.set i none) h6 s7 → Q s7) →
              wpAny (model X.prog X.w) X.A (do bindName X.env n .none; unbindBehindTheSuite X.env n q') (fun _ s7 => Q s7) X.xe s6 := by
            intro t6 h6 Q J6 hq
            exact gone_ok (J6.unsuite ok) nd at_ lc hq
          cases f with
          | ret u =>
            obtain ⟨v, t6, h6, J6, r, e⟩ := end_
            exact gone J6 fun s7 J7 => ⟨v, _, h6, J7, r, e⟩
          | next =>
            obtain ⟨t6, h6, J6, e⟩ := end_
            exact gone J6 fun s7 J7 => ⟨_, h6, J7, e⟩
          | brk =>
            obtain ⟨t6, h6, J6, e⟩ := end_
            exact gone J6 fun s7 J7 => ⟨_, h6, J7, e⟩
          | cont =>
            obtain ⟨t6, h6, J6, e⟩ := end_
            exact gone J6 fun s7 J7 => ⟨_, h6, J7, e⟩
    exact each cs wish
  have main := (bd (wAsL X.K i W D l) (X.pn ++ pins) back caught PassesOwn.looking).run [] s t0 h0 D (J0.toTry _) hw
  refine wpAny_mono main (fun f s1 end_ => ?_) (fun e s1 r => r)
  cases f with
  | ret u =>
    obtain ⟨v, t6, h6, J6, r, e⟩ := end_
    exact ⟨v, t6, h6, J6.ofTry ok, r, e⟩
  | next =>
    obtain ⟨t6, h6, J6, e⟩ := end_
    exact wpAny_execs_nil ⟨t6, h6, J6.ofTry ok, e⟩
  | brk =>
    obtain ⟨t6, h6, J6, e⟩ := end_
    exact ⟨t6, h6, J6.ofTry ok, e⟩
  | cont =>
    obtain ⟨t6, h6, J6, e⟩ := end_
    exact ⟨t6, h6, J6.ofTry ok, e⟩
end
def sTryAs2 (i : Nat) (ms ms2 : Str → Option Bool) (body : SM) (suite suite2 : Exn → M W) : SM := fun env S => match body env S with
  | .xc ex env1 S1 => match ms ex.cls with
    | some true => if i < env1.length then (match suite ex S1 with
        | .val w S2 => .rt w S2
        | _ => .bad) else .bad
    | some false => (match ms2 ex.cls with
      | some true => if i < env1.length then (match suite2 ex S1 with
          | .val w S2 => .rt w S2
          | _ => .bad) else .bad
      | some false => .xc ex env1 S1
      | none => .bad)
    | none => .bad
  | r => r
section
variable [TB] {X : Cx} {i : Nat} {pos : Pos}
theorem simc_non {j} : SimC X i (.Constant .none j pos) (fun _ => ret .non) :=
  ⟨fun _ _ _ => tC .non, fun _ _ _ _ _ _ _ => pe_non, fun a cls d ρ δ S H σ Q x _ hs _ hp => hp ρ _ H (Grow.refl _ _) hs .non⟩
/-- two clauses, one name -/
theorem sims_tryAs2 {W0 : WX} {J : JI} {x x2 n : Str} {c c2 : Value} {body suite suite2 : List Stmt} {b0 b2 : Stmt} {np np2 pos1 pos2 : Pos} {m : SM} {ms ms2 : Str → Option Bool} {sm sm2 : Exn → M W} (hs : X.stack = X.env :: X.outer) (hf : X.env.frame = some X.env.locals) (hN : X.N.Nodup) (hi : X.N[i]? = some n)
    (hln : X.env.kindOf n = some .local) (hc : Names X x c) (hc2 : Names X x2 c2) (tk : Takes X W0)
    (hms : ∀ (y : Str) (b : Bool) (C : Addr), ms y = some b → X.mg y = some (.ref C) → PySem.W.exmOne X.K (.ref C) c = some b)
    (hms2 : ∀ (y : Str) (b : Bool) (C : Addr), ms2 y = some b → X.mg y = some (.ref C) → PySem.W.exmOne X.K (.ref C) c2 = some b)
    (hb : ∀ (W1 : WX) (pn : List (Addr × Obj)) (xe : Value → Shared → Prop), Takes (X.tr pn xe) W1 → PassesOwn (model X.prog X.w) X.A X.env xe → SimSs (X.tr pn xe) W1 J body m)
    (hsu : SimCS X i (b0 :: suite) sm) (hsu2 : SimCS X i (b2 :: suite2) sm2) :
    SimS X W0 J (.Try body [.ExceptHandler (some (.Name x np)) (some n) (b0 :: suite) pos1, .ExceptHandler (some (.Name x2 np2)) (some n) (b2 :: suite2) pos2] [] [] pos) (sTryAs2 i ms ms2 m sm sm2) := by
  obtain ⟨ts, ps, ks⟩ := hsu
  obtain ⟨ts2, ps2, ks2⟩ := hsu2
  refine ⟨_, ps_tryL (tb := fun W1 => TSc X.K X.mg W1 J m) (W := W0) (l := [(c, ts), (c2, ts2)]) hs hf hN hi hln tk (fun W1 pn xe tk1 hp => (hb W1 pn xe tk1 hp).can) (.cons hc (fun a oe cls d pn hz hf => ps a oe cls d pn hz hf) (.cons hc2 (fun a oe cls d pn hz hf => ps2 a oe cls d pn hz hf) .nil)), fun ρ δ S H env σ D he hst hj hp => ?_⟩
  refine ⟨ρ, δ, S, env, he, hst, hj, ?_⟩
  unfold sTryAs2 at hp
  cases em : m env S with
  | xc ex env1 S1 =>
    rw [em] at hp
    intro ρ1 cls d σ1 H1 g1 s1 e1 rx
    have rx' := rx
    obtain ⟨C, dd, vfs, gC, rfl, -⟩ := rx'
    cases eb : ms ex.cls with
    | none => simp only [eb] at hp; exact hp.elim
    | some b =>
      refine ⟨b, hms _ _ _ eb gC, fun hbt a ha => ?_, fun hbf => ?_⟩
      · subst hbt
        simp only [eb] at hp
        by_cases hl : i < env1.length
        · rw [if_pos hl] at hp
          refine ks a (.ref C) d ρ1 δ S1 H1 _ _ ex ?_ s1 rx ?_
          · exact List.getElem?_set_self (by rw [← e1.1]; exact hl)
          · cases es : sm ex S1 with
            | val w S2 =>
              rw [es] at hp
              exact fun ρ2 v H2 g2 s2 r2 => hp ρ2 v H2 (g1.trans g2) s2 r2
            | exc z S2 => rw [es] at hp; exact hp.elim
            | bad => rw [es] at hp; exact hp.elim
        · rw [if_neg hl] at hp
          exact hp.elim
      · subst hbf
        simp only [eb] at hp
        cases eb2 : ms2 ex.cls with
        | none => simp only [eb2] at hp; exact hp.elim
        | some b =>
          refine ⟨b, hms2 _ _ _ eb2 gC, fun hbt a ha => ?_, fun hbf => ?_⟩
          · subst hbt
            simp only [eb2] at hp
            by_cases hl : i < env1.length
            · rw [if_pos hl] at hp
              refine ks2 a (.ref C) d ρ1 δ S1 H1 _ _ ex ?_ s1 rx ?_
              · exact List.getElem?_set_self (by rw [← e1.1]; exact hl)
              · cases es : sm2 ex S1 with
                | val w S2 =>
                  rw [es] at hp
                  exact fun ρ2 v H2 g2 s2 r2 => hp ρ2 v H2 (g1.trans g2) s2 r2
                | exc z S2 => rw [es] at hp; exact hp.elim
                | bad => rw [es] at hp; exact hp.elim
            · rw [if_neg hl] at hp
              exact hp.elim
          · subst hbf
            simp only [eb2] at hp
            exact hp ρ1 _ d σ1 H1 g1 s1 e1 rx
  | nx env1 S1 => rw [em] at hp; exact hp
  | bk env1 S1 => rw [em] at hp; exact hp
  | ct env1 S1 => rw [em] at hp; exact hp
  | rt w S1 => rw [em] at hp; exact hp
  | bad => rw [em] at hp; exact hp.elim
end
structure ErrX2 (K : Fr) (mg : Str → Option Value) (x f g p q qual : Str) (st : Stmt) : Prop where
  ex : ∃ (C fI : Addr) (fd : FuncData), mg x = some (.ref C) ∧ OexC K C ∧ PySem.W.findIn K (.ref C) "__init__" = some (some (.ref fI)) ∧ PySem.W.typeIn K (.ref fI) = some (.type "function") ∧
    PySem.W.findIn K (.ref C) f = some none ∧ Fun K "__init__" qual st fI fd ∧ Binds K fd ["self", p, q] [] ∧ XfC K C ∧ ExcC K C ∧ PySem.W.findIn K (.ref C) g = some none
end Sm

set_option Elab.async false
set_option linter.all false
set_option maxRecDepth 100000
/-! enumerate of a list, changed or not -/
namespace Sm
open PySem PySem.Spec PyProof.Rows L2 LamX
variable [TB]
section
variable {X : Cx} {W0 : WX} {J : JI} {e : Expr} {ms : EM (List W)} {p pos tpos : Pos} {elts : List Expr} {kk : Nat}
def itEnL : List W → M It8
  | [.lst ws] => ret (.seq (enumT ws))
  | [.box n] => ret (.en n)
  | _ => bad
theorem enum_at {ws : List W} {i : Nat} : (enumT ws)[i]? = ws[i]?.map fun w => .tup [.int ((i : Nat) : Int), w] := by
  unfold enumT
  rw [List.getElem?_map]
  by_cases h : i < ws.length
  · rw [List.getElem?_range h, List.getElem?_eq_getElem h]
    simp [h]
  · have h : ws.length ≤ i := Nat.le_of_not_lt h
    rw [List.getElem?_eq_none (by simpa using h), List.getElem?_eq_none h]
    rfl
theorem enL_go {K : Fr} {ρ' δ' : List Addr} {S' : Sto} {H' : Hp} {a : Addr} {ws : List W} {vs : List V} {i : Nat} (s : Sts K ρ' δ' S' H') (sq : SqL K H' a vs) (r : Reps K ρ' δ' H' ws vs) :
    (ws[i]? = none → (Ite K a).stop i H') ∧ ∀ w, ws[i]? = some w → (Ite K a).go i H' ∧ ∀ v H'', (Ite K a).yld i H' v H'' → Grow ρ' H' ρ' H'' ∧ Sts K ρ' δ' S' H'' ∧ Rep K ρ' δ' H'' (.tup [.int ((i : Nat) : Int), w]) v ∧ ∀ d ∈ δ', H'' d = H' d := by
  refine ⟨fun e => ⟨vs, sq, ?_⟩, fun w e => ?_⟩
  · rw [← Reps.length r]
    exact List.getElem?_eq_none_iff.mp e
  · obtain ⟨vx, h1, h2⟩ := r.get e
    refine ⟨⟨vs, vx, sq, h1⟩, fun v H'' yl => ?_⟩
    obtain ⟨T, x', rfl, nT, rfl, qx⟩ := yl
    have ex : vx = x' := Option.some.inj (h1.symm.trans (qx vs sq))
    subst ex
    have gl : Grow ρ' H' ρ' (upd H' T (.tup [.int (i : Nat), vx])) := Grow.laid nT
    obtain ⟨nT1, nT2⟩ := s.new nT
    exact ⟨gl, s.laid nT, .tup ⟨upd_same, nT1, nT2⟩ (gl.reps (.cons .int (.cons h2 .nil))), fun d hd => upd_ne (fun z => by subst z; exact nT2 hd)⟩
theorem itR_enL {K : Fr} {ρ δ : List Addr} {H : Hp} {a : Addr} {ws : List W} {vs : List V} (f : FzM ρ δ H a vs) (r : Reps K ρ δ H ws vs) : ItR K δ ρ H (.seq (enumT ws)) (Ite K a) := by
  intro i ρ' δ' S' H' l
  have f' := l.car.m _ _ f
  have g := enL_go (i := i) l.s f'.sq (l.car.reps r)
  refine ⟨fun e => g.1 ?_, fun w e => ?_⟩
  · have e' : (enumT ws)[i]? = none := by simpa [It8.at] using e
    rw [enum_at] at e'
    simpa using e'
  · have e' : (enumT ws)[i]? = some w := by simpa [It8.at] using e
    rw [enum_at] at e'
    obtain ⟨u, hu, rfl⟩ := Option.map_eq_some_iff.mp e'
    exact g.2 u hu
theorem itR_enB {K : Fr} {ρ δ : List Addr} {H : Hp} {a : Addr} {n : Nat} (f : ρ[n]? = some a) (hk : kdH H a = 1) : ItR K δ ρ H (.en n) (Ite K a) := by
  intro i ρ' δ' S' H' l
  obtain ⟨f', k'⟩ := l.car.b _ _ f (by rw [hk]; decide)
  obtain ⟨ws, vs, h1, h2, r'⟩ := l.s.lst f' (k'.trans hk)
  have g := enL_go (i := i) l.s (show SqL K H' a vs from .inl (.inl h2)) r'
  refine ⟨fun e => g.1 ?_, fun w e => ?_⟩
  · have e' : ws[i]?.map (fun w => W.tup [.int ((i : Nat) : Int), w]) = none := by simpa [It8.at, h1] using e
    simpa using e'
  · have e' : ws[i]?.map (fun w => W.tup [.int ((i : Nat) : Int), w]) = some w := by simpa [It8.at, h1] using e
    obtain ⟨u, hu, rfl⟩ := Option.map_eq_some_iff.mp e'
    exact g.2 u hu
theorem simi_enL (hg : Gl X "enumerate") (hm : X.mg "enumerate" = none) (ha : SimA X W0 J [e] ms) (hs : starEach [e] X.env = [(false, eval e X.env)] := by rfl) : SimI X W0 J (.Tuple elts kk tpos) (.Call (.Name "enumerate" p) [e] [] pos) (mIa itEnL ms) := by
  obtain ⟨t, pa, k⟩ := ha
  refine ⟨_, pi_enum hg hm pa hs, fun ρ δ S H env σ R he hs hj hp => ?_⟩
  refine k _ _ S _ env σ _ he hs hj (Post.bind hp fun x S1 ρ1 v H1 _ g1 s1 r1 hp1 => ?_)
  cases r1 with
  | nil => exact hp1.elim
  | cons ra r1 => cases r1 with
    | cons _ _ => cases ra <;> exact hp1.elim
    | nil => cases ra with
      | lst fa ta => exact ⟨_, _, rfl, fa.sq, hp1 ρ1 _ H1 (Grow.refl _ _) s1 (itR_enL fa ta)⟩
      | @box n a f hk =>
        obtain ⟨ws, vs, h1, h2, r'⟩ := s1.lst f hk
        exact ⟨_, _, rfl, .inl (.inl h2), hp1 ρ1 _ H1 (Grow.refl _ _) s1 (itR_enB f hk)⟩
      | _ => exact hp1.elim
end
end Sm

set_option Elab.async false
set_option linter.all false
set_option maxRecDepth 100000
namespace K65
open PySem PySem.Spec PyProof.Rows L2 NdefX Sm
open LamX hiding takes0
def topS (i : Nat) : Stmt := PySem.Challenge.pw_ringbeats_k65_tokens_of_texts.main.body.getD i (.Pass ⟨0, 0, 0, 0⟩)
abbrev s_scan : Stmt := topS 11
abbrev nm_scan : List Str := ["text", "tokens", "at", "token"]
theorem sc_scan : FnScope nm_scan ["text"] (defScope s_scan) := ⟨rfl, rfl, rfl, by decide +kernel, rfl, by decide +kernel, by decide +kernel⟩
abbrev s_check_text : Stmt := topS 12
abbrev nm_check_text : List Str := ["text"]
theorem sc_check_text : FnScope nm_check_text ["text"] (defScope s_check_text) := ⟨rfl, rfl, rfl, by decide +kernel, rfl, by decide +kernel, by decide +kernel⟩
abbrev s__token : Stmt := topS 13
abbrev nm__token : List Str := ["text", "at", "column", "marks", "digits"]
theorem sc__token : FnScope nm__token ["text", "at"] (defScope s__token) := ⟨rfl, rfl, rfl, by decide +kernel, rfl, by decide +kernel, by decide +kernel⟩
abbrev s__stretch : Stmt := topS 14
abbrev nm__stretch : List Str := ["text", "at", "characters", "end"]
theorem sc__stretch : FnScope nm__stretch ["text", "at", "characters"] (defScope s__stretch) := ⟨rfl, rfl, rfl, by decide +kernel, rfl, by decide +kernel, by decide +kernel⟩
abbrev s__law_stream : Stmt := topS 16
abbrev nm__law_stream : List Str := ["script"]
theorem sc__law_stream : FnScope nm__law_stream ["script"] (defScope s__law_stream) := ⟨rfl, rfl, rfl, by decide +kernel, rfl, by decide +kernel, by decide +kernel⟩
abbrev s__law_next : Stmt := topS 17
abbrev nm__law_next : List Str := ["stream", "many", "k", "cell", "digit"]
theorem sc__law_next : FnScope nm__law_next ["stream", "many"] (defScope s__law_next) := ⟨rfl, rfl, rfl, by decide +kernel, rfl, by decide +kernel, by decide +kernel⟩
abbrev s__law_is_integer : Stmt := topS 18
abbrev nm__law_is_integer : List Str := ["actual"]
theorem sc__law_is_integer : FnScope nm__law_is_integer ["actual"] (defScope s__law_is_integer) := ⟨rfl, rfl, rfl, by decide +kernel, rfl, by decide +kernel, by decide +kernel⟩
abbrev s__law_equal : Stmt := topS 19
abbrev nm__law_equal : List Str := ["actual", "due", "at"]
theorem sc__law_equal : FnScope nm__law_equal ["actual", "due"] (defScope s__law_equal) := ⟨rfl, rfl, rfl, by decide +kernel, rfl, by decide +kernel, by decide +kernel⟩
abbrev s__law_pick : Stmt := topS 20
abbrev nm__law_pick : List Str := ["stream", "rows"]
theorem sc__law_pick : FnScope nm__law_pick ["stream", "rows"] (defScope s__law_pick) := ⟨rfl, rfl, rfl, by decide +kernel, rfl, by decide +kernel, by decide +kernel⟩
abbrev s__law_kind : Stmt := topS 21
abbrev nm__law_kind : List Str := ["word"]
theorem sc__law_kind : FnScope nm__law_kind ["word"] (defScope s__law_kind) := ⟨rfl, rfl, rfl, by decide +kernel, rfl, by decide +kernel, by decide +kernel⟩
abbrev s__law_laid : Stmt := topS 22
abbrev nm__law_laid : List Str := ["stream", "words", "text", "places", "k", "word", "near"]
theorem sc__law_laid : FnScope nm__law_laid ["stream", "words"] (defScope s__law_laid) := ⟨rfl, rfl, rfl, by decide +kernel, rfl, by decide +kernel, by decide +kernel⟩
abbrev s__law_told : Stmt := topS 23
abbrev nm__law_told : List Str := ["text", "problem"]
theorem sc__law_told : FnScope nm__law_told ["text"] (defScope s__law_told) := ⟨rfl, rfl, rfl, by decide +kernel, rfl, by decide +kernel, by decide +kernel⟩
abbrev s_law : Stmt := topS 24
abbrev nm_law : List Str := ["script", "stream", "words", "problem", "strange", "at", "word", "text", "places", "due", "told", "blank", "bad", "k", "sign", "turn"]
theorem sc_law : FnScope nm_law ["script"] (defScope s_law) := ⟨rfl, rfl, rfl, by decide +kernel, rfl, by decide +kernel, by decide +kernel⟩
abbrev s_init_BadValue : Stmt := clsS (topS 2) 0
theorem sc_init_BadValue : FnScope ["self", "name"] ["self", "name"] (defScope s_init_BadValue) := ⟨rfl, rfl, rfl, by decide +kernel, rfl, by decide +kernel, by decide +kernel⟩
abbrev s_init_TextError : Stmt := clsS (topS 3) 0
theorem sc_init_TextError : FnScope ["self", "column", "words"] ["self", "column", "words"] (defScope s_init_TextError) := ⟨rfl, rfl, rfl, by decide +kernel, rfl, by decide +kernel, by decide +kernel⟩
structure All [TB] (K : Fr) (mg : Str → Option Value) (base : Heap) : Prop where
  d_scan : DefX K mg "scan" s_scan ["text"]
  d_check_text : DefX K mg "check_text" s_check_text ["text"]
  d__token : DefX K mg "_token" s__token ["text", "at"]
  d__stretch : DefX K mg "_stretch" s__stretch ["text", "at", "characters"]
  d__law_stream : DefX K mg "_law_stream" s__law_stream ["script"]
  d__law_next : DefX K mg "_law_next" s__law_next ["stream", "many"]
  d__law_is_integer : DefX K mg "_law_is_integer" s__law_is_integer ["actual"]
  d__law_equal : DefX K mg "_law_equal" s__law_equal ["actual", "due"]
  d__law_pick : DefX K mg "_law_pick" s__law_pick ["stream", "rows"]
  d__law_kind : DefX K mg "_law_kind" s__law_kind ["word"]
  d__law_laid : DefX K mg "_law_laid" s__law_laid ["stream", "words"]
  d__law_told : DefX K mg "_law_told" s__law_told ["text"]
  d_law : DefX K mg "law" s_law ["script"]
  n_abs : mg "abs" = none
  n_all : mg "all" = none
  n_bool : mg "bool" = none
  n_enumerate : mg "enumerate" = none
  n_int : mg "int" = none
  n_isinstance : mg "isinstance" = none
  n_len : mg "len" = none
  n_list : mg "list" = none
  n_max : mg "max" = none
  n_range : mg "range" = none
  n_str : mg "str" = none
  n_tuple : mg "tuple" = none
  c_MOST_PLAYERS : ∃ t, mg "MOST_PLAYERS" = some (.int 8 t)
  c_MOST_CHARACTERS : ∃ t, mg "MOST_CHARACTERS" = some (.int 300 t)
  c_MOST_DIGITS : ∃ t, mg "MOST_DIGITS" = some (.int 6 t)
  c_MARKS : ∃ t, mg "MARKS" = some (.str ".+-" t)
  c_DIGITS : ∃ t, mg "DIGITS" = some (.str "0123456789" t)
  c_SIGN : ∃ t, mg "SIGN" = some (.str ":" t)
  b_RingError : BaseX K mg "RingError"
  e_BadValue : ErrX K mg "BadValue" "name" "name" "BadValue.__init__" s_init_BadValue
  e_TextError : ErrX2 K mg "TextError" "column" "words" "column" "words" "TextError.__init__" s_init_TextError
  g_BadValue : ∃ D, mg "BadValue" = some (.ref D)
  g_RingError : ∃ D, mg "RingError" = some (.ref D)
  g_TextError : ∃ D, mg "TextError" = some (.ref D)
  xm_BadValue_BadValue : ∀ C D : Addr, mg "BadValue" = some (.ref C) → mg "BadValue" = some (.ref D) → PySem.W.exmOne K (.ref C) (.ref D) = some true
  xm_BadValue_TextError : ∀ C D : Addr, mg "BadValue" = some (.ref C) → mg "TextError" = some (.ref D) → PySem.W.exmOne K (.ref C) (.ref D) = some false
  xm_TextError_BadValue : ∀ C D : Addr, mg "TextError" = some (.ref C) → mg "BadValue" = some (.ref D) → PySem.W.exmOne K (.ref C) (.ref D) = some false
  xm_TextError_TextError : ∀ C D : Addr, mg "TextError" = some (.ref C) → mg "TextError" = some (.ref D) → PySem.W.exmOne K (.ref C) (.ref D) = some true
  xi_BadValue_RingError : ∀ C D : Addr, mg "BadValue" = some (.ref C) → mg "RingError" = some (.ref D) → PySem.W.kitOne K (.ref C) (.ref D) = some true
  xi_TextError_RingError : ∀ C D : Addr, mg "TextError" = some (.ref C) → mg "RingError" = some (.ref D) → PySem.W.kitOne K (.ref C) (.ref D) = some true
section
variable [TB] {P : Program} {w : World} {K : Fr} {mg : Str → Option Value} {base : Heap}
theorem ok_init_BadValue (A : All K mg base) : ∃ (C fI : Addr) (fd : FuncData), ExcF P w K mg base "BadValue" "name" "name" C fI fd := by
  obtain ⟨C, fI, fd, g, o, ic, ti, no, F, hb, -, -⟩ := A.e_BadValue.ex
  obtain ⟨B, gB, sB, tB, rB, vB⟩ := A.b_RingError.ex
  refine ⟨C, fI, fd, g, o, ic, ti, F.okX sc_init_BadValue (fun vs H Q E h => by obtain ⟨a, z, rfl, -⟩ := h; rfl) (fun cdv A2 outer s H vs Q E hr h => ⟨t_init K "name" "this argument has a wrong form: ", ?_, init_go o no (by decide) h⟩), hb⟩
  exact pss_cons (ps_expr (pe_binit (by rfl) gB sB tB rB vB (pa_cons (pv 0) (pa_cons (pe_joined (.cons pe_str (.cons (pe_fmt (pv 1)) .nil))) pa_nil)))) (pss_one (ps_ost (pv 0) (pv 1)))
theorem ok_init_TextError (A : All K mg base) : ∃ (C fI : Addr) (fd : FuncData), ExcF2 P w K mg base "TextError" "column" "words" "column" "words" C fI fd := by
  obtain ⟨C, fI, fd, g, o, ic, ti, no, F, hb, -, -, no2⟩ := A.e_TextError.ex
  obtain ⟨B, gB, sB, tB, rB, vB⟩ := A.b_RingError.ex
  refine ⟨C, fI, fd, g, o, ic, ti, F.okX sc_init_TextError (fun vs H Q E h => by obtain ⟨a, i, z, rfl, -⟩ := h; rfl) (fun cdv A2 outer s H vs Q E hr h => ⟨t_in2 K "column" "words" "column " ": ", ?_, in2_go o no no2 (by decide) (by decide) h⟩), hb⟩
  exact pss_cons (ps_expr (pe_binit (by rfl) gB sB tB rB vB (pa_cons (pv 0) (pa_cons (pe_joined (.cons pe_str (.cons (pe_fmt (pv 1)) (.cons pe_str (.cons (pe_fmt (pv 2)) .nil))))) pa_nil)))) (pss_cons (ps_ost (pv 0) (pv 1)) (pss_one (ps_ost (pv 0) (pv 2))))
def b_check_text : SM := sIf (mOrT (mNotT (mB (m1 (isiW "str") (mV 0)))) (mOrT (mB (m2 (gtW) (mCa lenW (mCons (mV 0) (mNil))) (mC (.int 300)))) (mB (m2 (inSW false) (mC (.str "\n")) (mV 0))))) (sRaise "BadValue" "name" (mC (.str "text"))) (sNil)
def m_check_text : List W → M W := runDef 1 b_check_text
theorem ok_check_text (A : All K mg base) : FnG P w K mg base 3 "check_text" ["text"] m_check_text := by
  obtain ⟨C_BadValue, fI_BadValue, fd_BadValue, T_BadValue⟩ := ok_init_BadValue (P := P) (w := w) (base := base) A
  refine sim_defG (k := 2) (N := nm_check_text) A.d_check_text sc_check_text (fun f cdv A2 outer s H E hr => ?_)
  exact simss_one (sims_if (simT_w (simW_or (simT_not (simT_val (sim_isi (T := "str") (by decide) (by rfl) A.n_isinstance (by rfl) A.n_str (by decide +kernel) (sim_v 0)))) (simW_or (simT_cmp op_gt os_cmp (sim_callB call_len ca_len (by rfl) A.n_len (by decide +kernel) (sima_cons (sim_v 0) (sima_nil))) (sim_gi (by rfl) A.c_MOST_CHARACTERS) (nomark _)) (simW_or1 (simT_cmp op_in_sign os_inS (sim_str) (sim_v 0) (by with_unfolding_all rfl)))))) (simss_one (sims_raise T_BadValue (hr.mono (by decide)) rfl (takes_of rfl rfl rfl rfl) passL (sim_str))) (simss_nil))
def b__stretch : SM := sSeq (sSet 3 (mV 1)) (sSeq (whileF (mAndT (mB (m2 (ltW) (mV 3) (mCa lenW (mCons (mV 0) (mNil))))) (mB (m2 (inSW false) (m2 ixSW (mV 0) (mV 3)) (mV 2)))) (sAug 3 addIW (mC (.int 1))) 400) (sRet (mSlS (mV 0) (mOi (mV 1)) (mOi (mV 3)))))
def m__stretch : List W → M W := runDef 4 b__stretch
theorem ok__stretch (A : All K mg base) : FnG P w K mg base 1 "_stretch" ["text", "at", "characters"] m__stretch := by
  refine sim_defG (k := 0) (N := nm__stretch) A.d__stretch sc__stretch (fun f cdv A2 outer s H E hr => ?_)
  exact simss_cons (sims_set (i := 3) sc__stretch.nd rfl (by first | exact Or.inl rfl | exact Or.inr rfl) (sim_v 1))
        (simss_cons (sims_while 400 (passD rfl) (simT_w (simW_and (simT_cmp op_lt os_cmp (sim_v 3) (sim_callB call_len ca_len (by rfl) A.n_len (by decide +kernel) (sima_cons (sim_v 0) (sima_nil))) (nomark _)) (simW_and1 (simT_cmp op_in_sign os_inS (sim_ix0 ix_str os_ixS (sim_v 0) (sim_v 3) (fun _ _ => rfl)) (sim_v 2) (by with_unfolding_all rfl))))) (simss_one (sims_augAdd (i := 3) sc__stretch.nd rfl (by first | exact Or.inl rfl | exact Or.inr rfl) (sim_int))))
        (simss_one (sims_ret (sim_sliceS (sim_v 0) (simo_some (sim_v 1)) (simo_some (sim_v 3))))))
def b__token : SM := sSeq (sSet 2 (m2 addW (mV 1) (mC (.int 1)))) (sSeq (sIf (mB (m2 (eqW) (m2 ixSW (mV 0) (mV 1)) (mC (.str ":")))) (sRet (mTup (mCons (mC (.str "sign")) (mCons (mC (.str ":")) (mCons (mV 2) (mNil)))))) (sNil)) (sSeq (sIf (mB (m2 (inSW false) (m2 ixSW (mV 0) (mV 1)) (mC (.str ".+-")))) (sSeq (sSet 3 (mCa (cal 3 m__stretch) (mCons (mV 0) (mCons (mV 1) (mCons (mC (.str ".+-")) (mNil)))))) (sSeq (sIf (mB (m2 (gtW) (mCa lenW (mCons (mV 3) (mNil))) (mC (.int 8)))) (sRaise2 "TextError" "column" "words" (mV 2) (mC (.str "a row has at most 8 marks"))) (sNil)) (sRet (mTup (mCons (mC (.str "row")) (mCons (mV 3) (mCons (mV 2) (mNil)))))))) (sNil)) (sSeq (sIf (mB (m2 (inSW false) (m2 ixSW (mV 0) (mV 1)) (mC (.str "0123456789")))) (sSeq (sSet 4 (mCa (cal 3 m__stretch) (mCons (mV 0) (mCons (mV 1) (mCons (mC (.str "0123456789")) (mNil)))))) (sSeq (sIf (mB (m2 (gtW) (mCa lenW (mCons (mV 4) (mNil))) (mC (.int 6)))) (sRaise2 "TextError" "column" "words" (mV 2) (mC (.str "a number has at most 6 digits"))) (sNil)) (sRet (mTup (mCons (mC (.str "number")) (mCons (mV 4) (mCons (mV 2) (mNil)))))))) (sNil)) (sRaise2 "TextError" "column" "words" (mV 2) (mC (.str "no token begins here"))))))
def m__token : List W → M W := runDef 5 b__token
theorem ok__token (A : All K mg base) : FnG P w K mg base 3 "_token" ["text", "at"] m__token := by
  obtain ⟨C_TextError, fI_TextError, fd_TextError, T_TextError⟩ := ok_init_TextError (P := P) (w := w) (base := base) A
  refine sim_defG (k := 2) (N := nm__token) A.d__token sc__token (fun f cdv A2 outer s H E hr => ?_)
  exact simss_cons (sims_set (i := 2) sc__token.nd rfl (by first | exact Or.inl rfl | exact Or.inr rfl) (sim_bin op_addW os_add (sim_v 1) (sim_int)))
        (simss_cons (sims_if (simT_cmp (op_eqD hr.units) os_eq (sim_ix0 ix_str os_ixS (sim_v 0) (sim_v 1) (fun _ _ => rfl)) (sim_gs (by rfl) A.c_SIGN) (nomark _)) (simss_one (sims_ret (sim_tup (sima_cons (sim_str) (sima_cons (sim_gs (by rfl) A.c_SIGN) (sima_cons (sim_v 2) (sima_nil))))))) (simss_nil))
        (simss_cons (sims_if (simT_cmp op_in_sign os_inS (sim_ix0 ix_str os_ixS (sim_v 0) (sim_v 1) (fun _ _ => rfl)) (sim_gs (by rfl) A.c_MARKS) (by with_unfolding_all rfl)) (simss_cons (sims_set (i := 3) sc__token.nd rfl (by first | exact Or.inl rfl | exact Or.inr rfl) (sim_callG (takes_of rfl rfl rfl rfl) (ok__stretch A) (by decide) hr (by rfl) (sima_cons (sim_v 0) (sima_cons (sim_v 1) (sima_cons (sim_gs (by rfl) A.c_MARKS) (sima_nil))))))
        (simss_cons (sims_if (simT_cmp op_gt os_cmp (sim_callB call_len ca_len (by rfl) A.n_len (by decide +kernel) (sima_cons (sim_v 3) (sima_nil))) (sim_gi (by rfl) A.c_MOST_PLAYERS) (nomark _)) (simss_one (sims_raise2 T_TextError (hr.mono (by decide)) rfl (takes_of rfl rfl rfl rfl) passL (sim_v 2) (sim_str))) (simss_nil))
        (simss_one (sims_ret (sim_tup (sima_cons (sim_str) (sima_cons (sim_v 3) (sima_cons (sim_v 2) (sima_nil))))))))) (simss_nil))
        (simss_cons (sims_if (simT_cmp op_in_sign os_inS (sim_ix0 ix_str os_ixS (sim_v 0) (sim_v 1) (fun _ _ => rfl)) (sim_gs (by rfl) A.c_DIGITS) (by with_unfolding_all rfl)) (simss_cons (sims_set (i := 4) sc__token.nd rfl (by first | exact Or.inl rfl | exact Or.inr rfl) (sim_callG (takes_of rfl rfl rfl rfl) (ok__stretch A) (by decide) hr (by rfl) (sima_cons (sim_v 0) (sima_cons (sim_v 1) (sima_cons (sim_gs (by rfl) A.c_DIGITS) (sima_nil))))))
        (simss_cons (sims_if (simT_cmp op_gt os_cmp (sim_callB call_len ca_len (by rfl) A.n_len (by decide +kernel) (sima_cons (sim_v 4) (sima_nil))) (sim_gi (by rfl) A.c_MOST_DIGITS) (nomark _)) (simss_one (sims_raise2 T_TextError (hr.mono (by decide)) rfl (takes_of rfl rfl rfl rfl) passL (sim_v 2) (sim_str))) (simss_nil))
        (simss_one (sims_ret (sim_tup (sima_cons (sim_str) (sima_cons (sim_v 4) (sima_cons (sim_v 2) (sima_nil))))))))) (simss_nil))
        (simss_one (sims_raise2 T_TextError (hr.mono (by decide)) rfl (takes_of rfl rfl rfl rfl) passL (sim_v 2) (sim_str))))))
def b_scan : SM := sSeq (sExpr (mCa (cal 1 m_check_text) (mCons (mV 0) (mNil)))) (sSeq (sSet 1 (mBox (mNil))) (sSeq (sSet 2 (mC (.int 0))) (sSeq (whileF (mB (m2 (ltW) (mV 2) (mCa lenW (mCons (mV 0) (mNil))))) (sIf (mB (m2 (eqW) (m2 ixSW (mV 0) (mV 2)) (mC (.str " ")))) (sAug 2 addIW (mC (.int 1))) (sSeq (sSet 3 (mCa (cal 2 m__token) (mCons (mV 0) (mCons (mV 2) (mNil))))) (sSeq (sExpr (mMt appW (mV 1) (mCons (mV 3) (mNil)))) (sAug 2 addIW (mCa lenW (mCons (m2 ixW (mV 3) (mC (.int 1))) (mNil))))))) 400) (sSeq (sExpr (mMt appW (mV 1) (mCons (mTup (mCons (mC (.str "end")) (mCons (mC (.str "")) (mCons (m2 addW (mCa lenW (mCons (mV 0) (mNil))) (mC (.int 1))) (mNil))))) (mNil)))) (sRet (mV 1))))))
def m_scan : List W → M W := runDef 4 b_scan
theorem ok_scan (A : All K mg base) : FnG P w K mg base 4 "scan" ["text"] m_scan := by
  refine sim_defG (k := 3) (N := nm_scan) A.d_scan sc_scan (fun f cdv A2 outer s H E hr => ?_)
  exact simss_cons (sims_expr (sim_callG (takes_of rfl rfl rfl rfl) (ok_check_text A) (by decide) hr (by rfl) (sima_cons (sim_v 0) (sima_nil))))
        (simss_cons (sims_set (i := 1) sc_scan.nd rfl (by first | exact Or.inl rfl | exact Or.inr rfl) (sim_box (sima_nil)))
        (simss_cons (sims_set (i := 2) sc_scan.nd rfl (by first | exact Or.inl rfl | exact Or.inr rfl) (sim_int))
        (simss_cons (sims_while 400 (passD rfl) (simT_cmp op_lt os_cmp (sim_v 2) (sim_callB call_len ca_len (by rfl) A.n_len (by decide +kernel) (sima_cons (sim_v 0) (sima_nil))) (nomark _)) (simss_one (sims_if (simT_cmp (op_eqD hr.units) os_eq (sim_ix0 ix_str os_ixS (sim_v 0) (sim_v 2) (fun _ _ => rfl)) (sim_str) (nomark _)) (simss_one (sims_augAdd (i := 2) sc_scan.nd rfl (by first | exact Or.inl rfl | exact Or.inr rfl) (sim_int))) (simss_cons (sims_set (i := 3) sc_scan.nd rfl (by first | exact Or.inl rfl | exact Or.inr rfl) (sim_callG (takes_of rfl rfl rfl rfl) (ok__token A) (by decide) hr (by rfl) (sima_cons (sim_v 0) (sima_cons (sim_v 2) (sima_nil)))))
        (simss_cons (sims_expr (sim_append (sim_v 1) (sima_cons (sim_v 3) (sima_nil))))
        (simss_one (sims_augAdd (i := 2) sc_scan.nd rfl (by first | exact Or.inl rfl | exact Or.inr rfl) (sim_callB call_len ca_len (by rfl) A.n_len (by decide +kernel) (sima_cons (sim_ix0 ix_ok os_ix (sim_v 3) (sim_int) (fun _ _ => rfl)) (sima_nil))))))))))
        (simss_cons (sims_expr (sim_append (sim_v 1) (sima_cons (sim_tup (sima_cons (sim_str) (sima_cons (sim_str) (sima_cons (sim_bin op_addW os_add (sim_callB call_len ca_len (by rfl) A.n_len (by decide +kernel) (sima_cons (sim_v 0) (sima_nil))) (sim_int)) (sima_nil))))) (sima_nil))))
        (simss_one (sims_ret (sim_v 1)))))))
def b__law_stream : SM := sRet (mBox (mCons (mCa listW (mCons (mV 0) (mNil))) (mCons (mC (.int 0)) (mCons (mC (.int 0)) (mNil)))))
def m__law_stream : List W → M W := runDef 1 b__law_stream
theorem ok__law_stream (A : All K mg base) : FnG P w K mg base 1 "_law_stream" ["script"] m__law_stream := by
  refine sim_defG (k := 0) (N := nm__law_stream) A.d__law_stream sc__law_stream (fun f cdv A2 outer s H E hr => ?_)
  exact simss_one (sims_ret (sim_box (sima_cons (sim_callTy call_list_of ca_list (by rfl) A.n_list (by decide +kernel) (sima_cons (sim_v 0) (sima_nil))) (sima_cons (sim_int) (sima_cons (sim_int) (sima_nil))))))
def b__law_next : SM := sSeq (sIf (mB (m2 (eqW) (m2 ixW (mV 0) (mC (.int 1))) (mC (.int 0)))) (sSeq (sSet 2 (m2 ixW (mV 0) (mC (.int 2)))) (sSeq (sSet 3 (m2 addW (mC (.int 7)) (mV 2))) (sSeq (sIf (mB (m2 (ltW) (mV 2) (mCa lenW (mCons (m2 ixW (mV 0) (mC (.int 0))) (mNil))))) (sSet 3 (mCa absW (mCons (m2 ixW (m2 ixW (mV 0) (mC (.int 0))) (mV 2)) (mNil)))) (sNil)) (sSeq (sIf (mB (m2 (ltW) (mV 3) (m2 powW (mC (.int 10)) (mC (.int 18))))) (sSeq (sSet 3 (m2 modW (mCa intW (mCons (m2 addW (m2 addW (m2 mulW (mV 3) (mC (.int 48271))) (m2 mulW (mV 2) (mC (.int 69621)))) (mC (.int 11))) (mNil))) (mC (.int 2147483647)))) (sSet 3 (m2 addW (m2 mulW (m2 modW (mCa intW (mCons (m2 addW (m2 mulW (mV 3) (mC (.int 16807))) (mC (.int 13))) (mNil))) (mC (.int 2147483647))) (mC (.int 65537))) (mV 3)))) (sNil)) (sSeq (sPut (mV 3) (mV 0) (mC (.int 1))) (sPut (m2 addW (mV 2) (mC (.int 1))) (mV 0) (mC (.int 2)))))))) (sNil)) (sSeq (sSet 4 (m2 modW (mCa intW (mCons (m2 ixW (mV 0) (mC (.int 1))) (mNil))) (mV 1))) (sSeq (sPut (m2 fdivW (m2 ixW (mV 0) (mC (.int 1))) (mV 1)) (mV 0) (mC (.int 1))) (sRet (mV 4))))
def m__law_next : List W → M W := runDef 5 b__law_next
theorem ok__law_next (A : All K mg base) : FnG P w K mg base 1 "_law_next" ["stream", "many"] m__law_next := by
  refine sim_defG (k := 0) (N := nm__law_next) A.d__law_next sc__law_next (fun f cdv A2 outer s H E hr => ?_)
  exact simss_cons (sims_if (simT_cmp (op_eqD hr.units) os_eq (sim_ix0 ix_ok os_ix (sim_v 0) (sim_int) (fun _ _ => rfl)) (sim_int) (nomark _)) (simss_cons (sims_set (i := 2) sc__law_next.nd rfl (by first | exact Or.inl rfl | exact Or.inr rfl) (sim_ix0 ix_ok os_ix (sim_v 0) (sim_int) (fun _ _ => rfl)))
        (simss_cons (sims_set (i := 3) sc__law_next.nd rfl (by first | exact Or.inl rfl | exact Or.inr rfl) (sim_bin op_addW os_add (sim_int) (sim_v 2)))
        (simss_cons (sims_if (simT_cmp op_lt os_cmp (sim_v 2) (sim_callB call_len ca_len (by rfl) A.n_len (by decide +kernel) (sima_cons (sim_ix0 ix_ok os_ix (sim_v 0) (sim_int) (fun _ _ => rfl)) (sima_nil))) (nomark _)) (simss_one (sims_set (i := 3) sc__law_next.nd rfl (by first | exact Or.inl rfl | exact Or.inr rfl) (sim_callB call_abs ca_abs (by rfl) A.n_abs (by decide +kernel) (sima_cons (sim_ix0 ix_ok os_ix (sim_ix0 ix_ok os_ix (sim_v 0) (sim_int) (fun _ _ => rfl)) (sim_v 2) (fun _ _ => rfl)) (sima_nil))))) (simss_nil))
        (simss_cons (sims_if (simT_cmp op_lt os_cmp (sim_v 3) (sim_bin op_pow os_pow (sim_int) (sim_int)) (nomark _)) (simss_cons (sims_set (i := 3) sc__law_next.nd rfl (by first | exact Or.inl rfl | exact Or.inr rfl) (sim_bin op_mod os_mod (sim_callTy call_int1 ca_int (by rfl) A.n_int (by decide +kernel) (sima_cons (sim_bin op_addW os_add (sim_bin op_addW os_add (sim_bin op_mulW os_mul (sim_v 3) (sim_int)) (sim_bin op_mulW os_mul (sim_v 2) (sim_int))) (sim_int)) (sima_nil))) (sim_int)))
        (simss_one (sims_set (i := 3) sc__law_next.nd rfl (by first | exact Or.inl rfl | exact Or.inr rfl) (sim_bin op_addW os_add (sim_bin op_mulW os_mul (sim_bin op_mod os_mod (sim_callTy call_int1 ca_int (by rfl) A.n_int (by decide +kernel) (sima_cons (sim_bin op_addW os_add (sim_bin op_mulW os_mul (sim_v 3) (sim_int)) (sim_int)) (sima_nil))) (sim_int)) (sim_int)) (sim_v 3))))) (simss_nil))
        (simss_cons (sims_put (sim_v 3) (sim_v 0) (sim_int))
        (simss_one (sims_put (sim_bin op_addW os_add (sim_v 2) (sim_int)) (sim_v 0) (sim_int)))))))) (simss_nil))
        (simss_cons (sims_set (i := 4) sc__law_next.nd rfl (by first | exact Or.inl rfl | exact Or.inr rfl) (sim_bin op_mod os_mod (sim_callTy call_int1 ca_int (by rfl) A.n_int (by decide +kernel) (sima_cons (sim_ix0 ix_ok os_ix (sim_v 0) (sim_int) (fun _ _ => rfl)) (sima_nil))) (sim_v 1)))
        (simss_cons (sims_put (sim_bin op_fdiv os_fdiv (sim_ix0 ix_ok os_ix (sim_v 0) (sim_int) (fun _ _ => rfl)) (sim_v 1)) (sim_v 0) (sim_int))
        (simss_one (sims_ret (sim_v 4)))))
def b__law_is_integer : SM := sRet (mAndV (m1 (isiW "int") (mV 0)) (mNotV (m1 (isiW "bool") (mV 0))))
def m__law_is_integer : List W → M W := runDef 1 b__law_is_integer
theorem ok__law_is_integer (A : All K mg base) : FnG P w K mg base 1 "_law_is_integer" ["actual"] m__law_is_integer := by
  refine sim_defG (k := 0) (N := nm__law_is_integer) A.d__law_is_integer sc__law_is_integer (fun f cdv A2 outer s H E hr => ?_)
  exact simss_one (sims_ret (sim_and (sim_isi (T := "int") (by decide) (by rfl) A.n_isinstance (by rfl) A.n_int (by decide +kernel) (sim_v 0)) (sim_one (sim_not (sim_isi (T := "bool") (by decide) (by rfl) A.n_isinstance (by rfl) A.n_bool (by decide +kernel) (sim_v 0))))))
def b__law_equal (rec : List W → M W) : SM := sSeq (sIf (mB (m2 (isNW) (mV 1) (mC .non))) (sRet (m2 (isNW) (mV 0) (mC .non))) (sNil)) (sSeq (sIf (mB (m1 (isiW "bool") (mV 1))) (sRet (mAndV (m1 (isiW "bool") (mV 0)) (m2 (eqW) (mV 0) (mV 1)))) (sNil)) (sSeq (sIf (mB (m1 (isiW "int") (mV 1))) (sRet (mAndV (mCa (cal 1 m__law_is_integer) (mCons (mV 0) (mNil))) (m2 (eqW) (mV 0) (mV 1)))) (sNil)) (sSeq (sIf (mB (m1 (isiW "str") (mV 1))) (sRet (mAndV (m1 (isiW "str") (mV 0)) (m2 (eqW) (mV 0) (mV 1)))) (sNil)) (sSeq (sIf (mAndT (mB (m1 (isiW "tuple") (mV 1))) (mNotT (mB (m1 (isiW "tuple") (mV 0))))) (sRet (mC (.bl false))) (sNil)) (sSeq (sIf (mAndT (mB (m1 (isiW "list") (mV 1))) (mNotT (mB (m1 (isiW "list") (mV 0))))) (sRet (mC (.bl false))) (sNil)) (sSeq (sIf (mB (m2 (neW) (mCa lenW (mCons (mV 0) (mNil))) (mCa lenW (mCons (mV 1) (mNil))))) (sRet (mC (.bl false))) (sNil)) (sRet (mCa allW (mCons (mLC [2] (mIa itR1 (mCons (mCa lenW (mCons (mV 1) (mNil))) (mNil))) (gN 2) (mYes) (mCa (cal 2 rec) (mCons (m2 ixW (mV 0) (mV 2)) (mCons (m2 ixW (mV 1) (mV 2)) (mNil))))) (mNil))))))))))
def r__law_equal : Nat → List W → M W
  | 0 => fun _ => bad
  | n + 1 => runDef 3 (b__law_equal (r__law_equal n))
theorem okr__law_equal (A : All K mg base) : ∀ n, FnG P w K mg base (1 + n) "_law_equal" ["actual", "due"] (r__law_equal n)
  | 0 => (sim_zeroG A.d__law_equal).mono (Nat.zero_le _)
  | n + 1 => by
    refine sim_defG (k := 1 + n) (N := nm__law_equal) A.d__law_equal sc__law_equal (fun f cdv A2 outer s H E hr => ?_)
    exact simss_cons (sims_if (simT_cmp op_isN os_isN (sim_v 1) (sim_non) (nomark _)) (simss_one (sims_ret (sim_cmp op_isN os_isN (sim_v 0) (sim_non) (nomark _)))) (simss_nil))
        (simss_cons (sims_if (simT_val (sim_isi (T := "bool") (by decide) (by rfl) A.n_isinstance (by rfl) A.n_bool (by decide +kernel) (sim_v 1))) (simss_one (sims_ret (sim_and (sim_isi (T := "bool") (by decide) (by rfl) A.n_isinstance (by rfl) A.n_bool (by decide +kernel) (sim_v 0)) (sim_one (sim_cmp (op_eqD hr.units) os_eq (sim_v 0) (sim_v 1) (nomark _)))))) (simss_nil))
        (simss_cons (sims_if (simT_val (sim_isi (T := "int") (by decide) (by rfl) A.n_isinstance (by rfl) A.n_int (by decide +kernel) (sim_v 1))) (simss_one (sims_ret (sim_and (sim_callG (takes_of rfl rfl rfl rfl) (ok__law_is_integer A) (by omega) hr (by rfl) (sima_cons (sim_v 0) (sima_nil))) (sim_one (sim_cmp (op_eqD hr.units) os_eq (sim_v 0) (sim_v 1) (nomark _)))))) (simss_nil))
        (simss_cons (sims_if (simT_val (sim_isi (T := "str") (by decide) (by rfl) A.n_isinstance (by rfl) A.n_str (by decide +kernel) (sim_v 1))) (simss_one (sims_ret (sim_and (sim_isi (T := "str") (by decide) (by rfl) A.n_isinstance (by rfl) A.n_str (by decide +kernel) (sim_v 0)) (sim_one (sim_cmp (op_eqD hr.units) os_eq (sim_v 0) (sim_v 1) (nomark _)))))) (simss_nil))
        (simss_cons (sims_if (simT_w (simW_and (simT_val (sim_isi (T := "tuple") (by decide) (by rfl) A.n_isinstance (by rfl) A.n_tuple (by decide +kernel) (sim_v 1))) (simW_and1 (simT_not (simT_val (sim_isi (T := "tuple") (by decide) (by rfl) A.n_isinstance (by rfl) A.n_tuple (by decide +kernel) (sim_v 0))))))) (simss_one (sims_ret (sim_bl))) (simss_nil))
        (simss_cons (sims_if (simT_w (simW_and (simT_val (sim_isi (T := "list") (by decide) (by rfl) A.n_isinstance (by rfl) A.n_list (by decide +kernel) (sim_v 1))) (simW_and1 (simT_not (simT_val (sim_isi (T := "list") (by decide) (by rfl) A.n_isinstance (by rfl) A.n_list (by decide +kernel) (sim_v 0))))))) (simss_one (sims_ret (sim_bl))) (simss_nil))
        (simss_cons (sims_if (simT_cmp (op_neD hr.units) os_ne (sim_callB call_len ca_len (by rfl) A.n_len (by decide +kernel) (sima_cons (sim_v 0) (sima_nil))) (sim_callB call_len ca_len (by rfl) A.n_len (by decide +kernel) (sima_cons (sim_v 1) (sima_nil))) (nomark _)) (simss_one (sims_ret (sim_bl))) (simss_nil))
        (simss_one (sims_ret (sim_callB (cr_all rfl) ca_all (by rfl) A.n_all (by decide +kernel) (sima_cons (sim_lc (own := [("at", 2)]) rfl sc__law_equal.nd (simi_r1 (by rfl) A.n_range (sima_cons (sim_callB call_len ca_len (by rfl) A.n_len (by decide +kernel) (sima_cons (sim_v 1) (sima_nil))) (sima_nil))) (blkOk_by (own := [("at", 2)]) (N := nm__law_equal) (sc := defScope s__law_equal) (by decide +kernel)) (gs_name 2) (by decide) (fun _ _ _ _ _ => pg_name (i := 2) sc__law_equal.nd rfl (by first | exact Or.inl rfl | exact Or.inr rfl)) (fun _ _ _ _ _ => pts_nil') (fun _ _ _ _ _ => (by refine sim_callR (j := 1 + n) (k := 1 + n) (ps := ["actual", "due"]) ?tk ?F ?hn ?hj ?hr ?hg ?ha; (case tk => exact L2.takes0); (case F => exact okr__law_equal A n); (case hn => rfl); (case hj => exact Nat.le_refl _); (case hr => exact hr); (case hg => rfl); (case ha => exact sima_cons (sim_ix0 ix_ok os_ix (sim_v 0) (sim_v 2) (fun _ _ => rfl)) (sima_cons (sim_ix0 ix_ok os_ix (sim_v 1) (sim_v 2) (fun _ _ => rfl)) (sima_nil)))))) (sima_nil)))))))))))
def b__law_pick : SM := sRet (m2 ixW (mV 1) (mCa (cal 2 m__law_next) (mCons (mV 0) (mCons (mCa lenW (mCons (mV 1) (mNil))) (mNil)))))
def m__law_pick : List W → M W := runDef 2 b__law_pick
theorem ok__law_pick (A : All K mg base) : FnG P w K mg base 2 "_law_pick" ["stream", "rows"] m__law_pick := by
  refine sim_defG (k := 1) (N := nm__law_pick) A.d__law_pick sc__law_pick (fun f cdv A2 outer s H E hr => ?_)
  exact simss_one (sims_ret (sim_ix0 ix_ok os_ix (sim_v 1) (sim_callG (takes_of rfl rfl rfl rfl) (ok__law_next A) (by decide) hr (by rfl) (sima_cons (sim_v 0) (sima_cons (sim_callB call_len ca_len (by rfl) A.n_len (by decide +kernel) (sima_cons (sim_v 1) (sima_nil))) (sima_nil)))) (fun _ _ => rfl)))
def b__law_kind : SM := sSeq (sIf (mB (m2 (inSW false) (mSlS (mV 0) (mOn) (mOi (mC (.int 1)))) (mC (.str ".+-")))) (sRet (mC (.str "row"))) (sNil)) (sRet (mIf (mB (m2 (inSW false) (mSlS (mV 0) (mOn) (mOi (mC (.int 1)))) (mC (.str "0123456789")))) (mC (.str "number")) (mC (.str "sign"))))
def m__law_kind : List W → M W := runDef 1 b__law_kind
theorem ok__law_kind (A : All K mg base) : FnG P w K mg base 1 "_law_kind" ["word"] m__law_kind := by
  refine sim_defG (k := 0) (N := nm__law_kind) A.d__law_kind sc__law_kind (fun f cdv A2 outer s H E hr => ?_)
  exact simss_cons (sims_if (simT_cmp op_in_sign os_inS (sim_sliceS (sim_v 0) (simo_none) (simo_some (sim_int))) (sim_str) (by with_unfolding_all rfl)) (simss_one (sims_ret (sim_str))) (simss_nil))
        (simss_one (sims_ret (sim_if (simT_cmp op_in_sign os_inS (sim_sliceS (sim_v 0) (simo_none) (simo_some (sim_int))) (sim_str) (by with_unfolding_all rfl)) (sim_str) (sim_str))))
def p__law_kind : List W → M W := pur m__law_kind
theorem okp__law_kind (A : All K mg base) : FnG P w K mg base 1 "_law_kind" ["word"] p__law_kind := FnG.pur (ok__law_kind A)
def b__law_laid : SM := sSeq (sSet 2 (mC (.str ""))) (sSeq (sSet 3 (mBox (mNil))) (sSeq (sFor (mIa itEnL (mCons (mV 1) (mNil))) (gT (gsC (gN 4) (gsC (gN 5) (gsN)))) (sSeq (sSet 6 (mCa intW (mCons (mAndV (m2 (gtW) (mV 4) (mC (.int 0))) (mAndV (m2 (eqW) (mCa (cal 1 p__law_kind) (mCons (m2 ixW (mV 1) (m2 subW (mV 4) (mC (.int 1)))) (mNil))) (mCa (cal 1 p__law_kind) (mCons (mV 5) (mNil)))) (m2 (neW) (mV 5) (mC (.str ":"))))) (mNil)))) (sSeq (sSet 2 (m2 addW (mV 2) (m2 ixW (mLst (mCons (mC (.str "")) (mCons (mC (.str " ")) (mCons (mC (.str "  ")) (mCons (mC (.str "   ")) (mNil)))))) (mCa max2W (mCons (mV 6) (mCons (mCa (cal 2 m__law_next) (mCons (mV 0) (mCons (mC (.int 4)) (mNil)))) (mNil))))))) (sSeq (sExpr (mMt appW (mV 3) (mCons (m2 addW (mCa lenW (mCons (mV 2) (mNil))) (mC (.int 1))) (mNil)))) (sSet 2 (m2 addW (mV 2) (mV 5))))))) (sSeq (sSet 2 (m2 addW (mV 2) (m2 ixW (mLst (mCons (mC (.str "")) (mCons (mC (.str " ")) (mCons (mC (.str "  ")) (mNil))))) (mCa (cal 2 m__law_next) (mCons (mV 0) (mCons (mC (.int 3)) (mNil))))))) (sRet (mTup (mCons (mV 2) (mCons (m2 addWX (mV 3) (mLst (mCons (m2 addW (mCa lenW (mCons (mV 2) (mNil))) (mC (.int 1))) (mNil)))) (mNil))))))))
def m__law_laid : List W → M W := runDef 7 b__law_laid
theorem ok__law_laid (A : All K mg base) : FnG P w K mg base 2 "_law_laid" ["stream", "words"] m__law_laid := by
  refine sim_defG (k := 1) (N := nm__law_laid) A.d__law_laid sc__law_laid (fun f cdv A2 outer s H E hr => ?_)
  exact simss_cons (sims_set (i := 2) sc__law_laid.nd rfl (by first | exact Or.inl rfl | exact Or.inr rfl) (sim_str))
        (simss_cons (sims_set (i := 3) sc__law_laid.nd rfl (by first | exact Or.inl rfl | exact Or.inr rfl) (sim_box (sima_nil)))
        (simss_cons (sims_for (passD rfl) rfl (simi_enL (by rfl) A.n_enumerate (sima_cons (sim_v 1) (sima_nil))) (pg_tup rfl (pgs_cons (pg_name (i := 4) sc__law_laid.nd rfl (by first | exact Or.inl rfl | exact Or.inr rfl)) (pgs_cons (pg_name (i := 5) sc__law_laid.nd rfl (by first | exact Or.inl rfl | exact Or.inr rfl)) (pgs_nil)))) (gs_tup (n := 2) (gss_cons (gs_name 4) (gss_cons (gs_name 5) (gss_nil))) ((len_cons (len_cons len_nil)))) (simss_cons (sims_set (i := 6) sc__law_laid.nd rfl (by first | exact Or.inl rfl | exact Or.inr rfl) (sim_callTy call_int1 ca_int (by rfl) A.n_int (by decide +kernel) (sima_cons (sim_and (sim_cmp op_gt os_cmp (sim_v 4) (sim_int) (nomark _)) (sim_and (sim_cmp (op_eqD hr.units) os_eq (sim_callG (takes_of rfl rfl rfl rfl) (okp__law_kind A) (by decide) hr (by rfl) (sima_cons (sim_ix0 ix_ok os_ix (sim_v 1) (sim_bin op_sub os_sub (sim_v 4) (sim_int)) (fun _ _ => rfl)) (sima_nil))) (sim_callG (takes_of rfl rfl rfl rfl) (okp__law_kind A) (by decide) hr (by rfl) (sima_cons (sim_v 5) (sima_nil))) (nomark _)) (sim_one (sim_cmp (op_neD hr.units) os_ne (sim_v 5) (sim_str) (nomark _))))) (sima_nil))))
        (simss_cons (sims_set (i := 2) sc__law_laid.nd rfl (by first | exact Or.inl rfl | exact Or.inr rfl) (sim_bin op_addW os_add (sim_v 2) (sim_ix0 ix_ok os_ix (sim_lst (sima_cons (sim_str) (sima_cons (sim_str) (sima_cons (sim_str) (sima_cons (sim_str) (sima_nil)))))) (sim_callB (call_max2 rfl) ca_max2 (by rfl) A.n_max (by decide +kernel) (sima_cons (sim_v 6) (sima_cons (sim_callG (takes_of rfl rfl rfl rfl) (ok__law_next A) (by decide) hr (by rfl) (sima_cons (sim_v 0) (sima_cons (sim_int) (sima_nil)))) (sima_nil)))) (fun _ _ => rfl))))
        (simss_cons (sims_expr (sim_append (sim_v 3) (sima_cons (sim_bin op_addW os_add (sim_callB call_len ca_len (by rfl) A.n_len (by decide +kernel) (sima_cons (sim_v 2) (sima_nil))) (sim_int)) (sima_nil))))
        (simss_one (sims_set (i := 2) sc__law_laid.nd rfl (by first | exact Or.inl rfl | exact Or.inr rfl) (sim_bin op_addW os_add (sim_v 2) (sim_v 5))))))))
        (simss_cons (sims_set (i := 2) sc__law_laid.nd rfl (by first | exact Or.inl rfl | exact Or.inr rfl) (sim_bin op_addW os_add (sim_v 2) (sim_ix0 ix_ok os_ix (sim_lst (sima_cons (sim_str) (sima_cons (sim_str) (sima_cons (sim_str) (sima_nil))))) (sim_callG (takes_of rfl rfl rfl rfl) (ok__law_next A) (by decide) hr (by rfl) (sima_cons (sim_v 0) (sima_cons (sim_int) (sima_nil)))) (fun _ _ => rfl))))
        (simss_one (sims_ret (sim_tup (sima_cons (sim_v 2) (sima_cons (sim_bin op_addW os_addX (sim_v 3) (sim_lst (sima_cons (sim_bin op_addW os_add (sim_callB call_len ca_len (by rfl) A.n_len (by decide +kernel) (sima_cons (sim_v 2) (sima_nil))) (sim_int)) (sima_nil)))) (sima_nil)))))))))
def b__law_told : SM := sTryAs2 1 (tabL [("BadValue", false), ("TextError", true)]) (tabL [("BadValue", true), ("TextError", false)]) (sRet (mCa (cal 1 m_scan) (mCons (mV 0) (mNil)))) (fun x => bnd ((fun x => bnd ((mErrIs (tabL [("BadValue", true), ("TextError", true)])) x) toB) x) fun k => if k = true then (fun x => bnd ((fun x => bnd ((mErrF "TextError" "column") x) fun w => bnd ((fun x => bnd ((mErrF "TextError" "words") x) fun w => bnd ((fun _ => ret []) x) fun us => ret (w :: us)) x) fun us => ret (w :: us)) x) wTup) x else (fun _ => ret .non) x) (mErrF "BadValue" "name")
def m__law_told : List W → M W := runDef 2 b__law_told
theorem ok__law_told (A : All K mg base) : FnG P w K mg base 5 "_law_told" ["text"] m__law_told := by
  obtain ⟨Ce_BadValue, fe_BadValue, fde_BadValue, g_BadValue, oe_BadValue, ie_BadValue, te_BadValue, no_BadValue, Fe_BadValue, be_BadValue, xf_BadValue, ec_BadValue⟩ := A.e_BadValue.ex
  obtain ⟨Ce_TextError, fe_TextError, fde_TextError, g_TextError, oe_TextError, ie_TextError, te_TextError, no_TextError, Fe_TextError, be_TextError, xf_TextError, ec_TextError, no2_TextError⟩ := A.e_TextError.ex
  obtain ⟨D_BadValue, gD_BadValue⟩ := A.g_BadValue
  obtain ⟨D_RingError, gD_RingError⟩ := A.g_RingError
  obtain ⟨D_TextError, gD_TextError⟩ := A.g_TextError
  refine sim_defG (k := 4) (N := nm__law_told) A.d__law_told sc__law_told (fun f cdv A2 outer s H E hr => ?_)
  exact simss_one (sims_tryAs2 (i := 1) rfl rfl sc__law_told.nd rfl rfl ⟨rfl, by decide, Or.inl gD_TextError⟩ ⟨rfl, by decide, Or.inl gD_BadValue⟩ (takes_of rfl rfl rfl rfl) (tab_ok (R := fun C b => PySem.W.exmOne K (.ref C) (.ref D_TextError) = some b) (.cons (fun C h => A.xm_BadValue_TextError C D_TextError h gD_TextError) (.cons (fun C h => A.xm_TextError_TextError C D_TextError h gD_TextError) (.nil)))) (tab_ok (R := fun C b => PySem.W.exmOne K (.ref C) (.ref D_BadValue) = some b) (.cons (fun C h => A.xm_BadValue_BadValue C D_BadValue h gD_BadValue) (.cons (fun C h => A.xm_TextError_BadValue C D_BadValue h gD_BadValue) (.nil)))) (fun W1 pn xe tk1 hp1 => simss_one (sims_ret (sim_callG tk1 (ok_scan A) (by decide) hr (by rfl) (sima_cons (sim_v 0) (sima_nil))))) (simcs_ret (simc_if (simct_val (simc_isO (by rfl) A.n_isinstance (by rfl) gD_RingError (tab_ok (R := fun C b => ExcC K C ∧ PySem.W.kitOne K (.ref C) (.ref D_RingError) = some b) (.cons (fun C h => ⟨by cases (g_BadValue.symm.trans h); exact ec_BadValue, A.xi_BadValue_RingError C D_RingError h gD_RingError⟩) (.cons (fun C h => ⟨by cases (g_TextError.symm.trans h); exact ec_TextError, A.xi_TextError_RingError C D_RingError h gD_RingError⟩) (.nil)))) rfl (by first | exact Or.inl rfl | exact Or.inr (Or.inl rfl) | exact Or.inr (Or.inr rfl)))) (simc_tup (simca_cons (simc_field g_TextError xf_TextError no_TextError rfl (by first | exact Or.inl rfl | exact Or.inr (Or.inl rfl) | exact Or.inr (Or.inr rfl))) (simca_cons (simc_field g_TextError xf_TextError no2_TextError rfl (by first | exact Or.inl rfl | exact Or.inr (Or.inl rfl) | exact Or.inr (Or.inr rfl))) (simca_nil)))) (simc_non))) (simcs_ret (simc_field g_BadValue xf_BadValue no_BadValue rfl (by first | exact Or.inl rfl | exact Or.inr (Or.inl rfl) | exact Or.inr (Or.inr rfl)))))
def b_law : SM := sSeq (sSet 1 (mCa (cal 1 m__law_stream) (mCons (mV 0) (mNil)))) (sSeq (sSet 2 (mLCB [15] (mIa itR1 (mCons (mCa (cal 2 m__law_next) (mCons (mV 1) (mCons (mC (.int 21)) (mNil)))) (mNil))) (gN 15) (mYes) (mCa (cal 2 m__law_pick) (mCons (mV 1) (mCons (mLst (mCons (mC (.str "0")) (mCons (mC (.str "31")) (mCons (mC (.str "000345")) (mCons (mC (.str "999999")) (mCons (mC (.str ":")) (mCons (mC (.str ".+-")) (mCons (mC (.str "........")) (mCons (mC (.str "+")) (mCons (mC (.str "-.")) (mCons (mC (.str ":")) (mNil)))))))))))) (mNil)))))) (sSeq (sSet 3 (mC .non)) (sSeq (sIf (mB (m2 (eqW) (mCa (cal 2 m__law_next) (mCons (mV 1) (mCons (mC (.int 2)) (mNil)))) (mC (.int 1)))) (sSeq (sSet 4 (mLC [14] (mI itSeq (mLst (mCons (mC (.str "A")) (mCons (mC (.str "a")) (mCons (mC (.str "_")) (mCons (mC (.str ",")) (mCons (mC (.str "	")) (mCons (mC (.str "|")) (mCons (mC (.str ";")) (mCons (mC (.str "(")) (mCons (mC (.str "#")) (mCons (mC (.str "=")) (mCons (mC (.str "/")) (mNil)))))))))))))) (gN 14) (mYes) (mTup (mCons (mV 14) (mCons (mC (.str "no token begins here")) (mNil)))))) (sSeq (sSet 4 (m2 addW (mV 4) (mLst (mCons (mTup (mCons (mC (.str "1000000")) (mCons (mC (.str "a number has at most 6 digits")) (mNil)))) (mCons (mTup (mCons (mC (.str "0000001")) (mCons (mC (.str "a number has at most 6 digits")) (mNil)))) (mCons (mTup (mCons (mC (.str ".........")) (mCons (mC (.str "a row has at most 8 marks")) (mNil)))) (mCons (mTup (mCons (mC (.str "+-+-+-+-+")) (mCons (mC (.str "a row has at most 8 marks")) (mNil)))) (mNil)))))))) (sSeq (sSet 5 (mCa (cal 2 m__law_next) (mCons (mV 1) (mCons (m2 addW (mCa lenW (mCons (mV 2) (mNil))) (mC (.int 1))) (mNil))))) (sSeq (sAsg (mCa (cal 2 m__law_pick) (mCons (mV 1) (mCons (mV 4) (mNil)))) (gT (gsC (gN 6) (gsC (gN 3) (gsN))))) (sSeq (sSet 2 (m2 addWB (m2 addW (mSl (mV 2) (mOn) (mOi (mV 5))) (mLst (mCons (mV 6) (mNil)))) (mSl (mV 2) (mOi (mV 5)) (mOn)))) (sIf (mB (m2 (eqW) (mCa (cal 2 m__law_next) (mCons (mV 1) (mCons (mC (.int 2)) (mNil)))) (mC (.int 1)))) (sExpr (mMt appW (mV 2) (mCons (m2 ixW (mCa (cal 2 m__law_pick) (mCons (mV 1) (mCons (mV 4) (mNil)))) (mC (.int 0))) (mNil)))) (sNil))))))) (sNil)) (sSeq (sAsg (mCa (cal 2 m__law_laid) (mCons (mV 1) (mCons (mV 2) (mNil)))) (gT (gsC (gN 7) (gsC (gN 8) (gsN))))) (sSeq (sIf (mB (m2 (notNW) (mV 3) (mC .non))) (sRet (mCa (cal 2 (r__law_equal 8)) (mCons (mCa (cal 1 m__law_told) (mCons (mV 7) (mNil))) (mCons (mTup (mCons (m2 ixW (mV 8) (mV 5)) (mCons (mV 3) (mNil)))) (mNil))))) (sNil)) (sSeq (sSet 9 (m2 addW (mLC [13, 6] (mIa itEnL (mCons (mV 2) (mNil))) (gT (gsC (gN 13) (gsC (gN 6) (gsN)))) (mYes) (mTup (mCons (mCa (cal 1 p__law_kind) (mCons (mV 6) (mNil))) (mCons (mV 6) (mCons (m2 ixW (mV 8) (mV 13)) (mNil)))))) (mLst (mCons (mTup (mCons (mC (.str "end")) (mCons (mC (.str "")) (mCons (m2 ixW (mV 8) (m1 negW (mC (.int 1)))) (mNil))))) (mNil))))) (sSeq (sSet 10 (mCa (cal 1 m__law_told) (mCons (mV 7) (mNil)))) (sSeq (sIf (mNotT (mB (mCa (cal 2 (r__law_equal 8)) (mCons (mV 10) (mCons (mV 9) (mNil)))))) (sRet (mC (.bl false))) (sNil)) (sSeq (sExpr (mMt appW (mV 10) (mCons (mC .non) (mNil)))) (sSeq (sSet 11 (m2 mulSW (mC (.str " ")) (m2 subW (mC (.int 300)) (mCa lenW (mCons (mV 7) (mNil)))))) (sSeq (sSet 12 (mCa (cal 2 m__law_pick) (mCons (mV 1) (mCons (mLst (mCons (mC .non) (mCons (mLst (mCons (mV 7) (mNil))) (mCons (m2 addW (mV 7) (mC (.str "\n"))) (mCons (mC (.str "\n")) (mCons (m2 addW (m2 addW (mV 11) (mV 7)) (mC (.str " "))) (mCons (mC (.int 7)) (mNil)))))))) (mNil))))) (sRet (mAndV (mCa (cal 2 (r__law_equal 8)) (mCons (mCa (cal 1 m__law_told) (mCons (mV 7) (mNil))) (mCons (mV 9) (mNil)))) (mAndV (m2 (eqW) (mCa (cal 1 m__law_told) (mCons (mV 12) (mNil))) (mC (.str "text"))) (m1 (isiW "list") (mCa (cal 1 m__law_told) (mCons (m2 addW (mV 11) (mV 7)) (mNil))))))))))))))))))
def m_law : List W → M W := runDef 16 b_law
theorem ok_law (A : All K mg base) : FnG P w K mg base 11 "law" ["script"] m_law := by
  refine sim_defG (k := 10) (N := nm_law) A.d_law sc_law (fun f cdv A2 outer s H E hr => ?_)
  exact simss_cons (sims_set (i := 1) sc_law.nd rfl (by first | exact Or.inl rfl | exact Or.inr rfl) (sim_callG (takes_of rfl rfl rfl rfl) (ok__law_stream A) (by decide) hr (by rfl) (sima_cons (sim_v 0) (sima_nil))))
        (simss_cons (sims_setLcB (i := 2) (own := [("turn", 15)]) rfl sc_law.nd rfl rfl (sw_true rfl rfl rfl (by decide +kernel)) (simi_r1 (by rfl) A.n_range (sima_cons (sim_callG (takes_of rfl rfl rfl rfl) (ok__law_next A) (by decide) hr (by rfl) (sima_cons (sim_v 1) (sima_cons (sim_int) (sima_nil)))) (sima_nil))) (blkOk_by (own := [("turn", 15)]) (N := nm_law) (sc := defScope s_law) (by decide +kernel)) (gs_name 15) (by decide) (fun _ _ _ _ _ => pg_name (i := 15) sc_law.nd rfl (by first | exact Or.inl rfl | exact Or.inr rfl)) (fun _ _ _ _ _ => pts_nil') (fun _ _ _ _ _ => sim_callG L2.takes0 (ok__law_pick A) (by decide) hr (by rfl) (sima_cons (sim_v 1) (sima_cons (sim_lst (sima_cons (sim_str) (sima_cons (sim_str) (sima_cons (sim_str) (sima_cons (sim_str) (sima_cons (sim_str) (sima_cons (sim_str) (sima_cons (sim_str) (sima_cons (sim_str) (sima_cons (sim_str) (sima_cons (sim_str) (sima_nil)))))))))))) (sima_nil)))))
        (simss_cons (sims_set (i := 3) sc_law.nd rfl (by first | exact Or.inl rfl | exact Or.inr rfl) (sim_non))
        (simss_cons (sims_if (simT_cmp (op_eqD hr.units) os_eq (sim_callG (takes_of rfl rfl rfl rfl) (ok__law_next A) (by decide) hr (by rfl) (sima_cons (sim_v 1) (sima_cons (sim_int) (sima_nil)))) (sim_int) (nomark _)) (simss_cons (sims_setLc (i := 4) (own := [("sign", 14)]) rfl sc_law.nd rfl rfl (sw_true rfl rfl rfl (by decide +kernel)) (simi_seq (sim_lst (sima_cons (sim_str) (sima_cons (sim_str) (sima_cons (sim_str) (sima_cons (sim_str) (sima_cons (sim_str) (sima_cons (sim_str) (sima_cons (sim_str) (sima_cons (sim_str) (sima_cons (sim_str) (sima_cons (sim_str) (sima_cons (sim_str) (sima_nil)))))))))))))) (blkOk_by (own := [("sign", 14)]) (N := nm_law) (sc := defScope s_law) (by decide +kernel)) (gs_name 14) (by decide) (fun _ _ _ _ _ => pg_name (i := 14) sc_law.nd rfl (by first | exact Or.inl rfl | exact Or.inr rfl)) (fun _ _ _ _ _ => pts_nil') (fun _ _ _ _ _ => sim_tup (sima_cons (sim_v 14) (sima_cons (sim_str) (sima_nil)))))
        (simss_cons (sims_set (i := 4) sc_law.nd rfl (by first | exact Or.inl rfl | exact Or.inr rfl) (sim_bin op_addW os_add (sim_v 4) (sim_lst (sima_cons (sim_tup (sima_cons (sim_str) (sima_cons (sim_str) (sima_nil)))) (sima_cons (sim_tup (sima_cons (sim_str) (sima_cons (sim_str) (sima_nil)))) (sima_cons (sim_tup (sima_cons (sim_str) (sima_cons (sim_str) (sima_nil)))) (sima_cons (sim_tup (sima_cons (sim_str) (sima_cons (sim_str) (sima_nil)))) (sima_nil))))))))
        (simss_cons (sims_set (i := 5) sc_law.nd rfl (by first | exact Or.inl rfl | exact Or.inr rfl) (sim_callG (takes_of rfl rfl rfl rfl) (ok__law_next A) (by decide) hr (by rfl) (sima_cons (sim_v 1) (sima_cons (sim_bin op_addW os_add (sim_callB call_len ca_len (by rfl) A.n_len (by decide +kernel) (sima_cons (sim_v 2) (sima_nil))) (sim_int)) (sima_nil)))))
        (simss_cons (sims_asg (sim_callG (takes_of rfl rfl rfl rfl) (ok__law_pick A) (by decide) hr (by rfl) (sima_cons (sim_v 1) (sima_cons (sim_v 4) (sima_nil)))) (pg_tup rfl (pgs_cons (pg_name (i := 6) sc_law.nd rfl (by first | exact Or.inl rfl | exact Or.inr rfl)) (pgs_cons (pg_name (i := 3) sc_law.nd rfl (by first | exact Or.inl rfl | exact Or.inr rfl)) (pgs_nil)))) (gs_tup (n := 2) (gss_cons (gs_name 6) (gss_cons (gs_name 3) (gss_nil))) ((len_cons (len_cons len_nil)))))
        (simss_cons (sims_set (i := 2) sc_law.nd rfl (by first | exact Or.inl rfl | exact Or.inr rfl) (sim_bin op_addW os_addB (sim_bin op_addW os_add (sim_slice (sim_v 2) (simo_none) (simo_some (sim_v 5))) (sim_lst (sima_cons (sim_v 6) (sima_nil)))) (sim_slice (sim_v 2) (simo_some (sim_v 5)) (simo_none))))
        (simss_one (sims_if (simT_cmp (op_eqD hr.units) os_eq (sim_callG (takes_of rfl rfl rfl rfl) (ok__law_next A) (by decide) hr (by rfl) (sima_cons (sim_v 1) (sima_cons (sim_int) (sima_nil)))) (sim_int) (nomark _)) (simss_one (sims_expr (sim_append (sim_v 2) (sima_cons (sim_ix0 ix_ok os_ix (sim_callG (takes_of rfl rfl rfl rfl) (ok__law_pick A) (by decide) hr (by rfl) (sima_cons (sim_v 1) (sima_cons (sim_v 4) (sima_nil)))) (sim_int) (fun _ _ => rfl)) (sima_nil))))) (simss_nil)))))))) (simss_nil))
        (simss_cons (sims_asg (sim_callG (takes_of rfl rfl rfl rfl) (ok__law_laid A) (by decide) hr (by rfl) (sima_cons (sim_v 1) (sima_cons (sim_v 2) (sima_nil)))) (pg_tup rfl (pgs_cons (pg_name (i := 7) sc_law.nd rfl (by first | exact Or.inl rfl | exact Or.inr rfl)) (pgs_cons (pg_name (i := 8) sc_law.nd rfl (by first | exact Or.inl rfl | exact Or.inr rfl)) (pgs_nil)))) (gs_tup (n := 2) (gss_cons (gs_name 7) (gss_cons (gs_name 8) (gss_nil))) ((len_cons (len_cons len_nil)))))
        (simss_cons (sims_if (simT_cmp op_notN os_notN (sim_v 3) (sim_non) (nomark _)) (simss_one (sims_ret ((by refine sim_callR (j := 1 + 8) (k := 10) (ps := ["actual", "due"]) ?tk ?F ?hn ?hj ?hr ?hg ?ha; (case tk => exact (takes_of rfl rfl rfl rfl)); (case F => exact okr__law_equal A 8); (case hn => rfl); (case hj => decide); (case hr => exact hr); (case hg => rfl); (case ha => exact sima_cons (sim_callG (takes_of rfl rfl rfl rfl) (ok__law_told A) (by decide) hr (by rfl) (sima_cons (sim_v 7) (sima_nil))) (sima_cons (sim_tup (sima_cons (sim_ix0 ix_ok os_ix (sim_v 8) (sim_v 5) (fun _ _ => rfl)) (sima_cons (sim_v 3) (sima_nil)))) (sima_nil))))))) (simss_nil))
        (simss_cons (sims_set (i := 9) sc_law.nd rfl (by first | exact Or.inl rfl | exact Or.inr rfl) (sim_bin op_addW os_add (sim_lc (own := [("k", 13), ("word", 6)]) rfl sc_law.nd (simi_enL (by rfl) A.n_enumerate (sima_cons (sim_v 2) (sima_nil))) (blkOk_by (own := [("k", 13), ("word", 6)]) (N := nm_law) (sc := defScope s_law) (by decide +kernel)) (gs_tup (n := 2) (gss_cons (gs_name 13) (gss_cons (gs_name 6) (gss_nil))) ((len_cons (len_cons len_nil)))) (by decide) (fun _ _ _ _ _ => pg_tup rfl (pgs_cons (pg_name (i := 13) sc_law.nd rfl (by first | exact Or.inl rfl | exact Or.inr rfl)) (pgs_cons (pg_name (i := 6) sc_law.nd rfl (by first | exact Or.inl rfl | exact Or.inr rfl)) (pgs_nil)))) (fun _ _ _ _ _ => pts_nil') (fun _ _ _ _ _ => sim_tup (sima_cons (sim_callG L2.takes0 (okp__law_kind A) (by decide) hr (by rfl) (sima_cons (sim_v 6) (sima_nil))) (sima_cons (sim_v 6) (sima_cons (sim_ix0 ix_ok os_ix (sim_v 8) (sim_v 13) (fun _ _ => rfl)) (sima_nil)))))) (sim_lst (sima_cons (sim_tup (sima_cons (sim_str) (sima_cons (sim_str) (sima_cons (sim_ix0 ix_ok os_ix (sim_v 8) (sim_neg (sim_int)) (fun _ _ => rfl)) (sima_nil))))) (sima_nil)))))
        (simss_cons (sims_set (i := 10) sc_law.nd rfl (by first | exact Or.inl rfl | exact Or.inr rfl) (sim_callG (takes_of rfl rfl rfl rfl) (ok__law_told A) (by decide) hr (by rfl) (sima_cons (sim_v 7) (sima_nil))))
        (simss_cons (sims_if (simT_not (simT_val ((by refine sim_callR (j := 1 + 8) (k := 10) (ps := ["actual", "due"]) ?tk ?F ?hn ?hj ?hr ?hg ?ha; (case tk => exact (takes_of rfl rfl rfl rfl)); (case F => exact okr__law_equal A 8); (case hn => rfl); (case hj => decide); (case hr => exact hr); (case hg => rfl); (case ha => exact sima_cons (sim_v 10) (sima_cons (sim_v 9) (sima_nil))))))) (simss_one (sims_ret (sim_bl))) (simss_nil))
        (simss_cons (sims_expr (sim_append (sim_v 10) (sima_cons (sim_non) (sima_nil))))
        (simss_cons (sims_set (i := 11) sc_law.nd rfl (by first | exact Or.inl rfl | exact Or.inr rfl) (sim_bin op_mulS os_mulS (sim_str) (sim_bin op_sub os_sub (sim_int) (sim_callB call_len ca_len (by rfl) A.n_len (by decide +kernel) (sima_cons (sim_v 7) (sima_nil))))))
        (simss_cons (sims_set (i := 12) sc_law.nd rfl (by first | exact Or.inl rfl | exact Or.inr rfl) (sim_callG (takes_of rfl rfl rfl rfl) (ok__law_pick A) (by decide) hr (by rfl) (sima_cons (sim_v 1) (sima_cons (sim_lst (sima_cons (sim_non) (sima_cons (sim_lst (sima_cons (sim_v 7) (sima_nil))) (sima_cons (sim_bin op_addW os_add (sim_v 7) (sim_str)) (sima_cons (sim_str) (sima_cons (sim_bin op_addW os_add (sim_bin op_addW os_add (sim_v 11) (sim_v 7)) (sim_str)) (sima_cons (sim_int) (sima_nil)))))))) (sima_nil)))))
        (simss_one (sims_ret (sim_and ((by refine sim_callR (j := 1 + 8) (k := 10) (ps := ["actual", "due"]) ?tk ?F ?hn ?hj ?hr ?hg ?ha; (case tk => exact (takes_of rfl rfl rfl rfl)); (case F => exact okr__law_equal A 8); (case hn => rfl); (case hj => decide); (case hr => exact hr); (case hg => rfl); (case ha => exact sima_cons (sim_callG (takes_of rfl rfl rfl rfl) (ok__law_told A) (by decide) hr (by rfl) (sima_cons (sim_v 7) (sima_nil))) (sima_cons (sim_v 9) (sima_nil))))) (sim_and (sim_cmp (op_eqD hr.units) os_eq (sim_callG (takes_of rfl rfl rfl rfl) (ok__law_told A) (by decide) hr (by rfl) (sima_cons (sim_v 12) (sima_nil))) (sim_str) (nomark _)) (sim_one (sim_isi (T := "list") (by decide) (by rfl) A.n_isinstance (by rfl) A.n_list (by decide +kernel) (sim_callG (takes_of rfl rfl rfl rfl) (ok__law_told A) (by decide) hr (by rfl) (sima_cons (sim_bin op_addW os_add (sim_v 11) (sim_v 7)) (sima_nil))))))))))))))))))))
theorem okF_law (A : All K mg base) {f : Addr} {fd : FuncData} (F : Fun K "law" "law" s_law f fd) : FnOk P w K mg base (L2.CX P w) 11 f fd ["script"] (SpM K mg 1 m_law) := by
  refine sim_def (k := 10) (N := nm_law) F sc_law (fun cdv A2 outer s H E hr => ?_)
  exact simss_cons (sims_set (i := 1) sc_law.nd rfl (by first | exact Or.inl rfl | exact Or.inr rfl) (sim_callG (takes_of rfl rfl rfl rfl) (ok__law_stream A) (by decide) hr (by rfl) (sima_cons (sim_v 0) (sima_nil))))
        (simss_cons (sims_setLcB (i := 2) (own := [("turn", 15)]) rfl sc_law.nd rfl rfl (sw_true rfl rfl rfl (by decide +kernel)) (simi_r1 (by rfl) A.n_range (sima_cons (sim_callG (takes_of rfl rfl rfl rfl) (ok__law_next A) (by decide) hr (by rfl) (sima_cons (sim_v 1) (sima_cons (sim_int) (sima_nil)))) (sima_nil))) (blkOk_by (own := [("turn", 15)]) (N := nm_law) (sc := defScope s_law) (by decide +kernel)) (gs_name 15) (by decide) (fun _ _ _ _ _ => pg_name (i := 15) sc_law.nd rfl (by first | exact Or.inl rfl | exact Or.inr rfl)) (fun _ _ _ _ _ => pts_nil') (fun _ _ _ _ _ => sim_callG L2.takes0 (ok__law_pick A) (by decide) hr (by rfl) (sima_cons (sim_v 1) (sima_cons (sim_lst (sima_cons (sim_str) (sima_cons (sim_str) (sima_cons (sim_str) (sima_cons (sim_str) (sima_cons (sim_str) (sima_cons (sim_str) (sima_cons (sim_str) (sima_cons (sim_str) (sima_cons (sim_str) (sima_cons (sim_str) (sima_nil)))))))))))) (sima_nil)))))
        (simss_cons (sims_set (i := 3) sc_law.nd rfl (by first | exact Or.inl rfl | exact Or.inr rfl) (sim_non))
        (simss_cons (sims_if (simT_cmp (op_eqD hr.units) os_eq (sim_callG (takes_of rfl rfl rfl rfl) (ok__law_next A) (by decide) hr (by rfl) (sima_cons (sim_v 1) (sima_cons (sim_int) (sima_nil)))) (sim_int) (nomark _)) (simss_cons (sims_setLc (i := 4) (own := [("sign", 14)]) rfl sc_law.nd rfl rfl (sw_true rfl rfl rfl (by decide +kernel)) (simi_seq (sim_lst (sima_cons (sim_str) (sima_cons (sim_str) (sima_cons (sim_str) (sima_cons (sim_str) (sima_cons (sim_str) (sima_cons (sim_str) (sima_cons (sim_str) (sima_cons (sim_str) (sima_cons (sim_str) (sima_cons (sim_str) (sima_cons (sim_str) (sima_nil)))))))))))))) (blkOk_by (own := [("sign", 14)]) (N := nm_law) (sc := defScope s_law) (by decide +kernel)) (gs_name 14) (by decide) (fun _ _ _ _ _ => pg_name (i := 14) sc_law.nd rfl (by first | exact Or.inl rfl | exact Or.inr rfl)) (fun _ _ _ _ _ => pts_nil') (fun _ _ _ _ _ => sim_tup (sima_cons (sim_v 14) (sima_cons (sim_str) (sima_nil)))))
        (simss_cons (sims_set (i := 4) sc_law.nd rfl (by first | exact Or.inl rfl | exact Or.inr rfl) (sim_bin op_addW os_add (sim_v 4) (sim_lst (sima_cons (sim_tup (sima_cons (sim_str) (sima_cons (sim_str) (sima_nil)))) (sima_cons (sim_tup (sima_cons (sim_str) (sima_cons (sim_str) (sima_nil)))) (sima_cons (sim_tup (sima_cons (sim_str) (sima_cons (sim_str) (sima_nil)))) (sima_cons (sim_tup (sima_cons (sim_str) (sima_cons (sim_str) (sima_nil)))) (sima_nil))))))))
        (simss_cons (sims_set (i := 5) sc_law.nd rfl (by first | exact Or.inl rfl | exact Or.inr rfl) (sim_callG (takes_of rfl rfl rfl rfl) (ok__law_next A) (by decide) hr (by rfl) (sima_cons (sim_v 1) (sima_cons (sim_bin op_addW os_add (sim_callB call_len ca_len (by rfl) A.n_len (by decide +kernel) (sima_cons (sim_v 2) (sima_nil))) (sim_int)) (sima_nil)))))
        (simss_cons (sims_asg (sim_callG (takes_of rfl rfl rfl rfl) (ok__law_pick A) (by decide) hr (by rfl) (sima_cons (sim_v 1) (sima_cons (sim_v 4) (sima_nil)))) (pg_tup rfl (pgs_cons (pg_name (i := 6) sc_law.nd rfl (by first | exact Or.inl rfl | exact Or.inr rfl)) (pgs_cons (pg_name (i := 3) sc_law.nd rfl (by first | exact Or.inl rfl | exact Or.inr rfl)) (pgs_nil)))) (gs_tup (n := 2) (gss_cons (gs_name 6) (gss_cons (gs_name 3) (gss_nil))) ((len_cons (len_cons len_nil)))))
        (simss_cons (sims_set (i := 2) sc_law.nd rfl (by first | exact Or.inl rfl | exact Or.inr rfl) (sim_bin op_addW os_addB (sim_bin op_addW os_add (sim_slice (sim_v 2) (simo_none) (simo_some (sim_v 5))) (sim_lst (sima_cons (sim_v 6) (sima_nil)))) (sim_slice (sim_v 2) (simo_some (sim_v 5)) (simo_none))))
        (simss_one (sims_if (simT_cmp (op_eqD hr.units) os_eq (sim_callG (takes_of rfl rfl rfl rfl) (ok__law_next A) (by decide) hr (by rfl) (sima_cons (sim_v 1) (sima_cons (sim_int) (sima_nil)))) (sim_int) (nomark _)) (simss_one (sims_expr (sim_append (sim_v 2) (sima_cons (sim_ix0 ix_ok os_ix (sim_callG (takes_of rfl rfl rfl rfl) (ok__law_pick A) (by decide) hr (by rfl) (sima_cons (sim_v 1) (sima_cons (sim_v 4) (sima_nil)))) (sim_int) (fun _ _ => rfl)) (sima_nil))))) (simss_nil)))))))) (simss_nil))
        (simss_cons (sims_asg (sim_callG (takes_of rfl rfl rfl rfl) (ok__law_laid A) (by decide) hr (by rfl) (sima_cons (sim_v 1) (sima_cons (sim_v 2) (sima_nil)))) (pg_tup rfl (pgs_cons (pg_name (i := 7) sc_law.nd rfl (by first | exact Or.inl rfl | exact Or.inr rfl)) (pgs_cons (pg_name (i := 8) sc_law.nd rfl (by first | exact Or.inl rfl | exact Or.inr rfl)) (pgs_nil)))) (gs_tup (n := 2) (gss_cons (gs_name 7) (gss_cons (gs_name 8) (gss_nil))) ((len_cons (len_cons len_nil)))))
        (simss_cons (sims_if (simT_cmp op_notN os_notN (sim_v 3) (sim_non) (nomark _)) (simss_one (sims_ret ((by refine sim_callR (j := 1 + 8) (k := 10) (ps := ["actual", "due"]) ?tk ?F ?hn ?hj ?hr ?hg ?ha; (case tk => exact (takes_of rfl rfl rfl rfl)); (case F => exact okr__law_equal A 8); (case hn => rfl); (case hj => decide); (case hr => exact hr); (case hg => rfl); (case ha => exact sima_cons (sim_callG (takes_of rfl rfl rfl rfl) (ok__law_told A) (by decide) hr (by rfl) (sima_cons (sim_v 7) (sima_nil))) (sima_cons (sim_tup (sima_cons (sim_ix0 ix_ok os_ix (sim_v 8) (sim_v 5) (fun _ _ => rfl)) (sima_cons (sim_v 3) (sima_nil)))) (sima_nil))))))) (simss_nil))
        (simss_cons (sims_set (i := 9) sc_law.nd rfl (by first | exact Or.inl rfl | exact Or.inr rfl) (sim_bin op_addW os_add (sim_lc (own := [("k", 13), ("word", 6)]) rfl sc_law.nd (simi_enL (by rfl) A.n_enumerate (sima_cons (sim_v 2) (sima_nil))) (blkOk_by (own := [("k", 13), ("word", 6)]) (N := nm_law) (sc := defScope s_law) (by decide +kernel)) (gs_tup (n := 2) (gss_cons (gs_name 13) (gss_cons (gs_name 6) (gss_nil))) ((len_cons (len_cons len_nil)))) (by decide) (fun _ _ _ _ _ => pg_tup rfl (pgs_cons (pg_name (i := 13) sc_law.nd rfl (by first | exact Or.inl rfl | exact Or.inr rfl)) (pgs_cons (pg_name (i := 6) sc_law.nd rfl (by first | exact Or.inl rfl | exact Or.inr rfl)) (pgs_nil)))) (fun _ _ _ _ _ => pts_nil') (fun _ _ _ _ _ => sim_tup (sima_cons (sim_callG L2.takes0 (okp__law_kind A) (by decide) hr (by rfl) (sima_cons (sim_v 6) (sima_nil))) (sima_cons (sim_v 6) (sima_cons (sim_ix0 ix_ok os_ix (sim_v 8) (sim_v 13) (fun _ _ => rfl)) (sima_nil)))))) (sim_lst (sima_cons (sim_tup (sima_cons (sim_str) (sima_cons (sim_str) (sima_cons (sim_ix0 ix_ok os_ix (sim_v 8) (sim_neg (sim_int)) (fun _ _ => rfl)) (sima_nil))))) (sima_nil)))))
        (simss_cons (sims_set (i := 10) sc_law.nd rfl (by first | exact Or.inl rfl | exact Or.inr rfl) (sim_callG (takes_of rfl rfl rfl rfl) (ok__law_told A) (by decide) hr (by rfl) (sima_cons (sim_v 7) (sima_nil))))
        (simss_cons (sims_if (simT_not (simT_val ((by refine sim_callR (j := 1 + 8) (k := 10) (ps := ["actual", "due"]) ?tk ?F ?hn ?hj ?hr ?hg ?ha; (case tk => exact (takes_of rfl rfl rfl rfl)); (case F => exact okr__law_equal A 8); (case hn => rfl); (case hj => decide); (case hr => exact hr); (case hg => rfl); (case ha => exact sima_cons (sim_v 10) (sima_cons (sim_v 9) (sima_nil))))))) (simss_one (sims_ret (sim_bl))) (simss_nil))
        (simss_cons (sims_expr (sim_append (sim_v 10) (sima_cons (sim_non) (sima_nil))))
        (simss_cons (sims_set (i := 11) sc_law.nd rfl (by first | exact Or.inl rfl | exact Or.inr rfl) (sim_bin op_mulS os_mulS (sim_str) (sim_bin op_sub os_sub (sim_int) (sim_callB call_len ca_len (by rfl) A.n_len (by decide +kernel) (sima_cons (sim_v 7) (sima_nil))))))
        (simss_cons (sims_set (i := 12) sc_law.nd rfl (by first | exact Or.inl rfl | exact Or.inr rfl) (sim_callG (takes_of rfl rfl rfl rfl) (ok__law_pick A) (by decide) hr (by rfl) (sima_cons (sim_v 1) (sima_cons (sim_lst (sima_cons (sim_non) (sima_cons (sim_lst (sima_cons (sim_v 7) (sima_nil))) (sima_cons (sim_bin op_addW os_add (sim_v 7) (sim_str)) (sima_cons (sim_str) (sima_cons (sim_bin op_addW os_add (sim_bin op_addW os_add (sim_v 11) (sim_v 7)) (sim_str)) (sima_cons (sim_int) (sima_nil)))))))) (sima_nil)))))
        (simss_one (sims_ret (sim_and ((by refine sim_callR (j := 1 + 8) (k := 10) (ps := ["actual", "due"]) ?tk ?F ?hn ?hj ?hr ?hg ?ha; (case tk => exact (takes_of rfl rfl rfl rfl)); (case F => exact okr__law_equal A 8); (case hn => rfl); (case hj => decide); (case hr => exact hr); (case hg => rfl); (case ha => exact sima_cons (sim_callG (takes_of rfl rfl rfl rfl) (ok__law_told A) (by decide) hr (by rfl) (sima_cons (sim_v 7) (sima_nil))) (sima_cons (sim_v 9) (sima_nil))))) (sim_and (sim_cmp (op_eqD hr.units) os_eq (sim_callG (takes_of rfl rfl rfl rfl) (ok__law_told A) (by decide) hr (by rfl) (sima_cons (sim_v 12) (sima_nil))) (sim_str) (nomark _)) (sim_one (sim_isi (T := "list") (by decide) (by rfl) A.n_isinstance (by rfl) A.n_list (by decide +kernel) (sim_callG (takes_of rfl rfl rfl rfl) (ok__law_told A) (by decide) hr (by rfl) (sima_cons (sim_bin op_addW os_add (sim_v 11) (sim_v 7)) (sima_nil))))))))))))))))))))
end
end K65

set_option Elab.async false
set_option linter.all false
set_option maxRecDepth 100000
namespace K65
open PySem PySem.Spec PyProof.Rows L2 Sm
local instance tb_K65b : TB := ⟨[]⟩
def rowW (r : List Int) : W := .tup (r.map W.int)
def rowsW (R : List (List Int)) : W := .tup (R.map rowW)
theorem hasF_int (j : Int) (r : List Int) : hasF (.int j) (r.map W.int) = decide (j ∈ r) := by
  induction r with
  | nil => rfl
  | cons x r ih =>
    unfold hasF at ih ⊢
    rw [List.map_cons, List.any_cons, ih]
    show (x == j || _) = _
    by_cases e : x = j
    · subst e; simp
    · have : (x == j) = false := by simpa using e
      rw [this]
      simp [Ne.symm e]
theorem flat_ints (r : List Int) : (r.map W.int).all flatW = true := by
  rw [List.all_eq_true]
  intro w hw
  obtain ⟨i, _, rfl⟩ := List.mem_map.mp hw
  rfl
@[simp] theorem in_row (j : Int) (r : List Int) (b : Bool) (S : Sto) : inW b (.int j) (rowW r) S = .val (.bl (if b = true then !decide (j ∈ r) else decide (j ∈ r))) S := by
  unfold inW rowW
  simp only [seqW]
  rw [if_pos ⟨rfl, flat_ints r⟩, hasF_int]
def row (R : List (List Int)) (k : Nat) : List Int := R.getD k []
theorem ix_rows (R : List (List Int)) (k : Nat) (h : k < R.length) (S : Sto) : ixW (rowsW R) (.int (k : Int)) S = .val (rowW (row R k)) S := by
  unfold ixW rowsW
  simp only [seqW]
  rw [atI_at, List.getElem?_map, List.getElem?_eq_getElem h]
  simp [row, h]
/-! ### the stream of draws -/
def StAt (S : Sto) (n : Nat) (xs : List Int) (a k : Int) : Prop := S[n]? = some (.lst [.lst (xs.map W.int), .int a, .int k])
def Strm (S : Sto) (n : Nat) : Prop := ∃ xs a k, 0 ≤ k ∧ StAt S n xs a k
theorem next_eq {S : Sto} {n : Nat} {many : Int} (hs : Strm S n) (hm : 0 < many) (hb : many ≤ 1000000000) :
    ∃ d S', m__law_next [.box n, .int many] S = .val (.int d) S' ∧ 0 ≤ d ∧ d < many ∧ Strm S' n ∧ S'.length = S.length ∧ ∀ m : Nat, m ≠ n → S'[m]? = S[m]? := by
  obtain ⟨xs, a, k, hk, h⟩ := hs
  unfold StAt at h
  have hn : n < S.length := (List.getElem?_eq_some_iff.mp h).1
  -- the last rows
  have last : ∀ (a k : Int) (S : Sto) (x2 x3 : Option W), S[n]? = some (.lst [.lst (xs.map W.int), .int a, .int k]) → 0 ≤ k → ∃ d S', outD ((sSeq (sSet 4 (m2 modW (mCa intW (mCons (m2 ixW (mV 0) (mC (.int 1))) (mNil))) (mV 1))) (sSeq (sPut (m2 fdivW (m2 ixW (mV 0) (mC (.int 1))) (mV 1)) (mV 0) (mC (.int 1))) (sRet (mV 4)))) [some (.box n), some (.int many), x2, x3, none] S) = .val (.int d) S' ∧
      0 ≤ d ∧ d < many ∧ Strm S' n ∧ S'.length = S.length ∧ ∀ m : Nat, m ≠ n → S'[m]? = S[m]? := by
    intro a k S x2 x3 h hk
    have hn : n < S.length := (List.getElem?_eq_some_iff.mp h).1
    have e1 : ixW (.box n) (.int 1) S = .val (.int a) S := by rw [ixW_box h]; rfl
    have p1 : ∀ w, setW (.box n) (.int 1) w S = some (S.set n (.lst [.lst (xs.map W.int), w, .int k])) := by
      intro w
      simp only [setW, h]
      rfl
    refine ⟨a % many, S.set n (.lst [.lst (xs.map W.int), .int (a / many), .int k]), ?_, Int.emod_nonneg _ (by omega), Int.emod_lt_of_pos _ hm, ⟨xs, a / many, k, hk, by unfold StAt; rw [List.getElem?_set_self hn]⟩, by simp, fun m hm => List.getElem?_set_ne (Ne.symm hm)⟩
    simp [e1, hm, hb, p1]
  have e0 : ixW (.box n) (.int 0) S = .val (.lst (xs.map W.int)) S := by rw [ixW_box h]; rfl
  have e1 : ixW (.box n) (.int 1) S = .val (.int a) S := by rw [ixW_box h]; rfl
  have e2 : ixW (.box n) (.int 2) S = .val (.int k) S := by rw [ixW_box h]; rfl
  have p1 : ∀ w, setW (.box n) (.int 1) w S = some (S.set n (.lst [.lst (xs.map W.int), w, .int k])) := by
    intro w
    simp only [setW, h]
    rfl
  have p2 : ∀ w u, setW (.box n) (.int 2) w (S.set n (.lst [.lst (xs.map W.int), u, .int k])) = some ((S.set n (.lst [.lst (xs.map W.int), u, .int k])).set n (.lst [.lst (xs.map W.int), u, w])) := by
    intro w u
    simp only [setW, List.getElem?_set_self hn]
    rfl
  by_cases ha : a = 0
  · -- a new cell
    have cell : ∃ c : Int, (sIf (mB (m2 (ltW) (mV 2) (mCa lenW (mCons (m2 ixW (mV 0) (mC (.int 0))) (mNil))))) (sSet 3 (mCa absW (mCons (m2 ixW (m2 ixW (mV 0) (mC (.int 0))) (mV 2)) (mNil)))) (sNil)) [some (.box n), some (.int many), some (.int k), some (.int (7 + k)), none] S = .nx [some (.box n), some (.int many), some (.int k), some (.int c), none] S := by
      by_cases hl : k < (xs.length : Int)
      · have ei : atI (xs.map W.int) k = some (.int (xs.getD k.toNat 0)) := by
          rw [atI_at' _ _ hk, List.getElem?_map]
          have hlt : k.toNat < xs.length := by omega
          simp [hlt]
        exact ⟨_, by simp [e0, hl, ei]; rfl⟩
      · exact ⟨_, by simp [e0, hl]; rfl⟩
    obtain ⟨c, ec⟩ := cell
    have cell2 : ∃ c2 : Int, (sIf (mB (m2 (ltW) (mV 3) (m2 powW (mC (.int 10)) (mC (.int 18))))) (sSeq (sSet 3 (m2 modW (mCa intW (mCons (m2 addW (m2 addW (m2 mulW (mV 3) (mC (.int 48271))) (m2 mulW (mV 2) (mC (.int 69621)))) (mC (.int 11))) (mNil))) (mC (.int 2147483647)))) (sSet 3 (m2 addW (m2 mulW (m2 modW (mCa intW (mCons (m2 addW (m2 mulW (mV 3) (mC (.int 16807))) (mC (.int 13))) (mNil))) (mC (.int 2147483647))) (mC (.int 65537))) (mV 3)))) (sNil)) [some (.box n), some (.int many), some (.int k), some (.int c), none] S = .nx [some (.box n), some (.int many), some (.int k), some (.int c2), none] S := by
      by_cases hl : c < 1000000000000000000
      · exact ⟨_, by simp [hl]; rfl⟩
      · exact ⟨_, by simp [hl]; rfl⟩
    obtain ⟨c2, ec2⟩ := cell2
    have hn2 : ((S.set n (.lst [.lst (xs.map W.int), .int c2, .int k])).set n (.lst [.lst (xs.map W.int), .int c2, .int (k + 1)]))[n]? = some (.lst [.lst (xs.map W.int), .int c2, .int (k + 1)]) := List.getElem?_set_self (by simpa using hn)
    obtain ⟨d, S', e, r1, r2, r3, r4, r5⟩ := last c2 (k + 1) _ (some (.int k)) (some (.int c2)) hn2 (by omega)
    refine ⟨d, S', ?_, r1, r2, r3, by rw [r4]; simp, fun m hm => by rw [r5 m hm, List.getElem?_set_ne (Ne.symm hm), List.getElem?_set_ne (Ne.symm hm)]⟩
    rw [← e]
    unfold m__law_next b__law_next
    generalize (sIf (mB (m2 (ltW) (mV 2) (mCa lenW (mCons (m2 ixW (mV 0) (mC (.int 0))) (mNil))))) (sSet 3 (mCa absW (mCons (m2 ixW (m2 ixW (mV 0) (mC (.int 0))) (mV 2)) (mNil)))) (sNil)) = I1 at ec ⊢
    generalize (sIf (mB (m2 (ltW) (mV 3) (m2 powW (mC (.int 10)) (mC (.int 18))))) (sSeq (sSet 3 (m2 modW (mCa intW (mCons (m2 addW (m2 addW (m2 mulW (mV 3) (mC (.int 48271))) (m2 mulW (mV 2) (mC (.int 69621)))) (mC (.int 11))) (mNil))) (mC (.int 2147483647)))) (sSet 3 (m2 addW (m2 mulW (m2 modW (mCa intW (mCons (m2 addW (m2 mulW (mV 3) (mC (.int 16807))) (mC (.int 13))) (mNil))) (mC (.int 2147483647))) (mC (.int 65537))) (mV 3)))) (sNil)) = I2 at ec2 ⊢
    generalize (sSeq (sSet 4 (m2 modW (mCa intW (mCons (m2 ixW (mV 0) (mC (.int 1))) (mNil))) (mV 1))) (sSeq (sPut (m2 fdivW (m2 ixW (mV 0) (mC (.int 1))) (mV 1)) (mV 0) (mC (.int 1))) (sRet (mV 4)))) = R
    simp [e1, ha, e2, ec, ec2, p1, p2]
  · obtain ⟨d, S', e, r⟩ := last a k S none none h hk
    refine ⟨d, S', ?_, r⟩
    rw [← e]
    simp [m__law_next, b__law_next, e1, ha]

/-! ### drawing without putting back -/
theorem map_erase {α β : Type} (f : α → β) : ∀ (l : List α) (j : Nat), (l.map f).eraseIdx j = (l.eraseIdx j).map f
  | [], _ => rfl
  | _ :: _, 0 => rfl
  | x :: l, j + 1 => by
    show f x :: (l.map f).eraseIdx j = f x :: (l.eraseIdx j).map f
    rw [map_erase f l j]
theorem perm_erase {α : Type} : ∀ (l : List α) (j : Nat) (hj : j < l.length), (l[j] :: l.eraseIdx j).Perm l
  | [], _, h => by simp at h
  | x :: l, 0, _ => .refl _
  | x :: l, j + 1, h => by
    have hj : j < l.length := by simpa using h
    show (l[j] :: x :: l.eraseIdx j).Perm (x :: l)
    exact (List.Perm.swap x l[j] _).trans ((perm_erase l j hj).cons x)
def rgI (n : Nat) : List Int := (List.range n).map fun (i : Nat) => (i : Int)
theorem rangeW_rgI (n : Nat) : rangeW 0 n = (rgI n).map W.int := by
  unfold rangeW rgI
  rw [List.map_map]
  congr 1
  funext i
  simp
theorem rgI_nodup (n : Nat) : (rgI n).Nodup := by
  unfold rgI
  exact List.pairwise_map.mpr (List.nodup_range.imp fun h e => h (by omega))
theorem rgI_mem {n : Nat} {x : Int} (h : x ∈ rgI n) : 0 ≤ x ∧ x < n := by
  unfold rgI at h
  obtain ⟨i, hi, rfl⟩ := List.mem_map.mp h
  have := List.mem_range.mp hi
  omega
/-- different places -/
structure Pls (ring : Int) (ps : List Int) : Prop where
  nd : ps.Nodup
  inr : ∀ p ∈ ps, 0 ≤ p ∧ p < ring
theorem pls_of {n : Nat} {out left : List Int} (h : (out ++ left).Perm (rgI n)) : Pls n out := by
  have hn : (out ++ left).Nodup := h.nodup_iff.mpr (rgI_nodup n)
  exact ⟨(List.nodup_append.mp hn).1, fun p hp => rgI_mem (h.subset (List.mem_append_left _ hp))⟩
/-- what a call leaves of the store: the stream, the boxes that were there -/
structure Kp (n : Nat) (S S' : Sto) : Prop where
  st : Strm S' n
  len : S.length ≤ S'.length
  kp : ∀ m : Nat, m < S.length → m ≠ n → S'[m]? = S[m]?
theorem strm_push {S : Sto} {n : Nat} (h : Strm S n) (c : Cell) : Strm (S ++ [c]) n := by
  obtain ⟨xs, a, k, hk, h⟩ := h
  refine ⟨xs, a, k, hk, ?_⟩
  unfold StAt at h ⊢
  rw [List.getElem?_append_left (List.getElem?_eq_some_iff.mp h).1]
  exact h
theorem strm_lt {S : Sto} {n : Nat} (h : Strm S n) : n < S.length := by
  obtain ⟨xs, a, k, hk, h⟩ := h
  exact (List.getElem?_eq_some_iff.mp h).1
structure IsT (R : List (List Int)) : Prop where
  ge : 1 ≤ R.length
  le : R.length ≤ 8
  asc : ∀ r ∈ R, r.Pairwise (· < ·)
  rng : ∀ r ∈ R, ∀ x ∈ r, 0 ≤ x ∧ x < (R.length : Int)
  irr : ∀ i : Nat, i < R.length → (i : Int) ∉ row R i
  once : ∀ i j : Nat, i < R.length → j < i → (decide ((j : Int) ∈ row R i) = !decide ((i : Int) ∈ row R j))
theorem rgI_asc (n : Nat) : (rgI n).Pairwise (· < ·) := by
  unfold rgI
  refine List.pairwise_map.mpr ?_
  exact List.pairwise_lt_range.imp fun h => by omega
theorem row_set {R : List (List Int)} {i k : Nat} {r : List Int} (hi : i < R.length) : row (R.set i r) k = if k = i then r else row R k := by
  unfold row
  rw [List.getD_eq_getElem?_getD, List.getD_eq_getElem?_getD]
  by_cases e : k = i
  · subst e; simp [hi]
  · rw [if_neg e, List.getElem?_set_ne (Ne.symm e)]
structure PT (R : List (List Int)) (D : Nat → Nat → Prop) : Prop where
  nd : ∀ i, i < R.length → (row R i).Nodup
  rg : ∀ i, i < R.length → ∀ x ∈ row R i, ∃ j : Nat, j < R.length ∧ x = (j : Int) ∧ j ≠ i
  yes : ∀ j i : Nat, j < i → i < R.length → D j i → decide ((j : Int) ∈ row R i) = !decide ((i : Int) ∈ row R j)
  no : ∀ j i : Nat, j < i → i < R.length → ¬ D j i → (j : Int) ∉ row R i ∧ (i : Int) ∉ row R j
theorem PT.imp {R : List (List Int)} {D D' : Nat → Nat → Prop} (h : PT R D) (e : ∀ j i, j < i → i < R.length → (D j i ↔ D' j i)) : PT R D' :=
  ⟨h.nd, h.rg, fun j i h1 h2 d => h.yes j i h1 h2 ((e j i h1 h2).mpr d), fun j i h1 h2 d => h.no j i h1 h2 fun z => d ((e j i h1 h2).mp z)⟩
/-- a beats b -/
theorem PT.add {R : List (List Int)} {D : Nat → Nat → Prop} (h : PT R D) {a b : Nat} (ha : a < R.length) (hb : b < R.length) (hab : a ≠ b) (hn : ∀ j i, j < i → ((j = a ∧ i = b) ∨ (j = b ∧ i = a)) → ¬ D j i) :
    PT (R.set a (row R a ++ [(b : Int)])) (fun j i => D j i ∨ (j = a ∧ i = b) ∨ (j = b ∧ i = a)) := by
  have nm : (b : Int) ∉ row R a ∧ (a : Int) ∉ row R b := by
    rcases Nat.lt_or_gt_of_ne hab with h1 | h1
    · have := h.no a b h1 hb (hn a b h1 (.inl ⟨rfl, rfl⟩))
      exact ⟨this.2, this.1⟩
    · have := h.no b a h1 ha (hn b a h1 (.inr ⟨rfl, rfl⟩))
      exact ⟨this.1, this.2⟩
  have mem : ∀ (x k : Nat), ((x : Int) ∈ row (R.set a (row R a ++ [(b : Int)])) k) ↔ ((x : Int) ∈ row R k ∨ (k = a ∧ x = b)) := by
    intro x k
    rw [row_set ha]
    by_cases e : k = a
    · subst e
      rw [if_pos rfl, List.mem_append, List.mem_singleton]
      constructor
      · rintro (z | z)
        · exact .inl z
        · exact .inr ⟨rfl, by omega⟩
      · rintro (z | z)
        · exact .inl z
        · exact .inr (by omega)
    · simp [e]
  refine ⟨fun i hi => ?_, fun i hi x hx => ?_, fun j i h1 h2 d => ?_, fun j i h1 h2 d => ?_⟩
  · rw [List.length_set] at hi
    rw [row_set ha]
    split
    · exact List.nodup_append.mpr ⟨h.nd a ha, by simp, fun x hx y hy e => by rw [List.mem_singleton] at hy; subst hy; subst e; exact nm.1 hx⟩
    · exact h.nd i hi
  · rw [List.length_set] at hi ⊢
    rw [row_set ha] at hx
    split at hx
    · rename_i e
      subst e
      rcases List.mem_append.mp hx with hx | hx
      · exact h.rg _ ha x hx
      · rw [List.mem_singleton] at hx
        exact ⟨b, hb, hx, Ne.symm hab⟩
    · exact h.rg i hi x hx
  · rw [List.length_set] at h2
    have e1 := mem j i
    have e2 := mem i j
    by_cases c1 : j = a ∧ i = b
    · obtain ⟨rfl, rfl⟩ := c1
      have n1 : ¬ (j : Int) ∈ row (R.set j (row R j ++ [(i : Int)])) i := fun z => by
        rcases e1.mp z with z | z
        · exact nm.2 z
        · omega
      have y1 : (i : Int) ∈ row (R.set j (row R j ++ [(i : Int)])) j := e2.mpr (.inr ⟨rfl, rfl⟩)
      simp only [n1, y1, decide_true, decide_false, Bool.not_true]
    · by_cases c2 : j = b ∧ i = a
      · obtain ⟨rfl, rfl⟩ := c2
        have n1 : ¬ (i : Int) ∈ row (R.set i (row R i ++ [(j : Int)])) j := fun z => by
          rcases e2.mp z with z | z
          · exact nm.2 z
          · omega
        have y1 : (j : Int) ∈ row (R.set i (row R i ++ [(j : Int)])) i := e1.mpr (.inr ⟨rfl, rfl⟩)
        simp only [n1, y1, decide_true, decide_false, Bool.not_false]
      · have d' : D j i := by
          rcases d with d | d | d
          · exact d
          · exact (c1 d).elim
          · exact (c2 d).elim
        have r1 : ((j : Int) ∈ row (R.set a (row R a ++ [(b : Int)])) i) ↔ (j : Int) ∈ row R i := by
          rw [e1]
          constructor
          · rintro (z | z)
            · exact z
            · exact (c2 ⟨z.2, z.1⟩).elim
          · exact .inl
        have r2 : ((i : Int) ∈ row (R.set a (row R a ++ [(b : Int)])) j) ↔ (i : Int) ∈ row R j := by
          rw [e2]
          constructor
          · rintro (z | z)
            · exact z
            · exact (c1 ⟨z.1, z.2⟩).elim
          · exact .inl
        have := h.yes j i h1 h2 d'
        simp only [r1, r2]
        exact this
  · rw [List.length_set] at h2
    have c1 : ¬ (j = a ∧ i = b) := fun z => d (.inr (.inl z))
    have c2 : ¬ (j = b ∧ i = a) := fun z => d (.inr (.inr z))
    obtain ⟨m1, m2⟩ := h.no j i h1 h2 fun z => d (.inl z)
    exact ⟨fun z => by
      rcases (mem j i).mp z with z | z
      · exact m1 z
      · exact c2 ⟨z.2, z.1⟩, fun z => by
      rcases (mem i j).mp z with z | z
      · exact m2 z
      · exact c1 ⟨z.1, z.2⟩⟩
/-- all drawn, sorted -/
theorem srt_lt {r : List Int} (h : r.Nodup) : (sortI r).Pairwise (· < ·) := by
  have h1 := sortI_srt r
  have h2 : (sortI r).Nodup := (sortI_perm r).nodup_iff.mpr h
  exact (h1.and h2).imp fun ⟨a, b⟩ => by omega
theorem PT.isT {R : List (List Int)} {D : Nat → Nat → Prop} (h : PT R D) (hd : ∀ j i, j < i → i < R.length → D j i) (h1 : 1 ≤ R.length) (h2 : R.length ≤ 8) : IsT ((List.range R.length).map fun i => sortI (row R i)) := by
  have rw_ : ∀ i, i < R.length → row ((List.range R.length).map fun i => sortI (row R i)) i = sortI (row R i) := fun i hi => by
    show List.getD _ i [] = _
    rw [List.getD_eq_getElem?_getD, List.getElem?_map, List.getElem?_range hi]
    rfl
  have mem : ∀ i, i < R.length → ∀ x : Int, x ∈ sortI (row R i) ↔ x ∈ row R i := fun i hi x => (sortI_perm (row R i)).mem_iff
  refine ⟨by simpa using h1, by simpa using h2, fun r hr => ?_, fun r hr x hx => ?_, fun i hi => ?_, fun i j hi hj => ?_⟩
  · obtain ⟨i, hi, rfl⟩ := List.mem_map.mp hr
    exact srt_lt (h.nd i (List.mem_range.mp hi))
  · obtain ⟨i, hi, rfl⟩ := List.mem_map.mp hr
    obtain ⟨j, hj, rfl, _⟩ := h.rg i (List.mem_range.mp hi) x ((mem i (List.mem_range.mp hi) x).mp hx)
    simp
    omega
  · rw [List.length_map, List.length_range] at hi
    rw [rw_ i hi, mem i hi]
    intro z
    obtain ⟨j, _, e, ne⟩ := h.rg i hi _ z
    omega
  · rw [List.length_map, List.length_range] at hi
    have hj' : j < R.length := by omega
    rw [rw_ i hi, rw_ j hj']
    simp only [mem i hi, mem j hj']
    exact h.yes j i hj hi (hd j i hj hi)

/-! ### the tournament drawn -/
theorem rangeW_succ (lo : Int) (k : Nat) : rangeW lo (k + 1) = .int lo :: rangeW (lo + 1) k := by
  unfold rangeW
  rw [List.range_succ_eq_map, List.map_cons, List.map_map]
  congr 1
  · simp
  · apply List.map_congr_left
    intro a _
    simp only [Function.comp, Nat.succ_eq_add_one, W.int.injEq]
    omega
theorem sortedW_box {S : Sto} {b : Nat} {r : List Int} (h : S[b]? = some (.lst (r.map W.int))) : sortedW [.box b] S = .val (.lst ((sortI r).map W.int)) S := by
  simp [sortedW, seqW, h, intsO_map]
def Bx (S : Sto) (b : Nat) (R : List (List Int)) : Prop := ∀ i : Nat, i < R.length → S[b + i]? = some (.lst ((row R i).map W.int))
def bxs (b m : Nat) : List W := (List.range m).map fun i => W.box (b + i)
theorem strm_set {S : Sto} {n k : Nat} (h : Strm S n) (hk : k ≠ n) (c : Cell) : Strm (S.set k c) n := by
  obtain ⟨xs, a, i, hi, h⟩ := h
  refine ⟨xs, a, i, hi, ?_⟩
  unfold StAt at h ⊢
  rw [List.getElem?_set_ne hk]
  exact h
theorem bx_set {S : Sto} {b k : Nat} {R : List (List Int)} {r : List Int} (h : Bx S b R) (hk : k < R.length) : Bx (S.set (b + k) (.lst (r.map W.int))) b (R.set k r) := by
  intro i hi
  rw [List.length_set] at hi
  rw [row_set hk]
  have hlt : b + k < S.length := (List.getElem?_eq_some_iff.mp (h k hk)).1
  by_cases e : i = k
  · subst e
    rw [if_pos rfl, List.getElem?_set_self hlt]
  · rw [if_neg e, List.getElem?_set_ne (by omega)]
    exact h i hi
theorem it_step {S : Sto} {one m : Nat} (h1 : one < m) (hm : m ≤ 8) : itR2 [.int ((one : Int) + 1), .int (m : Int)] S = .val (.seq (rangeW ((one + 1 : Nat) : Int) (m - (one + 1)))) S := by
  rw [itR2_int, if_pos (by unfold big; omega), show ((m : Int) - ((one : Int) + 1)).toNat = m - (one + 1) by omega, show (one : Int) + 1 = ((one + 1 : Nat) : Int) by omega]
theorem mIa_val {f : List W → M It8} {ms : EM (List W)} {env : Sm.Env} {S S' : Sto} {vs : List W} {r : Out It8} (h : ms env S = .val vs S') (hf : f vs S' = r) : mIa f ms env S = r := by
  show Out.bind (ms env S) f = r
  rw [h]
  exact hf
theorem bxs_succ (b k : Nat) : bxs b (k + 1) = bxs b k ++ [.box (b + k)] := by
  unfold bxs
  rw [List.range_succ, List.map_append]
  rfl
theorem row_rep (m i : Nat) : row (List.replicate m []) i = [] := by
  unfold row
  rw [List.getD_eq_getElem?_getD, List.getElem?_replicate]
  split <;> rfl
def srtB (S : Sto) (w : W) : W := match w with
  | .box b => match S[b]? with
    | some (.lst ws) => match intsO ws with
      | some ns => rowW (sortI ns)
      | none => .non
    | _ => .non
  | _ => .non
end K65

set_option Elab.async false
set_option linter.all false
set_option maxRecDepth 100000
namespace K65
open PySem PySem.Spec PyProof.Rows L2 Sm
local instance tb_65ta : TB := ⟨[]⟩
/-! ### results, relations, draws -/
theorem pop_step {S : Sto} {n b i : Nat} {left : List Int} {env : Sm.Env} (hs : Strm S n) (hb : S[b]? = some (.lst (left.map W.int))) (hnb : b ≠ n) (hl : left ≠ []) (hm : left.length ≤ 1000) (e0 : env[0]? = some (some (.box n))) (ei : env[i]? = some (some (.box b))) :
    ∃ (j : Nat) (hj : j < left.length) (S' : Sto), mMt popAtW (mV i) (mCons (mCa (cal 2 m__law_next) (mCons (mV 0) (mCons (mCa lenW (mCons (mV i) (mNil))) (mNil)))) (mNil)) env S = .val (.int left[j]) S' ∧
      Strm S' n ∧ S'[b]? = some (.lst ((left.eraseIdx j).map W.int)) ∧ S'.length = S.length ∧ ∀ m : Nat, m ≠ n → m ≠ b → S'[m]? = S[m]? := by
  have hpos : 0 < left.length := List.length_pos_iff.mpr hl
  obtain ⟨d, S1, e1, r1, r2, r3, r4, r5⟩ := next_eq (many := (left.length : Int)) hs (by omega) (by omega)
  have hb1 : S1[b]? = some (.lst (left.map W.int)) := by rw [r5 b hnb]; exact hb
  have hj : d.toNat < left.length := by omega
  have ed : ((d.toNat : Nat) : Int) = d := Int.toNat_of_nonneg r1
  have ep := popAtW_box hb1 d.toNat (by simpa using hj) (by simpa using hm)
  rw [ed, List.getElem_map, map_erase] at ep
  have hbl : b < S1.length := (List.getElem?_eq_some_iff.mp hb1).1
  refine ⟨d.toNat, hj, S1.set b (.lst ((left.eraseIdx d.toNat).map W.int)), ?_, ?_, List.getElem?_set_self hbl, by simp [r4], fun m h1 h2 => by rw [List.getElem?_set_ne (Ne.symm h2), r5 m h1]⟩
  · have el := lenW_box hb
    simp [e0, ei, el, e1, ep]
  · obtain ⟨xs, a, k, hk, h⟩ := r3
    exact ⟨xs, a, k, hk, by unfold StAt at h ⊢; rw [List.getElem?_set_ne hnb]; exact h⟩
theorem nxm {j n : Nat} {me : EM W} {k : Int} {env : Sm.Env} {S : Sto} (he : env[j]? = some (some (.box n))) (hm : me env S = .val (.int k) S) (hs : Strm S n) (h1 : 0 < k) (h2 : k ≤ 1000000000) : ∃ (d : Nat) (S' : Sto), mCa (cal 2 m__law_next) (mCons (mV j) (mCons me (mNil))) env S = .val (.int (d : Int)) S' ∧ (d : Int) < k ∧ Strm S' n := by
  obtain ⟨d, S', e, r1, r2, r3, -, -⟩ := next_eq (many := k) hs h1 h2
  refine ⟨d.toNat, S', ?_, by omega, r3⟩
  rw [Int.toNat_of_nonneg r1]
  have v0 : mV j env S = .val (.box n) S := by simp [he]
  exact Sm.call2e v0 hm e
theorem nxk {j n : Nat} {me : EM W} {k : Int} {env : Sm.Env} {S : Sto} (he : env[j]? = some (some (.box n))) (hm : me env S = .val (.int k) S) (hs : Strm S n) (h1 : 0 < k) (h2 : k ≤ 1000000000) : ∃ (d : Nat) (S' : Sto), mCa (cal 2 m__law_next) (mCons (mV j) (mCons me (mNil))) env S = .val (.int (d : Int)) S' ∧ (d : Int) < k ∧ Strm S' n ∧ S'.length = S.length ∧ ∀ m : Nat, m ≠ n → S'[m]? = S[m]? := by
  obtain ⟨d, S', e, r1, r2, r3, r4, r5⟩ := next_eq (many := k) hs h1 h2
  refine ⟨d.toNat, S', ?_, by omega, r3, r4, r5⟩
  rw [Int.toNat_of_nonneg r1]
  have v0 : mV j env S = .val (.box n) S := by simp [he]
  exact Sm.call2e v0 hm e
theorem cons1 {m : EM W} {env : Sm.Env} {S S1 : Sto} {w : W} (h : m env S = .val w S1) : mCons m (mNil) env S = .val [w] S1 := by
  show Out.bind (m env S) _ = _
  rw [h]
  rfl
theorem ca1t {f : List W → M W} {a : EM W} {env : Sm.Env} {S S1 : Sto} {w : W} {r : Out W} (ha : a env S = .val w S1) (h : f [w] S1 = r) : mCa f (mCons a (mNil)) env S = r := by
  simp [ha, h]
theorem lst2 {a b : EM W} {env : Sm.Env} {S S1 S2 : Sto} {w u : W} (ha : a env S = .val w S1) (hb : b env S1 = .val u S2) : mLst (mCons a (mCons b (mNil))) env S = .val (.lst [w, u]) S2 := by
  simp [ha, hb]
theorem tup2 {a b : EM W} {env : Sm.Env} {S S1 S2 : Sto} {w u : W} (ha : a env S = .val w S1) (hb : b env S1 = .val u S2) : mTup (mCons a (mCons b (mNil))) env S = .val (.tup [w, u]) S2 := by
  simp [ha, hb]
theorem tup_lst (ws : List W) (h : ws.length ≤ 1000) (S : Sto) : tupW [.lst ws] S = .val (.tup ws) S := by
  have : ws.length ≤ 100000 := by omega
  simp [tupW, seqW]
def nt : W → Nat
  | .int i => i.toNat
  | _ => 0
theorem filt_W (n : Nat) (D : Nat → Bool) : ((rangeW 0 n).filter fun w => D (nt w)).map id = ((rgI n).filter fun q => D q.toNat).map W.int := by
  rw [List.map_id, rangeW_rgI, List.filter_map]
  rfl
theorem stream_eq (ns : List Int) : m__law_stream [.scr (ns.map W.int)] [] = .val (.box 0) [.lst [.lst (ns.map W.int), .int 0, .int 0]] := by
  simp [m__law_stream, b__law_stream]
theorem strm0 (ns : List Int) : Strm [.lst [.lst (ns.map W.int), .int 0, .int 0]] 0 := ⟨ns, 0, 0, by omega, rfl⟩
end K65

set_option Elab.async false
set_option linter.all false
set_option maxRecDepth 100000
namespace K65
open PySem PySem.Spec PyProof.Rows L2 Sm
local instance tb_65s : TB := ⟨[]⟩
/-! ### the law's comparison of equal data -/
def eqk : Nat → W → Bool
  | 0, _ => false
  | _ + 1, .non => true
  | _ + 1, .bl _ => true
  | _ + 1, .int _ => true
  | _ + 1, .str s => PyData.strOk s
  | n + 1, .tup ws => decide (ws.length ≤ 1000) && ws.all (eqk n)
  | n + 1, .lst ws => decide (ws.length ≤ 1000) && ws.all (eqk n)
  | _ + 1, _ => false
theorem eqk_ints {n : Nat} (r : List Int) : (r.map W.int).all (eqk (n + 1)) = true := by
  rw [List.all_eq_true]
  intro w hw
  obtain ⟨x, _, rfl⟩ := List.mem_map.mp hw
  rfl
theorem eqk_row {n : Nat} {r : List Int} (h : r.length ≤ 1000) : eqk (n + 2) (rowW r) = true := by
  show (decide ((r.map W.int).length ≤ 1000) && (r.map W.int).all (eqk (n + 1))) = true
  rw [eqk_ints, List.length_map, decide_eq_true h]
  rfl
theorem eqk_rows {n : Nat} {R : List (List Int)} (h : R.length ≤ 1000) (hr : ∀ r ∈ R, r.length ≤ 1000) : eqk (n + 3) (rowsW R) = true := by
  show (decide ((R.map rowW).length ≤ 1000) && (R.map rowW).all (eqk (n + 2))) = true
  rw [List.length_map, decide_eq_true h]
  simp only [Bool.true_and]
  rw [List.all_eq_true]
  intro w hw
  obtain ⟨r, h, rfl⟩ := List.mem_map.mp hw
  exact eqk_row (hr r h)
end K65

set_option Elab.async false
set_option linter.all false
set_option maxRecDepth 100000
namespace K65
open PySem PySem.Spec PyProof.Rows L2 Sm
local instance tb_65c : TB := ⟨[]⟩
/-! ### texts as lists of code points -/
def T (l : List Nat) : Str := ⟨l.toArray⟩
theorem T_len (l : List Nat) : (T l).length = l.length := by
  show l.toArray.size = l.length
  simp
theorem T_ok {l : List Nat} (h : l.all (fun c => decide (c < 1114112)) = true) : PyData.strOk (T l) = true := by
  show l.toArray.all (fun c => decide (c < 1114112)) = true
  simpa using h
theorem T_add (a b : List Nat) : T a ++ T b = T (a ++ b) := by
  show (⟨a.toArray ++ b.toArray⟩ : Str) = _
  unfold T
  congr 1
  simp
theorem T_inj {a b : List Nat} (h : T a = T b) : a = b := by
  unfold T at h
  have := Str.mk.inj h
  simpa using this
variable {S : Sto}
theorem lenT {l : List Nat} (h : l.length ≤ 1000) : lenW [.str (T l)] S = .val (.int (l.length : Nat)) S := by
  show (if (T l).length ≤ lim then Out.val (W.int ((T l).length : Nat)) S else .bad) = _
  rw [T_len, if_pos (by unfold lim; omega)]
theorem ixT {l : List Nat} (h : l.length ≤ 1000) {k c : Nat} (hk : l[k]? = some c) : ixSW (.str (T l)) (.int (k : Int)) S = .val (.str (T [c])) S := by
  show (if (T l).length ≤ lim then (match atI (T l).cps.toList (k : Int) with
    | some c => Out.val (W.str ⟨#[c]⟩) S
    | none => .bad) else .bad) = _
  rw [T_len, if_pos (by unfold lim; omega)]
  have e : atI (T l).cps.toList (k : Int) = some c := by
    rw [atI_at]
    exact hk
  rw [e]
  rfl
theorem inT (c : Nat) (z : Str) : inSW false (.str (T [c])) (.str z) S = .val (.bl (decide (c ∈ z.cps.toList))) S := rfl
theorem eqT {a b : List Nat} (ha : a.all (fun c => decide (c < 1114112)) = true) (hb : b.all (fun c => decide (c < 1114112)) = true) : eqW (.str (T a)) (.str (T b)) S = .val (.bl (decide (a = b))) S := by
  have e : eqB (.str (T a)) (.str (T b)) = some (decide (a = b)) := by
    have h1 := T_ok ha
    have h2 := T_ok hb
    have h3 : (T a == T b) = decide (a = b) := by
      rw [Bool.eq_iff_iff, beq_iff_eq, decide_eq_true_eq]
      exact ⟨T_inj, fun e => by rw [e]⟩
    simp [eqB, toD, SeqAt.shaped, PyData.eqv, PyData.canLay0, PyData.depth, h1, h2, h3]
  unfold eqW
  rw [e]
theorem slT {l : List Nat} (h : l.length ≤ 1000) {a e : Nat} (ha : a ≤ l.length) (he : e ≤ l.length) : slSW (.str (T l)) (some (a : Int)) (some (e : Int)) S = .val (.str (T ((l.drop a).take (e - a)))) S := by
  show (if (T l).length ≤ lim then Out.val (W.str (cutS (T l) (some (a : Int)) (some (e : Int)))) S else .bad) = _
  rw [T_len, if_pos (by unfold lim; omega)]
  have e1 : cutS (T l) (some (a : Int)) (some (e : Int)) = T ((l.drop a).take (e - a)) := by
    unfold cutS
    rw [HT.sIx_nat, HT.sIx_nat, T_len, Nat.min_eq_left ha, Nat.min_eq_left he]
    rfl
  rw [e1]
/-! ### while -/
theorem wh_f {t : EM Bool} {b : SM} {n : Nat} {env : Sm.Env} {S S1 : Sto} (h : t env S = .val false S1) : whileF t b (n + 1) env S = .nx env S1 := by
  show ofB (t env S) env _ = _
  rw [h]
  rfl
theorem wh_t {t : EM Bool} {b : SM} {n : Nat} {env env2 : Sm.Env} {S S1 S2 : Sto} (h : t env S = .val true S1) (h2 : b env S1 = .nx env2 S2) : whileF t b (n + 1) env S = whileF t b n env2 S2 := by
  show ofB (t env S) env _ = _
  rw [h]
  show (match b env S1 with
        | .nx env2 S2 => whileF t b n env2 S2
        | .ct env2 S2 => whileF t b n env2 S2
        | .bk env2 S2 => .nx env2 S2
        | .rt v S2 => .rt v S2
        | .xc e env2 S2 => .xc e env2 S2
        | .bad => .bad) = _
  rw [h2]
theorem wh_x {t : EM Bool} {b : SM} {n : Nat} {env env2 : Sm.Env} {S S1 S2 : Sto} {e : Exn} (h : t env S = .val true S1) (h2 : b env S1 = .xc e env2 S2) : whileF t b (n + 1) env S = .xc e env2 S2 := by
  show ofB (t env S) env _ = _
  rw [h]
  show (match b env S1 with
        | .nx env2 S2 => whileF t b n env2 S2
        | .ct env2 S2 => whileF t b n env2 S2
        | .bk env2 S2 => .nx env2 S2
        | .rt v S2 => .rt v S2
        | .xc e env2 S2 => .xc e env2 S2
        | .bad => .bad) = _
  rw [h2]
theorem aug_add {i : Nat} {me : EM W} {env : Sm.Env} {S S1 : Sto} {x y : Int} (hx : env[i]? = some (some (.int x))) (hy : me env S = .val (.int y) S1) : sAug i addIW me env S = .nx (env.set i (some (.int (x + y)))) S1 := by
  simp [sAug, hx, hy]
/-! ### a stretch -/
def stT : EM Bool := (mAndT (mB (m2 (ltW) (mV 3) (mCa lenW (mCons (mV 0) (mNil))))) (mB (m2 (inSW false) (m2 ixSW (mV 0) (mV 3)) (mV 2))))
def stB : SM := (sAug 3 addIW (mC (.int 1)))
theorem b_st : b__stretch = sSeq (sSet 3 (mV 1)) (sSeq (whileF stT stB 400) (sRet (mSlS (mV 0) (mOi (mV 1)) (mOi (mV 3))))) := rfl
theorem ca1 {f : List W → M W} {a : EM W} {env : Sm.Env} {S S1 : Sto} {w : W} {r : Out W} (ha : a env S = .val w S1) (h : f [w] S1 = r) : mCa f (mCons a (mNil)) env S = r := by
  show Out.bind (mCons a (mNil) env S) f = r
  have e : mCons a (mNil) env S = .val [w] S1 := by
    show Out.bind (a env S) _ = _
    rw [ha]
    rfl
  rw [e]
  exact h
theorem lt_int (x y : Int) : ltW (.int x) (.int y) S = .val (.bl (decide (x < y))) S := by
  simp [ltW]
def ste (l : List Nat) (z : Str) (a e : Nat) : Sm.Env := [some (.str (T l)), some (.int (a : Int)), some (.str z), some (.int (e : Int))]
theorem st_loop {l : List Nat} (hl : l.length ≤ 300) (z : Str) (a : Nat) (f : Nat → Bool) (hf : ∀ c, f c = decide (c ∈ z.cps.toList)) : ∀ (r p : List Nat) (n : Nat), l = p ++ r → r.length < n → whileF stT stB n (ste l z a p.length) S = .nx (ste l z a (p.length + (r.takeWhile f).length)) S
  | r, p, 0, _, hn => by omega
  | [], p, n + 1, e, _ => by
    refine wh_f ?_
    have hl2 : l.length = p.length := by rw [e]; simp
    have t1 : mB (m2 (ltW) (mV 3) (mCa lenW (mCons (mV 0) (mNil)))) (ste l z a p.length) S = .val false S := by
      refine Sm.mB_val (Sm.m2_val (x := .int (p.length : Nat)) (S1 := S) rfl (ca1 rfl (lenT (by omega))) ?_)
      rw [lt_int, decide_eq_false (by omega)]
    exact Sm.and_f t1
  | c :: r, p, n + 1, e, hn => by
    have hl2 : l.length = p.length + (r.length + 1) := by rw [e]; simp
    have t1 : mB (m2 (ltW) (mV 3) (mCa lenW (mCons (mV 0) (mNil)))) (ste l z a p.length) S = .val true S := by
      refine Sm.mB_val (Sm.m2_val (x := .int (p.length : Nat)) (S1 := S) rfl (ca1 rfl (lenT (by omega))) ?_)
      rw [lt_int, decide_eq_true (by omega)]
    have hc : l[p.length]? = some c := by rw [e]; simp
    have t2 : mB (m2 (inSW false) (m2 ixSW (mV 0) (mV 3)) (mV 2)) (ste l z a p.length) S = .val (f c) S := by
      rw [hf]
      exact Sm.mB_val (Sm.m2_val (Sm.m2_val (x := .str (T l)) (y := .int (p.length : Nat)) (S1 := S) (S2 := S) rfl rfl (ixT (by omega) hc)) rfl (inT c z))
    have t : stT (ste l z a p.length) S = .val (f c) S := Sm.and_t t1 t2
    cases fc : f c with
    | false =>
      rw [fc] at t
      rw [List.takeWhile_cons, fc]
      exact wh_f t
    | true =>
      rw [fc] at t
      have step : stB (ste l z a p.length) S = .nx (ste l z a (p ++ [c]).length) S := by
        have := aug_add (i := 3) (me := mC (.int 1)) (env := ste l z a p.length) (S := S) (x := (p.length : Nat)) (y := 1) rfl rfl
        refine this.trans ?_
        rw [List.length_append]
        rfl
      rw [wh_t t step, st_loop hl z a f hf r (p ++ [c]) n (by rw [e]; simp) (by simp at hn; omega), List.takeWhile_cons, fc, List.length_append]
      simp only [List.length_cons, List.length_nil, if_true]
      congr 2
      omega
theorem stretch_eq {l : List Nat} (hl : l.length ≤ 300) (z : Str) {a : Nat} (ha : a ≤ l.length) (f : Nat → Bool) (hf : ∀ c, f c = decide (c ∈ z.cps.toList)) : m__stretch [.str (T l), .int (a : Int), .str z] S = .val (.str (T ((l.drop a).takeWhile f))) S := by
  have hp : (l.take a).length = a := by rw [List.length_take]; omega
  have e := st_loop (S := S) hl z a f hf (l.drop a) (l.take a) 400 (List.take_append_drop a l).symm (by rw [List.length_drop]; omega)
  rw [hp] at e
  have hle := (List.takeWhile_sublist f (l := l.drop a)).length_le
  rw [List.length_drop] at hle
  refine Sm.run_rt ?_
  show b__stretch [some (.str (T l)), some (.int (a : Int)), some (.str z), none] S = _
  have f1 : (sSet 3 (mV 1)) [some (.str (T l)), some (.int (a : Int)), some (.str z), none] S = .nx (ste l z a a) S := Sm.set_eq (i := 3) rfl
  rw [b_st, Sm.sseq f1, Sm.sseq e]
  refine Sm.ret_eq ?_
  show slSW (.str (T l)) (some (a : Int)) (some ((a + ((l.drop a).takeWhile f).length : Nat) : Int)) S = _
  rw [slT (by omega) ha (by omega), Nat.add_sub_cancel_left]
  congr 3
  exact (List.prefix_iff_eq_take.mp (List.takeWhile_prefix f)).symm
end K65

set_option Elab.async false
set_option linter.all false
set_option maxRecDepth 100000
namespace K65
open PySem PySem.Spec PyProof.Rows L2 Sm
local instance tb_65d : TB := ⟨[]⟩
/-! ### one token -/
def mk (c : Nat) : Bool := decide (c ∈ [46, 43, 45])
def dg (c : Nat) : Bool := decide (c ∈ [48, 49, 50, 51, 52, 53, 54, 55, 56, 57])
theorem mk_f (c : Nat) : mk c = decide (c ∈ (".+-" : Str).cps.toList) := by
  rw [show (".+-" : Str).cps.toList = [46, 43, 45] from by decide +kernel]
  rfl
theorem dg_f (c : Nat) : dg c = decide (c ∈ ("0123456789" : Str).cps.toList) := by
  rw [show ("0123456789" : Str).cps.toList = [48, 49, 50, 51, 52, 53, 54, 55, 56, 57] from by decide +kernel]
  rfl
theorem lit_c : (":" : Str) = T [58] := by decide +kernel
theorem lit_b : (" " : Str) = T [32] := by decide +kernel
def m8 : Str := "a row has at most 8 marks"
def m6 : Str := "a number has at most 6 digits"
def m0 : Str := "no token begins here"
def kS : List Nat → Str
  | [] => "sign"
  | c :: _ => if mk c = true then "row" else if dg c = true then "number" else "sign"
def tw : List Nat → List Nat
  | [] => []
  | c :: r => if c = 58 then [58] else if mk c = true then (c :: r).takeWhile mk else if dg c = true then (c :: r).takeWhile dg else [c]
def er : List Nat → Option Str
  | [] => none
  | c :: r => if c = 58 then none else if mk c = true then (if 8 < ((c :: r).takeWhile mk).length then some m8 else none) else if dg c = true then (if 6 < ((c :: r).takeWhile dg).length then some m6 else none) else some m0
def tex (col : Nat) (m : Str) : Exn := ⟨"TextError", [("words", .str m), ("column", .int (col : Int))]⟩
def tkW (w : List Nat) (col : Nat) : W := .tup [.str (kS w), .str (T w), .int (col : Int)]
def tk1 : SM := (sSet 2 (m2 addW (mV 1) (mC (.int 1))))
def tk2 : SM := (sIf (mB (m2 (eqW) (m2 ixSW (mV 0) (mV 1)) (mC (.str ":")))) (sRet (mTup (mCons (mC (.str "sign")) (mCons (mC (.str ":")) (mCons (mV 2) (mNil)))))) (sNil))
def tk3a : SM := (sSet 3 (mCa (cal 3 m__stretch) (mCons (mV 0) (mCons (mV 1) (mCons (mC (.str ".+-")) (mNil))))))
def tk3b : SM := (sIf (mB (m2 (gtW) (mCa lenW (mCons (mV 3) (mNil))) (mC (.int 8)))) (sRaise2 "TextError" "column" "words" (mV 2) (mC (.str "a row has at most 8 marks"))) (sNil))
def tk3c : SM := (sRet (mTup (mCons (mC (.str "row")) (mCons (mV 3) (mCons (mV 2) (mNil))))))
def tk3 : SM := (sIf (mB (m2 (inSW false) (m2 ixSW (mV 0) (mV 1)) (mC (.str ".+-")))) (sSeq tk3a (sSeq tk3b tk3c)) (sNil))
def tk4a : SM := (sSet 4 (mCa (cal 3 m__stretch) (mCons (mV 0) (mCons (mV 1) (mCons (mC (.str "0123456789")) (mNil))))))
def tk4b : SM := (sIf (mB (m2 (gtW) (mCa lenW (mCons (mV 4) (mNil))) (mC (.int 6)))) (sRaise2 "TextError" "column" "words" (mV 2) (mC (.str "a number has at most 6 digits"))) (sNil))
def tk4c : SM := (sRet (mTup (mCons (mC (.str "number")) (mCons (mV 4) (mCons (mV 2) (mNil))))))
def tk4 : SM := (sIf (mB (m2 (inSW false) (m2 ixSW (mV 0) (mV 1)) (mC (.str "0123456789")))) (sSeq tk4a (sSeq tk4b tk4c)) (sNil))
def tk5 : SM := sRaise2 "TextError" "column" "words" (mV 2) (mC (.str "no token begins here"))
theorem b_tk : b__token = sSeq tk1 (sSeq tk2 (sSeq tk3 (sSeq tk4 tk5))) := rfl
def tke (l : List Nat) (a : Nat) (x3 x4 : Option W) : Sm.Env := [some (.str (T l)), some (.int (a : Int)), some (.int ((a + 1 : Nat) : Int)), x3, x4]
theorem raise2_eq {x f g : Str} {ma mb : EM W} {env : Sm.Env} {S : Sto} {i : Int} {z : Str} (h1 : ma env S = .val (.int i) S) (h2 : mb env S = .val (.str z) S) (hi : -big ≤ i ∧ i ≤ big) (hz : z.length ≤ 1000) : sRaise2 x f g ma mb env S = .xc ⟨x, [(g, .str z), (f, .int i)]⟩ env S := by
  unfold sRaise2
  rw [h1]
  show ofE (mb env S) env _ = _
  rw [h2]
  show (if (-big ≤ i ∧ i ≤ big) ∧ z.length ≤ 1000 then Fl.xc ⟨x, [(g, .str z), (f, .int i)]⟩ env S else .bad) = _
  rw [if_pos ⟨hi, hz⟩]
theorem gt_int (x y : Int) (S : Sto) : gtW (.int x) (.int y) S = .val (.bl (decide (x > y))) S := by
  simp [gtW]
section
variable {l : List Nat} (hl : l.length ≤ 300) (hv : l.all (fun c => decide (c < 1114112)) = true) {a c : Nat} {r : List Nat} (hr : l.drop a = c :: r)
include hl hv hr
theorem at_a : l[a]? = some c := by
  have : (l.drop a)[0]? = some c := by rw [hr]; rfl
  rwa [List.getElem?_drop, Nat.add_zero] at this
theorem lt_a : a < l.length := (List.getElem?_eq_some_iff.mp (at_a hl hv hr)).1
theorem v_c : c < 1114112 := by
  have h := at_a hl hv hr
  have := List.all_eq_true.mp hv c (List.mem_of_getElem? h)
  simpa using this
theorem ix_a (x3 x4 : Option W) (S : Sto) : m2 ixSW (mV 0) (mV 1) (tke l a x3 x4) S = .val (.str (T [c])) S := Sm.m2_val (x := .str (T l)) (y := .int (a : Int)) (S1 := S) (S2 := S) rfl rfl (ixT (by omega) (at_a hl hv hr))
theorem token_eq (S : Sto) : m__token [.str (T l), .int (a : Int)] S = match er (c :: r) with
    | none => .val (tkW (tw (c :: r)) (a + 1)) S
    | some m => .exc (tex (a + 1) m) S := by
  have la := lt_a hl hv hr
  have vc := v_c hl hv hr
  have f1 : tk1 [some (.str (T l)), some (.int (a : Int)), none, none, none] S = .nx (tke l a none none) S := Sm.set_eq (i := 2) rfl
  have t2 : mB (m2 (eqW) (m2 ixSW (mV 0) (mV 1)) (mC (.str ":"))) (tke l a none none) S = .val (decide (c = 58)) S := by
    refine Sm.mB_val (Sm.m2_val (y := .str ":") (S2 := S) (ix_a hl hv hr none none S) rfl ?_)
    rw [lit_c, eqT (by simpa using vc) (by decide)]
    congr 2
    simp
  have t3 : mB (m2 (inSW false) (m2 ixSW (mV 0) (mV 1)) (mC (.str ".+-"))) (tke l a none none) S = .val (mk c) S := by
    rw [mk_f]
    exact Sm.mB_val (Sm.m2_val (ix_a hl hv hr none none S) rfl (inT c _))
  have t4 : mB (m2 (inSW false) (m2 ixSW (mV 0) (mV 1)) (mC (.str "0123456789"))) (tke l a none none) S = .val (dg c) S := by
    rw [dg_f]
    exact Sm.mB_val (Sm.m2_val (ix_a hl hv hr none none S) rfl (inT c _))
  have big' : -big ≤ ((a + 1 : Nat) : Int) ∧ ((a + 1 : Nat) : Int) ≤ big := by unfold big; omega
  have body : m__token [.str (T l), .int (a : Int)] S = outD (b__token [some (.str (T l)), some (.int (a : Int)), none, none, none] S) := rfl
  rw [body, b_tk, Sm.sseq f1]
  by_cases h58 : c = 58
  · have e1 : er (c :: r) = none := if_pos h58
    have e2 : tw (c :: r) = [58] := if_pos h58
    rw [e1, e2]
    rw [decide_eq_true h58] at t2
    have : tk2 (tke l a none none) S = .rt (tkW [58] (a + 1)) S := by
      unfold tk2
      rw [Sm.sif_t t2]
      show Fl.rt (.tup [.str "sign", .str ":", .int ((a + 1 : Nat) : Int)]) S = _
      rw [lit_c]
      rfl
    rw [Sm.seq_rt this]
    rfl
  · rw [decide_eq_false h58] at t2
    have f2 : tk2 (tke l a none none) S = .nx (tke l a none none) S := Sm.sif_skip t2
    rw [Sm.sseq f2]
    cases hm : mk c with
    | true =>
      rw [hm] at t3
      have e1 : er (c :: r) = if 8 < ((c :: r).takeWhile mk).length then some m8 else none := by
        show (if c = 58 then _ else if mk c = true then _ else _) = _
        rw [if_neg h58, if_pos hm]
      have e2 : tw (c :: r) = (c :: r).takeWhile mk := by
        show (if c = 58 then _ else if mk c = true then _ else _) = _
        rw [if_neg h58, if_pos hm]
      have es := stretch_eq (S := S) hl ".+-" (Nat.le_of_lt la) mk mk_f
      rw [hr] at es
      have hw : ((c :: r).takeWhile mk).length ≤ 300 := by
        have h1 := (List.takeWhile_sublist mk (l := c :: r)).length_le
        have h2 : (c :: r).length ≤ l.length := by rw [← hr, List.length_drop]; omega
        omega
      have ek : kS ((c :: r).takeWhile mk) = "row" := by
        rw [List.takeWhile_cons, if_pos hm]
        show (if mk c = true then _ else _) = _
        rw [if_pos hm]
      generalize (c :: r).takeWhile mk = w at *
      have g1 : tk3a (tke l a none none) S = .nx (tke l a (some (.str (T w))) none) S := Sm.set_eq (i := 3) (Sm.call3e rfl rfl rfl es)
      have g2 : mB (m2 (gtW) (mCa lenW (mCons (mV 3) (mNil))) (mC (.int 8))) (tke l a (some (.str (T w))) none) S = .val (decide (8 < w.length)) S := by
        refine Sm.mB_val (Sm.m2_val (y := .int 8) (S2 := S) (ca1 (w := .str (T w)) (S1 := S) rfl (lenT (by omega))) rfl ?_)
        rw [gt_int]
        congr 2
        rw [decide_eq_decide]
        omega
      rw [e1, e2]
      by_cases h8 : 8 < w.length
      · rw [decide_eq_true h8] at g2
        rw [if_pos h8]
        have g3 : tk3 (tke l a none none) S = .xc (tex (a + 1) m8) (tke l a (some (.str (T w))) none) S := by
          unfold tk3
          rw [Sm.sif_t t3, Sm.sseq g1]
          refine Sm.seq_xc ?_
          unfold tk3b
          rw [Sm.sif_t g2]
          exact raise2_eq rfl rfl big' (by decide +kernel)
        rw [Sm.seq_xc g3]
        rfl
      · rw [decide_eq_false h8] at g2
        rw [if_neg h8]
        have g3 : tk3 (tke l a none none) S = .rt (tkW w (a + 1)) S := by
          have g4 : tk3b (tke l a (some (.str (T w))) none) S = .nx (tke l a (some (.str (T w))) none) S := Sm.sif_skip g2
          unfold tk3
          rw [Sm.sif_t t3, Sm.sseq g1, Sm.sseq g4]
          unfold tkW
          rw [ek]
          rfl
        rw [Sm.seq_rt g3]
        rfl
    | false =>
      rw [hm] at t3
      have f3 : tk3 (tke l a none none) S = .nx (tke l a none none) S := Sm.sif_skip t3
      rw [Sm.sseq f3]
      cases hd : dg c with
      | true =>
        rw [hd] at t4
        have e1 : er (c :: r) = if 6 < ((c :: r).takeWhile dg).length then some m6 else none := by
          show (if c = 58 then _ else if mk c = true then _ else if dg c = true then _ else _) = _
          rw [if_neg h58, hm, if_neg Bool.false_ne_true, if_pos hd]
        have e2 : tw (c :: r) = (c :: r).takeWhile dg := by
          show (if c = 58 then _ else if mk c = true then _ else if dg c = true then _ else _) = _
          rw [if_neg h58, hm, if_neg Bool.false_ne_true, if_pos hd]
        have es := stretch_eq (S := S) hl "0123456789" (Nat.le_of_lt la) dg dg_f
        rw [hr] at es
        have hw : ((c :: r).takeWhile dg).length ≤ 300 := by
          have h1 := (List.takeWhile_sublist dg (l := c :: r)).length_le
          have h2 : (c :: r).length ≤ l.length := by rw [← hr, List.length_drop]; omega
          omega
        have ek : kS ((c :: r).takeWhile dg) = "number" := by
          rw [List.takeWhile_cons, if_pos hd]
          show (if mk c = true then _ else if dg c = true then _ else _) = _
          rw [hm, if_neg Bool.false_ne_true, if_pos hd]
        generalize (c :: r).takeWhile dg = w at *
        have g1 : tk4a (tke l a none none) S = .nx (tke l a none (some (.str (T w)))) S := Sm.set_eq (i := 4) (Sm.call3e rfl rfl rfl es)
        have g2 : mB (m2 (gtW) (mCa lenW (mCons (mV 4) (mNil))) (mC (.int 6))) (tke l a none (some (.str (T w)))) S = .val (decide (6 < w.length)) S := by
          refine Sm.mB_val (Sm.m2_val (y := .int 6) (S2 := S) (ca1 (w := .str (T w)) (S1 := S) rfl (lenT (by omega))) rfl ?_)
          rw [gt_int]
          congr 2
          rw [decide_eq_decide]
          omega
        rw [e1, e2]
        by_cases h6 : 6 < w.length
        · rw [decide_eq_true h6] at g2
          rw [if_pos h6]
          have g3 : tk4 (tke l a none none) S = .xc (tex (a + 1) m6) (tke l a none (some (.str (T w)))) S := by
            unfold tk4
            rw [Sm.sif_t t4, Sm.sseq g1]
            refine Sm.seq_xc ?_
            unfold tk4b
            rw [Sm.sif_t g2]
            exact raise2_eq rfl rfl big' (by decide +kernel)
          rw [Sm.seq_xc g3]
          rfl
        · rw [decide_eq_false h6] at g2
          rw [if_neg h6]
          have g3 : tk4 (tke l a none none) S = .rt (tkW w (a + 1)) S := by
            have g4 : tk4b (tke l a none (some (.str (T w)))) S = .nx (tke l a none (some (.str (T w)))) S := Sm.sif_skip g2
            unfold tk4
            rw [Sm.sif_t t4, Sm.sseq g1, Sm.sseq g4]
            unfold tkW
            rw [ek]
            rfl
          rw [Sm.seq_rt g3]
          rfl
      | false =>
        rw [hd] at t4
        have f4 : tk4 (tke l a none none) S = .nx (tke l a none none) S := Sm.sif_skip t4
        have e1 : er (c :: r) = some m0 := by
          show (if c = 58 then _ else if mk c = true then _ else if dg c = true then _ else _) = _
          rw [if_neg h58, hm, if_neg Bool.false_ne_true, hd, if_neg Bool.false_ne_true]
        rw [e1, Sm.sseq f4]
        have g : tk5 (tke l a none none) S = .xc (tex (a + 1) m0) (tke l a none none) S := raise2_eq rfl rfl big' (by decide +kernel)
        rw [g]
        rfl
end
end K65

set_option Elab.async false
set_option linter.all false
set_option maxRecDepth 100000
namespace K65
open PySem PySem.Spec PyProof.Rows L2 Sm
local instance tb_65e : TB := ⟨[]⟩
/-! ### all tokens -/
abbrev Sg := Nat × List Nat
def flat : List Sg → List Nat
  | [] => []
  | (b, w) :: r => List.replicate b 32 ++ (w ++ flat r)
def toks : List Sg → Nat → List W
  | [], _ => []
  | (b, w) :: r, a => tkW w (a + b + 1) :: toks r (a + b + w.length)
/-- what follows a word does not lengthen it -/
def Fit : List Sg → Nat → Prop
  | [], _ => True
  | (_, w) :: r, j => (∃ c t, w = c :: t ∧ c ≠ 32) ∧ tw (w ++ (flat r ++ List.replicate j 32)) = w ∧ er (w ++ (flat r ++ List.replicate j 32)) = er w ∧ Fit r j
def scT : EM Bool := (mB (m2 (ltW) (mV 2) (mCa lenW (mCons (mV 0) (mNil)))))
def scA : SM := (sAug 2 addIW (mC (.int 1)))
def scK : SM := (sSet 3 (mCa (cal 2 m__token) (mCons (mV 0) (mCons (mV 2) (mNil)))))
def scP : SM := (sExpr (mMt appW (mV 1) (mCons (mV 3) (mNil))))
def scL : SM := (sAug 2 addIW (mCa lenW (mCons (m2 ixW (mV 3) (mC (.int 1))) (mNil))))
def scB : SM := (sIf (mB (m2 (eqW) (m2 ixSW (mV 0) (mV 2)) (mC (.str " ")))) scA (sSeq scK (sSeq scP scL)))
def sc1 : SM := (sExpr (mCa (cal 1 m_check_text) (mCons (mV 0) (mNil))))
def scE : SM := (sExpr (mMt appW (mV 1) (mCons (mTup (mCons (mC (.str "end")) (mCons (mC (.str "")) (mCons (m2 addW (mCa lenW (mCons (mV 0) (mNil))) (mC (.int 1))) (mNil))))) (mNil))))
theorem b_sc : b_scan = sSeq sc1 (sSeq (sSet 1 (mBox (mNil))) (sSeq (sSet 2 (mC (.int 0))) (sSeq (whileF scT scB 400) (sSeq scE (sRet (mV 1)))))) := rfl
theorem app_box {S : Sto} {n j : Nat} {ws : List W} {w : W} {e : EM W} {env : Sm.Env} {S1 : Sto} (hj : env[j]? = some (some (.box n))) (he : e env S = .val w S1) (hb : S1[n]? = some (.lst ws)) (hl : ws.length ≤ 1000) : sExpr (mMt appW (mV j) (mCons e (mNil))) env S = .nx env (S1.set n (.lst (ws ++ [w]))) := by
  have ea := appW_box hb w (by omega)
  simp [hj, he, isL, ea]
def sce (l : List Nat) (b a : Nat) (x3 : Option W) : Sm.Env := [some (.str (T l)), some (.box b), some (.int (a : Int)), x3]
section
variable {l : List Nat} (hl : l.length ≤ 300) (hv : l.all (fun c => decide (c < 1114112)) = true) {b : Nat}
include hl
theorem sc_end {x3 : Option W} {n : Nat} (S : Sto) : whileF scT scB (n + 1) (sce l b l.length x3) S = .nx (sce l b l.length x3) S := by
  refine wh_f (Sm.mB_val (Sm.m2_val (x := .int (l.length : Nat)) (S1 := S) rfl (ca1 rfl (lenT (by omega))) ?_))
  rw [lt_int, decide_eq_false (by omega)]
include hv
theorem sc_t {a c : Nat} {r : List Nat} (hr : l.drop a = c :: r) {x3 : Option W} (S : Sto) : scT (sce l b a x3) S = .val true S := by
  have la := lt_a hl hv hr
  refine Sm.mB_val (Sm.m2_val (x := .int (a : Nat)) (S1 := S) rfl (ca1 rfl (lenT (by omega))) ?_)
  rw [lt_int, decide_eq_true (by omega)]
theorem sc_q {a c : Nat} {r : List Nat} (hr : l.drop a = c :: r) {x3 : Option W} (S : Sto) : mB (m2 (eqW) (m2 ixSW (mV 0) (mV 2)) (mC (.str " "))) (sce l b a x3) S = .val (decide (c = 32)) S := by
  have vc := v_c hl hv hr
  refine Sm.mB_val (Sm.m2_val (y := .str " ") (S2 := S) (Sm.m2_val (x := .str (T l)) (y := .int (a : Int)) (S1 := S) (S2 := S) rfl rfl (ixT (by omega) (at_a hl hv hr))) rfl ?_)
  rw [lit_b, eqT (by simpa using vc) (by decide)]
  congr 2
  simp
theorem sc_blank {a : Nat} {r : List Nat} (hr : l.drop a = 32 :: r) {x3 : Option W} {n : Nat} (S : Sto) : whileF scT scB (n + 1) (sce l b a x3) S = whileF scT scB n (sce l b (a + 1) x3) S := by
  refine wh_t (sc_t hl hv hr S) ?_
  have q := sc_q hl hv hr (b := b) (x3 := x3) S
  rw [decide_eq_true rfl] at q
  unfold scB
  rw [Sm.sif_t q]
  exact aug_add (i := 2) (x := (a : Int)) (y := 1) rfl rfl
theorem sc_blanks : ∀ (k : Nat) {a : Nat} {r : List Nat}, l.drop a = List.replicate k 32 ++ r → ∀ {x3 : Option W} {n : Nat} (S : Sto), whileF scT scB (n + k) (sce l b a x3) S = whileF scT scB n (sce l b (a + k) x3) S
  | 0, a, r, hr, x3, n, S => rfl
  | k + 1, a, r, hr, x3, n, S => by
    have hr1 : l.drop a = 32 :: (List.replicate k 32 ++ r) := hr
    have hr2 : l.drop (a + 1) = List.replicate k 32 ++ r := by
      rw [← List.drop_drop, hr1]
      rfl
    have e1 : n + (k + 1) = (n + k) + 1 := by omega
    rw [e1, sc_blank hl hv hr1, sc_blanks k hr2]
    congr 2
    omega
theorem sc_tok {a c : Nat} {r : List Nat} (hr : l.drop a = c :: r) (hc : c ≠ 32) (he : er (c :: r) = none) {x3 : Option W} {n : Nat} {S : Sto} {ts : List W} (hb : S[b]? = some (.lst ts)) (ht : ts.length ≤ 1000) (hw : (tw (c :: r)).length ≤ 1000) :
    whileF scT scB (n + 1) (sce l b a x3) S = whileF scT scB n (sce l b (a + (tw (c :: r)).length) (some (tkW (tw (c :: r)) (a + 1)))) (S.set b (.lst (ts ++ [tkW (tw (c :: r)) (a + 1)]))) := by
  refine wh_t (sc_t hl hv hr S) ?_
  have q := sc_q hl hv hr (b := b) (x3 := x3) S
  rw [decide_eq_false hc] at q
  have e := token_eq hl hv hr S
  rw [he] at e
  have e : m__token [.str (T l), .int (a : Int)] S = .val (tkW (tw (c :: r)) (a + 1)) S := e
  generalize tw (c :: r) = w at *
  have f1 : scK (sce l b a x3) S = .nx (sce l b a (some (tkW w (a + 1)))) S := Sm.set_eq (i := 3) (Sm.call2e rfl rfl e)
  have f2 : scP (sce l b a (some (tkW w (a + 1)))) S = .nx (sce l b a (some (tkW w (a + 1)))) (S.set b (.lst (ts ++ [tkW w (a + 1)]))) := app_box (j := 1) rfl rfl hb ht
  have f3 : scL (sce l b a (some (tkW w (a + 1)))) (S.set b (.lst (ts ++ [tkW w (a + 1)]))) = .nx (sce l b (a + w.length) (some (tkW w (a + 1)))) (S.set b (.lst (ts ++ [tkW w (a + 1)]))) :=
    aug_add (i := 2) (x := (a : Int)) (y := (w.length : Nat)) rfl (ca1 (w := .str (T w)) (S1 := S.set b (.lst (ts ++ [tkW w (a + 1)]))) rfl (lenT hw))
  unfold scB
  rw [Sm.sif_f q, Sm.sseq f1, Sm.sseq f2, f3]
theorem sc_bad {a c : Nat} {r : List Nat} (hr : l.drop a = c :: r) (hc : c ≠ 32) {m : Str} (he : er (c :: r) = some m) {x3 : Option W} {n : Nat} (S : Sto) : whileF scT scB (n + 1) (sce l b a x3) S = .xc (tex (a + 1) m) (sce l b a x3) S := by
  refine wh_x (sc_t hl hv hr S) ?_
  have q := sc_q hl hv hr (b := b) (x3 := x3) S
  rw [decide_eq_false hc] at q
  have e := token_eq hl hv hr S
  rw [he] at e
  have e : m__token [.str (T l), .int (a : Int)] S = .exc (tex (a + 1) m) S := e
  have ec : mCa (cal 2 m__token) (mCons (mV 0) (mCons (mV 2) (mNil))) (sce l b a x3) S = .exc (tex (a + 1) m) S := Sm.call2e rfl rfl e
  have f1 : scK (sce l b a x3) S = .xc (tex (a + 1) m) (sce l b a x3) S := by
    unfold scK
    generalize mCa (cal 2 m__token) (mCons (mV 0) (mCons (mV 2) (mNil))) = M at *
    show ofE (M _ S) _ _ = _
    rw [ec]
    rfl
  unfold scB
  rw [Sm.sif_f q, Sm.seq_xc f1]
/-- one word and the blanks ahead of it -/
theorem sc_seg {a k : Nat} {w rest : List Nat} (hr : l.drop a = List.replicate k 32 ++ (w ++ rest)) (hw : ∃ c t, w = c :: t ∧ c ≠ 32) (h1 : tw (w ++ rest) = w) (h2 : er (w ++ rest) = none) {x3 : Option W} {n : Nat} {S : Sto} {ts : List W} (hb : S[b]? = some (.lst ts)) (ht : ts.length ≤ 1000) :
    whileF scT scB (n + (k + 1)) (sce l b a x3) S = whileF scT scB n (sce l b (a + k + w.length) (some (tkW w (a + k + 1)))) (S.set b (.lst (ts ++ [tkW w (a + k + 1)]))) ∧ l.drop (a + k + w.length) = rest := by
  obtain ⟨c, t, rfl, hc⟩ := hw
  have hr2 : l.drop (a + k) = c :: (t ++ rest) := by
    rw [← List.drop_drop, hr, List.drop_left' (by simp)]
    rfl
  have hlen := congrArg List.length hr2
  rw [List.length_drop, List.length_cons, List.length_append] at hlen
  refine ⟨?_, ?_⟩
  · have e1 : n + (k + 1) = (n + 1) + k := by omega
    have h1 : tw (c :: (t ++ rest)) = c :: t := h1
    have h2 : er (c :: (t ++ rest)) = none := h2
    rw [e1, sc_blanks hl hv k hr, sc_tok hl hv hr2 hc h2 hb ht (by rw [h1]; simp; omega), h1]
  · rw [← List.drop_drop, hr2]
    show ((c :: t) ++ rest).drop (c :: t).length = rest
    rw [List.drop_left]
theorem sc_good : ∀ (sg : List Sg) (j : Nat) {a : Nat} {S : Sto} {ts : List W} {x3 : Option W} {n : Nat}, a ≤ l.length → l.drop a = flat sg ++ List.replicate j 32 → Fit sg j → (∀ s ∈ sg, er s.2 = none) → S[b]? = some (.lst ts) → ts.length + sg.length ≤ 500 → (l.drop a).length < n →
    ∃ x3' S', whileF scT scB n (sce l b a x3) S = .nx (sce l b l.length x3') S' ∧ S'[b]? = some (.lst (ts ++ toks sg a)) ∧ S'.length = S.length ∧ ∀ m, m ≠ b → S'[m]? = S[m]?
  | [], j, a, S, ts, x3, n, ha, hr, _, _, hb, _, hn => by
    have hr : l.drop a = List.replicate j 32 ++ [] := by rw [List.append_nil]; exact hr
    have hj : (l.drop a).length = j := by rw [hr]; simp
    obtain ⟨n', rfl⟩ : ∃ n', n = (n' + 1) + j := ⟨n - 1 - j, by omega⟩
    refine ⟨x3, S, ?_, by rw [hb]; simp [toks], rfl, fun _ _ => rfl⟩
    rw [sc_blanks hl hv j hr]
    rw [List.length_drop] at hj
    rw [show a + j = l.length by omega, sc_end hl]
  | (k, w) :: sg, j, a, S, ts, x3, n, ha, hr, hf, hg, hb, ht, hn => by
    obtain ⟨hw, f1, f2, f3⟩ := hf
    have hr : l.drop a = List.replicate k 32 ++ (w ++ (flat sg ++ List.replicate j 32)) := by
      rw [hr]
      simp [flat]
    have hlen := congrArg List.length hr
    simp only [List.length_append, List.length_replicate] at hlen
    have hw1 : 1 ≤ w.length := by obtain ⟨c, t, rfl, _⟩ := hw; simp
    obtain ⟨n', rfl⟩ : ∃ n', n = n' + (k + 1) := ⟨n - (k + 1), by omega⟩
    simp only [List.length_cons] at ht
    obtain ⟨e1, e2⟩ := sc_seg hl hv hr hw f1 (f2.trans (hg _ List.mem_cons_self)) (x3 := x3) (n := n') hb (by omega)
    have hbl : b < S.length := (List.getElem?_eq_some_iff.mp hb).1
    obtain ⟨x3', S', e3, b3, l3, o3⟩ := sc_good sg j (x3 := some (tkW w (a + k + 1))) (n := n') (S := S.set b (.lst (ts ++ [tkW w (a + k + 1)]))) (ts := ts ++ [tkW w (a + k + 1)]) (by rw [List.length_drop] at hlen; omega) e2 f3 (fun s hs => hg s (List.mem_cons_of_mem _ hs)) (List.getElem?_set_self hbl) (by simp; omega) (by rw [e2, List.length_append, List.length_replicate]; omega)
    refine ⟨x3', S', e1.trans e3, ?_, by rw [l3, List.length_set], fun m hm => by rw [o3 m hm, List.getElem?_set_ne (Ne.symm hm)]⟩
    rw [b3]
    simp [toks]
theorem sc_err : ∀ (sg : List Sg) {k : Nat} {w rest : List Nat} {m : Str} {a : Nat} {S : Sto} {ts : List W} {x3 : Option W} {n : Nat}, l.drop a = flat sg ++ (List.replicate k 32 ++ (w ++ rest)) → (∀ p s q, sg = p ++ s :: q → (∃ c t, s.2 = c :: t ∧ c ≠ 32) ∧ er s.2 = none ∧ tw (s.2 ++ (flat q ++ (List.replicate k 32 ++ (w ++ rest)))) = s.2 ∧ er (s.2 ++ (flat q ++ (List.replicate k 32 ++ (w ++ rest)))) = er s.2) →
    (∃ c t, w = c :: t ∧ c ≠ 32) → er (w ++ rest) = some m → S[b]? = some (.lst ts) → ts.length + sg.length ≤ 500 → (l.drop a).length < n → ∃ env' S', whileF scT scB n (sce l b a x3) S = .xc (tex (a + (flat sg).length + k + 1) m) env' S' ∧ ∀ q, q ≠ b → S'[q]? = S[q]?
  | [], k, w, rest, m, a, S, ts, x3, n, hr, _, hw, he, hb, ht, hn => by
    obtain ⟨c, t, rfl, hc⟩ := hw
    have hr : l.drop a = List.replicate k 32 ++ (c :: (t ++ rest)) := hr
    have hlen := congrArg List.length hr
    simp only [List.length_append, List.length_replicate, List.length_cons] at hlen
    have hr2 : l.drop (a + k) = c :: (t ++ rest) := by rw [← List.drop_drop, hr, List.drop_left' (by simp)]
    obtain ⟨n', rfl⟩ : ∃ n', n = (n' + 1) + k := ⟨n - 1 - k, by omega⟩
    rw [sc_blanks hl hv k hr, sc_bad hl hv hr2 hc he]
    exact ⟨_, _, rfl, fun _ _ => rfl⟩
  | (k1, w1) :: sg, k, w, rest, m, a, S, ts, x3, n, hr, hf, hw, he, hb, ht, hn => by
    obtain ⟨g1, g2, g3, g4⟩ := hf [] (k1, w1) sg rfl
    have hr : l.drop a = List.replicate k1 32 ++ (w1 ++ (flat sg ++ (List.replicate k 32 ++ (w ++ rest)))) := by
      rw [hr]
      simp [flat]
    have hlen := congrArg List.length hr
    simp only [List.length_append, List.length_replicate] at hlen
    have hw1 : 1 ≤ w1.length := by obtain ⟨c, t, e, _⟩ := g1; rw [show w1 = c :: t from e]; simp
    obtain ⟨n', rfl⟩ : ∃ n', n = n' + (k1 + 1) := ⟨n - (k1 + 1), by omega⟩
    simp only [List.length_cons] at ht
    obtain ⟨e1, e2⟩ := sc_seg hl hv hr g1 g3 (g4.trans g2) (x3 := x3) (n := n') hb (by omega)
    have hbl : b < S.length := (List.getElem?_eq_some_iff.mp hb).1
    obtain ⟨env', S', e3, o3⟩ := sc_err sg (k := k) (w := w) (rest := rest) (m := m) (x3 := some (tkW w1 (a + k1 + 1))) (n := n') (S := S.set b (.lst (ts ++ [tkW w1 (a + k1 + 1)]))) (ts := ts ++ [tkW w1 (a + k1 + 1)]) e2 (fun p s q h => hf ((k1, w1) :: p) s q (by rw [h]; rfl)) hw he (List.getElem?_set_self hbl) (by simp; omega) (by rw [e2]; simp only [List.length_append, List.length_replicate]; omega)
    refine ⟨env', S', ?_, fun q hq => by rw [o3 q hq, List.getElem?_set_ne (Ne.symm hq)]⟩
    rw [e1, e3]
    have : a + k1 + w1.length + (flat sg).length + k + 1 = a + (flat ((k1, w1) :: sg)).length + k + 1 := by
      simp only [flat, List.length_append, List.length_replicate]
      omega
    rw [this]
end
end K65

set_option Elab.async false
set_option linter.all false
set_option maxRecDepth 100000
namespace K65
open PySem PySem.Spec PyProof.Rows L2 Sm
local instance tb_65f : TB := ⟨[]⟩
/-! ### words that do not run together -/
def cls (c : Nat) : Nat := if c = 58 then 0 else if mk c = true then 1 else if dg c = true then 2 else 3
theorem cls_mk {c : Nat} (h : mk c = true) : cls c = 1 := by
  unfold cls
  by_cases e : c = 58
  · subst e
    exact absurd h (by decide)
  · rw [if_neg e, if_pos h]
theorem cls_dg {c : Nat} (h : dg c = true) : cls c = 2 := by
  unfold cls
  by_cases e : c = 58
  · subst e
    exact absurd h (by decide)
  · rw [if_neg e]
    by_cases e2 : mk c = true
    · unfold mk at e2
      unfold dg at h
      have e2 := of_decide_eq_true e2
      have h := of_decide_eq_true h
      simp only [List.mem_cons, List.not_mem_nil, or_false] at e2 h
      omega
    · rw [if_neg e2, if_pos h]
def Nx (c : Nat) (rest : List Nat) : Prop := cls c = 0 ∨ cls c = 3 ∨ rest = [] ∨ ∃ d u, rest = d :: u ∧ cls d ≠ cls c
theorem tw_take (f : Nat → Bool) {c : Nat} {t rest : List Nat} (h : (c :: t).takeWhile f = c :: t) (hn : ∀ d u, rest = d :: u → f d = false) : ((c :: t) ++ rest).takeWhile f = c :: t := by
  have hall : ∀ x ∈ c :: t, f x = true := fun x hx => by
    rw [← h] at hx
    exact List.all_eq_true.mp (List.all_takeWhile (p := f) (l := c :: t)) x hx
  rw [List.takeWhile_append_of_pos hall]
  cases rest with
  | nil => simp
  | cons d u =>
    rw [List.takeWhile_cons, hn d u rfl]
    simp
theorem tw_app {c : Nat} {t rest : List Nat} (h : tw (c :: t) = c :: t) (hn : Nx c rest) : tw ((c :: t) ++ rest) = c :: t ∧ er ((c :: t) ++ rest) = er (c :: t) := by
  show tw (c :: (t ++ rest)) = c :: t ∧ er (c :: (t ++ rest)) = er (c :: t)
  unfold tw at h ⊢
  unfold er
  simp only at h ⊢
  by_cases h1 : c = 58
  · rw [if_pos h1] at h
    rw [if_pos h1, if_pos h1, if_pos h1]
    exact ⟨h, rfl⟩
  · rw [if_neg h1] at h
    rw [if_neg h1, if_neg h1, if_neg h1]
    by_cases h2 : mk c = true
    · rw [if_pos h2] at h
      rw [if_pos h2, if_pos h2, if_pos h2]
      have e := tw_take mk h (rest := rest) fun d u hr => by
        rcases hn with n | n | n | ⟨d', u', e, n⟩
        · rw [cls_mk h2] at n; cases n
        · rw [cls_mk h2] at n; cases n
        · rw [hr] at n; cases n
        · rw [hr] at e
          cases e
          rw [cls_mk h2] at n
          cases hd : mk d with
          | false => rfl
          | true => exact absurd (cls_mk hd) n
      have e : (c :: (t ++ rest)).takeWhile mk = c :: t := e
      rw [e, h]
      exact ⟨rfl, rfl⟩
    · rw [if_neg h2] at h
      rw [if_neg h2, if_neg h2, if_neg h2]
      by_cases h3 : dg c = true
      · rw [if_pos h3] at h
        rw [if_pos h3, if_pos h3, if_pos h3]
        have e := tw_take dg h (rest := rest) fun d u hr => by
          rcases hn with n | n | n | ⟨d', u', e, n⟩
          · rw [cls_dg h3] at n; cases n
          · rw [cls_dg h3] at n; cases n
          · rw [hr] at n; cases n
          · rw [hr] at e
            cases e
            rw [cls_dg h3] at n
            cases hd : dg d with
            | false => rfl
            | true => exact absurd (cls_dg hd) n
        have e : (c :: (t ++ rest)).takeWhile dg = c :: t := e
        rw [e, h]
        exact ⟨rfl, rfl⟩
      · rw [if_neg h3] at h
        rw [if_neg h3, if_neg h3, if_neg h3]
        exact ⟨h, rfl⟩
/-- the ten words, and the strange ones with what is told of them -/
def R10 : List (List Nat) := [[48], [51, 49], [48, 48, 48, 51, 52, 53], [57, 57, 57, 57, 57, 57], [58], [46, 43, 45], [46, 46, 46, 46, 46, 46, 46, 46], [43], [45, 46], [58]]
def S11 : List (List Nat) := [[65], [97], [95], [44], [9], [124], [59], [40], [35], [61], [47]]
def SX : List (List Nat × Str) := (S11.map fun w => (w, m0)) ++ [([49, 48, 48, 48, 48, 48, 48], m6), ([48, 48, 48, 48, 48, 48, 49], m6), ([46, 46, 46, 46, 46, 46, 46, 46, 46], m8), ([43, 45, 43, 45, 43, 45, 43, 45, 43], m8)]
def WL : List (List Nat) := R10 ++ SX.map Prod.fst
def nr (w v : List Nat) : Bool := decide (kS w = kS v) && decide (v ≠ [58])
def hd0 (w : List Nat) : Nat := w.headD 0
theorem w_one : (WL.all fun w => decide (tw w = w) && decide (hd0 w ≠ 32) && decide (w ≠ []) && decide (w.length ≤ 9) && w.all (fun c => decide (c < 1114112) && decide (c ≠ 10))) = true := by decide +kernel
theorem w_two : (WL.all fun w => WL.all fun v => nr w v || decide (cls (hd0 w) = 0) || decide (cls (hd0 w) = 3) || decide (cls (hd0 v) ≠ cls (hd0 w))) = true := by decide +kernel
theorem w_good : (R10.all fun w => (er w).isNone) = true := by decide +kernel
theorem w_bad : (SX.all fun x => decide (er x.1 = some x.2)) = true := by decide +kernel
structure Wd (w : List Nat) : Prop where
  tw : tw w = w
  hd : hd0 w ≠ 32
  ne : w ≠ []
  le : w.length ≤ 9
  vl : ∀ c ∈ w, c < 1114112 ∧ c ≠ 10
theorem wd_of {w : List Nat} (h : w ∈ WL) : Wd w := by
  have := List.all_eq_true.mp w_one w h
  simp only [Bool.and_eq_true, decide_eq_true_eq, List.all_eq_true] at this
  exact ⟨this.1.1.1.1, this.1.1.1.2, this.1.1.2, this.1.2, this.2⟩
/-- between two words that would run together there is a blank -/
def Adj : List Sg → Prop
  | [] => True
  | [_] => True
  | (_, w) :: (k, v) :: r => (nr w v = true → 1 ≤ k) ∧ Adj ((k, v) :: r)
theorem fit_of (j : Nat) : ∀ {sg : List Sg}, (∀ s ∈ sg, s.2 ∈ WL) → Adj sg → Fit sg j
  | [], _, _ => trivial
  | (b, w) :: r, hw, ha => by
    have w1 := hw _ List.mem_cons_self
    have d1 := wd_of w1
    have w1 : w ∈ WL := w1
    have d1 : Wd w := d1
    obtain ⟨c, t, rfl⟩ : ∃ c t, w = c :: t := by
      cases w with
      | nil => exact absurd rfl d1.ne
      | cons c t => exact ⟨c, t, rfl⟩
    have c32 : c ≠ 32 := d1.hd
    have blank : ∀ k : Nat, 1 ≤ k → ∀ u, Nx c (List.replicate k 32 ++ u) := fun k hk u => by
      obtain ⟨k', rfl⟩ : ∃ k', k = k' + 1 := ⟨k - 1, by omega⟩
      have e3 : cls 32 = 3 := by decide
      by_cases h3 : cls c = 3
      · exact .inr (.inl h3)
      · exact .inr (.inr (.inr ⟨32, List.replicate k' 32 ++ u, rfl, by rw [e3]; exact fun z => h3 z.symm⟩))
    have nx : Nx c (flat r ++ List.replicate j 32) := by
      cases r with
      | nil =>
        by_cases hj : j = 0
        · subst hj
          exact .inr (.inr (.inl rfl))
        · have := blank j (by omega) []
          rw [List.append_nil] at this
          exact this
      | cons s r =>
        obtain ⟨k, v⟩ := s
        have v1 : v ∈ WL := hw _ (List.mem_cons_of_mem _ List.mem_cons_self)
        have dv := wd_of v1
        show Nx c ((List.replicate k 32 ++ (v ++ flat r)) ++ List.replicate j 32)
        by_cases hk : 1 ≤ k
        · rw [List.append_assoc]
          exact blank k hk _
        · have hk0 : k = 0 := by omega
          subst hk0
          have hnr : nr (c :: t) v = false := by
            cases e : nr (c :: t) v with
            | false => rfl
            | true => exact absurd (ha.1 e) hk
          have two := List.all_eq_true.mp (List.all_eq_true.mp w_two _ w1) v v1
          rw [hnr] at two
          simp only [Bool.false_or, Bool.or_eq_true, decide_eq_true_eq] at two
          obtain ⟨d, u, rfl⟩ : ∃ d u, v = d :: u := by
            cases v with
            | nil => exact absurd rfl dv.ne
            | cons d u => exact ⟨d, u, rfl⟩
          rcases two with (z | z) | z
          · exact .inl z
          · exact .inr (.inl z)
          · exact .inr (.inr (.inr ⟨d, u ++ flat r ++ List.replicate j 32, by simp, z⟩))
    obtain ⟨e1, e2⟩ := tw_app d1.tw nx
    refine ⟨⟨c, t, rfl, c32⟩, e1, e2, fit_of j (fun s hs => hw s (List.mem_cons_of_mem _ hs)) ?_⟩
    cases r with
    | nil => trivial
    | cons s r => exact ha.2
theorem flat_app : ∀ a b : List Sg, flat (a ++ b) = flat a ++ flat b
  | [], b => rfl
  | (k, w) :: a, b => by
    show List.replicate k 32 ++ (w ++ flat (a ++ b)) = (List.replicate k 32 ++ (w ++ flat a)) ++ flat b
    rw [flat_app a b]
    simp
theorem fit_suf {j : Nat} {s : Sg} {q : List Sg} : ∀ {p : List Sg}, Fit (p ++ s :: q) j → Fit (s :: q) j
  | [], h => h
  | (_, _) :: p, h => fit_suf (p := p) h.2.2.2
/-! ### what scan gives -/
def endW (l : List Nat) : W := .tup [.str "end", .str "", .int ((l.length + 1 : Nat) : Int)]
theorem check_ok {l : List Nat} (hl : l.length ≤ 300) (h10 : 10 ∉ l) (S : Sto) : m_check_text [.str (T l)] S = .val .non S := by
  have t : (mOrT (mNotT (mB (m1 (isiW "str") (mV 0)))) (mOrT (mB (m2 (gtW) (mCa lenW (mCons (mV 0) (mNil))) (mC (.int 300)))) (mB (m2 (inSW false) (mC (.str "\n")) (mV 0))))) [some (.str (T l))] S = .val false S := by
    refine Sm.or_f (Sm.not_val (b := true) (S1 := S) (by rfl)) (Sm.or_f (Sm.mB_val (Sm.m2_val (y := .int 300) (S2 := S) (ca1 (w := .str (T l)) (S1 := S) rfl (lenT (by omega))) rfl ?_)) (Sm.mB_val (Sm.m2_val (x := .str "\n") (y := .str (T l)) (S1 := S) (S2 := S) rfl rfl ?_)))
    · rw [gt_int, decide_eq_false (by omega)]
    · have e := inT (S := S) 10 (T l)
      have el : ("\n" : Str) = T [10] := by decide +kernel
      rw [el, e]
      have : decide (10 ∈ (T l).cps.toList) = false := decide_eq_false h10
      rw [this]
  have e : m_check_text [.str (T l)] S = outD (b_check_text [some (.str (T l))] S) := rfl
  have eb : b_check_text [some (.str (T l))] S = .nx [some (.str (T l))] S := Sm.sif_skip t
  rw [e, eb]
  rfl
def bvT : Exn := ⟨"BadValue", [("name", .str "text")]⟩
theorem scan_chk {w : W} {S : Sto} (h : m_check_text [w] S = .exc bvT S) : m_scan [w] S = .exc bvT S := by
  have ec : mCa (cal 1 m_check_text) (mCons (mV 0) (mNil)) [some w, none, none, none] S = .exc bvT S := Sm.call1e rfl h
  have e : m_scan [w] S = outD (b_scan [some w, none, none, none] S) := rfl
  have f1 : sc1 [some w, none, none, none] S = .xc bvT [some w, none, none, none] S := by
    unfold sc1
    generalize mCa (cal 1 m_check_text) (mCons (mV 0) (mNil)) = M at *
    show ofE (M _ S) _ _ = _
    rw [ec]
    rfl
  rw [e, b_sc, Sm.seq_xc f1]
  rfl
section
variable {l : List Nat} (hl : l.length ≤ 300) (hv : l.all (fun c => decide (c < 1114112)) = true) (h10 : 10 ∉ l)
include hl hv h10
theorem scan_pre (S : Sto) : b_scan [some (.str (T l)), none, none, none] S = (sSeq (whileF scT scB 400) (sSeq scE (sRet (mV 1)))) (sce l S.length 0 none) (S ++ [.lst []]) := by
  have f1 : sc1 [some (.str (T l)), none, none, none] S = .nx [some (.str (T l)), none, none, none] S := Sm.expr_eq (Sm.call1e rfl (check_ok hl h10 S))
  have f2 : (sSet 1 (mBox (mNil))) [some (.str (T l)), none, none, none] S = .nx [some (.str (T l)), some (.box S.length), none, none] (S ++ [.lst []]) := rfl
  have f3 : (sSet 2 (mC (.int 0))) [some (.str (T l)), some (.box S.length), none, none] (S ++ [.lst []]) = .nx (sce l S.length 0 none) (S ++ [.lst []]) := rfl
  rw [b_sc, Sm.sseq f1, Sm.sseq f2, Sm.sseq f3]
theorem scan_ok {sg : List Sg} {j : Nat} (e : l = flat sg ++ List.replicate j 32) (hf : Fit sg j) (hg : ∀ s ∈ sg, er s.2 = none) (hn : sg.length ≤ 400) (S : Sto) : ∃ S', m_scan [.str (T l)] S = .val (.box S.length) S' ∧ S'[S.length]? = some (.lst (toks sg 0 ++ [endW l])) ∧ ∀ m, m < S.length → S'[m]? = S[m]? := by
  obtain ⟨x3, S1, e1, b1, l1, o1⟩ := sc_good hl hv sg j (a := 0) (S := S ++ [.lst []]) (b := S.length) (ts := []) (x3 := none) (n := 400) (Nat.zero_le _) (by rw [List.drop_zero]; exact e) hf hg (by simp) (by simp; omega) (by rw [List.drop_zero]; omega)
  rw [List.nil_append] at b1
  have ht : (toks sg 0).length = sg.length := by
    have : ∀ (sg : List Sg) (a : Nat), (toks sg a).length = sg.length := fun sg => by
      induction sg with
      | nil => intro a; rfl
      | cons s sg ih => intro a; obtain ⟨k, w⟩ := s; simp [toks, ih]
    exact this sg 0
  have f5 : scE (sce l S.length l.length x3) S1 = .nx (sce l S.length l.length x3) (S1.set S.length (.lst (toks sg 0 ++ [endW l]))) := by
    refine app_box (j := 1) rfl ?_ b1 (by omega)
    have el : mCa lenW (mCons (mV 0) (mNil)) (sce l S.length l.length x3) S1 = .val (.int (l.length : Nat)) S1 := ca1 rfl (lenT (by omega))
    generalize mCa lenW (mCons (mV 0) (mNil)) = M at *
    have ea : m2 addW M (mC (.int 1)) (sce l S.length l.length x3) S1 = .val (.int ((l.length + 1 : Nat) : Int)) S1 := Sm.m2_val el rfl rfl
    generalize m2 addW M (mC (.int 1)) = M2 at *
    show Out.bind (Out.bind (Out.val (W.str "end") S1) fun w => bnd (mCons (mC (.str "")) (mCons M2 (mNil)) (sce l S.length l.length x3)) fun us => Sm.ret (w :: us)) wTup = _
    show Out.bind (Out.bind (Out.bind (Out.bind (M2 _ S1) _) _) _) wTup = _
    rw [ea]
    rfl
  have hb : S.length < S1.length := by rw [l1]; simp
  refine ⟨_, Sm.run_rt (S' := S1.set S.length (.lst (toks sg 0 ++ [endW l]))) ?_, List.getElem?_set_self hb, fun m hm => by rw [List.getElem?_set_ne (by omega), o1 m (by omega), List.getElem?_append_left hm]⟩
  show b_scan [some (.str (T l)), none, none, none] S = _
  rw [scan_pre hl hv h10, Sm.sseq e1, Sm.sseq f5]
  rfl
theorem scan_err {sg : List Sg} {k : Nat} {w : List Nat} {post : List Sg} {j : Nat} {m : Str} (e : l = flat (sg ++ (k, w) :: post) ++ List.replicate j 32) (hf : Fit (sg ++ (k, w) :: post) j) (hg : ∀ s ∈ sg, er s.2 = none) (hw : er w = some m) (hn : sg.length ≤ 400) (S : Sto) :
    ∃ S', m_scan [.str (T l)] S = .exc (tex ((flat sg).length + k + 1) m) S' ∧ ∀ q, q < S.length → S'[q]? = S[q]? := by
  have key : flat ((k, w) :: post) ++ List.replicate j 32 = List.replicate k 32 ++ (w ++ (flat post ++ List.replicate j 32)) := by simp [flat]
  have fw := fit_suf hf
  obtain ⟨env', S1, e1, o1⟩ := sc_err hl hv sg (k := k) (w := w) (rest := flat post ++ List.replicate j 32) (m := m) (a := 0) (S := S ++ [.lst []]) (b := S.length) (ts := []) (x3 := none) (n := 400) (by
    rw [List.drop_zero, e, flat_app, List.append_assoc, key]) (fun p s q h => by
      subst h
      have fs : Fit (s :: (q ++ (k, w) :: post)) j := fit_suf (p := p) (by rw [List.append_assoc] at hf; exact hf)
      obtain ⟨b, v⟩ := s
      obtain ⟨g1, g2, g3, -⟩ := fs
      rw [flat_app, List.append_assoc, key] at g2 g3
      exact ⟨g1, hg _ (by simp), g2, g3⟩) fw.1 (fw.2.2.1.trans hw) (by simp) (by simp; omega) (by rw [List.drop_zero]; omega)
  rw [Nat.zero_add] at e1
  refine ⟨S1, ?_, fun q hq => by rw [o1 q (by omega), List.getElem?_append_left hq]⟩
  have eb : m_scan [.str (T l)] S = outD (b_scan [some (.str (T l)), none, none, none] S) := rfl
  rw [eb, scan_pre hl hv h10, Sm.seq_xc e1]
  rfl
end
/-! ### what the law is told -/
theorem b_tl : ∃ t1 t2 s1 s2, b__law_told = sTryAs2 1 t1 t2 (sRet (mCa (cal 1 m_scan) (mCons (mV 0) (mNil)))) s1 s2 ∧ t1 "TextError" = some true ∧ t1 "BadValue" = some false ∧ t2 "BadValue" = some true ∧ (∀ col m S, s1 (tex col m) S = .val (.tup [.int (col : Int), .str m]) S) ∧ ∀ S, s2 bvT S = .val (.str "text") S :=
  ⟨_, _, _, _, rfl, by decide +kernel, by decide +kernel, by decide +kernel, fun _ _ _ => by rfl, fun _ => by rfl⟩
theorem told_val {w v : W} {S S1 : Sto} (h : m_scan [w] S = .val v S1) : m__law_told [w] S = .val v S1 := by
  obtain ⟨t1, t2, s1, s2, e, -⟩ := b_tl
  refine Sm.run_rt ?_
  show b__law_told [some w, none] S = _
  have f : (sRet (mCa (cal 1 m_scan) (mCons (mV 0) (mNil)))) [some w, none] S = .rt v S1 := Sm.ret_eq (Sm.call1e rfl h)
  rw [e]
  unfold sTryAs2
  rw [f]
theorem ret_xc {w : W} {ex : Exn} {S S1 : Sto} (h : m_scan [w] S = .exc ex S1) : (sRet (mCa (cal 1 m_scan) (mCons (mV 0) (mNil)))) [some w, none] S = .xc ex [some w, none] S1 := by
  have ec : mCa (cal 1 m_scan) (mCons (mV 0) (mNil)) [some w, none] S = .exc ex S1 := Sm.call1e rfl h
  generalize mCa (cal 1 m_scan) (mCons (mV 0) (mNil)) = M at *
  show ofE (M _ S) _ _ = _
  rw [ec]
  rfl
theorem told_tex {w : W} {col : Nat} {m : Str} {S S1 : Sto} (h : m_scan [w] S = .exc (tex col m) S1) : m__law_told [w] S = .val (.tup [.int (col : Int), .str m]) S1 := by
  obtain ⟨t1, t2, s1, s2, e, a1, a2, a3, a4, a5⟩ := b_tl
  refine Sm.run_rt ?_
  show b__law_told [some w, none] S = _
  rw [e]
  unfold sTryAs2
  rw [ret_xc h]
  have a4' := a4 col m S1
  generalize hx : tex col m = ex at *
  have hc : ex.cls = "TextError" := by rw [← hx]; rfl
  simp only [hc, a1]
  show (if 1 < 2 then (match s1 ex S1 with
        | .val w S2 => Fl.rt w S2
        | _ => .bad) else .bad) = _
  rw [if_pos (by decide), a4']
theorem told_bv {w : W} {S S1 : Sto} (h : m_scan [w] S = .exc bvT S1) : m__law_told [w] S = .val (.str "text") S1 := by
  obtain ⟨t1, t2, s1, s2, e, a1, a2, a3, a4, a5⟩ := b_tl
  refine Sm.run_rt ?_
  show b__law_told [some w, none] S = _
  rw [e]
  unfold sTryAs2
  rw [ret_xc h]
  simp only [bvT, a2, a3]
  show (if 1 < 2 then (match s2 bvT S1 with
        | .val w S2 => Fl.rt w S2
        | _ => .bad) else .bad) = _
  rw [if_pos (by decide), a5]
end K65

set_option Elab.async false
set_option linter.all false
set_option maxRecDepth 100000
namespace K65
open PySem PySem.Spec PyProof.Rows L2 Sm
local instance tb_65g : TB := ⟨[]⟩
theorem blsO_fn (f : W → Bool) (ws : List W) : blsO (ws.map fun w => W.bl (f w)) = some (ws.map f) := by
  have := blsO_map (ws.map f)
  rwa [List.map_map] at this
theorem allW_fn (f : W → Bool) (ws : List W) (S : Sto) : allW [.lst (ws.map fun w => W.bl (f w))] S = .val (.bl (ws.all f)) S := by
  rw [allW_lst, blsO_fn]
  show Out.val (W.bl ((ws.map f).all id)) S = _
  rw [List.all_map]
  rfl
theorem equal_seq (n : Nat) (ws : List W) (mk : List W → W) (hmk : mk = W.tup ∨ mk = W.lst) (hl : ws.length ≤ 1000) (S : Sto) (h : ∀ w ∈ ws, r__law_equal n [w, w] S = .val (.bl true) S) : r__law_equal (n + 1) [mk ws, mk ws] S = .val (.bl true) S := by
  have hat : ∀ k : Nat, (hk : k < ws.length) → ixW (mk ws) (.int (k : Int)) S = .val ws[k] S := fun k hk => by
    have e1 : atI ws (k : Int) = some ws[k] := by rw [atI_at]; simp [hk]
    rcases hmk with rfl | rfl <;> simp [e1]
  have hln : lenW [mk ws] S = .val (.int (ws.length : Int)) S := by rcases hmk with rfl | rfl <;> simp
  have e0 := Sm.range1 (ms := mCons (mCa lenW (mCons (mV 1) (mNil))) (mNil)) (env := [some (mk ws), some (mk ws), none]) (S := S) (m := ws.length) (by omega) (by
    generalize mk ws = T at *
    simp [hln])
  have el := Sm.mLC_map (own := [2]) (g := gN 2) (el := mCa (cal 2 (r__law_equal n)) (mCons (m2 ixW (mV 0) (mV 2)) (mCons (m2 ixW (mV 1) (mV 2)) mNil))) (fun _ => .bl true) e0 rfl (by simp; omega) (fun w hw => by
    obtain ⟨k, hk, rfl⟩ := rangeW_mem hw
    have ek : (0 : Int) + (k : Int) = (k : Int) := by omega
    rw [ek]
    refine ⟨_, rfl, Sm.call2e (Sm.m2_val rfl rfl (hat k hk)) (Sm.m2_val rfl rfl (hat k hk)) ?_⟩
    exact h ws[k] (List.getElem_mem hk))
  have e5 := allW_fn (fun _ => true) (rangeW 0 ws.length) S
  have e6 : ((rangeW 0 ws.length).all fun _ => true) = true := by simp
  rw [e6] at e5
  have ei : mCa allW (mCons (mLC [2] (mIa itR1 (mCons (mCa lenW (mCons (mV 1) (mNil))) (mNil))) (gN 2) mYes (mCa (cal 2 (r__law_equal n)) (mCons (m2 ixW (mV 0) (mV 2)) (mCons (m2 ixW (mV 1) (mV 2)) mNil)))) (mNil)) [some (mk ws), some (mk ws), none] S = .val (.bl true) S := by
    generalize mLC [2] (mIa itR1 (mCons (mCa lenW (mCons (mV 1) (mNil))) (mNil))) (gN 2) mYes (mCa (cal 2 (r__law_equal n)) (mCons (m2 ixW (mV 0) (mV 2)) (mCons (m2 ixW (mV 1) (mV 2)) mNil))) = M at *
    generalize ((rangeW 0 ws.length).map fun _ => W.bl true) = L at *
    generalize mk ws = T at *
    simp [el, e5]
  show runDef 3 (b__law_equal (r__law_equal n)) [mk ws, mk ws] S = _
  refine Sm.run_rt ?_
  show b__law_equal (r__law_equal n) [some (mk ws), some (mk ws), none] S = _
  unfold b__law_equal
  generalize mCa allW (mCons (mLC [2] (mIa itR1 (mCons (mCa lenW (mCons (mV 1) (mNil))) (mNil))) (gN 2) mYes (mCa (cal 2 (r__law_equal n)) (mCons (m2 ixW (mV 0) (mV 2)) (mCons (m2 ixW (mV 1) (mV 2)) mNil)))) (mNil)) = M at *
  rcases hmk with rfl | rfl
  · simp [isaW, tyW, ei]
  · simp [isaW, tyW, ei]
theorem equal_self : ∀ (n : Nat) (w : W), eqk n w = true → ∀ S, r__law_equal n [w, w] S = .val (.bl true) S
  | n + 1, .non, _, S => by simp [r__law_equal, b__law_equal]
  | n + 1, .bl b, _, S => by simp [r__law_equal, b__law_equal, isaW, tyW]
  | n + 1, .int i, _, S => by simp [r__law_equal, b__law_equal, isaW, tyW, m__law_is_integer, b__law_is_integer]
  | n + 1, .str s, h, S => by
    have e := Sm.eq_str (s := s) h S
    simp [r__law_equal, b__law_equal, isaW, tyW, e]
  | n + 1, .tup ws, h, S => by
    have h' : decide (ws.length ≤ 1000) = true ∧ ws.all (eqk n) = true := by simpa [eqk] using h
    exact equal_seq n ws W.tup (.inl rfl) (of_decide_eq_true h'.1) S fun w hw => equal_self n w (Sm.allm h'.2 hw) S
  | n + 1, .lst ws, h, S => by
    have h' : decide (ws.length ≤ 1000) = true ∧ ws.all (eqk n) = true := by simpa [eqk] using h
    exact equal_seq n ws W.lst (.inr rfl) (of_decide_eq_true h'.1) S fun w hw => equal_self n w (Sm.allm h'.2 hw) S
theorem equal_box (n : Nat) (ws : List W) {b : Nat} (hl : ws.length ≤ 1000) {S : Sto} (hb : S[b]? = some (.lst ws)) (h : ∀ w ∈ ws, r__law_equal n [w, w] S = .val (.bl true) S) : r__law_equal (n + 1) [.box b, .lst ws] S = .val (.bl true) S := by
  have hat1 : ∀ k : Nat, (hk : k < ws.length) → ixW (.lst ws) (.int (k : Int)) S = .val ws[k] S := fun k hk => by
    have e1 : atI ws (k : Int) = some ws[k] := by rw [atI_at]; simp [hk]
    simp [e1]
  have hat0 : ∀ k : Nat, (hk : k < ws.length) → ixW (.box b) (.int (k : Int)) S = .val ws[k] S := fun k hk => by
    have e1 : atI ws (k : Int) = some ws[k] := by rw [atI_at]; simp [hk]
    rw [ixW_box hb, e1]
    rfl
  have hl1 : lenW [.lst ws] S = .val (.int (ws.length : Int)) S := by simp
  have hl0 : lenW [.box b] S = .val (.int (ws.length : Int)) S := by
    unfold lenW
    simp only [seqW, hb]
  have e0 := Sm.range1 (ms := mCons (mCa lenW (mCons (mV 1) (mNil))) (mNil)) (env := [some (.box b), some (.lst ws), none]) (S := S) (m := ws.length) (by omega) (by
    simp [hl1])
  have el := Sm.mLC_map (own := [2]) (g := gN 2) (el := mCa (cal 2 (r__law_equal n)) (mCons (m2 ixW (mV 0) (mV 2)) (mCons (m2 ixW (mV 1) (mV 2)) mNil))) (fun _ => .bl true) e0 rfl (by simp; omega) (fun w hw => by
    obtain ⟨k, hk, rfl⟩ := rangeW_mem hw
    have ek : (0 : Int) + (k : Int) = (k : Int) := by omega
    rw [ek]
    refine ⟨_, rfl, Sm.call2e (Sm.m2_val rfl rfl (hat0 k hk)) (Sm.m2_val rfl rfl (hat1 k hk)) ?_⟩
    exact h ws[k] (List.getElem_mem hk))
  have e5 := allW_fn (fun _ => true) (rangeW 0 ws.length) S
  have e6 : ((rangeW 0 ws.length).all fun _ => true) = true := by simp
  rw [e6] at e5
  have ei : mCa allW (mCons (mLC [2] (mIa itR1 (mCons (mCa lenW (mCons (mV 1) (mNil))) (mNil))) (gN 2) mYes (mCa (cal 2 (r__law_equal n)) (mCons (m2 ixW (mV 0) (mV 2)) (mCons (m2 ixW (mV 1) (mV 2)) mNil)))) (mNil)) [some (.box b), some (.lst ws), none] S = .val (.bl true) S := by
    generalize mLC [2] (mIa itR1 (mCons (mCa lenW (mCons (mV 1) (mNil))) (mNil))) (gN 2) mYes (mCa (cal 2 (r__law_equal n)) (mCons (m2 ixW (mV 0) (mV 2)) (mCons (m2 ixW (mV 1) (mV 2)) mNil))) = M at *
    generalize ((rangeW 0 ws.length).map fun _ => W.bl true) = L at *
    simp [el, e5]
  show runDef 3 (b__law_equal (r__law_equal n)) [.box b, .lst ws] S = _
  refine Sm.run_rt ?_
  show b__law_equal (r__law_equal n) [some (.box b), some (.lst ws), none] S = _
  unfold b__law_equal
  generalize mCa allW (mCons (mLC [2] (mIa itR1 (mCons (mCa lenW (mCons (mV 1) (mNil))) (mNil))) (gN 2) mYes (mCa (cal 2 (r__law_equal n)) (mCons (m2 ixW (mV 0) (mV 2)) (mCons (m2 ixW (mV 1) (mV 2)) mNil)))) (mNil)) = M at *
  simp [isaW, tyW, ei, hl0]
end K65

set_option Elab.async false
set_option linter.all false
set_option maxRecDepth 100000
namespace K65
open PySem PySem.Spec PyProof.Rows L2 Sm
local instance tb_65h : TB := ⟨[]⟩
/-! ### a text is laid -/
def sT (w : List Nat) : W := .str (T w)
def cl : List Sg → Nat → List Nat
  | [], _ => []
  | (b, w) :: r, a => (a + b + 1) :: cl r (a + b + w.length)
theorem flat_snoc (sg : List Sg) (b : Nat) (w : List Nat) : flat (sg ++ [(b, w)]) = flat sg ++ (List.replicate b 32 ++ w) := by
  rw [flat_app]
  simp [flat]
theorem cl_snoc : ∀ (sg : List Sg) (a b : Nat) (w : List Nat), cl (sg ++ [(b, w)]) a = cl sg a ++ [a + (flat sg).length + b + 1]
  | [], a, b, w => by simp [cl, flat]
  | (k, v) :: sg, a, b, w => by
    show (a + k + 1) :: cl (sg ++ [(b, w)]) (a + k + v.length) = _
    rw [cl_snoc sg]
    simp only [cl, flat, List.cons_append, List.length_append, List.length_replicate]
    congr 3
    omega
theorem adj_snoc {b : Nat} {w : List Nat} : ∀ {sg : List Sg}, Adj sg → (∀ p k v, sg = p ++ [(k, v)] → nr v w = true → 1 ≤ b) → Adj (sg ++ [(b, w)])
  | [], _, _ => trivial
  | [(k, v)], _, h => ⟨h [] k v rfl, trivial⟩
  | (k, v) :: (k2, v2) :: r, ha, h => ⟨ha.1, adj_snoc (sg := (k2, v2) :: r) ha.2 fun p k' v' e => h ((k, v) :: p) k' v' (by rw [e]; rfl)⟩
theorem max_nat (a b : Nat) (S : Sto) : max2W [.int (a : Int), .int (b : Int)] S = .val (.int ((max a b : Nat) : Int)) S := by
  show Out.val (W.int (if (b : Int) > (a : Int) then (b : Int) else (a : Int))) S = _
  refine congrArg (fun x => Out.val (W.int x) S) ?_
  split <;> omega
theorem lit4 : [W.str "", .str " ", .str "  ", .str "   "] = (List.range 4).map fun d => sT (List.replicate d 32) := by kernel_rfl
theorem lit3 : [W.str "", .str " ", .str "  "] = (List.range 3).map fun d => sT (List.replicate d 32) := by kernel_rfl
theorem eqS {a b : Str} (ha : PyData.strOk a = true) (hb : PyData.strOk b = true) (S : Sto) : eqW (.str a) (.str b) S = .val (.bl (decide (a = b))) S := by
  have h3 : (a == b) = decide (a = b) := by
    rw [Bool.eq_iff_iff, beq_iff_eq, decide_eq_true_eq]
  have e : eqB (.str a) (.str b) = some (decide (a = b)) := by
    simp [eqB, toD, SeqAt.shaped, PyData.eqv, PyData.canLay0, PyData.depth, ha, hb, h3]
  unfold eqW
  rw [e]
theorem neS {a b : Str} (ha : PyData.strOk a = true) (hb : PyData.strOk b = true) (S : Sto) : neW (.str a) (.str b) S = .val (.bl (!decide (a = b))) S := by
  have h3 : (a == b) = decide (a = b) := by
    rw [Bool.eq_iff_iff, beq_iff_eq, decide_eq_true_eq]
  have e : eqB (.str a) (.str b) = some (decide (a = b)) := by
    simp [eqB, toD, SeqAt.shaped, PyData.eqv, PyData.canLay0, PyData.depth, ha, hb, h3]
  unfold neW
  rw [e]
def isK (w : List Nat) : Bool := match m__law_kind [sT w] [] with
  | .val (.str u) [] => decide (u = kS w)
  | _ => false
theorem kind_t : (WL.all fun w => isK w && PyData.strOk (kS w)) = true := by decide +kernel
theorem kind_eq {w : List Nat} (h : w ∈ WL) (S : Sto) : p__law_kind [sT w] S = .val (.str (kS w)) S := by
  have := List.all_eq_true.mp kind_t w h
  rw [Bool.and_eq_true] at this
  have h1 := this.1
  unfold isK at h1
  split at h1
  next u e => exact Sm.pur_val (e.trans (by rw [of_decide_eq_true h1])) rfl rfl
  next => cases h1
theorem kind_ok {w : List Nat} (h : w ∈ WL) : PyData.strOk (kS w) = true := by
  have := List.all_eq_true.mp kind_t w h
  rw [Bool.and_eq_true] at this
  exact this.2
theorem val_ok {w : List Nat} (h : w ∈ WL) : PyData.strOk (T w) = true := T_ok (List.all_eq_true.mpr fun c hc => decide_eq_true ((wd_of h).vl c hc).1)
theorem addT {a b : List Nat} (h : a.length + b.length ≤ 1000) (S : Sto) : addW (.str (T a)) (.str (T b)) S = .val (.str (T (a ++ b))) S := by
  show (if (T a).length + (T b).length ≤ lim then Out.val (W.str (T a ++ T b)) S else .bad) = _
  rw [T_len, T_len, if_pos (by unfold lim; omega), T_add]
theorem andV_t {a b : EM W} {env : Sm.Env} {S S1 : Sto} {r : Out W} (h : a env S = .val (.bl true) S1) (h2 : b env S1 = r) : mAndV a b env S = r := by
  show Out.bind (a env S) _ = _
  rw [h]
  exact h2
theorem andV_f {a b : EM W} {env : Sm.Env} {S S1 : Sto} (h : a env S = .val (.bl false) S1) : mAndV a b env S = .val (.bl false) S1 := by
  show Out.bind (a env S) _ = _
  rw [h]
  rfl
theorem ca2 {f : List W → M W} {a b : EM W} {env : Sm.Env} {S S1 S2 : Sto} {w u : W} {r : Out W} (ha : a env S = .val w S1) (hb : b env S1 = .val u S2) (h : f [w, u] S2 = r) : mCa f (mCons a (mCons b (mNil))) env S = r := by
  have e : mCons a (mCons b (mNil)) env S = .val [w, u] S2 := by
    show Out.bind (a env S) _ = _
    rw [ha]
    show Out.bind (Out.bind (b env S1) _) _ = _
    rw [hb]
    rfl
  show Out.bind (mCons a (mCons b (mNil)) env S) f = r
  rw [e]
  exact h
def laN : SM := (sSet 6 (mCa intW (mCons (mAndV (m2 (gtW) (mV 4) (mC (.int 0))) (mAndV (m2 (eqW) (mCa (cal 1 p__law_kind) (mCons (m2 ixW (mV 1) (m2 subW (mV 4) (mC (.int 1)))) (mNil))) (mCa (cal 1 p__law_kind) (mCons (mV 5) (mNil)))) (m2 (neW) (mV 5) (mC (.str ":"))))) (mNil))))
def laT : SM := (sSet 2 (m2 addW (mV 2) (m2 ixW (mLst (mCons (mC (.str "")) (mCons (mC (.str " ")) (mCons (mC (.str "  ")) (mCons (mC (.str "   ")) (mNil)))))) (mCa max2W (mCons (mV 6) (mCons (mCa (cal 2 m__law_next) (mCons (mV 0) (mCons (mC (.int 4)) (mNil)))) (mNil)))))))
def laP : SM := (sExpr (mMt appW (mV 3) (mCons (m2 addW (mCa lenW (mCons (mV 2) (mNil))) (mC (.int 1))) (mNil))))
def laW : SM := (sSet 2 (m2 addW (mV 2) (mV 5)))
def laB : SM := sSeq laN (sSeq laT (sSeq laP laW))
def laF : SM := (sFor (mIa itEnL (mCons (mV 1) (mNil))) (gT (gsC (gN 4) (gsC (gN 5) (gsN)))) laB)
def la4 : SM := (sSet 2 (m2 addW (mV 2) (m2 ixW (mLst (mCons (mC (.str "")) (mCons (mC (.str " ")) (mCons (mC (.str "  ")) (mNil))))) (mCa (cal 2 m__law_next) (mCons (mV 0) (mCons (mC (.int 3)) (mNil)))))))
def la5 : SM := sRet (mTup (mCons (mV 2) (mCons (m2 addWX (mV 3) (mLst (mCons (m2 addW (mCa lenW (mCons (mV 2) (mNil))) (mC (.int 1))) (mNil)))) (mNil))))
theorem b_la : b__law_laid = sSeq (sSet 2 (mC (.str ""))) (sSeq (sSet 3 (mBox (mNil))) (sSeq laF (sSeq la4 la5))) := rfl
def lae (wb pb : Nat) (l : List Nat) (x4 x5 x6 : Option W) : Sm.Env := [some (.box 0), some (.box wb), some (sT l), some (.box pb), x4, x5, x6]
def ci (L : List Nat) : List W := L.map fun n : Nat => W.int (n : Int)
structure LI (ws : List (List Nat)) (wb pb i : Nat) (sg : List Sg) (S : Sto) : Prop where
  st : Strm S 0
  w0 : S[wb]? = some (.lst (ws.map sT))
  p0 : S[pb]? = some (.lst (ci (cl sg 0)))
  sn : sg.map Prod.snd = ws.take i
  aj : Adj sg
  bl : ∀ s ∈ sg, s.1 ≤ 3
theorem flat_len {ws : List (List Nat)} (hws : ∀ w ∈ ws, w ∈ WL) : ∀ {sg : List Sg} {i : Nat}, sg.map Prod.snd = ws.take i → (∀ s ∈ sg, s.1 ≤ 3) → (flat sg).length ≤ 12 * sg.length := by
  intro sg i h hb
  have hw : ∀ s ∈ sg, s.2.length ≤ 9 := fun s hs => by
    have : s.2 ∈ ws.take i := by rw [← h]; exact List.mem_map.mpr ⟨s, hs, rfl⟩
    exact (wd_of (hws _ (List.mem_of_mem_take this))).le
  clear h
  induction sg with
  | nil => simp [flat]
  | cons s sg ih =>
    have h1 := hw s List.mem_cons_self
    have h2 := hb s List.mem_cons_self
    have h3 := ih (fun s hs => hb s (List.mem_cons_of_mem _ hs)) (fun s hs => hw s (List.mem_cons_of_mem _ hs))
    obtain ⟨k, w⟩ := s
    simp only [flat, List.length_append, List.length_replicate, List.length_cons] at *
    omega
section
variable {ws : List (List Nat)} (hws : ∀ w ∈ ws, w ∈ WL) (hn : ws.length ≤ 23) {wb pb : Nat} (h0 : wb ≠ 0) (h1 : pb ≠ 0) (h2 : pb ≠ wb)
include hws hn h0 h1 h2
theorem la_step {i : Nat} (hi : i < ws.length) {sg : List Sg} {S : Sto} (I : LI ws wb pb i sg S) {x6 : Option W} : ∃ x6' S' b, laB (lae wb pb (flat sg) (some (.int (i : Int))) (some (sT ws[i])) x6) S = .nx (lae wb pb (flat (sg ++ [(b, ws[i])])) (some (.int (i : Int))) (some (sT ws[i])) x6') S' ∧ LI ws wb pb (i + 1) (sg ++ [(b, ws[i])]) S' := by
  have hw := hws _ (List.getElem_mem hi)
  have hlen : sg.length = i := by
    have := congrArg List.length I.sn
    rw [List.length_map, List.length_take] at this
    omega
  have hfl := flat_len hws I.sn I.bl
  have hfl2 : (flat sg).length ≤ 264 := by omega
  have hw9 := (wd_of hw).le
  -- near
  obtain ⟨near, hnear, eN⟩ : ∃ near : Nat, (near ≤ 1 ∧ ∀ p k v, sg = p ++ [(k, v)] → nr v ws[i] = true → near = 1) ∧ laN (lae wb pb (flat sg) (some (.int (i : Int))) (some (sT ws[i])) x6) S = .nx (lae wb pb (flat sg) (some (.int (i : Int))) (some (sT ws[i])) (some (.int (near : Int)))) S := by
    have t1 : m2 (gtW) (mV 4) (mC (.int 0)) (lae wb pb (flat sg) (some (.int (i : Int))) (some (sT ws[i])) x6) S = .val (.bl (decide (0 < i))) S := by
      refine Sm.m2_val (x := .int (i : Int)) (y := .int 0) (S1 := S) (S2 := S) rfl rfl ?_
      rw [gt_int]
      congr 2
      rw [decide_eq_decide]
      omega
    by_cases hp : 0 < i
    · rw [decide_eq_true hp] at t1
      have hi1 : i - 1 < ws.length := by omega
      have hv := hws _ (List.getElem_mem hi1)
      have eS : m2 subW (mV 4) (mC (.int 1)) (lae wb pb (flat sg) (some (.int (i : Int))) (some (sT ws[i])) x6) S = .val (.int ((i - 1 : Nat) : Int)) S := by
        refine Sm.m2_val (x := .int (i : Int)) (y := .int 1) (S1 := S) (S2 := S) rfl rfl ?_
        show Out.val (W.int ((i : Int) - 1)) S = _
        congr 2
        omega
      have eX : m2 ixW (mV 1) (m2 subW (mV 4) (mC (.int 1))) (lae wb pb (flat sg) (some (.int (i : Int))) (some (sT ws[i])) x6) S = .val (sT ws[i - 1]) S := by
        refine Sm.m2_val (x := .box wb) (S1 := S) rfl eS ?_
        rw [ixW_box I.w0, atI_at, List.getElem?_map, List.getElem?_eq_getElem hi1]
        rfl
      have t2 : m2 (eqW) (mCa (cal 1 p__law_kind) (mCons (m2 ixW (mV 1) (m2 subW (mV 4) (mC (.int 1)))) (mNil))) (mCa (cal 1 p__law_kind) (mCons (mV 5) (mNil))) (lae wb pb (flat sg) (some (.int (i : Int))) (some (sT ws[i])) x6) S = .val (.bl (decide (kS ws[i - 1] = kS ws[i]))) S :=
        Sm.m2_val (Sm.call1e eX (kind_eq hv S)) (Sm.call1e rfl (kind_eq hw S)) (eqS (kind_ok hv) (kind_ok hw) S)
      have t3 : m2 (neW) (mV 5) (mC (.str ":")) (lae wb pb (flat sg) (some (.int (i : Int))) (some (sT ws[i])) x6) S = .val (.bl (decide (ws[i] ≠ [58]))) S := by
        refine Sm.m2_val (x := sT ws[i]) (y := .str ":") (S1 := S) (S2 := S) rfl rfl ?_
        rw [lit_c]
        show neW (.str (T ws[i])) (.str (T [58])) S = _
        rw [neS (val_ok hw) (by decide +kernel)]
        congr 2
        have : (T ws[i] = T [58]) ↔ ws[i] = [58] := ⟨T_inj, fun e => by rw [e]⟩
        by_cases h : ws[i] = [58]
        · rw [decide_eq_true (this.mpr h), decide_eq_false (fun z => z h)]
          rfl
        · rw [decide_eq_false (fun z => h (this.mp z)), decide_eq_true h]
          rfl
      have tt : (mAndV (m2 (gtW) (mV 4) (mC (.int 0))) (mAndV (m2 (eqW) (mCa (cal 1 p__law_kind) (mCons (m2 ixW (mV 1) (m2 subW (mV 4) (mC (.int 1)))) (mNil))) (mCa (cal 1 p__law_kind) (mCons (mV 5) (mNil)))) (m2 (neW) (mV 5) (mC (.str ":"))))) (lae wb pb (flat sg) (some (.int (i : Int))) (some (sT ws[i])) x6) S = .val (.bl (nr ws[i - 1] ws[i])) S := by
        refine andV_t t1 ?_
        unfold nr
        by_cases hk : kS ws[i - 1] = kS ws[i]
        · rw [decide_eq_true hk] at t2 ⊢
          rw [Bool.true_and]
          exact andV_t t2 t3
        · rw [decide_eq_false hk] at t2 ⊢
          rw [Bool.false_and]
          exact andV_f t2
      refine ⟨if nr ws[i - 1] ws[i] = true then 1 else 0, ⟨by split <;> omega, fun p k v e hv => ?_⟩, Sm.set_eq (i := 6) (ca1 tt ?_)⟩
      · have e2 : v = ws[i - 1] := by
          have e3 := I.sn
          rw [e, List.map_append] at e3
          have hpl : p.length = i - 1 := by rw [e] at hlen; simp at hlen; omega
          have e4 : (ws.take i)[i - 1]? = some v := by
            rw [← e3, List.getElem?_append_right (by simp; omega)]
            simp [hpl]
          rw [List.getElem?_take_of_lt (by omega), List.getElem?_eq_getElem hi1] at e4
          exact (Option.some.inj e4).symm
        rw [← e2, if_pos hv]
      · cases nr ws[i - 1] ws[i] <;> rfl
    · rw [decide_eq_false hp] at t1
      refine ⟨0, ⟨by omega, fun p k v e => ?_⟩, Sm.set_eq (i := 6) (ca1 (andV_f t1) rfl)⟩
      rw [e] at hlen
      simp at hlen
      omega
  -- blanks
  obtain ⟨d, S1, eD, hd, s1, n1, k1⟩ := nxk (j := 0) (n := 0) (me := mC (.int 4)) (k := 4) (env := lae wb pb (flat sg) (some (.int (i : Int))) (some (sT ws[i])) (some (.int (near : Int)))) rfl rfl I.st (by omega) (by omega)
  have hd4 : max near d < 4 := by omega
  have eT : laT (lae wb pb (flat sg) (some (.int (i : Int))) (some (sT ws[i])) (some (.int (near : Int)))) S = .nx (lae wb pb (flat sg ++ List.replicate (max near d) 32) (some (.int (i : Int))) (some (sT ws[i])) (some (.int (near : Int)))) S1 := by
    refine Sm.set_eq (i := 2) (Sm.m2_val (x := sT (flat sg)) (y := sT (List.replicate (max near d) 32)) (S1 := S) (S2 := S1) rfl (Sm.m2_val (x := .lst [W.str "", .str " ", .str "  ", .str "   "]) (S1 := S) rfl (ca2 rfl eD (max_nat near d S1)) ?_) (addT (by simp; omega) S1))
    rw [lit4, ixW_lst, atI_at, List.getElem?_map, List.getElem?_range hd4]
    rfl
  have w1 : S1[wb]? = some (.lst (ws.map sT)) := by rw [k1 _ h0]; exact I.w0
  have p1 : S1[pb]? = some (.lst (ci (cl sg 0))) := by rw [k1 _ h1]; exact I.p0
  have hcl : (cl sg 0).length = sg.length := by
    have : ∀ (sg : List Sg) (a : Nat), (cl sg a).length = sg.length := fun sg => by
      induction sg with
      | nil => intro a; rfl
      | cons s sg ih => intro a; obtain ⟨k, w⟩ := s; simp [cl, ih]
    exact this sg 0
  have eP : laP (lae wb pb (flat sg ++ List.replicate (max near d) 32) (some (.int (i : Int))) (some (sT ws[i])) (some (.int (near : Int)))) S1 = .nx (lae wb pb (flat sg ++ List.replicate (max near d) 32) (some (.int (i : Int))) (some (sT ws[i])) (some (.int (near : Int)))) (S1.set pb (.lst (ci (cl (sg ++ [(max near d, ws[i])]) 0)))) := by
    have e := app_box (j := 3) (n := pb) (w := .int (((flat sg).length + max near d + 1 : Nat) : Int)) (env := lae wb pb (flat sg ++ List.replicate (max near d) 32) (some (.int (i : Int))) (some (sT ws[i])) (some (.int (near : Int)))) (S := S1) (S1 := S1) (e := (m2 addW (mCa lenW (mCons (mV 2) (mNil))) (mC (.int 1)))) rfl (by
      refine Sm.m2_val (x := .int (((flat sg ++ List.replicate (max near d) 32).length : Nat) : Int)) (y := .int 1) (S1 := S1) (S2 := S1) (ca1 (w := .str (T (flat sg ++ List.replicate (max near d) 32))) (S1 := S1) rfl (lenT (by rw [List.length_append, List.length_replicate]; omega))) rfl ?_
      rw [List.length_append, List.length_replicate]
      rfl) p1 (by unfold ci; rw [List.length_map, hcl]; omega)
    refine e.trans ?_
    congr 3
    rw [cl_snoc, Nat.zero_add]
    unfold ci
    rw [List.map_append]
    rfl
  have eW : laW (lae wb pb (flat sg ++ List.replicate (max near d) 32) (some (.int (i : Int))) (some (sT ws[i])) (some (.int (near : Int)))) (S1.set pb (.lst (ci (cl (sg ++ [(max near d, ws[i])]) 0)))) = .nx (lae wb pb (flat (sg ++ [(max near d, ws[i])])) (some (.int (i : Int))) (some (sT ws[i])) (some (.int (near : Int)))) (S1.set pb (.lst (ci (cl (sg ++ [(max near d, ws[i])]) 0)))) := by
    rw [flat_snoc, ← List.append_assoc]
    exact Sm.set_eq (i := 2) (Sm.m2_val (x := sT (flat sg ++ List.replicate (max near d) 32)) (y := sT ws[i]) (S1 := S1.set pb (.lst (ci (cl (sg ++ [(max near d, ws[i])]) 0)))) (S2 := S1.set pb (.lst (ci (cl (sg ++ [(max near d, ws[i])]) 0)))) rfl rfl (addT (by simp; omega) _))
  refine ⟨_, _, max near d, by unfold laB; rw [Sm.sseq eN, Sm.sseq eT, Sm.sseq eP]; exact eW, ⟨strm_set s1 h1 _, by rw [List.getElem?_set_ne h2]; exact w1, List.getElem?_set_self (List.getElem?_eq_some_iff.mp p1).1, ?_, adj_snoc I.aj fun p k v e hv => by have := hnear.2 p k v e hv; omega, fun s hs => ?_⟩⟩
  · rw [List.map_append, I.sn, List.take_add_one, List.getElem?_eq_getElem hi]
    rfl
  · rcases List.mem_append.mp hs with hs | hs
    · exact I.bl s hs
    · rw [List.mem_singleton.mp hs]
      show max near d ≤ 3
      omega
end
end K65

set_option Elab.async false
set_option linter.all false
set_option maxRecDepth 100000
namespace K65
open PySem PySem.Spec PyProof.Rows L2 Sm
local instance tb_65i : TB := ⟨[]⟩
theorem cl_len : ∀ (sg : List Sg) (a : Nat), (cl sg a).length = sg.length
  | [], _ => rfl
  | (k, w) :: sg, a => by simp [cl, cl_len sg]
structure Laid (ws : List (List Nat)) (sg : List Sg) (j : Nat) (l : List Nat) : Prop where
  e : l = flat sg ++ List.replicate j 32
  sn : sg.map Prod.snd = ws
  aj : Adj sg
  bl : ∀ s ∈ sg, s.1 ≤ 3
  j2 : j ≤ 2
theorem laid_eq {ws : List (List Nat)} (hws : ∀ w ∈ ws, w ∈ WL) (hn : ws.length ≤ 23) {wb : Nat} (h0 : wb ≠ 0) {S : Sto} (hs : Strm S 0) (hw : S[wb]? = some (.lst (ws.map sT))) :
    ∃ sg j l q S', m__law_laid [.box 0, .box wb] S = .val (.tup [sT l, .box q]) S' ∧ Laid ws sg j l ∧ Strm S' 0 ∧ S'[wb]? = some (.lst (ws.map sT)) ∧ S'[q]? = some (.lst (ci (cl sg 0 ++ [l.length + 1]))) ∧ q ≠ 0 ∧ q ≠ wb := by
  have hwl : wb < S.length := (List.getElem?_eq_some_iff.mp hw).1
  have s0 := strm_lt hs
  have h1 : S.length ≠ 0 := by omega
  have h2 : S.length ≠ wb := by omega
  have I0 : LI ws wb S.length 0 [] (S ++ [.lst []]) := ⟨strm_push hs _, by rw [List.getElem?_append_left hwl]; exact hw, by rw [List.getElem?_append_right (Nat.le_refl _), Nat.sub_self]; rfl, by simp, trivial, by simp⟩
  have len_en : (enumT (ws.map sT)).length = ws.length := by simp [enumT]
  generalize hpb : S.length = pb at *
  obtain ⟨env', S1, e1, sg, x4, x5, x6, rfl, I⟩ := loopF_inv (it := .en wb) (g := gT (gsC (gN 4) (gsC (gN 5) (gsN)))) (body := laB) (ws := enumT (ws.map sT)) (fun i env S => ∃ sg x4 x5 x6, env = lae wb pb (flat sg) x4 x5 x6 ∧ LI ws wb pb i sg S) (fun i env S ⟨sg, x4, x5, x6, he, I⟩ => by
      rw [enum_at]
      simp only [It8.at, I.w0]) (fun i hi env S' ⟨sg, x4, x5, x6, he, I⟩ => by
      subst he
      have hi' : i < ws.length := by omega
      have ei : (enumT (ws.map sT))[i] = .tup [.int ((i : Nat) : Int), sT ws[i]] := by
        have := enum_at (ws := ws.map sT) (i := i)
        rw [List.getElem?_eq_getElem hi, List.getElem?_map, List.getElem?_eq_getElem hi'] at this
        exact Option.some.inj this
      obtain ⟨x6', S2, b, e, I2⟩ := la_step hws hn h0 h1 h2 hi' I (x6 := x6)
      refine ⟨lae wb pb (flat sg) (some (.int (i : Int))) (some (sT ws[i])) x6, by rw [ei]; rfl, _, _, e, _, _, _, _, rfl, I2⟩) (enumT (ws.map sT)).length 0 (lae wb pb [] none none none) (S ++ [.lst []]) (by omega) ⟨[], none, none, none, rfl, I0⟩
  rw [len_en] at I e1
  have fF : laF (lae wb pb [] none none none) (S ++ [.lst []]) = .nx (lae wb pb (flat sg) x4 x5 x6) S1 := by
    have em : mIa itEnL (mCons (mV 1) (mNil)) (lae wb pb [] none none none) (S ++ [.lst []]) = .val (.en wb) (S ++ [.lst []]) := rfl
    have ef : (It8.en wb).fuel (S ++ [.lst []]) = ws.length + 1 := by
      simp only [It8.fuel, I0.w0]
      rw [List.length_map]
    unfold laF
    show ofI (mIa itEnL (mCons (mV 1) (mNil)) (lae wb pb [] none none none) (S ++ [.lst []])) _ _ = _
    rw [em]
    show loopF (.en wb) _ laB ((It8.en wb).fuel (S ++ [.lst []])) 0 _ _ = _
    rw [ef]
    exact e1
  have sn : sg.map Prod.snd = ws := by rw [I.sn, List.take_length]
  have hsl : sg.length = ws.length := by rw [← sn, List.length_map]
  have hfl := flat_len hws I.sn I.bl
  obtain ⟨d, S2, eD, hd, s2, n2, k2⟩ := nxk (j := 0) (n := 0) (me := mC (.int 3)) (k := 3) (env := lae wb pb (flat sg) x4 x5 x6) rfl rfl I.st (by omega) (by omega)
  have f4 : la4 (lae wb pb (flat sg) x4 x5 x6) S1 = .nx (lae wb pb (flat sg ++ List.replicate d 32) x4 x5 x6) S2 := by
    refine Sm.set_eq (i := 2) (Sm.m2_val (x := sT (flat sg)) (y := sT (List.replicate d 32)) (S1 := S1) (S2 := S2) rfl (Sm.m2_val (x := .lst [W.str "", .str " ", .str "  "]) (S1 := S1) rfl eD ?_) (addT (by simp; omega) S2))
    rw [lit3, ixW_lst, atI_at, List.getElem?_map, List.getElem?_range (by omega)]
    rfl
  have w2 : S2[wb]? = some (.lst (ws.map sT)) := by rw [k2 _ h0]; exact I.w0
  have p2 : S2[pb]? = some (.lst (ci (cl sg 0))) := by rw [k2 _ h1]; exact I.p0
  generalize hL : flat sg ++ List.replicate d 32 = l at *
  have hll : l.length ≤ 300 := by rw [← hL]; simp; omega
  have eA : m2 addW (mCa lenW (mCons (mV 2) (mNil))) (mC (.int 1)) (lae wb pb l x4 x5 x6) S2 = .val (.int ((l.length + 1 : Nat) : Int)) S2 :=
    Sm.m2_val (x := .int ((l.length : Nat) : Int)) (y := .int 1) (S1 := S2) (S2 := S2) (ca1 (w := .str (T l)) (S1 := S2) rfl (lenT (by omega))) rfl rfl
  have eX : m2 addWX (mV 3) (mLst (mCons (m2 addW (mCa lenW (mCons (mV 2) (mNil))) (mC (.int 1))) (mNil))) (lae wb pb l x4 x5 x6) S2 = .val (.box S2.length) (S2 ++ [.lst (ci (cl sg 0 ++ [l.length + 1]))]) := by
    generalize m2 addW (mCa lenW (mCons (mV 2) (mNil))) (mC (.int 1)) = M at *
    have eL : mLst (mCons M (mNil)) (lae wb pb l x4 x5 x6) S2 = .val (.lst [.int ((l.length + 1 : Nat) : Int)]) S2 := by
      have e : mCons M (mNil) (lae wb pb l x4 x5 x6) S2 = .val [.int ((l.length + 1 : Nat) : Int)] S2 := by
        show Out.bind (M _ S2) _ = _
        rw [eA]
        rfl
      show Out.bind (mCons M (mNil) _ S2) wLst = _
      rw [e]
      rfl
    refine Sm.m2_val (x := .box pb) (S1 := S2) rfl eL ?_
    show (match S2[pb]? with
      | some (.lst a) => if a.length + 1 ≤ lim then Out.val (W.box S2.length) (S2 ++ [Cell.lst (a ++ [W.int ((l.length + 1 : Nat) : Int)])]) else .bad
      | _ => .bad) = _
    rw [p2]
    show (if (ci (cl sg 0)).length + 1 ≤ lim then Out.val (W.box S2.length) (S2 ++ [Cell.lst (ci (cl sg 0) ++ [W.int ((l.length + 1 : Nat) : Int)])]) else .bad) = _
    rw [if_pos (by unfold ci lim; rw [List.length_map, cl_len]; omega)]
    unfold ci
    rw [List.map_append]
    rfl
  have hw2 : wb < S2.length := (List.getElem?_eq_some_iff.mp w2).1
  have q0 := strm_lt s2
  refine ⟨sg, d, l, S2.length, S2 ++ [.lst (ci (cl sg 0 ++ [l.length + 1]))], Sm.run_rt ?_, ⟨hL.symm, sn, I.aj, I.bl, by omega⟩, strm_push s2 _, by rw [List.getElem?_append_left hw2]; exact w2, by rw [List.getElem?_append_right (Nat.le_refl _), Nat.sub_self]; rfl, by omega, by omega⟩
  have f1 : (sSet 2 (mC (.str ""))) [some (.box 0), some (.box wb), none, none, none, none, none] S = .nx [some (.box 0), some (.box wb), some (sT []), none, none, none, none] S := by
    have e : W.str "" = sT [] := by kernel_rfl
    rw [e]
    rfl
  have f2 : (sSet 3 (mBox (mNil))) [some (.box 0), some (.box wb), some (sT []), none, none, none, none] S = .nx (lae wb pb [] none none none) (S ++ [.lst []]) := by
    rw [← hpb]
    rfl
  show b__law_laid [some (.box 0), some (.box wb), none, none, none, none, none] S = _
  rw [b_la, Sm.sseq f1, Sm.sseq f2, Sm.sseq fF, Sm.sseq f4]
  exact Sm.ret_eq (tup2 (w := sT l) (S1 := S2) rfl eX)
end K65

set_option Elab.async false
set_option linter.all false
set_option maxRecDepth 100000
namespace K65
open PySem PySem.Spec PyProof.Rows L2 Sm
local instance tb_65j : TB := ⟨[]⟩
def lz1 : SM := (sSet 1 (mCa (cal 1 m__law_stream) (mCons (mV 0) (mNil))))
def lz2 : SM := (sSet 2 (mLCB [15] (mIa itR1 (mCons (mCa (cal 2 m__law_next) (mCons (mV 1) (mCons (mC (.int 21)) (mNil)))) (mNil))) (gN 15) (mYes) (mCa (cal 2 m__law_pick) (mCons (mV 1) (mCons (mLst (mCons (mC (.str "0")) (mCons (mC (.str "31")) (mCons (mC (.str "000345")) (mCons (mC (.str "999999")) (mCons (mC (.str ":")) (mCons (mC (.str ".+-")) (mCons (mC (.str "........")) (mCons (mC (.str "+")) (mCons (mC (.str "-.")) (mCons (mC (.str ":")) (mNil)))))))))))) (mNil))))))
def lz3 : SM := (sSet 3 (mC .non))
def lz4 : SM := (sIf (mB (m2 (eqW) (mCa (cal 2 m__law_next) (mCons (mV 1) (mCons (mC (.int 2)) (mNil)))) (mC (.int 1)))) (sSeq (sSet 4 (mLC [14] (mI itSeq (mLst (mCons (mC (.str "A")) (mCons (mC (.str "a")) (mCons (mC (.str "_")) (mCons (mC (.str ",")) (mCons (mC (.str "	")) (mCons (mC (.str "|")) (mCons (mC (.str ";")) (mCons (mC (.str "(")) (mCons (mC (.str "#")) (mCons (mC (.str "=")) (mCons (mC (.str "/")) (mNil)))))))))))))) (gN 14) (mYes) (mTup (mCons (mV 14) (mCons (mC (.str "no token begins here")) (mNil)))))) (sSeq (sSet 4 (m2 addW (mV 4) (mLst (mCons (mTup (mCons (mC (.str "1000000")) (mCons (mC (.str "a number has at most 6 digits")) (mNil)))) (mCons (mTup (mCons (mC (.str "0000001")) (mCons (mC (.str "a number has at most 6 digits")) (mNil)))) (mCons (mTup (mCons (mC (.str ".........")) (mCons (mC (.str "a row has at most 8 marks")) (mNil)))) (mCons (mTup (mCons (mC (.str "+-+-+-+-+")) (mCons (mC (.str "a row has at most 8 marks")) (mNil)))) (mNil)))))))) (sSeq (sSet 5 (mCa (cal 2 m__law_next) (mCons (mV 1) (mCons (m2 addW (mCa lenW (mCons (mV 2) (mNil))) (mC (.int 1))) (mNil))))) (sSeq (sAsg (mCa (cal 2 m__law_pick) (mCons (mV 1) (mCons (mV 4) (mNil)))) (gT (gsC (gN 6) (gsC (gN 3) (gsN))))) (sSeq (sSet 2 (m2 addWB (m2 addW (mSl (mV 2) (mOn) (mOi (mV 5))) (mLst (mCons (mV 6) (mNil)))) (mSl (mV 2) (mOi (mV 5)) (mOn)))) (sIf (mB (m2 (eqW) (mCa (cal 2 m__law_next) (mCons (mV 1) (mCons (mC (.int 2)) (mNil)))) (mC (.int 1)))) (sExpr (mMt appW (mV 2) (mCons (m2 ixW (mCa (cal 2 m__law_pick) (mCons (mV 1) (mCons (mV 4) (mNil)))) (mC (.int 0))) (mNil)))) (sNil))))))) (sNil))
def lz5 : SM := (sAsg (mCa (cal 2 m__law_laid) (mCons (mV 1) (mCons (mV 2) (mNil)))) (gT (gsC (gN 7) (gsC (gN 8) (gsN)))))
def lz6 : SM := (sIf (mB (m2 (notNW) (mV 3) (mC .non))) (sRet (mCa (cal 2 (r__law_equal 8)) (mCons (mCa (cal 1 m__law_told) (mCons (mV 7) (mNil))) (mCons (mTup (mCons (m2 ixW (mV 8) (mV 5)) (mCons (mV 3) (mNil)))) (mNil))))) (sNil))
def lz7 : SM := (sSet 9 (m2 addW (mLC [13, 6] (mIa itEnL (mCons (mV 2) (mNil))) (gT (gsC (gN 13) (gsC (gN 6) (gsN)))) (mYes) (mTup (mCons (mCa (cal 1 p__law_kind) (mCons (mV 6) (mNil))) (mCons (mV 6) (mCons (m2 ixW (mV 8) (mV 13)) (mNil)))))) (mLst (mCons (mTup (mCons (mC (.str "end")) (mCons (mC (.str "")) (mCons (m2 ixW (mV 8) (m1 negW (mC (.int 1)))) (mNil))))) (mNil)))))
def lz8 : SM := (sSet 10 (mCa (cal 1 m__law_told) (mCons (mV 7) (mNil))))
def lz9 : SM := (sIf (mNotT (mB (mCa (cal 2 (r__law_equal 8)) (mCons (mV 10) (mCons (mV 9) (mNil)))))) (sRet (mC (.bl false))) (sNil))
def lz10 : SM := (sExpr (mMt appW (mV 10) (mCons (mC .non) (mNil))))
def lz11 : SM := (sSet 11 (m2 mulSW (mC (.str " ")) (m2 subW (mC (.int 300)) (mCa lenW (mCons (mV 7) (mNil))))))
def lz12 : SM := (sSet 12 (mCa (cal 2 m__law_pick) (mCons (mV 1) (mCons (mLst (mCons (mC .non) (mCons (mLst (mCons (mV 7) (mNil))) (mCons (m2 addW (mV 7) (mC (.str "\n"))) (mCons (mC (.str "\n")) (mCons (m2 addW (m2 addW (mV 11) (mV 7)) (mC (.str " "))) (mCons (mC (.int 7)) (mNil)))))))) (mNil)))))
def lz13 : SM := sRet (mAndV (mCa (cal 2 (r__law_equal 8)) (mCons (mCa (cal 1 m__law_told) (mCons (mV 7) (mNil))) (mCons (mV 9) (mNil)))) (mAndV (m2 (eqW) (mCa (cal 1 m__law_told) (mCons (mV 12) (mNil))) (mC (.str "text"))) (m1 (isiW "list") (mCa (cal 1 m__law_told) (mCons (m2 addW (mV 11) (mV 7)) (mNil))))))
theorem b_law_lz : b_law = sSeq lz1 (sSeq lz2 (sSeq lz3 (sSeq lz4 (sSeq lz5 (sSeq lz6 (sSeq lz7 (sSeq lz8 (sSeq lz9 (sSeq lz10 (sSeq lz11 (sSeq lz12 (lz13)))))))))))) := rfl
def ly1 : SM := (sSet 4 (mLC [14] (mI itSeq (mLst (mCons (mC (.str "A")) (mCons (mC (.str "a")) (mCons (mC (.str "_")) (mCons (mC (.str ",")) (mCons (mC (.str "	")) (mCons (mC (.str "|")) (mCons (mC (.str ";")) (mCons (mC (.str "(")) (mCons (mC (.str "#")) (mCons (mC (.str "=")) (mCons (mC (.str "/")) (mNil)))))))))))))) (gN 14) (mYes) (mTup (mCons (mV 14) (mCons (mC (.str "no token begins here")) (mNil))))))
def ly2 : SM := (sSet 4 (m2 addW (mV 4) (mLst (mCons (mTup (mCons (mC (.str "1000000")) (mCons (mC (.str "a number has at most 6 digits")) (mNil)))) (mCons (mTup (mCons (mC (.str "0000001")) (mCons (mC (.str "a number has at most 6 digits")) (mNil)))) (mCons (mTup (mCons (mC (.str ".........")) (mCons (mC (.str "a row has at most 8 marks")) (mNil)))) (mCons (mTup (mCons (mC (.str "+-+-+-+-+")) (mCons (mC (.str "a row has at most 8 marks")) (mNil)))) (mNil))))))))
def ly3 : SM := (sSet 5 (mCa (cal 2 m__law_next) (mCons (mV 1) (mCons (m2 addW (mCa lenW (mCons (mV 2) (mNil))) (mC (.int 1))) (mNil)))))
def ly4 : SM := (sAsg (mCa (cal 2 m__law_pick) (mCons (mV 1) (mCons (mV 4) (mNil)))) (gT (gsC (gN 6) (gsC (gN 3) (gsN)))))
def ly5 : SM := (sSet 2 (m2 addWB (m2 addW (mSl (mV 2) (mOn) (mOi (mV 5))) (mLst (mCons (mV 6) (mNil)))) (mSl (mV 2) (mOi (mV 5)) (mOn))))
def ly6 : SM := sIf (mB (m2 (eqW) (mCa (cal 2 m__law_next) (mCons (mV 1) (mCons (mC (.int 2)) (mNil)))) (mC (.int 1)))) (sExpr (mMt appW (mV 2) (mCons (m2 ixW (mCa (cal 2 m__law_pick) (mCons (mV 1) (mCons (mV 4) (mNil)))) (mC (.int 0))) (mNil)))) (sNil)
def lz4B : SM := sSeq ly1 (sSeq ly2 (sSeq ly3 (sSeq ly4 (sSeq ly5 ly6))))
theorem lz4_is : lz4 = (sIf (mB (m2 (eqW) (mCa (cal 2 m__law_next) (mCons (mV 1) (mCons (mC (.int 2)) (mNil)))) (mC (.int 1)))) lz4B (sNil)) := rfl
theorem pick_eq {L : List W} {S : Sto} (hs : Strm S 0) (h1 : 1 ≤ L.length) (h2 : L.length ≤ 1000) : ∃ (d : Nat) (S' : Sto) (w : W), m__law_pick [.box 0, .lst L] S = .val w S' ∧ L[d]? = some w ∧ Strm S' 0 ∧ ∀ m, m ≠ 0 → S'[m]? = S[m]? := by
  have el : mCa lenW (mCons (mV 1) (mNil)) [some (.box 0), some (.lst L)] S = .val (.int (L.length : Int)) S := ca1 rfl (lenW_lst _)
  obtain ⟨d, S1, e, hd, s1, -, k1⟩ := nxk (j := 0) (n := 0) rfl el hs (by omega) (by omega)
  have hd' : d < L.length := by omega
  refine ⟨d, S1, L[d], Sm.run_rt ?_, List.getElem?_eq_getElem hd', s1, k1⟩
  show b__law_pick [some (.box 0), some (.lst L)] S = _
  refine Sm.ret_eq (Sm.m2_val (x := .lst L) (S1 := S) rfl e ?_)
  rw [ixW_lst, atI_at, List.getElem?_eq_getElem hd']
  rfl
theorem lit10 : [W.str "0", .str "31", .str "000345", .str "999999", .str ":", .str ".+-", .str "........", .str "+", .str "-.", .str ":"] = R10.map sT := by kernel_rfl
theorem lit11 : [W.str "A", .str "a", .str "_", .str ",", .str "\t", .str "|", .str ";", .str "(", .str "#", .str "=", .str "/"] = S11.map sT := by kernel_rfl
def sxW (x : List Nat × Str) : W := .tup [sT x.1, .str x.2]
theorem litx : [W.tup [.str "1000000", .str "a number has at most 6 digits"], .tup [.str "0000001", .str "a number has at most 6 digits"], .tup [.str ".........", .str "a row has at most 8 marks"], .tup [.str "+-+-+-+-+", .str "a row has at most 8 marks"]] = (SX.drop 11).map sxW := by kernel_rfl
def elP : EM W := (mCa (cal 2 m__law_pick) (mCons (mV 1) (mCons (mLst (mCons (mC (.str "0")) (mCons (mC (.str "31")) (mCons (mC (.str "000345")) (mCons (mC (.str "999999")) (mCons (mC (.str ":")) (mCons (mC (.str ".+-")) (mCons (mC (.str "........")) (mCons (mC (.str "+")) (mCons (mC (.str "-.")) (mCons (mC (.str ":")) (mNil)))))))))))) (mNil))))
theorem lz2_is : lz2 = (sSet 2 (mLCB [15] (mIa itR1 (mCons (mCa (cal 2 m__law_next) (mCons (mV 1) (mCons (mC (.int 21)) (mNil)))) (mNil))) (gN 15) (mYes) elP)) := rfl
theorem elP_eq {env : Sm.Env} {S : Sto} (h1 : env[1]? = some (some (.box 0))) (hs : Strm S 0) : ∃ w S', elP env S = .val (sT w) S' ∧ w ∈ R10 ∧ Strm S' 0 ∧ ∀ m, m ≠ 0 → S'[m]? = S[m]? := by
  obtain ⟨d, S', w, e, hd, s', k⟩ := pick_eq (L := R10.map sT) hs (by decide) (by decide)
  rw [List.getElem?_map] at hd
  obtain ⟨v, hv, rfl⟩ := Option.map_eq_some_iff.mp hd
  have v1 : mV 1 env S = .val (.box 0) S := by simp [h1]
  refine ⟨v, S', Sm.call2e v1 (w := .box 0) (u := .lst (R10.map sT)) (S2 := S) ?_ e, List.mem_of_getElem? hv, s', k⟩
  rw [← lit10]
  rfl
theorem lcI_step {it : It8} {g : W → Sm.Env → Option Sm.Env} {el : EM W} {n k i : Nat} {env0 env1 : Sm.Env} {S S2 : Sto} {w y : W} {acc : List W} (h1 : it.at S i = some (some w)) (h2 : g w env0 = some env1) (h3 : el env1 S = .val y S2) (h4 : S2[n]? = some (.lst acc)) (h5 : acc.length ≤ lim) : lcI it g mYes el n env0 (k + 1) i S = lcI it g mYes el n env0 k (i + 1) (S2.set n (.lst (acc ++ [y]))) := by
  show (match it.at S i with
    | none => Out.bad
    | some none => .val () S
    | some (some w) => match g w env0 with
      | none => .bad
      | some env1 => match mYes env1 S with
        | .val false S1 => lcI it g mYes el n env0 k (i + 1) S1
        | .val true S1 => match el env1 S1 with
          | .val y S2 => match S2[n]? with
            | some (.lst acc) => if acc.length ≤ lim then lcI it g mYes el n env0 k (i + 1) (S2.set n (.lst (acc ++ [y]))) else .bad
            | _ => .bad
          | _ => .bad
        | _ => .bad) = _
  rw [h1]
  show (match g w env0 with
      | none => Out.bad
      | some env1 => match mYes env1 S with
        | .val false S1 => lcI it g mYes el n env0 k (i + 1) S1
        | .val true S1 => match el env1 S1 with
          | .val y S2 => match S2[n]? with
            | some (.lst acc) => if acc.length ≤ lim then lcI it g mYes el n env0 k (i + 1) (S2.set n (.lst (acc ++ [y]))) else .bad
            | _ => .bad
          | _ => .bad
        | _ => .bad) = _
  rw [h2]
  show (match el env1 S with
          | .val y S2 => match S2[n]? with
            | some (.lst acc) => if acc.length ≤ lim then lcI it g mYes el n env0 k (i + 1) (S2.set n (.lst (acc ++ [y]))) else .bad
            | _ => .bad
          | _ => .bad) = _
  rw [h3]
  show (match S2[n]? with
            | some (.lst acc) => if acc.length ≤ lim then lcI it g mYes el n env0 k (i + 1) (S2.set n (.lst (acc ++ [y]))) else .bad
            | _ => .bad) = _
  rw [h4]
  show (if acc.length ≤ lim then lcI it g mYes el n env0 k (i + 1) (S2.set n (.lst (acc ++ [y]))) else .bad) = _
  rw [if_pos h5]
theorem draws {env0 : Sm.Env} (h1 : ∀ w, (env0.set 15 (some w))[1]? = some (some (.box 0))) (hl : 15 < env0.length) {m b : Nat} (hb0 : b ≠ 0) : ∀ (k i : Nat) (S : Sto) (acc : List (List Nat)), i + k = m → Strm S 0 → S[b]? = some (.lst (acc.map sT)) → acc.length + k ≤ 1000 → (∀ w ∈ acc, w ∈ R10) →
    ∃ (ws : List (List Nat)) (S' : Sto), lcI (.seq (rangeW 0 m)) (gN 15) mYes elP b env0 (k + 1) i S = .val () S' ∧ Strm S' 0 ∧ S'[b]? = some (.lst (ws.map sT)) ∧ ws.length = acc.length + k ∧ (∀ w ∈ ws, w ∈ R10)
  | 0, i, S, acc, hi, hs, hb, _, ha => by
    have e : (rangeW 0 m)[i]? = none := List.getElem?_eq_none (by simp [rangeW]; omega)
    refine ⟨acc, S, ?_, hs, hb, rfl, ha⟩
    unfold lcI
    simp only [It8.at, e]
  | k + 1, i, S, acc, hi, hs, hb, hl2, ha => by
    have e : (rangeW 0 m)[i]? = some (.int ((i : Nat) : Int)) := by
      unfold rangeW
      rw [List.getElem?_map, List.getElem?_range (show i < m by omega)]
      simp
    have g1 : gN 15 (.int ((i : Nat) : Int)) env0 = some (env0.set 15 (some (.int ((i : Nat) : Int)))) := by
      simp [gN, hl]
    obtain ⟨w, S1, e1, hw, s1, k1⟩ := elP_eq (env := env0.set 15 (some (.int ((i : Nat) : Int)))) (h1 _) hs
    have b1 : S1[b]? = some (.lst (acc.map sT)) := by rw [k1 b hb0]; exact hb
    have e2 := lcI_step (it := .seq (rangeW 0 m)) (k := k + 1) (i := i) (S := S) (congrArg some e) g1 e1 b1 (by rw [List.length_map]; unfold lim; omega)
    obtain ⟨ws, S', e3, s3, b3, l3, m3⟩ := draws h1 hl (m := m) hb0 k (i + 1) (S1.set b (.lst (acc.map sT ++ [sT w]))) (acc ++ [w]) (by omega) (strm_set s1 hb0 _) (by rw [List.getElem?_set_self (List.getElem?_eq_some_iff.mp b1).1, List.map_append]; rfl) (by simp; omega) (fun v hv => by
      rcases List.mem_append.mp hv with hv | hv
      · exact ha v hv
      · rw [List.mem_singleton.mp hv]; exact hw)
    refine ⟨ws, S', e2.trans e3, s3, b3, by rw [l3]; simp; omega, m3⟩
def lw (sc : W) (x2 x3 x4 x5 x6 x7 x8 x9 x10 x11 x12 : Option W) : Sm.Env := [some sc, some (.box 0), x2, x3, x4, x5, x6, x7, x8, x9, x10, x11, x12, none, none, none]
theorem s2 {sc : W} {S : Sto} (hs : Strm S 0) : ∃ (wb : Nat) (ws : List (List Nat)) (S' : Sto), lz2 (lw sc none none none none none none none none none none none) S = .nx (lw sc (some (.box wb)) none none none none none none none none none none) S' ∧ Strm S' 0 ∧ wb ≠ 0 ∧ S'[wb]? = some (.lst (ws.map sT)) ∧ ws.length ≤ 20 ∧ ∀ w ∈ ws, w ∈ R10 := by
  obtain ⟨d, S1, eD, hd, s1, n1, k1⟩ := nxk (j := 1) (n := 0) (me := mC (.int 21)) (k := 21) (env := lw sc none none none none none none none none none none none) rfl rfl hs (by omega) (by omega)
  have hd : d ≤ 20 := by omega
  have em : mIa itR1 (mCons (mCa (cal 2 m__law_next) (mCons (mV 1) (mCons (mC (.int 21)) (mNil)))) (mNil)) (lw sc none none none none none none none none none none none) S = .val (.seq (rangeW 0 d)) S1 := by
    have e1 : mCons (mCa (cal 2 m__law_next) (mCons (mV 1) (mCons (mC (.int 21)) (mNil)))) (mNil) (lw sc none none none none none none none none none none none) S = .val [.int (d : Int)] S1 := cons1 eD
    generalize mCons (mCa (cal 2 m__law_next) (mCons (mV 1) (mCons (mC (.int 21)) (mNil)))) (mNil) = M at *
    show Out.bind (M _ S) itR1 = _
    rw [e1]
    show itR1 [.int (d : Int)] S1 = _
    show (if -big ≤ (d : Int) ∧ (d : Int) ≤ big then Out.val (It8.seq (rangeW 0 (d : Int).toNat)) S1 else .bad) = _
    rw [if_pos (by unfold big; omega), Int.toNat_natCast]
  have h0 := strm_lt s1
  obtain ⟨ws, S', e3, s3, b3, l3, m3⟩ := draws (env0 := lw sc none none none none none none none none none none none) (fun _ => rfl) (by simp [lw]) (m := d) (b := S1.length) (by omega) d 0 (S1 ++ [.lst []]) [] (by omega) (strm_push s1 _) (by simp) (by simp; omega) (by simp)
  refine ⟨S1.length, ws, S', ?_, s3, by omega, b3, by rw [l3]; simp; omega, m3⟩
  rw [lz2_is]
  refine Sm.set_eq (i := 2) ?_
  unfold mLCB
  show (mIa itR1 (mCons (mCa (cal 2 m__law_next) (mCons (mV 1) (mCons (mC (.int 21)) (mNil)))) (mNil)) (lw sc none none none none none none none none none none none) S).bind _ = _
  rw [em, bind_val]
  have ef : (It8.seq (rangeW 0 d)).fuel S1 = d + 1 := by
    show (rangeW 0 d).length + 1 = d + 1
    simp [rangeW]
  show (match lcI (.seq (rangeW 0 d)) (gN 15) mYes elP S1.length (wipeE (lw sc none none none none none none none none none none none) [15]) ((It8.seq (rangeW 0 d)).fuel S1) 0 (S1 ++ [.lst []]) with
    | .val _ S1' => Out.val (W.box S1.length) S1'
    | _ => .bad) = _
  rw [ef]
  have ew : wipeE (lw sc none none none none none none none none none none none) [15] = lw sc none none none none none none none none none none none := rfl
  rw [ew, e3]
/-! ### strange words -/
theorem s4 {sc : W} {wb : Nat} {ws : List (List Nat)} {S : Sto} (hs : Strm S 0) (h0 : wb ≠ 0) (hw : S[wb]? = some (.lst (ws.map sT))) (hl : ws.length ≤ 20) :
    (∃ S', lz4 (lw sc (some (.box wb)) (some .non) none none none none none none none none none) S = .nx (lw sc (some (.box wb)) (some .non) none none none none none none none none none) S' ∧ Strm S' 0 ∧ S'[wb]? = some (.lst (ws.map sT))) ∨
    (∃ (a : Nat) (x : List Nat × Str) (ys : List (List Nat)) (q : Nat) (x4 : Option W) (S' : Sto), lz4 (lw sc (some (.box wb)) (some .non) none none none none none none none none none) S = .nx (lw sc (some (.box q)) (some (.str x.2)) x4 (some (.int (a : Int))) (some (sT x.1)) none none none none none none) S' ∧ a ≤ ws.length ∧ x ∈ SX ∧ ys.length ≤ 1 ∧ (∀ y ∈ ys, y ∈ WL) ∧ q ≠ 0 ∧ Strm S' 0 ∧ S'[q]? = some (.lst ((ws.take a ++ x.1 :: (ws.drop a ++ ys)).map sT))) := by
  obtain ⟨d, S1, e1, hd, s1, -, k1⟩ := nxk (j := 1) (n := 0) (me := mC (.int 2)) (k := 2) (env := lw sc (some (.box wb)) (some .non) none none none none none none none none none) rfl rfl hs (by omega) (by omega)
  have w1 : S1[wb]? = some (.lst (ws.map sT)) := by rw [k1 _ h0]; exact hw
  have t : mB (m2 (eqW) (mCa (cal 2 m__law_next) (mCons (mV 1) (mCons (mC (.int 2)) (mNil)))) (mC (.int 1))) (lw sc (some (.box wb)) (some .non) none none none none none none none none none) S = .val (decide ((d : Int) = 1)) S1 := Sm.mB_val (Sm.m2_val (y := .int 1) (S2 := S1) e1 rfl (eqW_int _ _))
  rw [lz4_is]
  by_cases c : (d : Int) = 1
  · right
    rw [decide_eq_true c] at t
    have em : mI itSeq (mLst (mCons (mC (.str "A")) (mCons (mC (.str "a")) (mCons (mC (.str "_")) (mCons (mC (.str ",")) (mCons (mC (.str "\t")) (mCons (mC (.str "|")) (mCons (mC (.str ";")) (mCons (mC (.str "(")) (mCons (mC (.str "#")) (mCons (mC (.str "=")) (mCons (mC (.str "/")) (mNil))))))))))))) (lw sc (some (.box wb)) (some .non) none none none none none none none none none) S1 = .val (.seq (S11.map sT)) S1 := by
      rw [← lit11]
      rfl
    have k4 : mLC [14] (mI itSeq (mLst (mCons (mC (.str "A")) (mCons (mC (.str "a")) (mCons (mC (.str "_")) (mCons (mC (.str ",")) (mCons (mC (.str "\t")) (mCons (mC (.str "|")) (mCons (mC (.str ";")) (mCons (mC (.str "(")) (mCons (mC (.str "#")) (mCons (mC (.str "=")) (mCons (mC (.str "/")) (mNil)))))))))))))) (gN 14) (mYes) (mTup (mCons (mV 14) (mCons (mC (.str "no token begins here")) (mNil)))) (lw sc (some (.box wb)) (some .non) none none none none none none none none none) S1 = .val (.lst ((S11.map sT).map fun w => .tup [w, .str m0])) S1 :=
      Sm.mLC_map (fun w => .tup [w, .str m0]) em rfl (by decide) (fun w hw => ⟨_, rfl, rfl⟩)
    have f1 : ly1 (lw sc (some (.box wb)) (some .non) none none none none none none none none none) S1 = .nx (lw sc (some (.box wb)) (some .non) (some (.lst ((S11.map sT).map fun w => .tup [w, .str m0]))) none none none none none none none none) S1 := Sm.set_eq (i := 4) k4
    have ex : (S11.map sT).map (fun w => W.tup [w, .str m0]) ++ (SX.drop 11).map sxW = SX.map sxW := by
      rw [List.map_map]
      have : (S11.map ((fun w => W.tup [w, .str m0]) ∘ sT)) = (SX.take 11).map sxW := rfl
      rw [this, ← List.map_append, List.take_append_drop]
    have f2 : ly2 (lw sc (some (.box wb)) (some .non) (some (.lst ((S11.map sT).map fun w => .tup [w, .str m0]))) none none none none none none none none) S1 = .nx (lw sc (some (.box wb)) (some .non) (some (.lst (SX.map sxW))) none none none none none none none none) S1 := by
      refine Sm.set_eq (i := 4) (Sm.m2_val (x := .lst ((S11.map sT).map fun w => .tup [w, .str m0])) (y := .lst ((SX.drop 11).map sxW)) (S1 := S1) (S2 := S1) rfl ?_ ?_)
      · rw [← litx]
        rfl
      · show (if ((S11.map sT).map fun w => W.tup [w, .str m0]).length + ((SX.drop 11).map sxW).length ≤ lim then Out.val (W.lst (((S11.map sT).map fun w => W.tup [w, .str m0]) ++ (SX.drop 11).map sxW)) S1 else .bad) = _
        rw [if_pos (by simp [S11, SX, lim]), ex]
    have eL : m2 addW (mCa lenW (mCons (mV 2) (mNil))) (mC (.int 1)) (lw sc (some (.box wb)) (some .non) (some (.lst (SX.map sxW))) none none none none none none none none) S1 = .val (.int ((ws.length + 1 : Nat) : Int)) S1 := by
      refine Sm.m2_val (x := .int ((ws.length : Nat) : Int)) (y := .int 1) (S1 := S1) (S2 := S1) (ca1 (w := .box wb) (S1 := S1) rfl ?_) rfl rfl
      unfold lenW
      simp only [seqW, w1, List.length_map]
    obtain ⟨a, S2, e2, ha, s2, -, k2⟩ := nxk (j := 1) (n := 0) rfl eL s1 (by omega) (by omega)
    have w2 : S2[wb]? = some (.lst (ws.map sT)) := by rw [k2 _ h0]; exact w1
    have f3 : ly3 (lw sc (some (.box wb)) (some .non) (some (.lst (SX.map sxW))) none none none none none none none none) S1 = .nx (lw sc (some (.box wb)) (some .non) (some (.lst (SX.map sxW))) (some (.int (a : Int))) none none none none none none none) S2 := Sm.set_eq (i := 5) e2
    obtain ⟨i, S3, w, e3, hi, s3, k3⟩ := pick_eq (L := SX.map sxW) s2 (by decide) (by decide)
    rw [List.getElem?_map] at hi
    obtain ⟨x, hx, rfl⟩ := Option.map_eq_some_iff.mp hi
    have w3 : S3[wb]? = some (.lst (ws.map sT)) := by rw [k3 _ h0]; exact w2
    have f4 : ly4 (lw sc (some (.box wb)) (some .non) (some (.lst (SX.map sxW))) (some (.int (a : Int))) none none none none none none none) S2 = .nx (lw sc (some (.box wb)) (some (.str x.2)) (some (.lst (SX.map sxW))) (some (.int (a : Int))) (some (sT x.1)) none none none none none none) S3 := by
      have e : mCa (cal 2 m__law_pick) (mCons (mV 1) (mCons (mV 4) (mNil))) (lw sc (some (.box wb)) (some .non) (some (.lst (SX.map sxW))) (some (.int (a : Int))) none none none none none none none) S2 = .val (sxW x) S3 := Sm.call2e rfl rfl e3
      unfold ly4
      generalize mCa (cal 2 m__law_pick) (mCons (mV 1) (mCons (mV 4) (mNil))) = M at *
      simp [e]
      rfl
    have ha' : a ≤ ws.length := by omega
    have c1 : cutW (ws.map sT) none (some (a : Int)) = (ws.take a).map sT := by
      unfold cutW
      rw [HT.sIx_none, HT.sIx_nat, List.length_map, Nat.min_eq_left ha', List.drop_zero, Nat.sub_zero, List.map_take]
    have c2 : cutW (ws.map sT) (some (a : Int)) none = (ws.drop a).map sT := by
      unfold cutW
      rw [HT.sIx_none, HT.sIx_nat, List.length_map, Nat.min_eq_left ha', ← List.map_drop, List.take_of_length_le (by simp)]
    have f5 : ly5 (lw sc (some (.box wb)) (some (.str x.2)) (some (.lst (SX.map sxW))) (some (.int (a : Int))) (some (sT x.1)) none none none none none none) S3 = .nx (lw sc (some (.box S3.length)) (some (.str x.2)) (some (.lst (SX.map sxW))) (some (.int (a : Int))) (some (sT x.1)) none none none none none none) (S3 ++ [.lst ((ws.take a ++ x.1 :: ws.drop a).map sT)]) := by
      have g1 : slW (.box wb) none (some (a : Int)) S3 = .val (.lst ((ws.take a).map sT)) S3 := by
        unfold slW
        simp only [w3, c1]
      have g2 : slW (.box wb) (some (a : Int)) none S3 = .val (.lst ((ws.drop a).map sT)) S3 := by
        unfold slW
        simp only [w3, c2]
      have n1 : ((ws.take a).map sT).length ≤ 20 := by rw [List.length_map, List.length_take]; omega
      have n2 : ((ws.drop a).map sT).length ≤ 20 := by rw [List.length_map, List.length_drop]; omega
      refine Sm.set_eq (i := 2) (Sm.m2_val (x := .lst ((ws.take a).map sT ++ [sT x.1])) (y := .lst ((ws.drop a).map sT)) (S1 := S3) (S2 := S3) (Sm.m2_val (x := .lst ((ws.take a).map sT)) (y := .lst [sT x.1]) (S1 := S3) (S2 := S3) g1 rfl ?_) g2 ?_)
      · show (if ((ws.take a).map sT).length + 1 ≤ lim then Out.val (W.lst ((ws.take a).map sT ++ [sT x.1])) S3 else .bad) = _
        rw [if_pos (by unfold lim; omega)]
      · show (if ((ws.take a).map sT ++ [sT x.1]).length + ((ws.drop a).map sT).length ≤ lim then Out.val (W.box S3.length) (S3 ++ [Cell.lst (((ws.take a).map sT ++ [sT x.1]) ++ (ws.drop a).map sT)]) else .bad) = _
        rw [if_pos (by rw [List.length_append]; unfold lim; simp at n1 n2 ⊢; omega)]
        congr 3
        simp
    have h3 := strm_lt s3
    have s5 := strm_push s3 (.lst ((ws.take a ++ x.1 :: ws.drop a).map sT))
    have b5 : (S3 ++ [Cell.lst ((ws.take a ++ x.1 :: ws.drop a).map sT)])[S3.length]? = some (.lst ((ws.take a ++ x.1 :: ws.drop a).map sT)) := by simp
    have hxs : x ∈ SX := List.mem_of_getElem? hx
    generalize hq : S3.length = q at *
    generalize S3 ++ [Cell.lst ((ws.take a ++ x.1 :: ws.drop a).map sT)] = S5 at *
    obtain ⟨d6, S6, e6, hd6, s6, -, k6⟩ := nxk (j := 1) (n := 0) (me := mC (.int 2)) (k := 2) (env := lw sc (some (.box q)) (some (.str x.2)) (some (.lst (SX.map sxW))) (some (.int (a : Int))) (some (sT x.1)) none none none none none none) rfl rfl s5 (by omega) (by omega)
    have b6 : S6[q]? = some (.lst ((ws.take a ++ x.1 :: ws.drop a).map sT)) := by rw [k6 _ (by omega)]; exact b5
    have t6 : mB (m2 (eqW) (mCa (cal 2 m__law_next) (mCons (mV 1) (mCons (mC (.int 2)) (mNil)))) (mC (.int 1))) (lw sc (some (.box q)) (some (.str x.2)) (some (.lst (SX.map sxW))) (some (.int (a : Int))) (some (sT x.1)) none none none none none none) S5 = .val (decide ((d6 : Int) = 1)) S6 := Sm.mB_val (Sm.m2_val (y := .int 1) (S2 := S6) e6 rfl (eqW_int _ _))
    have front : ∀ S', ly6 (lw sc (some (.box q)) (some (.str x.2)) (some (.lst (SX.map sxW))) (some (.int (a : Int))) (some (sT x.1)) none none none none none none) S5 = .nx (lw sc (some (.box q)) (some (.str x.2)) (some (.lst (SX.map sxW))) (some (.int (a : Int))) (some (sT x.1)) none none none none none none) S' → sIf (mB (m2 (eqW) (mCa (cal 2 m__law_next) (mCons (mV 1) (mCons (mC (.int 2)) (mNil)))) (mC (.int 1)))) lz4B (sNil) (lw sc (some (.box wb)) (some .non) none none none none none none none none none) S = .nx (lw sc (some (.box q)) (some (.str x.2)) (some (.lst (SX.map sxW))) (some (.int (a : Int))) (some (sT x.1)) none none none none none none) S' := fun S' h6 => by
      rw [Sm.sif_t t]
      unfold lz4B
      rw [Sm.sseq f1, Sm.sseq f2, Sm.sseq f3, Sm.sseq f4, Sm.sseq f5, h6]
    by_cases c6 : (d6 : Int) = 1
    · rw [decide_eq_true c6] at t6
      obtain ⟨i7, S7, w, e7, hi7, s7, k7⟩ := pick_eq (L := SX.map sxW) s6 (by decide) (by decide)
      rw [List.getElem?_map] at hi7
      obtain ⟨y, hy, rfl⟩ := Option.map_eq_some_iff.mp hi7
      have b7 : S7[q]? = some (.lst ((ws.take a ++ x.1 :: ws.drop a).map sT)) := by rw [k7 _ (by omega)]; exact b6
      have e8 : m2 ixW (mCa (cal 2 m__law_pick) (mCons (mV 1) (mCons (mV 4) (mNil)))) (mC (.int 0)) (lw sc (some (.box q)) (some (.str x.2)) (some (.lst (SX.map sxW))) (some (.int (a : Int))) (some (sT x.1)) none none none none none none) S6 = .val (sT y.1) S7 := Sm.m2_val (x := sxW y) (y := .int 0) (S1 := S7) (S2 := S7) (Sm.call2e rfl rfl e7) rfl rfl
      refine ⟨a, x, [y.1], q, some (.lst (SX.map sxW)), S7.set q (.lst ((ws.take a ++ x.1 :: (ws.drop a ++ [y.1])).map sT)), front _ ?_, ha', hxs, by simp, fun v hv => ?_, by omega, strm_set s7 (by omega) _, List.getElem?_set_self (List.getElem?_eq_some_iff.mp b7).1⟩
      · unfold ly6
        rw [Sm.sif_t t6]
        have := app_box (j := 2) rfl e8 b7 (by simp; omega)
        refine this.trans ?_
        congr 3
        simp
      · rw [List.mem_singleton.mp hv]
        exact List.mem_append_right _ (List.mem_map.mpr ⟨y, List.mem_of_getElem? hy, rfl⟩)
    · rw [decide_eq_false c6] at t6
      refine ⟨a, x, [], q, some (.lst (SX.map sxW)), S6, front _ (Sm.sif_skip t6), ha', hxs, by simp, by simp, by omega, s6, by rw [List.append_nil]; exact b6⟩
  · left
    rw [decide_eq_false c] at t
    exact ⟨S1, Sm.sif_skip t, s1, w1⟩
end K65

set_option Elab.async false
set_option linter.all false
set_option maxRecDepth 100000
namespace K65
open PySem PySem.Spec PyProof.Rows L2 Sm
local instance tb_65q : TB := ⟨[]⟩
/-! ### the comprehension over enumerate -/
theorem lcF_en {g : W → Sm.Env → Option Sm.Env} {el : EM W} {env0 : Sm.Env} {S : Sto} {b : Nat} {ws : List W} (F : Nat → W) (hb : S[b]? = some (.lst ws)) (hl : ws.length ≤ 1000)
    (h : ∀ i, (hi : i < ws.length) → ∃ env1, g (.tup [.int ((i : Nat) : Int), ws[i]]) env0 = some env1 ∧ el env1 S = .val (F i) S) : ∀ (k i : Nat) (acc : List W), i + k = ws.length → acc.length = i →
    lcF (.en b) g mYes el env0 (k + 1) i acc S = .val (.lst (acc ++ (List.range' i k).map F)) S
  | 0, i, acc, hk, ha => by
    have e : (It8.en b).at S i = some none := by
      simp only [It8.at, hb]
      rw [List.getElem?_eq_none (by omega)]
      rfl
    unfold lcF
    simp only [e]
    simp
  | k + 1, i, acc, hk, ha => by
    have hi : i < ws.length := by omega
    have e : (It8.en b).at S i = some (some (.tup [.int ((i : Nat) : Int), ws[i]])) := by
      simp only [It8.at, hb]
      rw [List.getElem?_eq_getElem hi]
      rfl
    obtain ⟨env1, e1, e2⟩ := h i hi
    have ih := lcF_en F hb hl h k (i + 1) (acc ++ [F i]) (by omega) (by simp; omega)
    have : (List.range' i (k + 1)).map F = F i :: (List.range' (i + 1) k).map F := by rw [List.range'_succ]; rfl
    rw [this]
    have e3 : acc ++ F i :: (List.range' (i + 1) k).map F = (acc ++ [F i]) ++ (List.range' (i + 1) k).map F := by simp
    rw [e3, ← ih]
    show (match (It8.en b).at S i with
      | none => Out.bad
      | some none => Out.val (W.lst acc) S
      | some (some w) => match g w env0 with
        | none => .bad
        | some env1 => match mYes env1 S with
          | .val false S1 => lcF (.en b) g mYes el env0 (k + 1) (i + 1) acc S1
          | .val true S1 => match el env1 S1 with
            | .val y S2 => if acc.length ≤ lim then lcF (.en b) g mYes el env0 (k + 1) (i + 1) (acc ++ [y]) S2 else .bad
            | _ => .bad
          | _ => .bad) = _
    rw [e]
    show (match g (W.tup [.int ((i : Nat) : Int), ws[i]]) env0 with
        | none => Out.bad
        | some env1 => match mYes env1 S with
          | .val false S1 => lcF (.en b) g mYes el env0 (k + 1) (i + 1) acc S1
          | .val true S1 => match el env1 S1 with
            | .val y S2 => if acc.length ≤ lim then lcF (.en b) g mYes el env0 (k + 1) (i + 1) (acc ++ [y]) S2 else .bad
            | _ => .bad
          | _ => .bad) = _
    rw [e1]
    show (match el env1 S with
            | .val y S2 => if acc.length ≤ lim then lcF (.en b) g mYes el env0 (k + 1) (i + 1) (acc ++ [y]) S2 else .bad
            | _ => .bad) = _
    rw [e2]
    show (if acc.length ≤ lim then lcF (.en b) g mYes el env0 (k + 1) (i + 1) (acc ++ [F i]) S else .bad) = _
    rw [if_pos (by unfold lim; omega)]
theorem mLC_en {own : List Nat} {mi : EM It8} {g : W → Sm.Env → Option Sm.Env} {el : EM W} {env env0 : Sm.Env} {S : Sto} {b : Nat} {ws : List W} (F : Nat → W) (hm : mi env S = .val (.en b) S) (hb : S[b]? = some (.lst ws)) (hw : wipeE env own = env0) (hl : ws.length ≤ 1000)
    (h : ∀ i, (hi : i < ws.length) → ∃ env1, g (.tup [.int ((i : Nat) : Int), ws[i]]) env0 = some env1 ∧ el env1 S = .val (F i) S) :
    mLC own mi g mYes el env S = .val (.lst ((List.range ws.length).map F)) S := by
  have e := lcF_en F hb hl h ws.length 0 [] (by omega) rfl
  unfold mLC
  show (mi env S).bind _ = _
  rw [hm, bind_val, hw]
  have ef : (It8.en b).fuel S = ws.length + 1 := by simp only [It8.fuel, hb]
  show lcF (.en b) g mYes el env0 ((It8.en b).fuel S) 0 [] S = _
  rw [ef, e, List.nil_append, List.range_eq_range']
theorem toks_len : ∀ (sg : List Sg) (a : Nat), (toks sg a).length = sg.length
  | [], _ => rfl
  | (k, w) :: sg, a => by simp [toks, toks_len sg]
theorem toks_at : ∀ (sg : List Sg) (a i : Nat), i < sg.length → (toks sg a)[i]? = some (tkW ((sg.map Prod.snd)[i]?.getD []) ((cl sg a)[i]?.getD 0))
  | [], _, _, h => absurd h (Nat.not_lt_zero _)
  | (k, w) :: sg, a, 0, _ => rfl
  | (k, w) :: sg, a, i + 1, h => by
    have := toks_at sg (a + k + w.length) i (by simpa using h)
    simpa [toks, cl] using this
theorem toks_eq (sg : List Sg) : (List.range sg.length).map (fun i => tkW ((sg.map Prod.snd)[i]?.getD []) ((cl sg 0)[i]?.getD 0)) = toks sg 0 := by
  refine List.ext_getElem? fun i => ?_
  by_cases h : i < sg.length
  · rw [toks_at sg 0 i h, List.getElem?_map, List.getElem?_range h]
    rfl
  · rw [List.getElem?_eq_none (by simp; omega), List.getElem?_eq_none (by rw [toks_len]; omega)]
theorem cl_at (p : List Sg) (k : Nat) (w : List Nat) (q : List Sg) : ∀ a, (cl (p ++ (k, w) :: q) a)[p.length]? = some (a + (flat p).length + k + 1) := by
  induction p with
  | nil => intro a; simp [cl, flat]
  | cons s p ih =>
    intro a
    obtain ⟨b, v⟩ := s
    show (cl (p ++ (k, w) :: q) (a + b + v.length))[p.length]? = _
    rw [ih]
    simp only [flat, List.length_append, List.length_replicate]
    congr 1
    omega
theorem atI_neg1 (xs : List W) (y : W) : atI (xs ++ [y]) (-1) = some y := by
  have : atI (xs ++ [y]) (-1) = (xs ++ [y])[xs.length]? := by
    unfold atI ixN
    have h : (1 : Int) ≤ (xs.length : Int) + 1 := by omega
    have h2 : (-1 + ((xs.length : Int) + 1)).toNat = xs.length := by omega
    simp [h, h2]
  rw [this]
  simp
/-! ### what a text is told -/
theorem flat_vl {ws : List (List Nat)} {sg : List Sg} {j : Nat} {l : List Nat} (hws : ∀ w ∈ ws, w ∈ WL) (L : Laid ws sg j l) : l.all (fun c => decide (c < 1114112)) = true ∧ 10 ∉ l := by
  have key : ∀ c ∈ l, c < 1114112 ∧ c ≠ 10 := by
    intro c hc
    rw [L.e] at hc
    have hf : ∀ (sg : List Sg), (∀ s ∈ sg, s.2 ∈ WL) → ∀ c ∈ flat sg, c < 1114112 ∧ c ≠ 10 := by
      intro sg
      induction sg with
      | nil => intro _ c hc; exact absurd hc List.not_mem_nil
      | cons s sg ih =>
        intro hs c hc
        obtain ⟨k, w⟩ := s
        have hc : c ∈ List.replicate k 32 ++ (w ++ flat sg) := hc
        rcases List.mem_append.mp hc with hc | hc
        · rw [List.eq_of_mem_replicate hc]; decide
        · rcases List.mem_append.mp hc with hc | hc
          · exact (wd_of (hs _ List.mem_cons_self)).vl c hc
          · exact ih (fun s h => hs s (List.mem_cons_of_mem _ h)) c hc
    rcases List.mem_append.mp hc with hc | hc
    · exact hf sg (fun s hs => hws _ (by rw [← L.sn]; exact List.mem_map.mpr ⟨s, hs, rfl⟩)) c hc
    · rw [List.eq_of_mem_replicate hc]; decide
  exact ⟨List.all_eq_true.mpr fun c hc => decide_eq_true (key c hc).1, fun h => (key 10 h).2 rfl⟩
theorem laid_len {ws : List (List Nat)} {sg : List Sg} {j : Nat} {l : List Nat} (hws : ∀ w ∈ ws, w ∈ WL) (hn : ws.length ≤ 22) (L : Laid ws sg j l) : l.length ≤ 300 := by
  have h1 : sg.length = ws.length := by rw [← L.sn, List.length_map]
  have := flat_len hws (i := ws.length) (by rw [L.sn, List.take_length]) L.bl
  rw [L.e, List.length_append, List.length_replicate]
  have := L.j2
  omega
theorem laid_fit {ws : List (List Nat)} {sg : List Sg} {j : Nat} {l : List Nat} (hws : ∀ w ∈ ws, w ∈ WL) (L : Laid ws sg j l) : Fit sg j :=
  fit_of j (fun s hs => hws _ (by rw [← L.sn]; exact List.mem_map.mpr ⟨s, hs, rfl⟩)) L.aj
theorem told_ok {ws : List (List Nat)} {sg : List Sg} {j : Nat} {l : List Nat} (hws : ∀ w ∈ ws, w ∈ R10) (hn : ws.length ≤ 20) (L : Laid ws sg j l) (S : Sto) : ∃ S', m__law_told [sT l] S = .val (.box S.length) S' ∧ S'[S.length]? = some (.lst (toks sg 0 ++ [endW l])) ∧ ∀ m, m < S.length → S'[m]? = S[m]? := by
  have hW : ∀ w ∈ ws, w ∈ WL := fun w h => List.mem_append_left _ (hws w h)
  obtain ⟨v1, v2⟩ := flat_vl hW L
  have h1 : sg.length = ws.length := by rw [← L.sn, List.length_map]
  obtain ⟨S', e, b, k⟩ := scan_ok (laid_len hW (by omega) L) v1 v2 L.e (laid_fit hW L) (fun s hs => by
    have := List.all_eq_true.mp w_good s.2 (hws _ (by rw [← L.sn]; exact List.mem_map.mpr ⟨s, hs, rfl⟩))
    exact Option.isNone_iff_eq_none.mp this) (by omega) S
  exact ⟨S', told_val e, b, k⟩
theorem told_err {ws ys : List (List Nat)} {a : Nat} {x : List Nat × Str} {sg : List Sg} {j : Nat} {l : List Nat} (hws : ∀ w ∈ ws, w ∈ R10) (hn : ws.length ≤ 20) (ha : a ≤ ws.length) (hx : x ∈ SX) (hy : ∀ y ∈ ys, y ∈ WL) (hyl : ys.length ≤ 1) (L : Laid (ws.take a ++ x.1 :: (ws.drop a ++ ys)) sg j l) (S : Sto) : ∃ c S', m__law_told [sT l] S = .val (.tup [.int ((c : Nat) : Int), .str x.2]) S' ∧ (cl sg 0)[a]? = some c ∧ ∀ m, m < S.length → S'[m]? = S[m]? := by
  have hW : ∀ w ∈ ws.take a ++ x.1 :: (ws.drop a ++ ys), w ∈ WL := fun w h => by
    rcases List.mem_append.mp h with h | h
    · exact List.mem_append_left _ (hws w (List.mem_of_mem_take h))
    · rcases List.mem_cons.mp h with rfl | h
      · exact List.mem_append_right _ (List.mem_map.mpr ⟨x, hx, rfl⟩)
      · rcases List.mem_append.mp h with h | h
        · exact List.mem_append_left _ (hws w (List.mem_of_mem_drop h))
        · exact hy w h
  obtain ⟨v1, v2⟩ := flat_vl hW L
  have hlen : (ws.take a ++ x.1 :: (ws.drop a ++ ys)).length = ws.length + 1 + ys.length := by
    simp only [List.length_append, List.length_cons, List.length_take, List.length_drop]
    omega
  have h1 : sg.length = ws.length + 1 + ys.length := by rw [← hlen, ← L.sn, List.length_map]
  have has : a < sg.length := by omega
  obtain ⟨p, k, w, q, hsg, hp⟩ : ∃ (p : List Sg) (k : Nat) (w : List Nat) (q : List Sg), sg = p ++ (k, w) :: q ∧ p.length = a := by
    refine ⟨sg.take a, sg[a].1, sg[a].2, sg.drop (a + 1), ?_, by rw [List.length_take]; omega⟩
    show sg = sg.take a ++ sg[a] :: sg.drop (a + 1)
    rw [← List.drop_eq_getElem_cons has, List.take_append_drop]
  have hsn := L.sn
  rw [hsg, List.map_append, List.map_cons] at hsn
  have hsp := List.append_inj hsn (by rw [List.length_map, hp, List.length_take]; omega)
  have hw : w = x.1 := (List.cons.inj hsp.2).1
  have hpR : ∀ s ∈ p, er s.2 = none := fun s hs => by
    have : s.2 ∈ ws.take a := by rw [← hsp.1]; exact List.mem_map.mpr ⟨s, hs, rfl⟩
    exact Option.isNone_iff_eq_none.mp (List.all_eq_true.mp w_good s.2 (hws _ (List.mem_of_mem_take this)))
  have hwe : er w = some x.2 := by
    rw [hw]
    exact of_decide_eq_true (List.all_eq_true.mp w_bad x hx)
  have hF := laid_fit hW L
  have hE := L.e
  rw [hsg] at hF hE
  obtain ⟨S', e, k'⟩ := scan_err (laid_len hW (by omega) L) v1 v2 hE hF hpR hwe (by omega) S
  refine ⟨_, S', told_tex e, ?_, k'⟩
  rw [hsg, ← hp, cl_at, Nat.zero_add]
/-- the first blanks may be more -/
theorem told_long {ws : List (List Nat)} {sg : List Sg} {j : Nat} {l : List Nat} (hws : ∀ w ∈ ws, w ∈ R10) (hn : ws.length ≤ 20) (L : Laid ws sg j l) (S : Sto) : ∃ S', m__law_told [sT (List.replicate (300 - l.length) 32 ++ l)] S = .val (.box S.length) S' := by
  have hW : ∀ w ∈ ws, w ∈ WL := fun w h => List.mem_append_left _ (hws w h)
  obtain ⟨v1, v2⟩ := flat_vl hW L
  have hl := laid_len hW (by omega) L
  have h1 : sg.length = ws.length := by rw [← L.sn, List.length_map]
  have u1 : (List.replicate (300 - l.length) 32 ++ l).length ≤ 300 := by rw [List.length_append, List.length_replicate]; omega
  have u2 : (List.replicate (300 - l.length) 32 ++ l).all (fun c => decide (c < 1114112)) = true := by
    rw [List.all_append, v1, Bool.and_true]
    exact List.all_eq_true.mpr fun c hc => by rw [List.eq_of_mem_replicate hc]; decide
  have u3 : 10 ∉ List.replicate (300 - l.length) 32 ++ l := fun h => by
    rcases List.mem_append.mp h with h | h
    · exact absurd (List.eq_of_mem_replicate h) (by decide)
    · exact v2 h
  have hF := laid_fit hW L
  have hg : ∀ s ∈ sg, er s.2 = none := fun s hs => by
    have := List.all_eq_true.mp w_good s.2 (hws _ (by rw [← L.sn]; exact List.mem_map.mpr ⟨s, hs, rfl⟩))
    exact Option.isNone_iff_eq_none.mp this
  have hE := L.e
  generalize 300 - l.length = d at *
  cases sg with
  | nil =>
    obtain ⟨S', e, -, -⟩ := scan_ok u1 u2 u3 (sg := []) (j := d + j) (by
      rw [hE]
      show List.replicate d 32 ++ ([] ++ List.replicate j 32) = [] ++ List.replicate (d + j) 32
      simp [List.replicate_append_replicate]) trivial hg (by simp) S
    exact ⟨S', told_val e⟩
  | cons s sg =>
    obtain ⟨k, w⟩ := s
    obtain ⟨S', e, -, -⟩ := scan_ok u1 u2 u3 (sg := (d + k, w) :: sg) (j := j) (by
      rw [hE]
      show List.replicate d 32 ++ ((List.replicate k 32 ++ (w ++ flat sg)) ++ List.replicate j 32) = (List.replicate (d + k) 32 ++ (w ++ flat sg)) ++ List.replicate j 32
      have er : List.replicate (d + k) 32 = List.replicate d 32 ++ List.replicate k 32 := by rw [List.replicate_append_replicate]
      rw [er]
      simp only [List.append_assoc]) hF (fun s hs => by
        rcases List.mem_cons.mp hs with rfl | hs
        · exact hg (k, w) List.mem_cons_self
        · exact hg _ (List.mem_cons_of_mem _ hs)) (by simp at h1 ⊢; omega) S
    exact ⟨S', told_val e⟩
/-! ### no texts -/
theorem chk_exc {w : W} {S : Sto} (t : (mOrT (mNotT (mB (m1 (isiW "str") (mV 0)))) (mOrT (mB (m2 (gtW) (mCa lenW (mCons (mV 0) (mNil))) (mC (.int 300)))) (mB (m2 (inSW false) (mC (.str "\n")) (mV 0))))) [some w] S = .val true S) : m_check_text [w] S = .exc bvT S := by
  have e : m_check_text [w] S = outD (b_check_text [some w] S) := rfl
  have eb : b_check_text [some w] S = .xc bvT [some w] S := by
    unfold b_check_text
    rw [Sm.sif_t t]
    rfl
  rw [e, eb]
  rfl
theorem chk_text {m : List Nat} (hm : m.length ≤ 1000) (h : 300 < m.length ∨ 10 ∈ m) (S : Sto) : m_check_text [sT m] S = .exc bvT S := by
  refine chk_exc ?_
  have q1 : (mNotT (mB (m1 (isiW "str") (mV 0)))) [some (sT m)] S = .val false S := Sm.not_val (b := true) (S1 := S) (by rfl)
  have q2 : (mB (m2 (gtW) (mCa lenW (mCons (mV 0) (mNil))) (mC (.int 300)))) [some (sT m)] S = .val (decide (300 < m.length)) S := by
    refine Sm.mB_val (Sm.m2_val (y := .int 300) (S2 := S) (ca1 (w := sT m) (S1 := S) rfl (lenT hm)) rfl ?_)
    rw [gt_int]
    congr 2
    exact decide_eq_decide.mpr ⟨fun h => by omega, fun h => by omega⟩
  have q3 : (mB (m2 (inSW false) (mC (.str "\n")) (mV 0))) [some (sT m)] S = .val (decide (10 ∈ m)) S := by
    refine Sm.mB_val (Sm.m2_val (x := .str "\n") (y := sT m) (S1 := S) (S2 := S) rfl rfl ?_)
    have el : ("\n" : Str) = T [10] := by decide +kernel
    rw [el]
    exact inT 10 (T m)
  refine Sm.or_f q1 ?_
  by_cases c : 300 < m.length
  · rw [decide_eq_true c] at q2
    exact Sm.or_t q2
  · rw [decide_eq_false c] at q2
    rw [decide_eq_true (h.resolve_left c)] at q3
    exact Sm.or_f q2 q3
theorem chk_not {w : W} (h : isaW "str" w = false) (S : Sto) : m_check_text [w] S = .exc bvT S := by
  refine chk_exc (Sm.or_t (Sm.not_val (b := false) (S1 := S) (Sm.mB_val (b := false) ?_)))
  show Out.val (W.bl (isaW "str" w)) S = _
  rw [h]
theorem told_no {w : W} {S : Sto} (h : m_check_text [w] S = .exc bvT S) : m__law_told [w] S = .val (.str "text") S := told_bv (scan_chk h)
end K65

set_option Elab.async false
set_option linter.all false
set_option maxRecDepth 100000
namespace K65
open PySem PySem.Spec PyProof.Rows L2 Sm
local instance tb_65r : TB := ⟨[]⟩
theorem strm_of {S S' : Sto} (hs : Strm S 0) (h : S'[0]? = S[0]?) : Strm S' 0 := by
  obtain ⟨xs, a, k, hk, h1⟩ := hs
  exact ⟨xs, a, k, hk, by unfold StAt at *; rw [h]; exact h1⟩
theorem s5 {sc : W} {wb : Nat} {x3 x4 x5 x6 : Option W} {ws : List (List Nat)} (hws : ∀ w ∈ ws, w ∈ WL) (hn : ws.length ≤ 23) (h0 : wb ≠ 0) {S : Sto} (hs : Strm S 0) (hw : S[wb]? = some (.lst (ws.map sT))) :
    ∃ (sg : List Sg) (j : Nat) (l : List Nat) (q : Nat) (S' : Sto), lz5 (lw sc (some (.box wb)) x3 x4 x5 x6 none none none none none none) S = .nx (lw sc (some (.box wb)) x3 x4 x5 x6 (some (sT l)) (some (.box q)) none none none none) S' ∧ Laid ws sg j l ∧ Strm S' 0 ∧ S'[wb]? = some (.lst (ws.map sT)) ∧ S'[q]? = some (.lst (ci (cl sg 0 ++ [l.length + 1]))) ∧ q ≠ 0 ∧ q ≠ wb := by
  obtain ⟨sg, j, l, q, S', e, L, s', w', q', q0, qw⟩ := laid_eq hws hn h0 hs hw
  refine ⟨sg, j, l, q, S', ?_, L, s', w', q', q0, qw⟩
  have e : mCa (cal 2 m__law_laid) (mCons (mV 1) (mCons (mV 2) (mNil))) (lw sc (some (.box wb)) x3 x4 x5 x6 none none none none none none) S = .val (.tup [sT l, .box q]) S' := Sm.call2e rfl rfl e
  unfold lz5
  generalize mCa (cal 2 m__law_laid) (mCons (mV 1) (mCons (mV 2) (mNil))) = M at *
  simp [e]
  rfl
theorem ci_at {L : List Nat} {i c : Nat} (h : L[i]? = some c) : atI (ci L) ((i : Nat) : Int) = some (.int (c : Int)) := by
  rw [atI_at]
  unfold ci
  rw [List.getElem?_map, h]
  rfl
/-! ### a strange word -/
theorem eqk_tw {c : Nat} {z : Str} (hz : PyData.strOk z = true) : eqk 8 (.tup [.int ((c : Nat) : Int), .str z]) = true := by
  show (decide (2 ≤ 1000) && ([W.int ((c : Nat) : Int), .str z].all (eqk 7))) = true
  show (true && (true && (PyData.strOk z && true))) = true
  rw [hz]
  rfl
theorem sx_ok : (SX.all fun x => PyData.strOk x.2) = true := by decide +kernel
theorem caseB {sc : W} {wb a q : Nat} {x4 : Option W} {ws ys : List (List Nat)} {x : List Nat × Str} {sg : List Sg} {j : Nat} {l : List Nat} {x6 : Option W} (hws : ∀ w ∈ ws, w ∈ R10) (hn : ws.length ≤ 20) (ha : a ≤ ws.length) (hx : x ∈ SX) (hy : ∀ y ∈ ys, y ∈ WL) (hyl : ys.length ≤ 1) (L : Laid (ws.take a ++ x.1 :: (ws.drop a ++ ys)) sg j l) {S : Sto} (hq : S[q]? = some (.lst (ci (cl sg 0 ++ [l.length + 1])))) :
    ∃ S', lz6 (lw sc (some (.box wb)) (some (.str x.2)) x4 (some (.int (a : Int))) x6 (some (sT l)) (some (.box q)) none none none none) S = .rt (.bl true) S' := by
  obtain ⟨c, S1, e1, hc, k1⟩ := told_err hws hn ha hx hy hyl L S
  refine ⟨S1, ?_⟩
  have t : mB (m2 (notNW) (mV 3) (mC .non)) (lw sc (some (.box wb)) (some (.str x.2)) x4 (some (.int (a : Int))) x6 (some (sT l)) (some (.box q)) none none none none) S = .val true S := rfl
  unfold lz6
  rw [Sm.sif_t t]
  have hal : a < (cl sg 0).length := (List.getElem?_eq_some_iff.mp hc).1
  have e2 : mTup (mCons (m2 ixW (mV 8) (mV 5)) (mCons (mV 3) (mNil))) (lw sc (some (.box wb)) (some (.str x.2)) x4 (some (.int (a : Int))) x6 (some (sT l)) (some (.box q)) none none none none) S1 = .val (.tup [.int (c : Int), .str x.2]) S1 := by
    refine tup2 (S1 := S1) (Sm.m2_val (x := .box q) (y := .int (a : Int)) (S1 := S1) (S2 := S1) rfl rfl ?_) rfl
    have hq1 : S1[q]? = some (.lst (ci (cl sg 0 ++ [l.length + 1]))) := by rw [k1 q (List.getElem?_eq_some_iff.mp hq).1]; exact hq
    rw [ixW_box hq1, ci_at (c := c) (by rw [List.getElem?_append_left hal]; exact hc)]
    rfl
  exact Sm.ret_eq (Sm.call2e (Sm.call1e rfl e1) e2 (equal_self 8 _ (eqk_tw (List.all_eq_true.mp sx_ok x hx)) S1))
/-! ### no strange word -/
def sq7 : EM W := (mTup (mCons (mCa (cal 1 p__law_kind) (mCons (mV 6) (mNil))) (mCons (mV 6) (mCons (m2 ixW (mV 8) (mV 13)) (mNil)))))
theorem tup3 {a b c : EM W} {env : Sm.Env} {S S1 S2 S3 : Sto} {w u v : W} (ha : a env S = .val w S1) (hb : b env S1 = .val u S2) (hc : c env S2 = .val v S3) : mTup (mCons a (mCons b (mCons c (mNil)))) env S = .val (.tup [w, u, v]) S3 := by
  simp [ha, hb, hc]
theorem s7 {sc : W} {wb q : Nat} {ws : List (List Nat)} {sg : List Sg} {j : Nat} {l : List Nat} (hws : ∀ w ∈ ws, w ∈ R10) (hn : ws.length ≤ 20) (L : Laid ws sg j l) {S : Sto} (hw : S[wb]? = some (.lst (ws.map sT))) (hq : S[q]? = some (.lst (ci (cl sg 0 ++ [l.length + 1])))) :
    lz7 (lw sc (some (.box wb)) (some .non) none none none (some (sT l)) (some (.box q)) none none none none) S = .nx (lw sc (some (.box wb)) (some .non) none none none (some (sT l)) (some (.box q)) (some (.lst (toks sg 0 ++ [endW l]))) none none none) S := by
  have hsl : sg.length = ws.length := by rw [← L.sn, List.length_map]
  have e1 : mLC [13, 6] (mIa itEnL (mCons (mV 2) (mNil))) (gT (gsC (gN 13) (gsC (gN 6) (gsN)))) (mYes) sq7 (lw sc (some (.box wb)) (some .non) none none none (some (sT l)) (some (.box q)) none none none none) S = .val (.lst (toks sg 0)) S := by
    have := mLC_en (own := [13, 6]) (g := gT (gsC (gN 13) (gsC (gN 6) (gsN)))) (el := sq7) (mi := mIa itEnL (mCons (mV 2) (mNil))) (env := lw sc (some (.box wb)) (some .non) none none none (some (sT l)) (some (.box q)) none none none none) (env0 := lw sc (some (.box wb)) (some .non) none none none (some (sT l)) (some (.box q)) none none none none) (S := S) (b := wb) (ws := ws.map sT) (fun i => tkW ((sg.map Prod.snd)[i]?.getD []) ((cl sg 0)[i]?.getD 0)) rfl hw rfl (by rw [List.length_map]; omega) (fun i hi => by
      have hi' : i < ws.length := by rwa [List.length_map] at hi
      refine ⟨[some sc, some (.box 0), some (.box wb), some .non, none, none, some (ws.map sT)[i], some (sT l), some (.box q), none, none, none, none, some (.int ((i : Nat) : Int)), none, none], rfl, ?_⟩
      have e0 : (ws.map sT)[i] = sT ws[i] := List.getElem_map _
      have e2 : (sg.map Prod.snd)[i]?.getD [] = ws[i] := by rw [L.sn, List.getElem?_eq_getElem hi']; rfl
      have hcl : i < (cl sg 0).length := by rw [cl_len]; omega
      have e3 : (cl sg 0)[i]? = some (cl sg 0)[i] := List.getElem?_eq_getElem hcl
      rw [e0, e2, e3]
      have hR : ws[i] ∈ WL := List.mem_append_left _ (hws _ (List.getElem_mem hi'))
      refine tup3 (S1 := S) (S2 := S) (ca1 (w := sT ws[i]) (S1 := S) rfl ((show cal 1 p__law_kind [sT ws[i]] S = p__law_kind [sT ws[i]] S from rfl).trans (kind_eq hR S))) rfl (Sm.m2_val (x := .box q) (y := .int ((i : Nat) : Int)) (S1 := S) (S2 := S) rfl rfl ?_)
      rw [ixW_box hq, ci_at (c := (cl sg 0)[i]) (by rw [List.getElem?_append_left hcl]; exact e3)]
      rfl)
    rw [this, List.length_map, ← hsl, toks_eq]
  have e2 : (mLst (mCons (mTup (mCons (mC (.str "end")) (mCons (mC (.str "")) (mCons (m2 ixW (mV 8) (m1 negW (mC (.int 1)))) (mNil))))) (mNil))) (lw sc (some (.box wb)) (some .non) none none none (some (sT l)) (some (.box q)) none none none none) S = .val (.lst [endW l]) S := by
    have e3 : (mTup (mCons (mC (.str "end")) (mCons (mC (.str "")) (mCons (m2 ixW (mV 8) (m1 negW (mC (.int 1)))) (mNil))))) (lw sc (some (.box wb)) (some .non) none none none (some (sT l)) (some (.box q)) none none none none) S = .val (endW l) S := by
      refine tup3 (w := .str "end") (u := .str "") (v := .int ((l.length + 1 : Nat) : Int)) (S1 := S) (S2 := S) rfl rfl (Sm.m2_val (x := .box q) (y := .int (-1)) (S1 := S) (S2 := S) rfl rfl ?_)
      have ec : ci (cl sg 0 ++ [l.length + 1]) = ci (cl sg 0) ++ [.int ((l.length + 1 : Nat) : Int)] := by unfold ci; rw [List.map_append]; rfl
      rw [ixW_box hq, ec, atI_neg1]
      rfl
    generalize (mTup (mCons (mC (.str "end")) (mCons (mC (.str "")) (mCons (m2 ixW (mV 8) (m1 negW (mC (.int 1)))) (mNil))))) = M at *
    show Out.bind (mCons M (mNil) _ S) wLst = _
    rw [cons1 e3]
    rfl
  refine Sm.set_eq (i := 9) (Sm.m2_val (x := .lst (toks sg 0)) (y := .lst [endW l]) (S1 := S) (S2 := S) e1 e2 ?_)
  show (if (toks sg 0).length + 1 ≤ lim then Out.val (W.lst (toks sg 0 ++ [endW l])) S else .bad) = _
  rw [if_pos (by rw [toks_len]; unfold lim; omega)]
theorem eqk_toks {ws : List (List Nat)} {sg : List Sg} {j : Nat} {l : List Nat} (hws : ∀ w ∈ ws, w ∈ WL) (L : Laid ws sg j l) : ∀ w ∈ toks sg 0 ++ [endW l], eqk 7 w = true := by
  have hT : ∀ (sg : List Sg) (a : Nat), (∀ s ∈ sg, s.2 ∈ WL) → ∀ w ∈ toks sg a, eqk 7 w = true := by
    intro sg
    induction sg with
    | nil => intro a _ w hw; exact absurd hw List.not_mem_nil
    | cons s sg ih =>
      intro a hs w hw
      obtain ⟨k, v⟩ := s
      rcases List.mem_cons.mp hw with rfl | hw
      · have hv : v ∈ WL := hs _ List.mem_cons_self
        show (true && (PyData.strOk (kS v) && (PyData.strOk (T v) && (true && true)))) = true
        rw [kind_ok hv, val_ok hv]
        rfl
      · exact ih _ (fun s h => hs s (List.mem_cons_of_mem _ h)) w hw
  intro w hw
  rcases List.mem_append.mp hw with hw | hw
  · exact hT sg 0 (fun s hs => hws _ (by rw [← L.sn]; exact List.mem_map.mpr ⟨s, hs, rfl⟩)) w hw
  · rw [List.mem_singleton.mp hw]
    show (true && (PyData.strOk "end" && (PyData.strOk "" && (true && true)))) = true
    decide +kernel
def lx (sc : W) (wb : Nat) (l : List Nat) (q : Nat) (D : List W) (x10 x11 x12 : Option W) : Sm.Env := lw sc (some (.box wb)) (some .non) none none none (some (sT l)) (some (.box q)) (some (.lst D)) x10 x11 x12
theorem told7 {sc : W} {wb : Nat} {l : List Nat} {q : Nat} {D : List W} {x10 x11 x12 : Option W} {S S' : Sto} {w : W} (h : m__law_told [sT l] S = .val w S') : mCa (cal 1 m__law_told) (mCons (mV 7) (mNil)) (lx sc wb l q D x10 x11 x12) S = .val w S' := Sm.call1e rfl h
theorem rep_mul (k : Nat) : Txt.mul (" " : Str) ((k : Nat) : Int) = T (List.replicate k 32) := by
  have e : (" " : Str) = ⟨#[32]⟩ := by decide +kernel
  have h := PyProof.Rows.mul_one_list 32 ((k : Nat) : Int)
  rw [Int.toNat_natCast] at h
  rw [e]
  generalize Txt.mul ⟨#[32]⟩ ((k : Nat) : Int) = z at *
  obtain ⟨⟨xs⟩⟩ := z
  have h : xs = List.replicate k 32 := h
  rw [h]
  rfl
theorem caseA {sc : W} {wb q : Nat} {ws : List (List Nat)} {sg : List Sg} {j : Nat} {l : List Nat} (hws : ∀ w ∈ ws, w ∈ R10) (hn : ws.length ≤ 20) (L : Laid ws sg j l) {S : Sto} (hs : Strm S 0) (hw : S[wb]? = some (.lst (ws.map sT))) (hq : S[q]? = some (.lst (ci (cl sg 0 ++ [l.length + 1])))) (hl : l.length ≤ 300) :
    ∃ S', (sSeq lz7 (sSeq lz8 (sSeq lz9 (sSeq lz10 (sSeq lz11 (sSeq lz12 (lz13))))))) (lw sc (some (.box wb)) (some .non) none none none (some (sT l)) (some (.box q)) none none none none) S = .rt (.bl true) S' := by
  have hW : ∀ w ∈ ws, w ∈ WL := fun w h => List.mem_append_left _ (hws w h)
  have hsl : sg.length = ws.length := by rw [← L.sn, List.length_map]
  have hD := eqk_toks hW L
  have hDl : (toks sg 0 ++ [endW l]).length ≤ 21 := by rw [List.length_append, toks_len]; simp; omega
  have f7 := s7 (sc := sc) hws hn L hw hq
  obtain ⟨S8, e8, b8, k8⟩ := told_ok hws hn L S
  have h0 := strm_lt hs
  generalize hDD : toks sg 0 ++ [endW l] = D at *
  have f8 : lz8 (lx sc wb l q D none none none) S = .nx (lx sc wb l q D (some (.box S.length)) none none) S8 := Sm.set_eq (i := 10) (told7 e8)
  have eq9 := equal_box 7 D (by omega) b8 (fun w hw => equal_self 7 w (hD w hw) S8)
  have f9 : lz9 (lx sc wb l q D (some (.box S.length)) none none) S8 = .nx (lx sc wb l q D (some (.box S.length)) none none) S8 := by
    refine Sm.sif_skip (Sm.not_val (b := true) (Sm.mB_val ?_))
    exact Sm.call2e (w := .box S.length) (u := .lst D) (S1 := S8) (S2 := S8) rfl rfl eq9
  have f10 : lz10 (lx sc wb l q D (some (.box S.length)) none none) S8 = .nx (lx sc wb l q D (some (.box S.length)) none none) (S8.set S.length (.lst (D ++ [.non]))) :=
    app_box (j := 10) rfl rfl b8 (by omega)
  have s8 : Strm S8 0 := strm_of hs (k8 0 h0)
  have s10 : Strm (S8.set S.length (.lst (D ++ [.non]))) 0 := strm_set s8 (by omega) _
  generalize S8.set S.length (.lst (D ++ [.non])) = S10 at *
  have f11 : lz11 (lx sc wb l q D (some (.box S.length)) none none) S10 = .nx (lx sc wb l q D (some (.box S.length)) (some (sT (List.replicate (300 - l.length) 32))) none) S10 := by
    refine Sm.set_eq (i := 11) (Sm.m2_val (x := .str " ") (y := .int ((300 - l.length : Nat) : Int)) (S1 := S10) (S2 := S10) rfl ?_ ?_)
    · refine Sm.m2_val (x := .int 300) (y := .int ((l.length : Nat) : Int)) (S1 := S10) (S2 := S10) rfl (ca1 (w := sT l) (S1 := S10) rfl (lenT (by omega))) ?_
      show Out.val (W.int (300 - ((l.length : Nat) : Int))) S10 = _
      congr 2
      omega
    · show (if (" " : Str).length = 1 ∧ -1000 ≤ ((300 - l.length : Nat) : Int) ∧ ((300 - l.length : Nat) : Int) ≤ 1000 then Out.val (W.str (Txt.mul " " ((300 - l.length : Nat) : Int))) S10 else .bad) = _
      rw [if_pos ⟨by decide +kernel, by omega, by omega⟩, rep_mul]
      rfl
  obtain ⟨d, S12, w, e12, hd, s12, -⟩ := pick_eq (L := [.non, .lst [sT l], sT (l ++ [10]), sT [10], sT (List.replicate (300 - l.length) 32 ++ l ++ [32]), .int 7]) s10 (by simp) (by simp)
  have f12 : lz12 (lx sc wb l q D (some (.box S.length)) (some (sT (List.replicate (300 - l.length) 32))) none) S10 = .nx (lx sc wb l q D (some (.box S.length)) (some (sT (List.replicate (300 - l.length) 32))) (some w)) S12 := by
    refine Sm.set_eq (i := 12) (Sm.call2e (w := .box 0) (u := .lst [.non, .lst [sT l], sT (l ++ [10]), sT [10], sT (List.replicate (300 - l.length) 32 ++ l ++ [32]), .int 7]) (S1 := S10) (S2 := S10) rfl ?_ e12)
    have g10 : ("\n" : Str) = T [10] := by decide +kernel
    have a1 : m2 addW (mV 7) (mC (.str "\n")) (lx sc wb l q D (some (.box S.length)) (some (sT (List.replicate (300 - l.length) 32))) none) S10 = .val (sT (l ++ [10])) S10 := by
      rw [g10]
      exact Sm.m2_val (x := sT l) (y := sT [10]) (S1 := S10) (S2 := S10) rfl rfl (addT (by simp; omega) S10)
    have a2 : m2 addW (m2 addW (mV 11) (mV 7)) (mC (.str " ")) (lx sc wb l q D (some (.box S.length)) (some (sT (List.replicate (300 - l.length) 32))) none) S10 = .val (sT (List.replicate (300 - l.length) 32 ++ l ++ [32])) S10 := by
      rw [lit_b]
      exact Sm.m2_val (x := sT (List.replicate (300 - l.length) 32 ++ l)) (y := sT [32]) (S1 := S10) (S2 := S10) (Sm.m2_val (x := sT (List.replicate (300 - l.length) 32)) (y := sT l) (S1 := S10) (S2 := S10) rfl rfl (addT (by simp; omega) S10)) rfl (addT (by simp; omega) S10)
    have a3 : mC (.str "\n") (lx sc wb l q D (some (.box S.length)) (some (sT (List.replicate (300 - l.length) 32))) none) S10 = .val (sT [10]) S10 := by rw [g10]; rfl
    have a4 : mLst (mCons (mV 7) (mNil)) (lx sc wb l q D (some (.box S.length)) (some (sT (List.replicate (300 - l.length) 32))) none) S10 = .val (.lst [sT l]) S10 := rfl
    have a5 : mC .non (lx sc wb l q D (some (.box S.length)) (some (sT (List.replicate (300 - l.length) 32))) none) S10 = .val .non S10 := rfl
    have a6 : mC (.int 7) (lx sc wb l q D (some (.box S.length)) (some (sT (List.replicate (300 - l.length) 32))) none) S10 = .val (.int 7) S10 := rfl
    generalize m2 addW (mV 7) (mC (.str "\n")) = M1 at *
    generalize m2 addW (m2 addW (mV 11) (mV 7)) (mC (.str " ")) = M2 at *
    generalize mC (.str "\n") = M3 at *
    generalize mLst (mCons (mV 7) (mNil)) = M4 at *
    generalize mC .non = M5 at *
    generalize mC (.int 7) = M6 at *
    generalize lx sc wb l q D (some (.box S.length)) (some (sT (List.replicate (300 - l.length) 32))) none = env at *
    simp [a1, a2, a3, a4, a5, a6]
  obtain ⟨S13, e13, b13, k13⟩ := told_ok hws hn L S12
  rw [hDD] at b13
  have chk : m_check_text [w] S13 = .exc bvT S13 := by
    have hm : w ∈ [W.non, .lst [sT l], sT (l ++ [10]), sT [10], sT (List.replicate (300 - l.length) 32 ++ l ++ [32]), .int 7] := List.mem_of_getElem? hd
    simp only [List.mem_cons, List.not_mem_nil, or_false] at hm
    rcases hm with rfl | rfl | rfl | rfl | rfl | rfl
    · exact chk_not rfl S13
    · exact chk_not rfl S13
    · exact chk_text (by simp; omega) (.inr (by simp)) S13
    · exact chk_text (by simp) (.inr (by simp)) S13
    · exact chk_text (by simp; omega) (.inl (by simp; omega)) S13
    · exact chk_not rfl S13
  obtain ⟨S14, e14⟩ := told_long hws hn L S13
  refine ⟨S14, ?_⟩
  rw [Sm.sseq f7]
  have f8 : lz8 (lw sc (some (.box wb)) (some .non) none none none (some (sT l)) (some (.box q)) (some (.lst D)) none none none) S = _ := f8
  rw [Sm.sseq f8, Sm.sseq f9, Sm.sseq f10, Sm.sseq f11, Sm.sseq f12]
  have g1 : mCa (cal 2 (r__law_equal 8)) (mCons (mCa (cal 1 m__law_told) (mCons (mV 7) (mNil))) (mCons (mV 9) (mNil))) (lx sc wb l q D (some (.box S.length)) (some (sT (List.replicate (300 - l.length) 32))) (some w)) S12 = .val (.bl true) S13 :=
    Sm.call2e (w := .box S12.length) (u := .lst D) (S1 := S13) (S2 := S13) (told7 e13) rfl (equal_box 7 D (by omega) b13 (fun w hw => equal_self 7 w (hD w hw) S13))
  have g2 : m2 (eqW) (mCa (cal 1 m__law_told) (mCons (mV 12) (mNil))) (mC (.str "text")) (lx sc wb l q D (some (.box S.length)) (some (sT (List.replicate (300 - l.length) 32))) (some w)) S13 = .val (.bl true) S13 :=
    Sm.m2_val (x := .str "text") (y := .str "text") (S1 := S13) (S2 := S13) (Sm.call1e rfl (told_no chk)) rfl (Sm.eq_str (by decide +kernel) S13)
  have g3 : m1 (isiW "list") (mCa (cal 1 m__law_told) (mCons (m2 addW (mV 11) (mV 7)) (mNil))) (lx sc wb l q D (some (.box S.length)) (some (sT (List.replicate (300 - l.length) 32))) (some w)) S13 = .val (.bl true) S14 := by
    have a2 : m2 addW (mV 11) (mV 7) (lx sc wb l q D (some (.box S.length)) (some (sT (List.replicate (300 - l.length) 32))) (some w)) S13 = .val (sT (List.replicate (300 - l.length) 32 ++ l)) S13 := Sm.m2_val (x := sT (List.replicate (300 - l.length) 32)) (y := sT l) (S1 := S13) (S2 := S13) rfl rfl (addT (by simp; omega) S13)
    have a3 := Sm.call1e a2 e14
    show Out.bind (mCa (cal 1 m__law_told) (mCons (m2 addW (mV 11) (mV 7)) (mNil)) _ S13) (isiW "list") = _
    rw [a3]
    rfl
  exact Sm.ret_eq (andV_t g1 (andV_t g2 g3))
theorem law_true (ns : List Int) (h : ns.length ≤ 63) : ∃ S', m_law [.scr (ns.map W.int)] [] = .val (.bl true) S' := by
  have f1 : lz1 [some (.scr (ns.map W.int)), none, none, none, none, none, none, none, none, none, none, none, none, none, none, none] [] = .nx (lw (.scr (ns.map W.int)) none none none none none none none none none none none) [.lst [.lst (ns.map W.int), .int 0, .int 0]] := Sm.set_eq (i := 1) (Sm.call1e rfl (stream_eq ns))
  have s1 := strm0 ns
  generalize hsc : W.scr (ns.map W.int) = sc at *
  generalize [Cell.lst [.lst (ns.map W.int), .int 0, .int 0]] = S1 at *
  obtain ⟨wb, ws, S2, f2, t2, h0, hw, hl, hR⟩ := s2 (sc := sc) s1
  have f3 : lz3 (lw sc (some (.box wb)) none none none none none none none none none none) S2 = .nx (lw sc (some (.box wb)) (some .non) none none none none none none none none none) S2 := Sm.set_eq (i := 3) rfl
  rcases s4 (sc := sc) t2 h0 hw hl with ⟨S4, f4, t4, w4⟩ | ⟨a, x, ys, q, x4, S4, f4, ha, hx, hyl, hy, q0, t4, w4⟩
  · have hW : ∀ w ∈ ws, w ∈ WL := fun w h => List.mem_append_left _ (hR w h)
    obtain ⟨sg, j, l, q, S5, f5, L, t5, w5, q5, qz, qw⟩ := s5 (sc := sc) (x3 := some .non) (x4 := none) (x5 := none) (x6 := none) hW (by omega) h0 t4 w4
    have f6 : lz6 (lw sc (some (.box wb)) (some .non) none none none (some (sT l)) (some (.box q)) none none none none) S5 = .nx (lw sc (some (.box wb)) (some .non) none none none (some (sT l)) (some (.box q)) none none none none) S5 := Sm.sif_skip (Sm.mB_val (b := false) rfl)
    obtain ⟨S', e⟩ := caseA (sc := sc) hR hl L t5 w5 q5 (laid_len hW (by omega) L)
    refine ⟨S', Sm.run_rt ?_⟩
    show b_law [some sc, none, none, none, none, none, none, none, none, none, none, none, none, none, none, none] [] = _
    rw [b_law_lz, Sm.sseq f1, Sm.sseq f2, Sm.sseq f3, Sm.sseq f4, Sm.sseq f5, Sm.sseq f6]
    exact e
  · have hW : ∀ w ∈ ws.take a ++ x.1 :: (ws.drop a ++ ys), w ∈ WL := fun w h => by
      rcases List.mem_append.mp h with h | h
      · exact List.mem_append_left _ (hR w (List.mem_of_mem_take h))
      · rcases List.mem_cons.mp h with rfl | h
        · exact List.mem_append_right _ (List.mem_map.mpr ⟨x, hx, rfl⟩)
        · rcases List.mem_append.mp h with h | h
          · exact List.mem_append_left _ (hR w (List.mem_of_mem_drop h))
          · exact hy w h
    have hlen : (ws.take a ++ x.1 :: (ws.drop a ++ ys)).length ≤ 23 := by
      simp only [List.length_append, List.length_cons, List.length_take, List.length_drop]
      omega
    obtain ⟨sg, j, l, p, S5, f5, L, t5, w5, q5, qz, qw⟩ := s5 (sc := sc) (x3 := some (.str x.2)) (x4 := x4) (x5 := some (.int (a : Int))) (x6 := some (sT x.1)) hW hlen q0 t4 w4
    obtain ⟨S', e⟩ := caseB (sc := sc) (wb := q) (x4 := x4) (x6 := some (sT x.1)) hR hl ha hx hy hyl L q5
    refine ⟨S', Sm.run_rt ?_⟩
    show b_law [some sc, none, none, none, none, none, none, none, none, none, none, none, none, none, none, none] [] = _
    rw [b_law_lz, Sm.sseq f1, Sm.sseq f2, Sm.sseq f3, Sm.sseq f4, Sm.sseq f5, Sm.seq_rt e]
end K65

set_option Elab.async false
set_option linter.all false
set_option maxRecDepth 100000
set_option maxHeartbeats 2000000
namespace K65
open PySem PySem.Spec PyProof.Rows L2 NdefX Sm
open LamX hiding takes0
def spLaw (K : Fr) (cs : List (Str × Addr × Addr)) : Sp := fun vs H Q _ => ∃ (a : Addr) (ns : List Int), vs = [.ref a] ∧ SqL K H a (ns.map V.int) ∧ ns.length ≤ 63 ∧ (∀ p ∈ cs, H p.2.2 = some (.tbl #[])) ∧ ∀ H', Q (.bl true) H'
theorem all_mk {q : Program} {l : PySem.W.OpenLaw} {w : World} {K : Fr} {h : Heap} {mg : Str → Option Value} {fa f0 f1 f2 f3 f4 f5 f6 f7 f8 f9 f10 f11 f12 : Addr} (X : K.In h) (G : h.Ns mainGlobals mg) (hfa : mg "law" = some (.ref fa))
    {od0 an0 od1 an1 od2 an2 od3 an3 od4 an4 od5 an5 od6 an6 od7 an7 od8 an8 od9 an9 od10 an10 od11 an11 od12 an12 : Option Addr} {sl0 sl1 sl2 sl3 sl4 sl5 sl6 sl7 sl8 sl9 sl10 sl11 sl12 : Array (Option Value)} {oc0 kV0 dc0 pm0 cd0 ct0 oc1 kV1 dc1 pm1 cd1 ct1 oc2 kV2 dc2 pm2 cd2 ct2 oc3 kV3 dc3 pm3 cd3 ct3 oc4 kV4 dc4 pm4 cd4 ct4 oc5 kV5 dc5 pm5 cd5 ct5 oc6 kV6 dc6 pm6 cd6 ct6 oc7 kV7 dc7 pm7 cd7 ct7 oc8 kV8 dc8 pm8 cd8 ct8 oc9 kV9 dc9 pm9 cd9 ct9 oc10 kV10 dc10 pm10 cd10 ct10 oc11 kV11 dc11 pm11 cd11 ct11 oc12 kV12 dc12 pm12 cd12 ct12 : Value}
    {t0 : Tok}
    {t1 : Tok}
    {t2 : Tok}
    {t3 : Tok}
    {t4 : Tok}
    {t5 : Tok}
    (a0 : PySem.W.nsIn K mainGlobals "scan" = some (some (.ref f0))) (l0 : K.lookup f0 = some ⟨oc0, od0, .func (PySem.W.fnOf "scan" "scan" (defArgs s_scan) (defBody s_scan) (defScope s_scan) .none kV0 dc0 pm0 an0 cd0 ct0), sl0⟩) (c0 : PySem.W.codeIn K cd0 "scan" = true) (k0 : PySem.W.keepIn K (.ref f0) = true)
    (a1 : PySem.W.nsIn K mainGlobals "check_text" = some (some (.ref f1))) (l1 : K.lookup f1 = some ⟨oc1, od1, .func (PySem.W.fnOf "check_text" "check_text" (defArgs s_check_text) (defBody s_check_text) (defScope s_check_text) .none kV1 dc1 pm1 an1 cd1 ct1), sl1⟩) (c1 : PySem.W.codeIn K cd1 "check_text" = true) (k1 : PySem.W.keepIn K (.ref f1) = true)
    (a2 : PySem.W.nsIn K mainGlobals "_token" = some (some (.ref f2))) (l2 : K.lookup f2 = some ⟨oc2, od2, .func (PySem.W.fnOf "_token" "_token" (defArgs s__token) (defBody s__token) (defScope s__token) .none kV2 dc2 pm2 an2 cd2 ct2), sl2⟩) (c2 : PySem.W.codeIn K cd2 "_token" = true) (k2 : PySem.W.keepIn K (.ref f2) = true)
    (a3 : PySem.W.nsIn K mainGlobals "_stretch" = some (some (.ref f3))) (l3 : K.lookup f3 = some ⟨oc3, od3, .func (PySem.W.fnOf "_stretch" "_stretch" (defArgs s__stretch) (defBody s__stretch) (defScope s__stretch) .none kV3 dc3 pm3 an3 cd3 ct3), sl3⟩) (c3 : PySem.W.codeIn K cd3 "_stretch" = true) (k3 : PySem.W.keepIn K (.ref f3) = true)
    (a4 : PySem.W.nsIn K mainGlobals "_law_stream" = some (some (.ref f4))) (l4 : K.lookup f4 = some ⟨oc4, od4, .func (PySem.W.fnOf "_law_stream" "_law_stream" (defArgs s__law_stream) (defBody s__law_stream) (defScope s__law_stream) .none kV4 dc4 pm4 an4 cd4 ct4), sl4⟩) (c4 : PySem.W.codeIn K cd4 "_law_stream" = true) (k4 : PySem.W.keepIn K (.ref f4) = true)
    (a5 : PySem.W.nsIn K mainGlobals "_law_next" = some (some (.ref f5))) (l5 : K.lookup f5 = some ⟨oc5, od5, .func (PySem.W.fnOf "_law_next" "_law_next" (defArgs s__law_next) (defBody s__law_next) (defScope s__law_next) .none kV5 dc5 pm5 an5 cd5 ct5), sl5⟩) (c5 : PySem.W.codeIn K cd5 "_law_next" = true) (k5 : PySem.W.keepIn K (.ref f5) = true)
    (a6 : PySem.W.nsIn K mainGlobals "_law_is_integer" = some (some (.ref f6))) (l6 : K.lookup f6 = some ⟨oc6, od6, .func (PySem.W.fnOf "_law_is_integer" "_law_is_integer" (defArgs s__law_is_integer) (defBody s__law_is_integer) (defScope s__law_is_integer) .none kV6 dc6 pm6 an6 cd6 ct6), sl6⟩) (c6 : PySem.W.codeIn K cd6 "_law_is_integer" = true) (k6 : PySem.W.keepIn K (.ref f6) = true)
    (a7 : PySem.W.nsIn K mainGlobals "_law_equal" = some (some (.ref f7))) (l7 : K.lookup f7 = some ⟨oc7, od7, .func (PySem.W.fnOf "_law_equal" "_law_equal" (defArgs s__law_equal) (defBody s__law_equal) (defScope s__law_equal) .none kV7 dc7 pm7 an7 cd7 ct7), sl7⟩) (c7 : PySem.W.codeIn K cd7 "_law_equal" = true) (k7 : PySem.W.keepIn K (.ref f7) = true)
    (a8 : PySem.W.nsIn K mainGlobals "_law_pick" = some (some (.ref f8))) (l8 : K.lookup f8 = some ⟨oc8, od8, .func (PySem.W.fnOf "_law_pick" "_law_pick" (defArgs s__law_pick) (defBody s__law_pick) (defScope s__law_pick) .none kV8 dc8 pm8 an8 cd8 ct8), sl8⟩) (c8 : PySem.W.codeIn K cd8 "_law_pick" = true) (k8 : PySem.W.keepIn K (.ref f8) = true)
    (a9 : PySem.W.nsIn K mainGlobals "_law_kind" = some (some (.ref f9))) (l9 : K.lookup f9 = some ⟨oc9, od9, .func (PySem.W.fnOf "_law_kind" "_law_kind" (defArgs s__law_kind) (defBody s__law_kind) (defScope s__law_kind) .none kV9 dc9 pm9 an9 cd9 ct9), sl9⟩) (c9 : PySem.W.codeIn K cd9 "_law_kind" = true) (k9 : PySem.W.keepIn K (.ref f9) = true)
    (a10 : PySem.W.nsIn K mainGlobals "_law_laid" = some (some (.ref f10))) (l10 : K.lookup f10 = some ⟨oc10, od10, .func (PySem.W.fnOf "_law_laid" "_law_laid" (defArgs s__law_laid) (defBody s__law_laid) (defScope s__law_laid) .none kV10 dc10 pm10 an10 cd10 ct10), sl10⟩) (c10 : PySem.W.codeIn K cd10 "_law_laid" = true) (k10 : PySem.W.keepIn K (.ref f10) = true)
    (a11 : PySem.W.nsIn K mainGlobals "_law_told" = some (some (.ref f11))) (l11 : K.lookup f11 = some ⟨oc11, od11, .func (PySem.W.fnOf "_law_told" "_law_told" (defArgs s__law_told) (defBody s__law_told) (defScope s__law_told) .none kV11 dc11 pm11 an11 cd11 ct11), sl11⟩) (c11 : PySem.W.codeIn K cd11 "_law_told" = true) (k11 : PySem.W.keepIn K (.ref f11) = true)
    (a12 : PySem.W.nsIn K mainGlobals "law" = some (some (.ref f12))) (l12 : K.lookup f12 = some ⟨oc12, od12, .func (PySem.W.fnOf "law" "law" (defArgs s_law) (defBody s_law) (defScope s_law) .none kV12 dc12 pm12 an12 cd12 ct12), sl12⟩) (c12 : PySem.W.codeIn K cd12 "law" = true) (k12 : PySem.W.keepIn K (.ref f12) = true)
    (z0 : PySem.W.nsIn K mainGlobals "abs" = some none)
    (z1 : PySem.W.nsIn K mainGlobals "all" = some none)
    (z2 : PySem.W.nsIn K mainGlobals "bool" = some none)
    (z3 : PySem.W.nsIn K mainGlobals "enumerate" = some none)
    (z4 : PySem.W.nsIn K mainGlobals "int" = some none)
    (z5 : PySem.W.nsIn K mainGlobals "isinstance" = some none)
    (z6 : PySem.W.nsIn K mainGlobals "len" = some none)
    (z7 : PySem.W.nsIn K mainGlobals "list" = some none)
    (z8 : PySem.W.nsIn K mainGlobals "max" = some none)
    (z9 : PySem.W.nsIn K mainGlobals "range" = some none)
    (z10 : PySem.W.nsIn K mainGlobals "str" = some none)
    (z11 : PySem.W.nsIn K mainGlobals "tuple" = some none)
    (cst0 : PySem.W.nsIn K mainGlobals "MOST_PLAYERS" = some (some (.int 8 t0)))
    (cst1 : PySem.W.nsIn K mainGlobals "MOST_CHARACTERS" = some (some (.int 300 t1)))
    (cst2 : PySem.W.nsIn K mainGlobals "MOST_DIGITS" = some (some (.int 6 t2)))
    (cst3 : PySem.W.nsIn K mainGlobals "MARKS" = some (some (.str ".+-" t3)))
    (cst4 : PySem.W.nsIn K mainGlobals "DIGITS" = some (some (.str "0123456789" t4)))
    (cst5 : PySem.W.nsIn K mainGlobals "SIGN" = some (some (.str ":" t5)))
    {B_RingError C_BadValue N_BadValue i_BadValue C_TextError N_TextError i_TextError : Addr}
    {nm_x_BadValue q_BadValue : Str} {bs_BadValue sub_BadValue : List Value} {sn_BadValue : List Str} {ab_BadValue : Bool} {col_BadValue : Option Bool} {dd_BadValue odi_BadValue ani_BadValue : Option Addr} {m0_BadValue m1_BadValue m2_BadValue m3_BadValue m5_BadValue : Option Value} {oci_BadValue kVi_BadValue dci_BadValue pmi_BadValue cdi_BadValue cti_BadValue : Value} {sli_BadValue : Array (Option Value)}
    {nm_x_TextError q_TextError : Str} {bs_TextError sub_TextError : List Value} {sn_TextError : List Str} {ab_TextError : Bool} {col_TextError : Option Bool} {dd_TextError odi_TextError ani_TextError : Option Addr} {m0_TextError m1_TextError m2_TextError m3_TextError m5_TextError : Option Value} {oci_TextError kVi_TextError dci_TextError pmi_TextError cdi_TextError cti_TextError : Value} {sli_TextError : Array (Option Value)}
    (bB_RingError : PySem.W.nsIn K mainGlobals "RingError" = some (some (.ref B_RingError)))
    (bs_RingError_ : PySem.W.specialIn K (.ref B_RingError) "__getattribute__" = some (some (.builtin "type.__getattribute__")))
    (bt_RingError : PySem.W.typeIn K (.ref B_RingError) = some (.type "type"))
    (br_RingError : PySem.W.readsIn K B_RingError (.type "type") = true)
    (bv_RingError : PySem.W.findCls K (.ref B_RingError) (.type "type") "__init__" = some (.val (.builtin "ValueError.__init__")))
    (eC_BadValue : PySem.W.nsIn K mainGlobals "BadValue" = some (some (.ref C_BadValue)))
    (eL_BadValue : K.lookup C_BadValue = some (excClassObj nm_x_BadValue q_BadValue C_BadValue N_BadValue bs_BadValue [.ref B_RingError, .type "ValueError", .type "Exception", .type "BaseException", .type "object"] true sn_BadValue sub_BadValue ab_BadValue col_BadValue dd_BadValue m0_BadValue m1_BadValue m2_BadValue m3_BadValue m5_BadValue "ValueError.__new__"))
    (esa_BadValue : PySem.W.findIn K (.ref C_BadValue) "__setattr__" = some (some (.builtin "object.__setattr__")))
    (ega_BadValue : PySem.W.findIn K (.ref C_BadValue) "__getattribute__" = some (some (.builtin "BaseException.__getattribute__")))
    (egg_BadValue : PySem.W.findIn K (.ref C_BadValue) "__getattr__" = some none)
    (eno_BadValue : PySem.W.findIn K (.ref C_BadValue) "name" = some none)
    (ei_BadValue : PySem.W.findIn K (.ref C_BadValue) "__init__" = some (some (.ref i_BadValue)))
    (eti_BadValue : PySem.W.typeIn K (.ref i_BadValue) = some (.type "function"))
    (el_BadValue : K.lookup i_BadValue = some ⟨oci_BadValue, odi_BadValue, .func (PySem.W.fnOf "__init__" "BadValue.__init__" (defArgs s_init_BadValue) (defBody s_init_BadValue) (defScope s_init_BadValue) .none kVi_BadValue dci_BadValue pmi_BadValue ani_BadValue cdi_BadValue cti_BadValue), sli_BadValue⟩)
    (ec_BadValue : PySem.W.codeIn K cdi_BadValue "BadValue.__init__" = true)
    (ek_BadValue : PySem.W.keepIn K (.ref i_BadValue) = true)
    (ekC_BadValue : PySem.W.keepIn K (.ref C_BadValue) = true)
    (eeC_BadValue : PySem.W.subIn K (.ref C_BadValue) (.type "BaseException") = some true)
    (etC_BadValue : PySem.W.typeIn K (.ref C_BadValue) = some (.type "type"))
    (ehC_BadValue : PySem.W.hasDictIn K C_BadValue = true)
    (ecl_BadValue : PySem.W.findIn K (.ref C_BadValue) "__class__" = some (some (.builtin "object.__class__")))
    (ehn_BadValue : PySem.W.specialIn K (.builtin "object.__class__") "__get__" = some (some (.builtin "getset_descriptor.__get__")))
    (eht_BadValue : PySem.W.takesIn K (.builtin "object.__class__") = some true)
    (emo_BadValue : PySem.W.mroIn K C_BadValue (.type "object") = some true)
    (eC_TextError : PySem.W.nsIn K mainGlobals "TextError" = some (some (.ref C_TextError)))
    (eL_TextError : K.lookup C_TextError = some (excClassObj nm_x_TextError q_TextError C_TextError N_TextError bs_TextError [.ref B_RingError, .type "ValueError", .type "Exception", .type "BaseException", .type "object"] true sn_TextError sub_TextError ab_TextError col_TextError dd_TextError m0_TextError m1_TextError m2_TextError m3_TextError m5_TextError "ValueError.__new__"))
    (esa_TextError : PySem.W.findIn K (.ref C_TextError) "__setattr__" = some (some (.builtin "object.__setattr__")))
    (ega_TextError : PySem.W.findIn K (.ref C_TextError) "__getattribute__" = some (some (.builtin "BaseException.__getattribute__")))
    (egg_TextError : PySem.W.findIn K (.ref C_TextError) "__getattr__" = some none)
    (eno_TextError : PySem.W.findIn K (.ref C_TextError) "column" = some none)
    (eno2_TextError : PySem.W.findIn K (.ref C_TextError) "words" = some none)
    (ei_TextError : PySem.W.findIn K (.ref C_TextError) "__init__" = some (some (.ref i_TextError)))
    (eti_TextError : PySem.W.typeIn K (.ref i_TextError) = some (.type "function"))
    (el_TextError : K.lookup i_TextError = some ⟨oci_TextError, odi_TextError, .func (PySem.W.fnOf "__init__" "TextError.__init__" (defArgs s_init_TextError) (defBody s_init_TextError) (defScope s_init_TextError) .none kVi_TextError dci_TextError pmi_TextError ani_TextError cdi_TextError cti_TextError), sli_TextError⟩)
    (ec_TextError : PySem.W.codeIn K cdi_TextError "TextError.__init__" = true)
    (ek_TextError : PySem.W.keepIn K (.ref i_TextError) = true)
    (ekC_TextError : PySem.W.keepIn K (.ref C_TextError) = true)
    (eeC_TextError : PySem.W.subIn K (.ref C_TextError) (.type "BaseException") = some true)
    (etC_TextError : PySem.W.typeIn K (.ref C_TextError) = some (.type "type"))
    (ehC_TextError : PySem.W.hasDictIn K C_TextError = true)
    (ecl_TextError : PySem.W.findIn K (.ref C_TextError) "__class__" = some (some (.builtin "object.__class__")))
    (ehn_TextError : PySem.W.specialIn K (.builtin "object.__class__") "__get__" = some (some (.builtin "getset_descriptor.__get__")))
    (eht_TextError : PySem.W.takesIn K (.builtin "object.__class__") = some true)
    (emo_TextError : PySem.W.mroIn K C_TextError (.type "object") = some true)
    (gs_RingError : PySem.W.subIn K (.ref B_RingError) (.type "BaseException") = some true)
    (gh_RingError : PySem.W.hasDictIn K B_RingError = true)
    (gt_RingError : PySem.W.typeIn K (.ref B_RingError) = some (.type "type"))
    (xs_BadValue_BadValue : PySem.W.subIn K (.ref C_BadValue) (.ref C_BadValue) = some true)
    (xs_BadValue_RingError : PySem.W.subIn K (.ref C_BadValue) (.ref B_RingError) = some true)
    (xs_BadValue_TextError : PySem.W.subIn K (.ref C_BadValue) (.ref C_TextError) = some false)
    (xs_TextError_BadValue : PySem.W.subIn K (.ref C_TextError) (.ref C_BadValue) = some false)
    (xs_TextError_RingError : PySem.W.subIn K (.ref C_TextError) (.ref B_RingError) = some true)
    (xs_TextError_TextError : PySem.W.subIn K (.ref C_TextError) (.ref C_TextError) = some true)
    : ∃ (fd : FuncData) (cs : List (Str × Addr × Addr)) (sp : Sp), (∀ p ∈ cs, ((recsOf q).any fun e => e.name == p.1) = true ∧ CodeTab K p.1 p.2.1 p.2.2) ∧ (∀ (s : Shared) (v : Value), BindsTo s fd ⟨[v], []⟩ [("script", v)]) ∧
      (∀ (H : Hp) (a : Addr) (ns : List Int), ns.length ≤ 63 → (∀ p ∈ cs, H p.2.2 = some (.tbl #[])) → SqL K H a (ns.map V.int) → sp [.ref a] H (fun v _ => v = .bl true) fun _ _ _ => False) ∧
      ∀ base : Heap, K.In base → base.Ns mainGlobals mg → (∀ p ∈ cs, TabB base mg p.2.1 p.2.2) → FnOk l.prog w K mg base (L2.CX l.prog w) 11 fa fd ["script"] sp := by
  have e := hfa.symm.trans (PySem.W.mg_of X G a12)
  cases e
  refine ⟨PySem.W.fnOf "law" "law" (defArgs s_law) (defBody s_law) (defScope s_law) .none kV12 dc12 pm12 an12 cd12 ct12, [], spLaw K [], ?_, fun s v => .of_eq rfl, fun H a ns hl hT hS => ⟨a, ns, rfl, hS, hl, hT, fun _ => rfl⟩, fun base _ _ hTB => ?_⟩
  · intro p hp; exact absurd hp (by simp)
  letI : TB := ⟨[]⟩
  have A : All K mg base := by
    constructor
    · exact ⟨_, _, fun_mk (st := s_scan) l0 c0 k0, PySem.W.mg_of X G a0, (fun_mk (st := s_scan) l0 c0 k0).binds fun _ _ _ _ _ _ us hl => match us, hl with | [_], _ => rfl⟩
    · exact ⟨_, _, fun_mk (st := s_check_text) l1 c1 k1, PySem.W.mg_of X G a1, (fun_mk (st := s_check_text) l1 c1 k1).binds fun _ _ _ _ _ _ us hl => match us, hl with | [_], _ => rfl⟩
    · exact ⟨_, _, fun_mk (st := s__token) l2 c2 k2, PySem.W.mg_of X G a2, (fun_mk (st := s__token) l2 c2 k2).binds fun _ _ _ _ _ _ us hl => match us, hl with | [_, _], _ => rfl⟩
    · exact ⟨_, _, fun_mk (st := s__stretch) l3 c3 k3, PySem.W.mg_of X G a3, (fun_mk (st := s__stretch) l3 c3 k3).binds fun _ _ _ _ _ _ us hl => match us, hl with | [_, _, _], _ => rfl⟩
    · exact ⟨_, _, fun_mk (st := s__law_stream) l4 c4 k4, PySem.W.mg_of X G a4, (fun_mk (st := s__law_stream) l4 c4 k4).binds fun _ _ _ _ _ _ us hl => match us, hl with | [_], _ => rfl⟩
    · exact ⟨_, _, fun_mk (st := s__law_next) l5 c5 k5, PySem.W.mg_of X G a5, (fun_mk (st := s__law_next) l5 c5 k5).binds fun _ _ _ _ _ _ us hl => match us, hl with | [_, _], _ => rfl⟩
    · exact ⟨_, _, fun_mk (st := s__law_is_integer) l6 c6 k6, PySem.W.mg_of X G a6, (fun_mk (st := s__law_is_integer) l6 c6 k6).binds fun _ _ _ _ _ _ us hl => match us, hl with | [_], _ => rfl⟩
    · exact ⟨_, _, fun_mk (st := s__law_equal) l7 c7 k7, PySem.W.mg_of X G a7, (fun_mk (st := s__law_equal) l7 c7 k7).binds fun _ _ _ _ _ _ us hl => match us, hl with | [_, _], _ => rfl⟩
    · exact ⟨_, _, fun_mk (st := s__law_pick) l8 c8 k8, PySem.W.mg_of X G a8, (fun_mk (st := s__law_pick) l8 c8 k8).binds fun _ _ _ _ _ _ us hl => match us, hl with | [_, _], _ => rfl⟩
    · exact ⟨_, _, fun_mk (st := s__law_kind) l9 c9 k9, PySem.W.mg_of X G a9, (fun_mk (st := s__law_kind) l9 c9 k9).binds fun _ _ _ _ _ _ us hl => match us, hl with | [_], _ => rfl⟩
    · exact ⟨_, _, fun_mk (st := s__law_laid) l10 c10 k10, PySem.W.mg_of X G a10, (fun_mk (st := s__law_laid) l10 c10 k10).binds fun _ _ _ _ _ _ us hl => match us, hl with | [_, _], _ => rfl⟩
    · exact ⟨_, _, fun_mk (st := s__law_told) l11 c11 k11, PySem.W.mg_of X G a11, (fun_mk (st := s__law_told) l11 c11 k11).binds fun _ _ _ _ _ _ us hl => match us, hl with | [_], _ => rfl⟩
    · exact ⟨_, _, fun_mk (st := s_law) l12 c12 k12, PySem.W.mg_of X G a12, (fun_mk (st := s_law) l12 c12 k12).binds fun _ _ _ _ _ _ us hl => match us, hl with | [_], _ => rfl⟩
    · exact PySem.W.mg_none_of X G z0
    · exact PySem.W.mg_none_of X G z1
    · exact PySem.W.mg_none_of X G z2
    · exact PySem.W.mg_none_of X G z3
    · exact PySem.W.mg_none_of X G z4
    · exact PySem.W.mg_none_of X G z5
    · exact PySem.W.mg_none_of X G z6
    · exact PySem.W.mg_none_of X G z7
    · exact PySem.W.mg_none_of X G z8
    · exact PySem.W.mg_none_of X G z9
    · exact PySem.W.mg_none_of X G z10
    · exact PySem.W.mg_none_of X G z11
    · exact ⟨_, PySem.W.mg_of X G cst0⟩
    · exact ⟨_, PySem.W.mg_of X G cst1⟩
    · exact ⟨_, PySem.W.mg_of X G cst2⟩
    · exact ⟨_, PySem.W.mg_of X G cst3⟩
    · exact ⟨_, PySem.W.mg_of X G cst4⟩
    · exact ⟨_, PySem.W.mg_of X G cst5⟩
    · exact ⟨⟨_, PySem.W.mg_of X G bB_RingError, bs_RingError_, bt_RingError, br_RingError, bv_RingError⟩⟩
    · exact ⟨⟨C_BadValue, i_BadValue, _, PySem.W.mg_of X G eC_BadValue, ⟨⟨nm_x_BadValue, q_BadValue, N_BadValue, bs_BadValue, _, sn_BadValue, sub_BadValue, ab_BadValue, col_BadValue, dd_BadValue, m0_BadValue, m1_BadValue, m2_BadValue, m3_BadValue, m5_BadValue, eL_BadValue, by rfl⟩, esa_BadValue, eeC_BadValue, etC_BadValue, ekC_BadValue⟩, ei_BadValue, eti_BadValue, eno_BadValue, fun_mk (st := s_init_BadValue) el_BadValue ec_BadValue ek_BadValue, (fun_mk (st := s_init_BadValue) el_BadValue ec_BadValue ek_BadValue).binds fun _ _ _ _ _ _ us hl => match us, hl with | [_, _], _ => rfl, ⟨ega_BadValue, egg_BadValue, eeC_BadValue, ehC_BadValue⟩, ⟨ega_BadValue, egg_BadValue, eeC_BadValue, ehC_BadValue, ecl_BadValue, ehn_BadValue, eht_BadValue, emo_BadValue⟩⟩⟩
    · exact ⟨⟨C_TextError, i_TextError, _, PySem.W.mg_of X G eC_TextError, ⟨⟨nm_x_TextError, q_TextError, N_TextError, bs_TextError, _, sn_TextError, sub_TextError, ab_TextError, col_TextError, dd_TextError, m0_TextError, m1_TextError, m2_TextError, m3_TextError, m5_TextError, eL_TextError, by rfl⟩, esa_TextError, eeC_TextError, etC_TextError, ekC_TextError⟩, ei_TextError, eti_TextError, eno_TextError, fun_mk (st := s_init_TextError) el_TextError ec_TextError ek_TextError, (fun_mk (st := s_init_TextError) el_TextError ec_TextError ek_TextError).binds fun _ _ _ _ _ _ us hl => match us, hl with | [_, _, _], _ => rfl, ⟨ega_TextError, egg_TextError, eeC_TextError, ehC_TextError⟩, ⟨ega_TextError, egg_TextError, eeC_TextError, ehC_TextError, ecl_TextError, ehn_TextError, eht_TextError, emo_TextError⟩, eno2_TextError⟩⟩
    · exact ⟨_, PySem.W.mg_of X G eC_BadValue⟩
    · exact ⟨_, PySem.W.mg_of X G bB_RingError⟩
    · exact ⟨_, PySem.W.mg_of X G eC_TextError⟩
    · intro C D h1 h2; cases (PySem.W.mg_of X G eC_BadValue).symm.trans h1; cases (PySem.W.mg_of X G eC_BadValue).symm.trans h2; exact PySem.W.exm_ref eeC_BadValue ehC_BadValue etC_BadValue xs_BadValue_BadValue
    · intro C D h1 h2; cases (PySem.W.mg_of X G eC_BadValue).symm.trans h1; cases (PySem.W.mg_of X G eC_TextError).symm.trans h2; exact PySem.W.exm_ref eeC_TextError ehC_TextError etC_TextError xs_BadValue_TextError
    · intro C D h1 h2; cases (PySem.W.mg_of X G eC_TextError).symm.trans h1; cases (PySem.W.mg_of X G eC_BadValue).symm.trans h2; exact PySem.W.exm_ref eeC_BadValue ehC_BadValue etC_BadValue xs_TextError_BadValue
    · intro C D h1 h2; cases (PySem.W.mg_of X G eC_TextError).symm.trans h1; cases (PySem.W.mg_of X G eC_TextError).symm.trans h2; exact PySem.W.exm_ref eeC_TextError ehC_TextError etC_TextError xs_TextError_TextError
    · intro C D h1 h2; cases (PySem.W.mg_of X G eC_BadValue).symm.trans h1; cases (PySem.W.mg_of X G bB_RingError).symm.trans h2; exact kit_true gh_RingError gt_RingError xs_BadValue_RingError
    · intro C D h1 h2; cases (PySem.W.mg_of X G eC_TextError).symm.trans h1; cases (PySem.W.mg_of X G bB_RingError).symm.trans h2; exact kit_true gh_RingError gt_RingError xs_TextError_RingError
  refine (okF_law A (fun_mk (st := s_law) l12 c12 k12)).imp fun vs H Q E hq => ?_
  obtain ⟨a, ns, rfl, hS, hl, hT, hq⟩ := hq
  obtain ⟨S1, e1⟩ := law_true ns hl
  have hT1 : Tabs TB.T H := by
    intro p hp
    have hp : p ∈ ([] : List (Addr × Str)) := hp
    exact absurd hp (by simp)
  refine ⟨hT1, [], [], [], [.scr (ns.map W.int)], rfl, ⟨List.nodup_nil, by simp, by simp, by simp, rfl⟩, .cons (.scr (hS.imp (fun z => ⟨z, by simp, by simp⟩) id) (Reps.ints ns)) .nil, ?_⟩
  rw [e1]
  intro ρ1 v H1 _ _ r
  cases r
  exact hq H1
end K65
open PySem PySem.W PyProof.Rows
set_option maxRecDepth 100000 in
set_option maxHeartbeats 0 in
theorem PySem.Challenge.cw_ringbeats_k65_tokens_of_texts_holds : PySem.Challenge.rw_ringbeats_k65_tokens_of_texts.Holds := by
  w_on; o_law; k_head; (case hw => w_witness2)
  k_fill
  refine Sm.walk_tabs (l := PySem.Challenge.rw_ringbeats_k65_tokens_of_texts) (n := 63) (k := 11) (x := "script") (CX := fun w => L2.CX (PySem.Challenge.rw_ringbeats_k65_tokens_of_texts).prog w) rfl (by decide) rfl ⟨rfl, by decide, by decide⟩ (fun w h Y => by first | exact PySem.W.kIn_of Y | exact Y.1) ?F (fun _ _ _ _ _ h => Sm.noCX h)
  case F =>
    intro w mg fa h Y KX G hmg
    refine' K65.all_mk KX G hmg ?a0 ?l0 ?c0 ?k0 ?a1 ?l1 ?c1 ?k1 ?a2 ?l2 ?c2 ?k2 ?a3 ?l3 ?c3 ?k3 ?a4 ?l4 ?c4 ?k4 ?a5 ?l5 ?c5 ?k5 ?a6 ?l6 ?c6 ?k6 ?a7 ?l7 ?c7 ?k7 ?a8 ?l8 ?c8 ?k8 ?a9 ?l9 ?c9 ?k9 ?a10 ?l10 ?c10 ?k10 ?a11 ?l11 ?c11 ?k11 ?a12 ?l12 ?c12 ?k12 ?z0 ?z1 ?z2 ?z3 ?z4 ?z5 ?z6 ?z7 ?z8 ?z9 ?z10 ?z11 ?cst0 ?cst1 ?cst2 ?cst3 ?cst4 ?cst5 ?bB_RingError ?bs_RingError_ ?bt_RingError ?br_RingError ?bv_RingError ?eC_BadValue ?eL_BadValue ?esa_BadValue ?ega_BadValue ?egg_BadValue ?eno_BadValue ?ei_BadValue ?eti_BadValue ?el_BadValue ?ec_BadValue ?ek_BadValue ?ekC_BadValue ?eeC_BadValue ?etC_BadValue ?ehC_BadValue ?ecl_BadValue ?ehn_BadValue ?eht_BadValue ?emo_BadValue ?eC_TextError ?eL_TextError ?esa_TextError ?ega_TextError ?egg_TextError ?eno_TextError ?eno2_TextError ?ei_TextError ?eti_TextError ?el_TextError ?ec_TextError ?ek_TextError ?ekC_TextError ?eeC_TextError ?etC_TextError ?ehC_TextError ?ecl_TextError ?ehn_TextError ?eht_TextError ?emo_TextError ?gs_RingError ?gh_RingError ?gt_RingError ?xs_BadValue_BadValue ?xs_BadValue_RingError ?xs_BadValue_TextError ?xs_TextError_BadValue ?xs_TextError_RingError ?xs_TextError_TextError
    (case a0 => k_is); (case l0 => k_is); (case c0 => k_is); (case k0 => k_is); (case a1 => k_is); (case l1 => k_is); (case c1 => k_is); (case k1 => k_is); (case a2 => k_is); (case l2 => k_is); (case c2 => k_is); (case k2 => k_is); (case a3 => k_is); (case l3 => k_is); (case c3 => k_is); (case k3 => k_is); (case a4 => k_is); (case l4 => k_is); (case c4 => k_is); (case k4 => k_is); (case a5 => k_is); (case l5 => k_is); (case c5 => k_is); (case k5 => k_is); (case a6 => k_is); (case l6 => k_is); (case c6 => k_is); (case k6 => k_is); (case a7 => k_is); (case l7 => k_is); (case c7 => k_is); (case k7 => k_is); (case a8 => k_is); (case l8 => k_is); (case c8 => k_is); (case k8 => k_is); (case a9 => k_is); (case l9 => k_is); (case c9 => k_is); (case k9 => k_is); (case a10 => k_is); (case l10 => k_is); (case c10 => k_is); (case k10 => k_is); (case a11 => k_is); (case l11 => k_is); (case c11 => k_is); (case k11 => k_is); (case a12 => k_is); (case l12 => k_is); (case c12 => k_is); (case k12 => k_is); (case z0 => k_is); (case z1 => k_is); (case z2 => k_is); (case z3 => k_is); (case z4 => k_is); (case z5 => k_is); (case z6 => k_is); (case z7 => k_is); (case z8 => k_is); (case z9 => k_is); (case z10 => k_is); (case z11 => k_is); (case cst0 => k_is); (case cst1 => k_is); (case cst2 => k_is); (case cst3 => k_is); (case cst4 => k_is); (case cst5 => k_is); (case bB_RingError => k_is); (case bs_RingError_ => k_is); (case bt_RingError => k_is); (case br_RingError => k_is); (case bv_RingError => k_is); (case eC_BadValue => k_is); (case eL_BadValue => k_is); (case esa_BadValue => k_is); (case ega_BadValue => k_is); (case egg_BadValue => k_is); (case eno_BadValue => k_is); (case ei_BadValue => k_is); (case eti_BadValue => k_is); (case el_BadValue => k_is); (case ec_BadValue => k_is); (case ek_BadValue => k_is); (case ekC_BadValue => k_is); (case eeC_BadValue => k_is); (case etC_BadValue => k_is); (case ehC_BadValue => k_is); (case ecl_BadValue => k_is); (case ehn_BadValue => k_is); (case eht_BadValue => k_is); (case emo_BadValue => k_is); (case eC_TextError => k_is); (case eL_TextError => k_is); (case esa_TextError => k_is); (case ega_TextError => k_is); (case egg_TextError => k_is); (case eno_TextError => k_is); (case eno2_TextError => k_is); (case ei_TextError => k_is); (case eti_TextError => k_is); (case el_TextError => k_is); (case ec_TextError => k_is); (case ek_TextError => k_is); (case ekC_TextError => k_is); (case eeC_TextError => k_is); (case etC_TextError => k_is); (case ehC_TextError => k_is); (case ecl_TextError => k_is); (case ehn_TextError => k_is); (case eht_TextError => k_is); (case emo_TextError => k_is); (case gs_RingError => k_is); (case gh_RingError => k_is); (case gt_RingError => k_is); (case xs_BadValue_BadValue => k_is); (case xs_BadValue_RingError => k_is); (case xs_BadValue_TextError => k_is); (case xs_TextError_BadValue => k_is); (case xs_TextError_RingError => k_is); (case xs_TextError_TextError => k_is)

