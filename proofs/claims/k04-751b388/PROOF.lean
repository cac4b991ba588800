import PyProof.Rows.All
import Wide.All
import OpenK.AllK
import Wide.FinOn
import HandS.ForMost
import HandS.Deep
import HandS.TupAny
import HandS.TupMul
import HandS.IsInst
import HandS.Style
import HandS.SortInts
import HandS.Conv
import HandS.Star
import HandS.Comp
import HandS.Zip
import HandS.Ends
import HandS.Words
import HandS.Strs
import HandS.SetFor
import KE.SortData
import PyProof.RowDictHeap
import HandS.Flt
import KE.DataMinMax
import PyProof.ZipIter
import PyProof.ListNew
import PyProof.CallType
import PySem.Challenge.RW_roughroads_k04_whole_ways_and_trees
set_option Elab.async false
set_option linter.all false
set_option maxRecDepth 100000
set_option maxHeartbeats 1000000
/-! The layer of data: what a Python expression is worth, as a tree of data, over the hand layer. -/
namespace Rr
open PySem PySem.Spec L2

/-- data as trees; obj n: an object of the world, by its number -/
inductive D where
  | non | bl (b : Bool) | int (i : Int) | str (x : Str) | tup (xs : List D) | lst (xs : List D) | dic (kvs : List (Key × D)) | obj (n : Nat)

mutual
/-- the value v bears the datum d, by objects outside of W -/
inductive Rep (ad : Nat → Addr) (H : Hp) (W : Addr → Prop) : V → D → Prop
  | non : Rep ad H W .non .non
  | bl (b : Bool) : Rep ad H W (.bl b) (.bl b)
  | int (i : Int) : Rep ad H W (.int i) (.int i)
  | str (x : Str) : Rep ad H W (.str x) (.str x)
  | tup {a : Addr} {xs : List V} {ds : List D} : H a = some (.tup xs) → ¬ W a → RepL ad H W xs ds → Rep ad H W (.ref a) (.tup ds)
  | lst {a : Addr} {xs : List V} {ds : List D} : H a = some (.lst xs) → ¬ W a → RepL ad H W xs ds → Rep ad H W (.ref a) (.lst ds)
  | dic {a : Addr} {ks : List Key} {xs : List V} {ds : List D} : H a = some (.dK (ks.zip xs)) → ¬ W a → ks.length = ds.length → RepL ad H W xs ds → Rep ad H W (.ref a) (.dic (ks.zip ds))
  | obj (n : Nat) : Rep ad H W (.ref (ad n)) (.obj n)
inductive RepL (ad : Nat → Addr) (H : Hp) (W : Addr → Prop) : List V → List D → Prop
  | nil : RepL ad H W [] []
  | cons {v : V} {vs : List V} {d : D} {ds : List D} : Rep ad H W v d → RepL ad H W vs ds → RepL ad H W (v :: vs) (d :: ds)
end

section
variable {ad : Nat → Addr} {H H' : Hp} {W W' : Addr → Prop}
theorem Rep.of {v : V} {d : D} (h : Rep ad H W v d) (hk : ∀ a x, H a = some x → ¬ W a → H' a = some x ∧ ¬ W' a) : Rep ad H' W' v d :=
  Rep.rec (motive_1 := fun v d _ => Rep ad H' W' v d) (motive_2 := fun vs ds _ => RepL ad H' W' vs ds)
    .non (fun b => .bl b) (fun i => .int i) (fun x => .str x)
    (fun h1 h2 _ ih => .tup (hk _ _ h1 h2).1 (hk _ _ h1 h2).2 ih)
    (fun h1 h2 _ ih => .lst (hk _ _ h1 h2).1 (hk _ _ h1 h2).2 ih)
    (fun h1 h2 h3 _ ih => .dic (hk _ _ h1 h2).1 (hk _ _ h1 h2).2 h3 ih) (fun n => .obj n)
    .nil (fun _ _ a b => .cons a b) h
theorem RepL.of {v : List V} {d : List D} (h : RepL ad H W v d) (hk : ∀ a x, H a = some x → ¬ W a → H' a = some x ∧ ¬ W' a) : RepL ad H' W' v d := by
  induction d generalizing v with
  | nil => cases h; exact .nil
  | cons d ds ih =>
    cases h with
    | cons h1 h2 => exact .cons (h1.of hk) (ih h2)
theorem RepL.length {vs : List V} {ds : List D} (h : RepL ad H W vs ds) : vs.length = ds.length := by
  induction ds generalizing vs with
  | nil => cases h; rfl
  | cons d ds ih =>
    cases h with
    | cons h1 h2 => simp [ih h2]
theorem RepL.get {vs : List V} {ds : List D} (h : RepL ad H W vs ds) {i : Nat} {d : D} (e : ds[i]? = some d) : ∃ v, vs[i]? = some v ∧ Rep ad H W v d := by
  induction ds generalizing vs i with
  | nil => simp at e
  | cons d' ds ih =>
    cases h with
    | cons h1 h2 =>
      cases i with
      | zero =>
        simp only [List.getElem?_cons_zero, Option.some.injEq] at e
        subst e
        exact ⟨_, rfl, h1⟩
      | succ i =>
        simp only [List.getElem?_cons_succ] at e
        exact ih h2 e
theorem RepL.getV {vs : List V} {ds : List D} (h : RepL ad H W vs ds) {i : Nat} {v : V} (e : vs[i]? = some v) : ∃ d, ds[i]? = some d ∧ Rep ad H W v d := by
  induction ds generalizing vs i with
  | nil => cases h; simp at e
  | cons d' ds ih =>
    cases h with
    | cons h1 h2 =>
      cases i with
      | zero =>
        simp only [List.getElem?_cons_zero, Option.some.injEq] at e
        subst e
        exact ⟨_, rfl, h1⟩
      | succ i =>
        simp only [List.getElem?_cons_succ] at e
        exact ih h2 e
theorem RepL.append {v1 v2 : List V} {d1 d2 : List D} (h1 : RepL ad H W v1 d1) (h2 : RepL ad H W v2 d2) : RepL ad H W (v1 ++ v2) (d1 ++ d2) := by
  induction d1 generalizing v1 with
  | nil => cases h1; exact h2
  | cons d ds ih =>
    cases h1 with
    | cons a b => exact .cons a (ih b)
theorem RepL.take {vs : List V} {ds : List D} (h : RepL ad H W vs ds) : ∀ n, RepL ad H W (vs.take n) (ds.take n) := by
  induction ds generalizing vs with
  | nil => cases h; intro n; simp; exact .nil
  | cons d ds ih =>
    cases h with
    | cons a b =>
      intro n
      cases n with
      | zero => exact .nil
      | succ n => exact .cons a (ih b n)
theorem RepL.drop {vs : List V} {ds : List D} (h : RepL ad H W vs ds) : ∀ n, RepL ad H W (vs.drop n) (ds.drop n) := by
  induction ds generalizing vs with
  | nil => cases h; intro n; simp; exact .nil
  | cons d ds ih =>
    cases h with
    | cons a b =>
      intro n
      cases n with
      | zero => exact .cons a b
      | succ n => exact ih b n
theorem RepL.set {vs : List V} {ds : List D} (h : RepL ad H W vs ds) {v : V} {d : D} (r : Rep ad H W v d) : ∀ n, RepL ad H W (vs.set n v) (ds.set n d) := by
  induction ds generalizing vs with
  | nil => cases h; intro n; simp; exact .nil
  | cons d ds ih =>
    cases h with
    | cons a b =>
      intro n
      cases n with
      | zero => exact .cons r b
      | succ n => exact .cons a (ih b n)
theorem RepL.reverse {vs : List V} {ds : List D} (h : RepL ad H W vs ds) : RepL ad H W vs.reverse ds.reverse := by
  induction ds generalizing vs with
  | nil => cases h; exact .nil
  | cons d ds ih =>
    cases h with
    | cons a b => rw [List.reverse_cons, List.reverse_cons]; exact (ih b).append (.cons a .nil)
theorem Rep.mono {v : V} {d : D} (h : Rep ad H W v d) (hw : ∀ a, W' a → W a) : Rep ad H W' v d := h.of fun a x e n => ⟨e, fun z => n (hw a z)⟩
theorem RepL.mono {v : List V} {d : List D} (h : RepL ad H W v d) (hw : ∀ a, W' a → W a) : RepL ad H W' v d := h.of fun a x e n => ⟨e, fun z => n (hw a z)⟩
end

/-! ### the world: what a law's own pen is worth -/
structure Wd where
  S : Type
  ad : Nat → Addr
  mine : Addr → Prop
  ok : S → Hp → Prop
  trk : ∀ {s H a}, ok s H → mine a → H a ≠ none
  keep : ∀ {s H H'}, ok s H → (∀ a, mine a → H' a = H a) → ok s H'

/-- what the world does not own is kept -/
def Ext (w : Wd) (H H' : Hp) : Prop := ∀ a x, H a = some x → ¬ w.mine a → H' a = some x
theorem Ext.refl {w : Wd} (H : Hp) : Ext w H H := fun _ _ h _ => h
theorem Ext.trans {w : Wd} {H H1 H2 : Hp} (a : Ext w H H1) (b : Ext w H1 H2) : Ext w H H2 := fun c x h n => b c x (a c x h n) n
theorem Ext.new {w : Wd} {H : Hp} {p : Addr} {o : HO} (h : H p = none) : Ext w H (upd H p o) := fun a x e _ => by
  rw [upd_ne (ne_of_none e h)]; exact e
theorem Ext.mut {w : Wd} {H H' : Hp} {p : Addr} {o : HO} (e : Ext w H H') (h : H p = none) : Ext w H (upd H' p o) := fun a x ha n => by
  rw [upd_ne (ne_of_none ha h)]; exact e a x ha n

/-- what a slot of a def holds: a datum, or a list of the def's own that nothing else knows -/
inductive Sl where
  | val (d : D) | own (ds : List D)
abbrev Rho := List (Option Sl)
abbrev Own := Nat → Option Addr
def Av (W : Addr → Prop) (o : Own) : Addr → Prop := fun a => W a ∨ ∃ i, o i = some a

/-- a value that is only read: its uppermost list may be the def's own -/
inductive Bor (ad : Nat → Addr) (H : Hp) (W A : Addr → Prop) : V → D → Prop
  | kept {v : V} {d : D} : Rep ad H A v d → Bor ad H W A v d
  | own {a : Addr} {xs : List V} {ds : List D} : H a = some (.lst xs) → ¬ W a → RepL ad H A xs ds → Bor ad H W A (.ref a) (.lst ds)
inductive BorL (ad : Nat → Addr) (H : Hp) (W A : Addr → Prop) : List V → List D → Prop
  | nil : BorL ad H W A [] []
  | cons {v : V} {vs : List V} {d : D} {ds : List D} : Bor ad H W A v d → BorL ad H W A vs ds → BorL ad H W A (v :: vs) (d :: ds)
theorem Bor.lst {ad : Nat → Addr} {H : Hp} {W A : Addr → Prop} (hs : ∀ a, W a → A a) {v : V} {ds : List D} (h : Bor ad H W A v (.lst ds)) : ∃ a xs, v = .ref a ∧ H a = some (.lst xs) ∧ ¬ W a ∧ RepL ad H A xs ds := by
  cases h with
  | kept h => cases h with
    | lst h1 h2 h3 => exact ⟨_, _, rfl, h1, fun z => h2 (hs _ z), h3⟩
  | own h1 h2 h3 => exact ⟨_, _, rfl, h1, h2, h3⟩
theorem Bor.tup {ad : Nat → Addr} {H : Hp} {W A : Addr → Prop} {v : V} {ds : List D} (h : Bor ad H W A v (.tup ds)) : ∃ a xs, v = .ref a ∧ H a = some (.tup xs) ∧ ¬ A a ∧ RepL ad H A xs ds := by
  cases h with
  | kept h => cases h with
    | tup h1 h2 h3 => exact ⟨_, _, rfl, h1, h2, h3⟩
theorem Bor.of {ad : Nat → Addr} {H H' : Hp} {W A : Addr → Prop} {v : V} {d : D} (h : Bor ad H W A v d) (hk : ∀ a x, H a = some x → ¬ A a → H' a = some x) (hk2 : ∀ a x, H a = some x → ¬ W a → H' a = some x) : Bor ad H' W A v d := by
  cases h with
  | kept h => exact .kept (h.of fun a x e n => ⟨hk a x e n, n⟩)
  | own h1 h2 h3 => exact .own (hk2 _ _ h1 h2) h2 (h3.of fun a x e n => ⟨hk a x e n, n⟩)
theorem BorL.of {ad : Nat → Addr} {H H' : Hp} {W A : Addr → Prop} {vs : List V} {ds : List D} (h : BorL ad H W A vs ds) (hk : ∀ a x, H a = some x → ¬ A a → H' a = some x) (hk2 : ∀ a x, H a = some x → ¬ W a → H' a = some x) : BorL ad H' W A vs ds := by
  induction h with
  | nil => exact .nil
  | cons h1 _ ih => exact .cons (h1.of hk hk2) ih
theorem RepL.bor {ad : Nat → Addr} {H : Hp} {W A : Addr → Prop} {vs : List V} {ds : List D} (h : RepL ad H A vs ds) : BorL ad H W A vs ds := by
  induction ds generalizing vs with
  | nil => cases h; exact .nil
  | cons d ds ih =>
    cases h with
    | cons a b => exact .cons (.kept a) (ih b)

/-- what stood when the block began, and what of it the block may change -/
structure Base where
  hp : Hp
  lic : Addr → Prop
structure Gd (w : Wd) (H0 : Base) (W : Addr → Prop) (o : Own) (ρ : Rho) (s : w.S) (σ : L2.St) (H : Hp) : Prop where
  len : ρ.length = σ.length
  sub : ∀ a, w.mine a → W a
  trk : ∀ a, W a → H0.hp a ≠ none
  frm : ∀ a x, H0.hp a = some x → ¬ w.mine a → ¬ H0.lic a → H a = some x
  lic : ∀ a, H0.lic a → ¬ W a
  ok : w.ok s H
  val : ∀ (i : Nat) (d : D), ρ[i]? = some (some (.val d)) → ∃ v, σ[i]? = some (some v) ∧ Rep w.ad H (Av W o) v d
  own : ∀ (i : Nat) (ds : List D), ρ[i]? = some (some (.own ds)) → ∃ a vs, o i = some a ∧ σ[i]? = some (some (.ref a)) ∧ H a = some (.lst vs) ∧ RepL w.ad H (Av W o) vs ds
  inj : ∀ i j a, o i = some a → o j = some a → i = j
  new : ∀ i a, o i = some a → H0.hp a = none ∨ H0.lic a
  live : ∀ (i : Nat) (a : Addr), o i = some a → ∃ ds, ρ[i]? = some (some (.own ds))

section
variable {w : Wd} {H0 : Base} {H H' : Hp} {W : Addr → Prop} {o : Own} {ρ : Rho} {s s' : w.S} {σ : L2.St}
theorem Gd.tracked (G : Gd w H0 W o ρ s σ H) {a : Addr} (h : Av W o a) : H a ≠ none := by
  rcases h with h | ⟨i, h⟩
  · cases e : H0.hp a with
    | none => exact absurd e (G.trk a h)
    | some x =>
      by_cases m : w.mine a
      · exact w.trk G.ok m
      · rw [G.frm a x e m fun l => G.lic a l h]; exact Option.some_ne_none _
  · obtain ⟨ds, e⟩ := G.live i a h
    obtain ⟨b, vs, e1, _, e2, _⟩ := G.own i ds e
    rw [h] at e1; cases e1
    rw [e2]; exact Option.some_ne_none _
theorem Gd.notAv (G : Gd w H0 W o ρ s σ H) {a : Addr} (h : H a = none) : ¬ Av W o a := fun z => G.tracked z h
theorem Gd.mineAv (G : Gd w H0 W o ρ s σ H) {a : Addr} (h : ¬ Av W o a) : ¬ w.mine a := fun z => h (.inl (G.sub a z))
theorem Gd.repExt (G : Gd w H0 W o ρ s σ H) (e : Ext w H H') {v : V} {d : D} (r : Rep w.ad H (Av W o) v d) : Rep w.ad H' (Av W o) v d :=
  r.of fun a x h n => ⟨e a x h (G.mineAv n), n⟩
theorem Gd.repLExt (G : Gd w H0 W o ρ s σ H) (e : Ext w H H') {v : List V} {d : List D} (r : RepL w.ad H (Av W o) v d) : RepL w.ad H' (Av W o) v d :=
  r.of fun a x h n => ⟨e a x h (G.mineAv n), n⟩
theorem Gd.borExt (G : Gd w H0 W o ρ s σ H) (e : Ext w H H') {v : V} {d : D} (r : Bor w.ad H W (Av W o) v d) : Bor w.ad H' W (Av W o) v d :=
  r.of (fun a x h n => e a x h (G.mineAv n)) (fun a x h n => e a x h fun z => n (G.sub a z))
theorem Gd.borLExt (G : Gd w H0 W o ρ s σ H) (e : Ext w H H') {v : List V} {d : List D} (r : BorL w.ad H W (Av W o) v d) : BorL w.ad H' W (Av W o) v d :=
  r.of (fun a x h n => e a x h (G.mineAv n)) (fun a x h n => e a x h fun z => n (G.sub a z))
theorem Gd.own_W (G : Gd w H0 W o ρ s σ H) {i : Nat} {a : Addr} (h : o i = some a) : ¬ W a := fun z => (G.new i a h).elim (G.trk a z) fun l => G.lic a l z
theorem Gd.own_mine (G : Gd w H0 W o ρ s σ H) {i : Nat} {a : Addr} (h : o i = some a) : ¬ w.mine a := fun z => G.own_W h (G.sub a z)
theorem Gd.ext (G : Gd w H0 W o ρ s σ H) (e : Ext w H H') (k : w.ok s' H') : Gd w H0 W o ρ s' σ H' where
  len := G.len
  sub := G.sub
  trk := G.trk
  frm := fun a x h n l => e a x (G.frm a x h n l) n
  lic := G.lic
  ok := k
  val := fun i d h => let ⟨v, h1, h2⟩ := G.val i d h; ⟨v, h1, G.repExt e h2⟩
  own := fun i ds h => let ⟨a, vs, h1, h2, h3, h4⟩ := G.own i ds h; ⟨a, vs, h1, h2, e a _ h3 (G.own_mine h1), G.repLExt e h4⟩
  inj := G.inj
  new := G.new
  live := G.live
theorem Gd.fresh (G : Gd w H0 W o ρ s σ H) {a : Addr} (h : H a = none) : H0.hp a = none ∨ H0.lic a := by
  cases e : H0.hp a with
  | none => exact .inl rfl
  | some x =>
    by_cases m : w.mine a
    · exact absurd h (w.trk G.ok m)
    · by_cases l : H0.lic a
      · exact .inr l
      · rw [G.frm a x e m l] at h; cases h
end

/-! ### the readings -/
abbrev Mo (S α : Type) := S → Option (α × S)
def rt {S α : Type} (a : α) : Mo S α := fun s => some (a, s)
def up {S α : Type} (a : Option α) : Mo S α := fun s => match a with | some x => some (x, s) | none => none
def bd {S α β : Type} (m : Mo S α) (f : α → Mo S β) : Mo S β := fun s => match m s with | some (a, s') => f a s' | none => none
theorem bd_some {S α β : Type} {m : Mo S α} {f : α → Mo S β} {s s2 : S} {b : β} (h : bd m f s = some (b, s2)) : ∃ a s1, m s = some (a, s1) ∧ f a s1 = some (b, s2) := by
  unfold bd at h
  cases e : m s with
  | none => rw [e] at h; cases h
  | some p => obtain ⟨a, s1⟩ := p; rw [e] at h; exact ⟨a, s1, rfl, h⟩
theorem up_some {S α : Type} {a : Option α} {x : α} {s s' : S} (h : up a s = some (x, s')) : a = some x ∧ s' = s := by
  cases a with
  | none => cases h
  | some y => cases h; exact ⟨rfl, rfl⟩

/-- a value that may be kept; one that is only read; a new list; several values; a test -/
def tV (w : Wd) (m : Rho → Mo w.S D) : TE := fun σ H Q => ∃ H0 W o ρ s d s', Gd w H0 W o ρ s σ H ∧ m ρ s = some (d, s') ∧ ∀ v H', Ext w H H' → w.ok s' H' → Rep w.ad H' (Av W o) v d → Q v H'
def tR (w : Wd) (m : Rho → Mo w.S D) : TE := fun σ H Q => ∃ H0 W o ρ s d s', Gd w H0 W o ρ s σ H ∧ m ρ s = some (d, s') ∧ ∀ v H', Ext w H H' → w.ok s' H' → Bor w.ad H' W (Av W o) v d → Q v H'
def tN (w : Wd) (m : Rho → Mo w.S (List D)) : TE := fun σ H Q => ∃ H0 W o ρ s ds s', Gd w H0 W o ρ s σ H ∧ m ρ s = some (ds, s') ∧
  ∀ a vs H', Ext w H H' → w.ok s' H' → H a = none → H' a = some (.lst vs) → RepL w.ad H' (fun b => Av W o b ∨ b = a) vs ds → Q (.ref a) H'
def tVs (w : Wd) (m : Rho → Mo w.S (List D)) : TA := fun σ H Q => ∃ H0 W o ρ s ds s', Gd w H0 W o ρ s σ H ∧ m ρ s = some (ds, s') ∧ ∀ vs H', Ext w H H' → w.ok s' H' → RepL w.ad H' (Av W o) vs ds → Q vs H'
def tRs (w : Wd) (m : Rho → Mo w.S (List D)) : TA := fun σ H Q => ∃ H0 W o ρ s ds s', Gd w H0 W o ρ s σ H ∧ m ρ s = some (ds, s') ∧ ∀ vs H', Ext w H H' → w.ok s' H' → BorL w.ad H' W (Av W o) vs ds → Q vs H'
def tQ (w : Wd) (m : Rho → Mo w.S Bool) : TT := fun σ H Q => ∃ H0 W o ρ s b s', Gd w H0 W o ρ s σ H ∧ m ρ s = some (b, s') ∧ ∀ H', Ext w H H' → w.ok s' H' → Q b H'

abbrev VE (X : Cx) (w : Wd) (e : Expr) (m : Rho → Mo w.S D) : Prop := PE X e (tV w m)
abbrev VR (X : Cx) (w : Wd) (e : Expr) (m : Rho → Mo w.S D) : Prop := PE X e (tR w m)
abbrev VN (X : Cx) (w : Wd) (e : Expr) (m : Rho → Mo w.S (List D)) : Prop := PE X e (tN w m)
abbrev VEs (X : Cx) (w : Wd) (es : List Expr) (m : Rho → Mo w.S (List D)) : Prop := PA X es (tVs w m)
abbrev VRs (X : Cx) (w : Wd) (es : List Expr) (m : Rho → Mo w.S (List D)) : Prop := PA X es (tRs w m)
abbrev VQ (X : Cx) (w : Wd) (e : Expr) (m : Rho → Mo w.S Bool) : Prop := PT X e (tQ w m)

/-- weakening a reading -/
theorem _root_.L2.PE.imp {X : Cx} {e : Expr} {t t' : TE} (h : PE X e t) (q : ∀ σ H Q, t' σ H Q → t σ H Q) : PE X e t' := ⟨fun pins s σ H Q I k => h.run pins s σ H Q I (q σ H Q k)⟩
theorem _root_.L2.PT.imp {X : Cx} {e : Expr} {t t' : TT} (h : PT X e t) (q : ∀ σ H Q, t' σ H Q → t σ H Q) : PT X e t' := ⟨fun pins s σ H Q I k => h.run pins s σ H Q I (q σ H Q k)⟩
theorem _root_.L2.PA.imp {X : Cx} {e : List Expr} {t t' : TA} (h : PA X e t) (q : ∀ σ H Q, t' σ H Q → t σ H Q) : PA X e t' := ⟨fun pos pins s σ H Q I k => h.run pos pins s σ H Q I (q σ H Q k)⟩
theorem _root_.L2.PS.imp {X : Cx} {e : Stmt} {t t' : TS} (h : PS X e t) (q : ∀ D σ H, t' D σ H → t D σ H) : PS X e t' := ⟨fun pins s σ H D I k => h.run pins s σ H D I (q D σ H k)⟩
theorem _root_.L2.PSs.imp {X : Cx} {e : List Stmt} {t t' : TS} (h : PSs X e t) (q : ∀ D σ H, t' D σ H → t D σ H) : PSs X e t' := ⟨fun pins s σ H D I k => h.run pins s σ H D I (q D σ H k)⟩

section
variable {X : Cx} {w : Wd} {e : Expr} {es : List Expr} {m : Rho → Mo w.S D} {ms : Rho → Mo w.S (List D)} {pos : Pos}
/-- a value is a value to read; a new list is a value -/
theorem ve_vr (h : VE X w e m) : VR X w e m := h.imp fun σ H Q ⟨H0, W, o, ρ, s, d, s', G, e, q⟩ =>
  ⟨H0, W, o, ρ, s, d, s', G, e, fun v H' x k r => q v H' x k (.kept r)⟩
theorem vn_ve {X : Cx} {w : Wd} {e : Expr} {ms : Rho → Mo w.S (List D)} (h : VN X w e ms) : VE X w e (fun ρ => bd (ms ρ) fun ds => rt (.lst ds)) := h.imp fun σ H Q ⟨H0, W, o, ρ, s, d, s', G, e, q⟩ => by
  obtain ⟨ds, s1, e1, e2⟩ := bd_some e
  cases e2
  exact ⟨H0, W, o, ρ, s, ds, s', G, e1, fun a vs H' x k n h r => q _ H' x k (.lst h (G.notAv n) (r.mono fun b z => .inl z))⟩
theorem vn_vr {X : Cx} {w : Wd} {e : Expr} {ms : Rho → Mo w.S (List D)} (h : VN X w e ms) : VR X w e (fun ρ => bd (ms ρ) fun ds => rt (.lst ds)) := ve_vr (vn_ve h)
theorem ves_vrs {X : Cx} {w : Wd} {es : List Expr} {ms : Rho → Mo w.S (List D)} (h : VEs X w es ms) : VRs X w es ms := h.imp fun σ H Q ⟨H0, W, o, ρ, s, d, s', G, e, q⟩ =>
  ⟨H0, W, o, ρ, s, d, s', G, e, fun v H' x k r => q v H' x k r.bor⟩
end

/-! ### names and constants -/
def gv (i : Nat) (ρ : Rho) : Option D := match ρ[i]? with | some (some (.val d)) => some d | _ => none
def go (i : Nat) (ρ : Rho) : Option D := match ρ[i]? with | some (some (.own ds)) => some (.lst ds) | some (some (.val d)) => some d | _ => none
theorem gv_some {i : Nat} {ρ : Rho} {d : D} (h : gv i ρ = some d) : ρ[i]? = some (some (.val d)) := by
  unfold gv at h
  split at h
  · cases h; assumption
  · cases h
section
variable {X : Cx} {w : Wd} {pos : Pos}
theorem ve_name (i : Nat) {x : Str} (hN : X.N[i]? = some x := by rfl) (hv : Vis X.env.scope x := by first | exact Or.inl rfl | exact Or.inr (Or.inl rfl) | exact Or.inr (Or.inr rfl)) (hd : (x == ("__debug__" : Str)) = false := by decide)
    (hcd : (x == ("__classdict__" : Str)) = false := by decide) : VE X w (.Name x pos) (fun ρ => up (gv i ρ)) :=
  (pe_var hN hv hd hcd).imp fun σ H Q ⟨H0, W, o, ρ, s, d, s', G, e, q⟩ => by
    obtain ⟨e1, rfl⟩ := up_some e
    obtain ⟨v, h1, h2⟩ := G.val i d (gv_some e1)
    exact ⟨v, h1, q v H (Ext.refl H) G.ok h2⟩
/-- a name whose list is the def's own, or any other: to be read -/
theorem vr_name (i : Nat) {x : Str} (hN : X.N[i]? = some x := by rfl) (hv : Vis X.env.scope x := by first | exact Or.inl rfl | exact Or.inr (Or.inl rfl) | exact Or.inr (Or.inr rfl)) (hd : (x == ("__debug__" : Str)) = false := by decide)
    (hcd : (x == ("__classdict__" : Str)) = false := by decide) : VR X w (.Name x pos) (fun ρ => up (go i ρ)) :=
  (pe_var hN hv hd hcd).imp fun σ H Q ⟨H0, W, o, ρ, s, d, s', G, e, q⟩ => by
    obtain ⟨e1, rfl⟩ := up_some e
    unfold go at e1
    split at e1
    · rename_i ds he
      cases e1
      obtain ⟨a, vs, h1, h2, h3, h4⟩ := G.own i ds he
      exact ⟨_, h2, q _ H (Ext.refl H) G.ok (.own h3 (G.own_W h1) h4)⟩
    · rename_i d' he
      cases e1
      obtain ⟨v, h1, h2⟩ := G.val i _ he
      exact ⟨v, h1, q v H (Ext.refl H) G.ok (.kept h2)⟩
    · cases e1
theorem ve_const {e : Expr} {v : V} {d : D} (h : PE X e (tC v)) (r : ∀ ad H W, Rep ad H W v d) : VE X w e (fun _ => rt d) :=
  h.imp fun σ H Q ⟨H0, W, o, ρ, s, d', s', G, e, q⟩ => by
    cases e
    exact q v H (Ext.refl H) G.ok (r _ _ _)
theorem ve_int {i j} : VE X w (.Constant (.int i) j pos) (fun _ => rt (.int i)) := ve_const pe_int fun _ _ _ => .int i
theorem ve_bl {b j} : VE X w (.Constant (.bool b) j pos) (fun _ => rt (.bl b)) := ve_const pe_bl fun _ _ _ => .bl b
theorem ve_non {j} : VE X w (.Constant .none j pos) (fun _ => rt .non) := ve_const pe_non fun _ _ _ => .non
theorem ve_str {x j} : VE X w (.Constant (.str x) j pos) (fun _ => rt (.str x)) := ve_const pe_str fun _ _ _ => .str x
/-- a module's constant that is an int -/
theorem ve_globI {x : Str} {i : Int} {u : Value} (hg : Gl X x) (hm : X.mg x = some u) (r : RelV (.int i) u) (hd : (x == ("__debug__" : Str)) = false := by decide) : VE X w (.Name x pos) (fun _ => rt (.int i)) :=
  ve_const (pe_glob hg hm r hd) fun _ _ _ => .int i
end

/-! ### argument lists and displays -/
section
variable {X : Cx} {w : Wd} {e : Expr} {es : List Expr} {m : Rho → Mo w.S D} {ms : Rho → Mo w.S (List D)} {pos : Pos}
theorem ves_nil : VEs X w [] (fun _ => rt []) := pa_nil.imp fun σ H Q ⟨H0, W, o, ρ, s, d, s', G, e, q⟩ => by
  cases e
  exact q [] H (Ext.refl H) G.ok .nil
theorem ves_cons (he : VE X w e m) (hr : VEs X w es ms) (hs : starEach (e :: es) X.env = (false, eval e X.env) :: starEach es X.env := by rfl) :
    VEs X w (e :: es) (fun ρ => bd (m ρ) fun d => bd (ms ρ) fun ds => rt (d :: ds)) :=
  (pa_cons he hr hs).imp fun σ H Q ⟨H0, W, o, ρ, s, d, s', G, e, q⟩ => by
    obtain ⟨d1, s1, e1, e⟩ := bd_some e
    obtain ⟨d2, s2, e2, e⟩ := bd_some e
    cases e
    refine ⟨H0, W, o, ρ, s, d1, s1, G, e1, fun v H1 x1 k1 r1 => ?_⟩
    have G1 := G.ext x1 k1
    exact ⟨H0, W, o, ρ, s1, d2, _, G1, e2, fun vs H2 x2 k2 r2 => q (v :: vs) H2 (x1.trans x2) k2 (.cons (G1.repExt x2 r1) r2)⟩
theorem vrs_nil : VRs X w [] (fun _ => rt []) := ves_vrs ves_nil
theorem vrs_cons (he : VR X w e m) (hr : VRs X w es ms) (hs : starEach (e :: es) X.env = (false, eval e X.env) :: starEach es X.env := by rfl) :
    VRs X w (e :: es) (fun ρ => bd (m ρ) fun d => bd (ms ρ) fun ds => rt (d :: ds)) :=
  (pa_cons he hr hs).imp fun σ H Q ⟨H0, W, o, ρ, s, d, s', G, e, q⟩ => by
    obtain ⟨d1, s1, e1, e⟩ := bd_some e
    obtain ⟨d2, s2, e2, e⟩ := bd_some e
    cases e
    refine ⟨H0, W, o, ρ, s, d1, s1, G, e1, fun v H1 x1 k1 r1 => ?_⟩
    have G1 := G.ext x1 k1
    exact ⟨H0, W, o, ρ, s1, d2, _, G1, e2, fun vs H2 x2 k2 r2 => q (v :: vs) H2 (x1.trans x2) k2 (.cons (G1.borExt x2 r1) r2)⟩
def sz (ds : List D) : Option (List D) := if ds.length ≤ sizeLine then some ds else none
theorem sz_some {ds ds' : List D} (h : sz ds = some ds') : ds' = ds ∧ ds.length ≤ sizeLine := by
  unfold sz at h
  split at h
  · cases h; exact ⟨rfl, by assumption⟩
  · cases h
theorem sz_eq {ds : List D} (h : ds.length ≤ sizeLine) : sz ds = some ds := by unfold sz; rw [if_pos h]
theorem ve_tup {x1} (h : VEs X w es ms) : VE X w (.Tuple es x1 pos) (fun ρ => bd (ms ρ) fun ds => bd (up (sz ds)) fun ds => rt (.tup ds)) :=
  (pe_tup h).imp fun σ H Q ⟨H0, W, o, ρ, s, d, s', G, e, q⟩ => by
    obtain ⟨d1, s1, e1, f⟩ := bd_some e
    obtain ⟨d2, s2, e2, f2⟩ := bd_some f
    obtain ⟨e3, rfl⟩ := up_some e2
    obtain ⟨rfl, hz⟩ := sz_some e3
    cases f2
    refine ⟨H0, W, o, ρ, s, d2, _, G, e1, fun vs H1 x1 k1 r1 => ⟨by rw [r1.length]; exact hz, fun p hp => ?_⟩⟩
    have G1 := G.ext x1 k1
    have x2 : Ext w H1 (upd H1 p (.tup vs)) := Ext.new hp
    exact q _ _ (x1.trans x2) (w.keep k1 fun a ha => upd_ne fun z => by subst z; exact w.trk k1 ha hp) (.tup upd_same (G1.notAv hp) (G1.repLExt x2 r1))
theorem vn_lst (h : VEs X w es ms) : VN X w (.List es pos) (fun ρ => bd (ms ρ) fun ds => up (sz ds)) :=
  (pe_lst h).imp fun σ H Q ⟨H0, W, o, ρ, s, d, s', G, e, q⟩ => by
    obtain ⟨d1, s1, e1, e2⟩ := bd_some e
    obtain ⟨e3, rfl⟩ := up_some e2
    obtain ⟨rfl, hz⟩ := sz_some e3
    refine ⟨H0, W, o, ρ, s, d, s', G, e1, fun vs H1 x1 k1 r1 => ⟨by rw [r1.length]; exact hz, fun p hp => ?_⟩⟩
    have G1 := G.ext x1 k1
    have x2 : Ext w H1 (upd H1 p (.lst vs)) := Ext.new hp
    have hpH : H p = none := by
      cases e : H p with
      | none => rfl
      | some y =>
        by_cases m : w.mine p
        · exact absurd hp (w.trk k1 m)
        · rw [x1 p y e m] at hp; cases hp
    refine q p vs _ (x1.trans x2) (w.keep k1 fun a ha => upd_ne fun z => by subst z; exact w.trk k1 ha hp) hpH upd_same ?_
    refine r1.of fun a y ha n => ⟨x2 a y ha (G1.mineAv n), fun z => ?_⟩
    rcases z with z | z
    · exact n z
    · subst z; rw [hp] at ha; cases ha
end
end Rr

set_option Elab.async false
set_option linter.all false
set_option maxRecDepth 100000
set_option maxHeartbeats 1000000
/-! The layer of data: operators, comparisons, tests, subscripts, slices, built-ins. -/
namespace Rr
open PySem PySem.Spec L2

/-! ### data for the library's own comparisons -/
mutual
def py : D → PyData
  | .non => .none
  | .bl b => .bool b
  | .int i => .int i
  | .str x => .str x
  | .tup xs => .tuple (pyL xs)
  | .lst xs => .list (pyL xs)
  | .dic _ => .none
  | .obj _ => .none
def pyL : List D → List PyData
  | [] => []
  | x :: xs => py x :: pyL xs
end
mutual
/-- no dict, no object within; every text is one that Python can have -/
def plain : D → Bool
  | .non => true
  | .bl _ => true
  | .int _ => true
  | .str x => PyData.canLay0 (.str x)
  | .tup xs => plainL xs
  | .lst xs => plainL xs
  | .dic _ => false
  | .obj _ => false
def plainL : List D → Bool
  | [] => true
  | x :: xs => plain x && plainL xs
end
mutual
theorem plain_can : ∀ d : D, plain d = true → (py d).canLay0 = true
  | .non, _ => by simp [py, PyData.canLay0]
  | .bl _, _ => by simp [py, PyData.canLay0]
  | .int _, _ => by simp [py, PyData.canLay0]
  | .str x, h => by simpa [py, plain] using h
  | .tup xs, h => by simpa [py, PyData.canLay0] using plainL_can xs (by simpa [plain] using h)
  | .lst xs, h => by simpa [py, PyData.canLay0] using plainL_can xs (by simpa [plain] using h)
  | .dic _, h => by simp [plain] at h
  | .obj _, h => by simp [plain] at h
theorem plainL_can : ∀ ds : List D, plainL ds = true → PyData.canLayAll0 (pyL ds) = true
  | [], _ => by simp [pyL, PyData.canLayAll0]
  | d :: ds, h => by
    simp only [plainL, Bool.and_eq_true] at h
    simp only [pyL, PyData.canLayAll0, Bool.and_eq_true]
    exact ⟨plain_can d h.1, plainL_can ds h.2⟩
end
/-- fit for == -/
def fit (d : D) : Bool := plain d && decide ((py d).depth ≤ 64)
theorem fit_shaped {d : D} (h : fit d = true) : SeqAt.shaped (py d) = true := by
  unfold fit at h
  unfold SeqAt.shaped
  simp only [Bool.and_eq_true] at h ⊢
  exact ⟨plain_can d h.1, h.2⟩
theorem fit_plain {d : D} (h : fit d = true) : plain d = true := by
  unfold fit at h
  simp only [Bool.and_eq_true] at h
  exact h.1
section
variable {ad : Nat → Addr} {H : Hp} {W A : Addr → Prop} {K : PySem.W.Frag}
theorem Rep.dp {v : V} {d : D} (h : Rep ad H W v d) : plain d = true → Dp K H v (py d) :=
  Rep.rec (motive_1 := fun v d _ => plain d = true → Dp K H v (py d)) (motive_2 := fun vs ds _ => plainL ds = true → DpAll K H vs (pyL ds))
    (fun _ => .non) (fun b _ => .bl b) (fun i _ => .int i) (fun x _ => .str x)
    (fun h1 _ _ ih hp => .tup (SqT.of h1) (ih (by simpa [plain] using hp)))
    (fun h1 _ _ ih hp => .lst (SqL.of h1) (ih (by simpa [plain] using hp)))
    (fun _ _ _ _ _ hp => by simp [plain] at hp) (fun _ hp => by simp [plain] at hp)
    (fun _ => .nil) (fun _ _ a b hp => by
      simp only [plainL, Bool.and_eq_true] at hp
      exact .cons (a hp.1) (b hp.2)) h
theorem RepL.dp {vs : List V} {ds : List D} (h : RepL ad H W vs ds) (hp : plainL ds = true) : DpAll K H vs (pyL ds) := by
  induction ds generalizing vs with
  | nil => cases h; exact .nil
  | cons d ds ih =>
    cases h with
    | cons a b =>
      simp only [plainL, Bool.and_eq_true] at hp
      exact .cons (a.dp hp.1) (ih b hp.2)
theorem Bor.dp {v : V} {d : D} (h : Bor ad H W A v d) (hp : plain d = true) : Dp K H v (py d) := by
  cases h with
  | kept h => exact h.dp hp
  | own h1 h2 h3 => exact .lst (SqL.of h1) (h3.dp (by simpa [plain] using hp))
theorem Bor.inv_int {v : V} {i : Int} (h : Bor ad H W A v (.int i)) : v = .int i := by cases h with | kept h => cases h; rfl
theorem Bor.inv_bl {v : V} {b : Bool} (h : Bor ad H W A v (.bl b)) : v = .bl b := by cases h with | kept h => cases h; rfl
theorem Bor.inv_str {v : V} {x : Str} (h : Bor ad H W A v (.str x)) : v = .str x := by cases h with | kept h => cases h; rfl
theorem Bor.inv_non {v : V} (h : Bor ad H W A v .non) : v = .non := by cases h with | kept h => cases h; rfl
end

/-! ### two-place operations -/
def OpD (w : Wd) (r : R2) (g : D → D → Option D) : Prop :=
  ∀ {H0 : Base} {W : Addr → Prop} {o : Own} {ρ : Rho} {s : w.S} {σ : L2.St} {H : Hp} (_ : Gd w H0 W o ρ s σ H) {x y : V} {d e z : D} {Q : VK},
    Bor w.ad H W (Av W o) x d → Bor w.ad H W (Av W o) y e → g d e = some z → (∀ v H', Ext w H H' → w.ok s H' → Rep w.ad H' (Av W o) v z → Q v H') → r x y H Q
theorem OpR.or {X : Cx} {f : Value → Value → Sem Value} {r r' : R2} (h : OpR X f r) (h' : OpR X f r') : OpR X f (fun x y H Q => r x y H Q ∨ r' x y H Q) := by
  intro pins s σ H x y v u Q I rx ry q
  rcases q with q | q
  · exact h pins s σ H x y v u Q I rx ry q
  · exact h' pins s σ H x y v u Q I rx ry q
section
variable {X : Cx} {w : Wd} {a b c : Expr} {ma mb mc : Rho → Mo w.S D} {pos : Pos} {r : R2} {g : D → D → Option D}
def b2 {S : Type} (g : D → D → Option D) (ma mb : Rho → Mo S D) : Rho → Mo S D := fun ρ => bd (ma ρ) fun x => bd (mb ρ) fun y => up (g x y)
theorem b2_some {S : Type} {g : D → D → Option D} {ma mb : Rho → Mo S D} {ρ : Rho} {s s' : S} {d : D} (h : b2 g ma mb ρ s = some (d, s')) : ∃ x s1 y, ma ρ s = some (x, s1) ∧ mb ρ s1 = some (y, s') ∧ g x y = some d := by
  obtain ⟨x, s1, e1, f1⟩ := bd_some h
  obtain ⟨y, s2, e2, f2⟩ := bd_some f1
  obtain ⟨e3, rfl⟩ := up_some f2
  exact ⟨x, s1, y, e1, e2, e3⟩
theorem op_core {t : TE} (hp : ∀ σ H Q, tOp r (tR w ma) (tR w mb) σ H Q → t σ H Q) (k : OpD w r g) (σ : L2.St) (H : Hp) (Q : VK) (h : tV w (b2 g ma mb) σ H Q) : t σ H Q := by
  obtain ⟨H0, W, o, ρ, s, d, s', G, e, q⟩ := h
  obtain ⟨x, s1, y, e1, e2, e3⟩ := b2_some e
  refine hp σ H Q ⟨H0, W, o, ρ, s, x, s1, G, e1, fun v H1 x1 k1 r1 => ?_⟩
  have G1 := G.ext x1 k1
  refine ⟨H0, W, o, ρ, s1, y, _, G1, e2, fun u H2 x2 k2 r2 => ?_⟩
  have G2 := G1.ext x2 k2
  exact k G2 (G1.borExt x2 r1) r2 e3 fun v H3 x3 k3 r3 => q v H3 ((x1.trans x2).trans x3) k3 r3
theorem ve_op {op : Operator} (hr : OpR X (binaryOp op) r) (k : OpD w r g) (ha : VR X w a ma) (hb : VR X w b mb) : VE X w (.BinOp a op b pos) (b2 g ma mb) :=
  (pe_op hr ha hb).imp (op_core (fun _ _ _ h => h) k)
theorem ve_cmp {op : CmpOp} (hr : OpR X (compareOp op) r) (k : OpD w r g) (ha : VR X w a ma) (hb : VR X w b mb) (hm : behindInMarks op b = false) : VE X w (.Compare a [op] [b] pos) (b2 g ma mb) :=
  (pe_cmpR hr ha hb hm).imp (op_core (fun _ _ _ h => h) k)
theorem ve_ix (hr : IxR X r) (k : OpD w r g) (ha : VR X w a ma) (hb : VR X w b mb) (hs : PlainIx b) : VE X w (.Subscript a b pos) (b2 g ma mb) :=
  (pe_ix hr ha hb hs).imp (op_core (fun _ _ _ h => h) k)
/-- an answer that is no object -/
theorem fin_ext {H0 : Base} {W : Addr → Prop} {o : Own} {ρ : Rho} {s : w.S} {σ : L2.St} {H : Hp} (G : Gd w H0 W o ρ s σ H) {z : D} {v : V} {Q : VK} (q : ∀ v H', Ext w H H' → w.ok s H' → Rep w.ad H' (Av W o) v z → Q v H') (r : Rep w.ad H (Av W o) v z) : Q v H := q v H (Ext.refl H) G.ok r
/-- a new object -/
theorem fin_new {H0 : Base} {W : Addr → Prop} {o : Own} {ρ : Rho} {s : w.S} {σ : L2.St} {H : Hp} (G : Gd w H0 W o ρ s σ H) {p : Addr} (hp : H p = none) (x : HO) : Ext w H (upd H p x) ∧ w.ok s (upd H p x) ∧ ¬ Av W o p :=
  ⟨Ext.new hp, w.keep G.ok fun a ha => upd_ne fun z => by subst z; exact w.trk G.ok ha hp, G.notAv hp⟩

/-! ### + - * -/
def dAdd : D → D → Option D
  | .int i, .int j => some (.int (i + j))
  | .tup xs, .tup ys => (sz (xs ++ ys)).map .tup
  | .lst xs, .lst ys => (sz (xs ++ ys)).map .lst
  | _, _ => none
def rAdd (K : PySem.W.Frag) : R2 := fun x y H Q => rI0 (fun i j => .int (i + j)) x y H Q ∨ rCatA K x y H Q ∨ rCat x y H Q
theorem op_addD : OpR X (binaryOp .Add) (rAdd X.K) := op_add.or (op_catA.or op_cat)
theorem add_ok {K : PySem.W.Frag} : OpD w (rAdd K) dAdd := by
  intro H0 W o ρ s σ H G x y d e z Q hx hy hg q
  unfold dAdd at hg
  split at hg
  · cases hg
    rw [hx.inv_int, hy.inv_int]
    exact .inl ⟨_, _, rfl, rfl, fin_ext G q (.int _)⟩
  · rename_i ds es
    obtain ⟨zs, hz', rfl⟩ := Option.map_eq_some_iff.mp hg
    obtain ⟨rfl, hz⟩ := sz_some hz'
    obtain ⟨a, xs, rfl, h1, n1, r1⟩ := hx.tup
    obtain ⟨b, ys, rfl, h2, n2, r2⟩ := hy.tup
    have l1 := r1.length
    have l2 := r2.length
    rw [List.length_append] at hz
    refine .inr (.inl ⟨a, b, xs, ys, rfl, rfl, SqT.of h1, SqT.of h2, by omega, fun e => ?_, fun _ e => ?_, fun _ _ p hp => ?_⟩)
    · subst e; cases r1; exact fin_ext G q (.tup h2 n2 r2)
    · subst e; cases r2; rw [List.append_nil] at q; exact fin_ext G q (.tup h1 n1 r1)
    · obtain ⟨x1, k1, np⟩ := fin_new G hp (.tup (xs ++ ys))
      exact q _ _ x1 k1 (.tup upd_same np ((G.repLExt x1 r1).append (G.repLExt x1 r2)))
  · rename_i ds es
    obtain ⟨zs, hz', rfl⟩ := Option.map_eq_some_iff.mp hg
    obtain ⟨rfl, hz⟩ := sz_some hz'
    obtain ⟨a, xs, rfl, h1, n1, r1⟩ := hx.lst (fun _ z => .inl z)
    obtain ⟨b, ys, rfl, h2, n2, r2⟩ := hy.lst (fun _ z => .inl z)
    have l1 := r1.length
    have l2 := r2.length
    rw [List.length_append] at hz
    refine .inr (.inr ⟨a, b, xs, ys, rfl, rfl, h1, h2, by omega, fun p hp => ?_⟩)
    obtain ⟨x1, k1, np⟩ := fin_new G hp (.lst (xs ++ ys))
    exact q _ _ x1 k1 (.lst upd_same np ((G.repLExt x1 r1).append (G.repLExt x1 r2)))
  · cases hg
theorem ve_add (ha : VR X w a ma) (hb : VR X w b mb) : VE X w (.BinOp a .Add b pos) (b2 dAdd ma mb) := ve_op op_addD add_ok ha hb
def dSub : D → D → Option D
  | .int i, .int j => some (.int (i - j))
  | _, _ => none
theorem sub_ok : OpD w (rI0 fun i j => .int (i - j)) dSub := by
  intro H0 W o ρ s σ H G x y d e z Q hx hy hg q
  unfold dSub at hg
  split at hg
  · cases hg
    rw [hx.inv_int, hy.inv_int]
    exact ⟨_, _, rfl, rfl, fin_ext G q (.int _)⟩
  · cases hg
theorem ve_sub (ha : VR X w a ma) (hb : VR X w b mb) : VE X w (.BinOp a .Sub b pos) (b2 dSub ma mb) := ve_op op_sub sub_ok ha hb
/-- the factor within 2^64 -/
def small (i : Int) : Bool := decide (-(2 ^ 64) < i) && decide (i < 2 ^ 64)
theorem small_of {i : Int} (h : small i = true) : -(2 ^ 64) < i ∧ i < 2 ^ 64 := by
  unfold small at h
  simp only [Bool.and_eq_true, decide_eq_true_eq] at h
  exact h
def dMul : D → D → Option D
  | .int i, .int j => if small i || small j then some (.int (i * j)) else none
  | _, _ => none
theorem mul_ok : OpD w (rI CMul fun i j => .int (i * j)) dMul := by
  intro H0 W o ρ s σ H G x y d e z Q hx hy hg q
  unfold dMul at hg
  split at hg
  · split at hg
    · rename_i hs
      cases hg
      rw [hx.inv_int, hy.inv_int]
      refine ⟨_, _, rfl, rfl, ?_, fin_ext G q (.int _)⟩
      rcases Bool.or_eq_true _ _ ▸ hs with h | h
      · exact .inl (small_of h)
      · exact .inr (small_of h)
    · cases hg
  · cases hg
theorem ve_mul (ha : VR X w a ma) (hb : VR X w b mb) : VE X w (.BinOp a .Mult b pos) (b2 dMul ma mb) := ve_op op_mul mul_ok ha hb
def dMod : D → D → Option D
  | .int i, .int j => if 0 < j then some (.int (i % j)) else none
  | _, _ => none
theorem mod_ok : OpD w (rI (fun _ j => 0 < j) fun i j => .int (i % j)) dMod := by
  intro H0 W o ρ s σ H G x y d e z Q hx hy hg q
  unfold dMod at hg
  split at hg
  · split at hg
    · rename_i hs
      cases hg
      rw [hx.inv_int, hy.inv_int]
      exact ⟨_, _, rfl, rfl, hs, fin_ext G q (.int _)⟩
    · cases hg
  · cases hg
theorem ve_mod (ha : VR X w a ma) (hb : VR X w b mb) : VE X w (.BinOp a .Mod b pos) (b2 dMod ma mb) := ve_op op_mod mod_ok ha hb
def dDiv : D → D → Option D
  | .int i, .int j => if 0 < j ∧ j < 1073741824 then some (.int (i / j)) else none
  | _, _ => none
theorem div_ok : OpD w (rI CDiv fun i j => .int (i / j)) dDiv := by
  intro H0 W o ρ s σ H G x y d e z Q hx hy hg q
  unfold dDiv at hg
  split at hg
  · split at hg
    · rename_i hs
      cases hg
      rw [hx.inv_int, hy.inv_int]
      exact ⟨_, _, rfl, rfl, hs, fin_ext G q (.int _)⟩
    · cases hg
  · cases hg
theorem ve_div (ha : VR X w a ma) (hb : VR X w b mb) : VE X w (.BinOp a .FloorDiv b pos) (b2 dDiv ma mb) := ve_op op_fdiv div_ok ha hb

/-! ### comparisons of ints -/
def dI (p : Int → Int → Bool) : D → D → Option D
  | .int i, .int j => some (.bl (p i j))
  | _, _ => none
theorem dI_ok {p : Int → Int → Bool} : OpD w (rI0 fun i j => .bl (p i j)) (dI p) := by
  intro H0 W o ρ s σ H G x y d e z Q hx hy hg q
  unfold dI at hg
  split at hg
  · cases hg
    rw [hx.inv_int, hy.inv_int]
    exact ⟨_, _, rfl, rfl, fin_ext G q (.bl _)⟩
  · cases hg
abbrev dLt := dI fun i j => decide (i < j)
abbrev dLe := dI fun i j => decide (i ≤ j)
abbrev dGt := dI fun i j => decide (j < i)
abbrev dGe := dI fun i j => decide (j ≤ i)
theorem ve_lt (ha : VR X w a ma) (hb : VR X w b mb) (hm : behindInMarks .Lt b = false := by exact nomark _) : VE X w (.Compare a [.Lt] [b] pos) (b2 dLt ma mb) := ve_cmp op_lt dI_ok ha hb hm
theorem ve_le (ha : VR X w a ma) (hb : VR X w b mb) (hm : behindInMarks .LtE b = false := by exact nomark _) : VE X w (.Compare a [.LtE] [b] pos) (b2 dLe ma mb) := ve_cmp op_le dI_ok ha hb hm
theorem ve_gt (ha : VR X w a ma) (hb : VR X w b mb) (hm : behindInMarks .Gt b = false := by exact nomark _) : VE X w (.Compare a [.Gt] [b] pos) (b2 dGt ma mb) := ve_cmp op_gt dI_ok ha hb hm
theorem ve_ge (ha : VR X w a ma) (hb : VR X w b mb) (hm : behindInMarks .GtE b = false := by exact nomark _) : VE X w (.Compare a [.GtE] [b] pos) (b2 dGe ma mb) := ve_cmp op_ge dI_ok ha hb hm

/-! ### == and != of data; in -/
def deq (d e : D) : Bool := PyData.eqv (py d) (py e)
def dEq (d e : D) : Option D := if fit d && fit e then some (.bl (deq d e)) else none
def dNe (d e : D) : Option D := if fit d && fit e then some (.bl (!deq d e)) else none
theorem eq_ok {K : PySem.W.Frag} : OpD w (rEqD K) dEq := by
  intro H0 W o ρ s σ H G x y d e z Q hx hy hg q
  unfold dEq at hg
  split at hg
  · rename_i hf
    cases hg
    simp only [Bool.and_eq_true] at hf
    exact ⟨py d, py e, hx.dp (fit_plain hf.1), hy.dp (fit_plain hf.2), fit_shaped hf.1, fit_shaped hf.2, fin_ext G q (.bl _)⟩
  · cases hg
theorem ne_ok {K : PySem.W.Frag} : OpD w (rNeD K) dNe := by
  intro H0 W o ρ s σ H G x y d e z Q hx hy hg q
  unfold dNe at hg
  split at hg
  · rename_i hf
    cases hg
    simp only [Bool.and_eq_true] at hf
    exact ⟨py d, py e, hx.dp (fit_plain hf.1), hy.dp (fit_plain hf.2), fit_shaped hf.1, fit_shaped hf.2, fin_ext G q (.bl _)⟩
  · cases hg
theorem ve_eq {k : Nat} (hr : Room k X.A) (ha : VR X w a ma) (hb : VR X w b mb) (hm : behindInMarks .Eq b = false := by exact nomark _) : VE X w (.Compare a [.Eq] [b] pos) (b2 dEq ma mb) := ve_cmp (op_eqD hr.units) eq_ok ha hb hm
theorem ve_ne {k : Nat} (hr : Room k X.A) (ha : VR X w a ma) (hb : VR X w b mb) (hm : behindInMarks .NotEq b = false := by exact nomark _) : VE X w (.Compare a [.NotEq] [b] pos) (b2 dNe ma mb) := ve_cmp (op_neD hr.units) ne_ok ha hb hm
/-- x in xs: xs a list of data, or a tuple of flat things -/
def flat : D → Bool
  | .non => true
  | .bl _ => true
  | .int _ => true
  | .str _ => true
  | _ => false
def toV : D → V
  | .non => .non
  | .bl b => .bl b
  | .int i => .int i
  | .str x => .str x
  | _ => .non
theorem flat_rep {ad : Nat → Addr} {H : Hp} {W : Addr → Prop} {v : V} {d : D} (h : Rep ad H W v d) (hf : flat d = true) : v = toV d ∧ flatV v = true := by
  cases h <;> first | exact ⟨rfl, rfl⟩ | cases hf
theorem flat_repL {ad : Nat → Addr} {H : Hp} {W : Addr → Prop} {vs : List V} {ds : List D} (h : RepL ad H W vs ds) (hf : ds.all flat = true) : vs = ds.map toV ∧ vs.all flatV = true := by
  induction ds generalizing vs with
  | nil => cases h; exact ⟨rfl, rfl⟩
  | cons d ds ih =>
    cases h with
    | cons a b =>
      simp only [List.all_cons, Bool.and_eq_true] at hf
      obtain ⟨e1, f1⟩ := flat_rep a hf.1
      obtain ⟨e2, f2⟩ := ih b hf.2
      exact ⟨by rw [e1, e2]; rfl, by simp only [List.all_cons, f1, f2, Bool.and_self]⟩
def inD (d : D) (ds : List D) : Bool := inV (toV d) (ds.map toV)
def inDeep (d : D) (ds : List D) : Bool := (pyL ds).any fun z => PyData.eqv z (py d)
def isIn (neg : Bool) : D → D → Option D
  | d, .tup ds => if flat d && ds.all flat then some (.bl (if neg then !inD d ds else inD d ds)) else none
  | d, .lst ds => if flat d && ds.all flat then some (.bl (if neg then !inD d ds else inD d ds)) else if fit d && fit (.lst ds) then some (.bl (if neg then !inDeep d ds else inDeep d ds)) else none
  | _, _ => none
def rInA (K : PySem.W.Frag) : R2 := fun x y H Q => rIn K false x y H Q ∨ rInD K x y H Q
def rNotInA (K : PySem.W.Frag) : R2 := fun x y H Q => rIn K true x y H Q ∨ rNotInD K x y H Q
theorem Bor.flat {ad : Nat → Addr} {H : Hp} {W A : Addr → Prop} {v : V} {d : D} (h : Bor ad H W A v d) (hf : Rr.flat d = true) : v = toV d ∧ flatV v = true := by
  cases h with
  | kept h => exact flat_rep h hf
  | own _ _ _ => cases hf
theorem in_core {K : PySem.W.Frag} {neg : Bool} {r2 : R2} (hr2 : ∀ x y H Q, (∃ d ds, Dp K H x d ∧ Dp K H y (.list ds) ∧ SeqAt.shaped d = true ∧ SeqAt.shaped (.list ds) = true ∧ Q (.bl (if neg then !ds.any fun z => PyData.eqv z d else ds.any fun z => PyData.eqv z d)) H) → r2 x y H Q) :
    OpD w (fun x y H Q => rIn K neg x y H Q ∨ r2 x y H Q) (isIn neg) := by
  intro H0 W o ρ s σ H G x y d e z Q hx hy hg q
  unfold isIn at hg
  split at hg
  · split at hg
    · rename_i ds hf
      cases hg
      simp only [Bool.and_eq_true] at hf
      obtain ⟨a, ys, rfl, h2, n2, r2⟩ := hy.tup
      obtain ⟨e1, f1⟩ := hx.flat hf.1
      obtain ⟨e2, f2⟩ := flat_repL r2 hf.2
      refine .inl ⟨a, ys, rfl, .inr (SqT.of h2), f1, f2, ?_⟩
      rw [e1, e2]
      exact fin_ext G q (.bl _)
    · cases hg
  · split at hg
    · rename_i ds hf
      cases hg
      simp only [Bool.and_eq_true] at hf
      obtain ⟨a, ys, rfl, h2, n2, r2⟩ := hy.lst (fun _ z => .inl z)
      obtain ⟨e1, f1⟩ := hx.flat hf.1
      obtain ⟨e2, f2⟩ := flat_repL r2 hf.2
      refine .inl ⟨a, ys, rfl, .inl (SqL.of h2), f1, f2, ?_⟩
      rw [e1, e2]
      exact fin_ext G q (.bl _)
    · split at hg
      · rename_i ds _ hf
        cases hg
        simp only [Bool.and_eq_true] at hf
        have hy' := hy.dp (K := K) (fit_plain hf.2)
        have hs := fit_shaped hf.2
        rw [py] at hy' hs
        exact .inr (hr2 _ _ _ _ ⟨py d, pyL ds, hx.dp (fit_plain hf.1), hy', fit_shaped hf.1, hs, fin_ext G q (.bl _)⟩)
      · cases hg
  · cases hg
theorem ve_in {k : Nat} (hr : Room k X.A) (ha : VR X w a ma) (hb : VR X w b mb) (hm : behindInMarks .In b = false := by first | exact nomark _ | rfl) : VE X w (.Compare a [.In] [b] pos) (b2 (isIn false) ma mb) :=
  ve_cmp (op_in_seq.or (op_inD (by have := hr.un; omega))) (in_core fun _ _ _ _ h => h) ha hb hm
theorem ve_notin {k : Nat} (hr : Room k X.A) (ha : VR X w a ma) (hb : VR X w b mb) (hm : behindInMarks .NotIn b = false := by first | exact nomark _ | rfl) : VE X w (.Compare a [.NotIn] [b] pos) (b2 (isIn true) ma mb) :=
  ve_cmp (op_notIn_seq.or (op_notInD (by have := hr.un; omega))) (in_core fun _ _ _ _ h => h) ha hb hm

/-! ### is -/
def dIs (p : D → D → Bool) : D → D → Option D
  | .bl i, .bl j => some (.bl (p (.bl i) (.bl j)))
  | _, _ => none
def dNone : D → Bool
  | .non => true
  | _ => false
theorem rep_non {ad : Nat → Addr} {H : Hp} {W A : Addr → Prop} {v : V} {d : D} (h : Bor ad H W A v d) : decide (v = V.non) = dNone d := by
  cases h with
  | kept h => cases h <;> first | rfl | (apply decide_eq_false; exact fun z => nomatch z)
  | own _ _ _ => apply decide_eq_false; exact fun z => nomatch z
def dIsN (d e : D) : Option D := match e with | .non => some (.bl (dNone d)) | _ => none
def dNotN (d e : D) : Option D := match e with | .non => some (.bl (!dNone d)) | _ => none
theorem isN_ok : OpD w (fun x y H Q => y = .non ∧ Q (.bl (decide (x = .non))) H) dIsN := by
  intro H0 W o ρ s σ H G x y d e z Q hx hy hg q
  unfold dIsN at hg
  split at hg
  · cases hg
    rw [rep_non hx]
    exact ⟨hy.inv_non, fin_ext G q (.bl _)⟩
  · cases hg
theorem notN_ok : OpD w (fun x y H Q => y = .non ∧ Q (.bl (!decide (x = .non))) H) dNotN := by
  intro H0 W o ρ s σ H G x y d e z Q hx hy hg q
  unfold dNotN at hg
  split at hg
  · cases hg
    rw [rep_non hx]
    exact ⟨hy.inv_non, fin_ext G q (.bl _)⟩
  · cases hg
theorem ve_isN (ha : VR X w a ma) (hb : VR X w b mb) (hm : behindInMarks .Is b = false := by exact nomark _) : VE X w (.Compare a [.Is] [b] pos) (b2 dIsN ma mb) := ve_cmp op_isN isN_ok ha hb hm
theorem ve_notN (ha : VR X w a ma) (hb : VR X w b mb) (hm : behindInMarks .IsNot b = false := by exact nomark _) : VE X w (.Compare a [.IsNot] [b] pos) (b2 dNotN ma mb) := ve_cmp op_notN notN_ok ha hb hm
def dIsB : D → D → Option D
  | .bl i, .bl j => some (.bl (decide (i = j)))
  | _, _ => none
def dNotB : D → D → Option D
  | .bl i, .bl j => some (.bl (!decide (i = j)))
  | _, _ => none
theorem isB_ok : OpD w rIsB dIsB := by
  intro H0 W o ρ s σ H G x y d e z Q hx hy hg q
  unfold dIsB at hg
  split at hg
  · cases hg
    rw [hx.inv_bl, hy.inv_bl]
    exact ⟨_, _, rfl, rfl, fin_ext G q (.bl _)⟩
  · cases hg
theorem notB_ok : OpD w rNotB dNotB := by
  intro H0 W o ρ s σ H G x y d e z Q hx hy hg q
  unfold dNotB at hg
  split at hg
  · cases hg
    rw [hx.inv_bl, hy.inv_bl]
    exact ⟨_, _, rfl, rfl, fin_ext G q (.bl _)⟩
  · cases hg
theorem ve_isB (ha : VR X w a ma) (hb : VR X w b mb) (hm : behindInMarks .Is b = false := by exact nomark _) : VE X w (.Compare a [.Is] [b] pos) (b2 dIsB ma mb) := ve_cmp op_isBl isB_ok ha hb hm
theorem ve_notB (ha : VR X w a ma) (hb : VR X w b mb) (hm : behindInMarks .IsNot b = false := by exact nomark _) : VE X w (.Compare a [.IsNot] [b] pos) (b2 dNotB ma mb) := ve_cmp op_notBl notB_ok ha hb hm

/-! ### subscripts -/
def dIx : D → D → Option D
  | .tup xs, .int i => atI xs i
  | .lst xs, .int i => atI xs i
  | _, _ => none
theorem atI_rep {ad : Nat → Addr} {H : Hp} {A : Addr → Prop} {vs : List V} {ds : List D} (h : RepL ad H A vs ds) {i : Int} {d : D} (e : atI ds i = some d) : ∃ v, atI vs i = some v ∧ Rep ad H A v d := by
  unfold atI at e
  obtain ⟨j, e1, e2⟩ := Option.bind_eq_some_iff.mp e
  obtain ⟨v, e3, r1⟩ := h.get e2
  refine ⟨v, ?_, r1⟩
  unfold atI
  rw [h.length]
  exact Option.bind_eq_some_iff.mpr ⟨j, e1, e3⟩
def rIxA (K : PySem.W.Frag) : R2 := fun x y H Q => rIxL K x y H Q ∨ rIxT K x y H Q
theorem ix_ok {K : PySem.W.Frag} : OpD w (rIxA K) dIx := by
  intro H0 W o ρ s σ H G x y d e z Q hx hy hg q
  unfold dIx at hg
  split at hg
  · obtain ⟨a, xs, rfl, h1, n1, r1⟩ := hx.tup
    obtain ⟨v, e1, r2⟩ := atI_rep r1 hg
    rw [hy.inv_int]
    exact .inr ⟨a, xs, _, v, rfl, rfl, SqT.of h1, e1, fin_ext G q r2⟩
  · obtain ⟨a, xs, rfl, h1, n1, r1⟩ := hx.lst (fun _ z => .inl z)
    obtain ⟨v, e1, r2⟩ := atI_rep r1 hg
    rw [hy.inv_int]
    exact .inl ⟨a, xs, _, v, rfl, rfl, SqL.of h1, e1, fin_ext G q r2⟩
  · cases hg
theorem ve_at (ha : VR X w a ma) (hb : VR X w b mb) (hs : PlainIx b := by exact fun _ _ => rfl) : VE X w (.Subscript a b pos) (b2 dIx ma mb) := ve_ix (ix_list.or ix_tup) ix_ok ha hb hs
end
end Rr

set_option Elab.async false
set_option linter.all false
set_option maxRecDepth 100000
set_option maxHeartbeats 1000000
/-! The layer of data: tests, chains, slices, built-ins, calls. -/
namespace Rr
open PySem PySem.Spec L2

/-! ### tests -/
def asB {S : Type} (d : D) : Mo S Bool := match d with | .bl b => rt b | _ => fun _ => none
def qB {S : Type} (m : Rho → Mo S D) : Rho → Mo S Bool := fun ρ => bd (m ρ) asB
theorem asB_some {S : Type} {d : D} {s s' : S} {b : Bool} (h : asB d s = some (b, s')) : d = .bl b ∧ s' = s := by
  unfold asB at h
  split at h
  · cases h; exact ⟨rfl, rfl⟩
  · cases h
/-- a comparison -/
structure CmpK (X : Cx) (w : Wd) (op : CmpOp) (g : D → D → Option D) : Prop where
  ex : ∃ r, OpR X (compareOp op) r ∧ OpD w r g
section
variable {X : Cx} {w : Wd} {a b c e : Expr} {es : List Expr} {ma mb mc m : Rho → Mo w.S D} {qa qb : Rho → Mo w.S Bool} {pos p : Pos} {g g' g'' : D → D → Option D} {op op' op'' : CmpOp} {k : Nat}
theorem ck_lt : CmpK X w .Lt dLt := ⟨_, op_lt, dI_ok⟩
theorem ck_le : CmpK X w .LtE dLe := ⟨_, op_le, dI_ok⟩
theorem ck_gt : CmpK X w .Gt dGt := ⟨_, op_gt, dI_ok⟩
theorem ck_ge : CmpK X w .GtE dGe := ⟨_, op_ge, dI_ok⟩
theorem ck_eq (hr : Room k X.A) : CmpK X w .Eq dEq := ⟨_, op_eqD hr.units, eq_ok⟩
theorem ck_ne (hr : Room k X.A) : CmpK X w .NotEq dNe := ⟨_, op_neD hr.units, ne_ok⟩
theorem ck_in (hr : Room k X.A) : CmpK X w .In (isIn false) := ⟨_, op_in_seq.or (op_inD (by have := hr.un; omega)), in_core fun _ _ _ _ h => h⟩
theorem ck_notin (hr : Room k X.A) : CmpK X w .NotIn (isIn true) := ⟨_, op_notIn_seq.or (op_notInD (by have := hr.un; omega)), in_core fun _ _ _ _ h => h⟩
theorem ck_isN : CmpK X w .Is dIsN := ⟨_, op_isN, isN_ok⟩
theorem ck_notN : CmpK X w .IsNot dNotN := ⟨_, op_notN, notN_ok⟩
theorem ck_isB : CmpK X w .Is dIsB := ⟨_, op_isBl, isB_ok⟩
theorem ck_notB : CmpK X w .IsNot dNotB := ⟨_, op_notBl, notB_ok⟩
theorem ve_ck (c : CmpK X w op g) (ha : VR X w a ma) (hb : VR X w b mb) (hm : behindInMarks op b = false) : VE X w (.Compare a [op] [b] pos) (b2 g ma mb) := let ⟨_, h1, h2⟩ := c.ex; ve_cmp h1 h2 ha hb hm
theorem vq_ck (c : CmpK X w op g) (ha : VR X w a ma) (hb : VR X w b mb) (hm : behindInMarks op b = false) : VQ X w (.Compare a [op] [b] pos) (qB (b2 g ma mb)) := by
  obtain ⟨r, h1, h2⟩ := c.ex
  refine (pt_cmpR h1 ha hb hm).imp fun σ H Q ⟨H0, W, o, ρ, s, d, s', G, e, q⟩ => ?_
  obtain ⟨x, s1, e1, f1⟩ := bd_some e
  obtain ⟨rfl, rfl⟩ := asB_some f1
  refine op_core (t := tOp r (tR w ma) (tR w mb)) (fun _ _ _ h => h) h2 σ H _ ⟨H0, W, o, ρ, s, .bl d, _, G, e1, fun v H' x1 k1 r1 => ?_⟩
  cases r1
  exact ⟨d, rfl, q H' x1 k1⟩
/-- an expression that is a bool, as a test -/
theorem vq_val (h : VE X w e m) (he : ∀ whole, isTrue e X.env whole = (do let v ← whole; standAt e.pos; holding [v] (truthy v)) := by intro _; rfl) : VQ X w e (qB m) := by
  refine (pt_val h he).imp fun σ H Q ⟨H0, W, o, ρ, s, d, s', G, e, q⟩ => ?_
  obtain ⟨x, s1, e1, f1⟩ := bd_some e
  obtain ⟨rfl, rfl⟩ := asB_some f1
  refine ⟨H0, W, o, ρ, s, .bl d, _, G, e1, fun v H' x1 k1 r1 => ?_⟩
  cases r1
  exact ⟨d, rfl, q H' x1 k1⟩
/-- the truth of a datum -/
def tru : D → Option Bool
  | .non => some false
  | .bl b => some b
  | .int i => some (i != 0)
  | .tup xs => some (!xs.isEmpty)
  | .lst xs => some (!xs.isEmpty)
  | _ => none
theorem tru_repL {ad : Nat → Addr} {H : Hp} {A : Addr → Prop} {vs : List V} {ds : List D} (h : RepL ad H A vs ds) : (!ds.isEmpty) = !vs.isEmpty := by cases h <;> rfl
theorem vq_tru (h : VR X w e m) (he : ∀ whole, isTrue e X.env whole = (do let v ← whole; standAt e.pos; holding [v] (truthy v)) := by intro _; rfl) : VQ X w e (fun ρ => bd (m ρ) fun d => up (tru d)) := by
  refine (pt_truth h he).imp fun σ H Q ⟨H0, W, o, ρ, s, d, s', G, e, q⟩ => ?_
  obtain ⟨x, s1, e1, f1⟩ := bd_some e
  obtain ⟨f2, rfl⟩ := up_some f1
  refine ⟨H0, W, o, ρ, s, x, _, G, e1, fun v H' x1 k1 r1 => ?_⟩
  have q' := q H' x1 k1
  unfold tru at f2
  split at f2
  · cases f2; rw [r1.inv_non]; exact ⟨false, rfl, q'⟩
  · cases f2; rw [r1.inv_bl]; exact ⟨_, rfl, q'⟩
  · cases f2; rw [r1.inv_int]; exact ⟨_, rfl, q'⟩
  · cases f2
    obtain ⟨a, xs, rfl, h1, n1, r2⟩ := r1.tup
    exact ⟨_, .inr (.inl ⟨xs, SqT.of h1, tru_repL r2⟩), q'⟩
  · cases f2
    obtain ⟨a, xs, rfl, h1, n1, r2⟩ := r1.lst (fun _ z => .inl z)
    exact ⟨_, .inl ⟨xs, SqL.of h1, tru_repL r2⟩, q'⟩
  · cases f2
theorem vq_not (h : VQ X w e qa) : VQ X w (.UnaryOp .Not e pos) (fun ρ => bd (qa ρ) fun b => rt (!b)) :=
  (pt_not h).imp fun σ H Q ⟨H0, W, o, ρ, s, d, s', G, e, q⟩ => by
    obtain ⟨x, s1, e1, f1⟩ := bd_some e
    cases f1
    exact ⟨H0, W, o, ρ, s, x, _, G, e1, q⟩
/-- a chain of and, or -/
abbrev VW (X : Cx) (w : Wd) (e : Expr) (q : Rho → Mo w.S Bool) : Prop := PW X e (tQ w q)
theorem _root_.L2.PW.imp {X : Cx} {e : Expr} {t t' : TT} (h : PW X e t) (q : ∀ σ H Q, t' σ H Q → t σ H Q) : PW X e t' := ⟨fun wh pins s σ H Q I k => h.run wh pins s σ H Q I (q σ H Q k)⟩
theorem vw_pt (h : VW X w e qa) : VQ X w e qa := PW.pt h
theorem vw_and1 (h : VQ X w a qa) : VW X w (.BoolOp .And [a] pos) qa := pw_and1 h
theorem vw_or1 (h : VQ X w a qa) : VW X w (.BoolOp .Or [a] pos) qa := pw_or1 h
def qAnd {S : Type} (qa qb : Rho → Mo S Bool) : Rho → Mo S Bool := fun ρ => bd (qa ρ) fun b => match b with | true => qb ρ | false => rt false
def qOr {S : Type} (qa qb : Rho → Mo S Bool) : Rho → Mo S Bool := fun ρ => bd (qa ρ) fun b => match b with | true => rt true | false => qb ρ
theorem vw_and (ha : VQ X w a qa) (hb : VW X w (.BoolOp .And (b :: es) pos) qb) : VW X w (.BoolOp .And (a :: b :: es) pos) (qAnd qa qb) :=
  (pw_and ha hb).imp fun σ H Q ⟨H0, W, o, ρ, s, d, s', G, e, q⟩ => by
    obtain ⟨x, s1, e1, f1⟩ := bd_some e
    refine ⟨H0, W, o, ρ, s, x, s1, G, e1, fun H1 x1 k1 => ?_⟩
    cases x with
    | true => exact iteT ⟨H0, W, o, ρ, s1, d, s', G.ext x1 k1, f1, fun H2 x2 k2 => q H2 (x1.trans x2) k2⟩
    | false => cases f1; exact iteF (q H1 x1 k1)
theorem vw_or (ha : VQ X w a qa) (hb : VW X w (.BoolOp .Or (b :: es) pos) qb) : VW X w (.BoolOp .Or (a :: b :: es) pos) (qOr qa qb) :=
  (pw_or ha hb).imp fun σ H Q ⟨H0, W, o, ρ, s, d, s', G, e, q⟩ => by
    obtain ⟨x, s1, e1, f1⟩ := bd_some e
    refine ⟨H0, W, o, ρ, s, x, s1, G, e1, fun H1 x1 k1 => ?_⟩
    cases x with
    | false => exact iteF ⟨H0, W, o, ρ, s1, d, s', G.ext x1 k1, f1, fun H2 x2 k2 => q H2 (x1.trans x2) k2⟩
    | true => cases f1; exact iteT (q H1 x1 k1)
/-- and, or, not as values, all but the last bools -/
def vAnd {S : Type} (ma mb : Rho → Mo S D) : Rho → Mo S D := fun ρ => bd (qB ma ρ) fun b => match b with | true => mb ρ | false => rt (.bl false)
def vOr {S : Type} (ma mb : Rho → Mo S D) : Rho → Mo S D := fun ρ => bd (qB ma ρ) fun b => match b with | true => rt (.bl true) | false => mb ρ
theorem ve_one {op} (h : VE X w a m) : VE X w (.BoolOp op [a] pos) m := pe_one h
theorem qB_some {S : Type} {m : Rho → Mo S D} {ρ : Rho} {s s' : S} {b : Bool} (h : qB m ρ s = some (b, s')) : m ρ s = some (.bl b, s') := by
  obtain ⟨x, s1, e1, f1⟩ := bd_some h
  obtain ⟨rfl, rfl⟩ := asB_some f1
  exact e1
theorem ve_and (ha : VE X w a ma) (hb : VE X w (.BoolOp .And (b :: es) pos) mb) : VE X w (.BoolOp .And (a :: b :: es) pos) (vAnd ma mb) :=
  (pe_and ha hb).imp fun σ H Q ⟨H0, W, o, ρ, s, d, s', G, e, q⟩ => by
    obtain ⟨x, s1, e1, f1⟩ := bd_some e
    refine ⟨H0, W, o, ρ, s, .bl x, s1, G, qB_some e1, fun v H1 x1 k1 r1 => ?_⟩
    cases r1
    refine ⟨x, rfl, ?_⟩
    cases x with
    | true => exact iteT ⟨H0, W, o, ρ, s1, d, s', G.ext x1 k1, f1, fun v H2 x2 k2 r2 => q v H2 (x1.trans x2) k2 r2⟩
    | false => cases f1; exact iteF (q _ H1 x1 k1 (.bl _))
theorem ve_or (ha : VE X w a ma) (hb : VE X w (.BoolOp .Or (b :: es) pos) mb) : VE X w (.BoolOp .Or (a :: b :: es) pos) (vOr ma mb) :=
  (pe_or ha hb).imp fun σ H Q ⟨H0, W, o, ρ, s, d, s', G, e, q⟩ => by
    obtain ⟨x, s1, e1, f1⟩ := bd_some e
    refine ⟨H0, W, o, ρ, s, .bl x, s1, G, qB_some e1, fun v H1 x1 k1 r1 => ?_⟩
    cases r1
    refine ⟨x, rfl, ?_⟩
    cases x with
    | false => exact iteF ⟨H0, W, o, ρ, s1, d, s', G.ext x1 k1, f1, fun v H2 x2 k2 r2 => q v H2 (x1.trans x2) k2 r2⟩
    | true => cases f1; exact iteT (q _ H1 x1 k1 (.bl _))
theorem ve_not (h : VE X w a m) : VE X w (.UnaryOp .Not a pos) (fun ρ => bd (qB m ρ) fun b => rt (.bl (!b))) :=
  (pe_not h).imp fun σ H Q ⟨H0, W, o, ρ, s, d, s', G, e, q⟩ => by
    obtain ⟨x, s1, e1, f1⟩ := bd_some e
    cases f1
    refine ⟨H0, W, o, ρ, s, .bl x, _, G, qB_some e1, fun v H1 x1 k1 r1 => ?_⟩
    cases r1
    exact ⟨x, rfl, q _ H1 x1 k1 (.bl _)⟩
/-- a if t else b -/
def mIf {S α : Type} (q : Rho → Mo S Bool) (ma mb : Rho → Mo S α) : Rho → Mo S α := fun ρ => bd (q ρ) fun b => match b with | true => ma ρ | false => mb ρ
theorem ve_if (hc : VQ X w c qa) (ha : VE X w a ma) (hb : VE X w b mb) : VE X w (.IfExp c a b pos) (mIf qa ma mb) :=
  (pe_ifExp hc ha hb).imp fun σ H Q ⟨H0, W, o, ρ, s, d, s', G, e, q⟩ => by
    obtain ⟨x, s1, e1, f1⟩ := bd_some e
    refine ⟨H0, W, o, ρ, s, x, s1, G, e1, fun H1 x1 k1 => ?_⟩
    cases x with
    | true => exact iteT ⟨H0, W, o, ρ, s1, d, s', G.ext x1 k1, f1, fun v H2 x2 k2 r2 => q v H2 (x1.trans x2) k2 r2⟩
    | false => exact iteF ⟨H0, W, o, ρ, s1, d, s', G.ext x1 k1, f1, fun v H2 x2 k2 r2 => q v H2 (x1.trans x2) k2 r2⟩
/-- -a -/
def dNeg : D → Option D
  | .int i => some (.int (-i))
  | _ => none
theorem ve_neg (h : VE X w a m) : VE X w (.UnaryOp .USub a pos) (fun ρ => bd (m ρ) fun d => up (dNeg d)) :=
  (pe_un un_neg h).imp fun σ H Q ⟨H0, W, o, ρ, s, d, s', G, e, q⟩ => by
    obtain ⟨x, s1, e1, f1⟩ := bd_some e
    obtain ⟨f2, rfl⟩ := up_some f1
    refine ⟨H0, W, o, ρ, s, x, _, G, e1, fun v H1 x1 k1 r1 => ?_⟩
    unfold dNeg at f2
    split at f2
    · cases f2; cases r1; exact ⟨_, rfl, q _ H1 x1 k1 (.int _)⟩
    · cases f2

/-! ### chains of comparisons -/
def ch2 {S : Type} (g g' : D → D → Option D) (ma mb mc : Rho → Mo S D) : Rho → Mo S Bool := fun ρ => bd (ma ρ) fun x => bd (mb ρ) fun y => bd (up (g x y)) fun r => bd (asB r) fun t => match t with
  | true => bd (mc ρ) fun z => bd (up (g' y z)) asB
  | false => rt false
def ch3 {S : Type} (g g' g'' : D → D → Option D) (ma mb mc md : Rho → Mo S D) : Rho → Mo S Bool := fun ρ => bd (ma ρ) fun x => bd (mb ρ) fun y => bd (up (g x y)) fun r => bd (asB r) fun t => match t with
  | true => bd (mc ρ) fun z => bd (up (g' y z)) fun r => bd (asB r) fun t => match t with
    | true => bd (md ρ) fun u => bd (up (g'' z u)) asB
    | false => rt false
  | false => rt false
def ofQ {S : Type} (q : Rho → Mo S Bool) : Rho → Mo S D := fun ρ => bd (q ρ) fun b => rt (.bl b)
end
end Rr

set_option Elab.async false
set_option linter.all false
set_option maxRecDepth 100000
set_option maxHeartbeats 1000000
/-! The layer of data: chains, slices, built-ins, calls of the program's own defs. -/
namespace Rr
open PySem PySem.Spec PyProof.Rows L2

/-! ### chains -/
def tChain3 (r r' r'' : R2) (ta tb tc td : TE) : TE := fun σ H Q => ta σ H fun x H1 => tb σ H1 fun y H2 => r x y H2 fun z H3 => ∃ k, z = .bl k ∧
  (if k = true then tc σ H3 fun w' H4 => r' y w' H4 fun z' H5 => ∃ k', z' = .bl k' ∧ (if k' = true then td σ H5 fun w'' H6 => r'' w' w'' H6 Q else Q (.bl false) H5) else Q (.bl false) H3)
section
variable {X : Cx} {w : Wd} {a b c d e : Expr} {ta tb tc td : TE} {ma mb mc md : Rho → Mo w.S D} {pos : Pos} {g g' g'' : D → D → Option D} {op op' op'' : CmpOp} {r r' r'' : R2}
theorem pe_chain3 (ho : OpR X (compareOp op) r) (ho' : OpR X (compareOp op') r') (ho'' : OpR X (compareOp op'') r'') (ha : PE X a ta) (hb : PE X b tb) (hc : PE X c tc) (hd : PE X d td)
    (hm : lastMarks [op, op', op''] [b, c, d] = false := by with_unfolding_all rfl) : PE X (.Compare a [op, op', op''] [b, c, d] pos) (tChain3 r r' r'' ta tb tc td) := by
  refine ⟨fun pins s σ H Q I h => ?_⟩
  refine Compare_chain (thn (ha.run pins s σ H _ I h) fun v s1 ⟨x, H1, I1, r1, q1⟩ => chain_link (thn (hb.run pins s1 σ H1 _ I1 q1) fun u s2 ⟨y, H2, I2, r2, q2⟩ =>
    thn (ho pins s2 σ H2 x y v u _ I2 r1 r2 q2) fun d' s3 ⟨z, H3, I3, r3, k, e, q3⟩ => ?_)) hm
  subst e
  cases r3
  refine wpAny_truthy_bool ?_
  cases k with
  | false => exact ite_ff ⟨.bl false, H3, I3, rfl, q3⟩
  | true =>
    refine ite_tt (chain_link (thn (hc.run pins s3 σ H3 _ I3 q3) fun w' s4 ⟨z', H4, I4, r4, q4⟩ => thn (ho' pins s4 σ H4 y z' u w' _ I4 r2 r4 q4) fun d2 s5 ⟨z2, H5, I5, r5, k2, e2, q5⟩ => ?_))
    subst e2
    cases r5
    refine wpAny_truthy_bool ?_
    cases k2 with
    | false => exact ite_ff ⟨.bl false, H5, I5, rfl, q5⟩
    | true => exact ite_tt (chain_last (thn (hd.run pins s5 σ H5 _ I5 q5) fun w2 s6 ⟨z3, H6, I6, r6, q6⟩ => ho'' pins s6 σ H6 z' z3 w' w2 Q I6 r4 r6 q6))
theorem pt_chain3 (ho : OpR X (compareOp op) r) (ho' : OpR X (compareOp op') r') (ho'' : OpR X (compareOp op'') r'') (ha : PE X a ta) (hb : PE X b tb) (hc : PE X c tc) (hd : PE X d td)
    (hm : lastMarks [op, op', op''] [b, c, d] = false := by with_unfolding_all rfl) : PT X (.Compare a [op, op', op''] [b, c, d] pos) (tTest (tChain3 r r' r'' ta tb tc td)) := by
  refine ⟨fun pins s σ H Q I h => ?_⟩
  refine isTrue_chain (thn (ha.run pins s σ H _ I h) fun v s1 ⟨x, H1, I1, r1, q1⟩ => test_link (thn (hb.run pins s1 σ H1 _ I1 q1) fun u s2 ⟨y, H2, I2, r2, q2⟩ =>
    thn (ho pins s2 σ H2 x y v u _ I2 r1 r2 q2) fun d' s3 ⟨z, H3, I3, r3, k, e, q3⟩ => ?_)) hm
  subst e
  cases r3
  refine wpAny_truthy_bool ?_
  cases k with
  | false =>
    obtain ⟨k', e', q'⟩ := q3
    cases e'
    exact ite_ff ⟨H3, I3, q'⟩
  | true =>
    refine ite_tt (test_link (thn (hc.run pins s3 σ H3 _ I3 q3) fun w' s4 ⟨z', H4, I4, r4, q4⟩ => thn (ho' pins s4 σ H4 y z' u w' _ I4 r2 r4 q4) fun d2 s5 ⟨z2, H5, I5, r5, k2, e2, q5⟩ => ?_))
    subst e2
    cases r5
    refine wpAny_truthy_bool ?_
    cases k2 with
    | false =>
      obtain ⟨k', e', q'⟩ := q5
      cases e'
      exact ite_ff ⟨H5, I5, q'⟩
    | true =>
      refine ite_tt (test_last (thn (hd.run pins s5 σ H5 _ I5 q5) fun w2 s6 ⟨z3, H6, I6, r6, q6⟩ => thn (ho'' pins s6 σ H6 z' z3 w' w2 _ I6 r4 r6 q6) fun d3 s7 ⟨z4, H7, I7, r7, k3, e3, q7⟩ => ?_))
      subst e3
      cases r7
      exact wpAny_truthy_bool ⟨H7, I7, q7⟩
theorem ch2_core (k1 : OpD w r g) (k2 : OpD w r' g') (σ : L2.St) (H : Hp) (Q : VK) (h : ∃ H0 W o ρ s b s', Gd w H0 W o ρ s σ H ∧ ch2 g g' ma mb mc ρ s = some (b, s') ∧ ∀ H', Ext w H H' → w.ok s' H' → Q (.bl b) H') : tChain r r' (tR w ma) (tR w mb) (tR w mc) σ H Q := by
  obtain ⟨H0, W, o, ρ, s, b, s', G, e, q⟩ := h
  obtain ⟨x, s1, e1, f1⟩ := bd_some e
  obtain ⟨y, s2, e2, f2⟩ := bd_some f1
  obtain ⟨z, s3, e3, f3⟩ := bd_some f2
  obtain ⟨e3', rfl⟩ := up_some e3
  obtain ⟨t, s3, e4, f4⟩ := bd_some f3
  obtain ⟨rfl, rfl⟩ := asB_some e4
  refine ⟨H0, W, o, ρ, s, x, s1, G, e1, fun v H1 x1 c1 r1 => ?_⟩
  have G1 := G.ext x1 c1
  refine ⟨H0, W, o, ρ, s1, y, _, G1, e2, fun u H2 x2 c2 r2 => ?_⟩
  have G2 := G1.ext x2 c2
  refine k1 G2 (G1.borExt x2 r1) r2 e3' fun v3 H3 x3 c3 r3 => ?_
  cases r3
  refine ⟨t, rfl, ?_⟩
  have G3 := G2.ext x3 c3
  cases t with
  | false => cases f4; exact iteF (q H3 ((x1.trans x2).trans x3) c3)
  | true =>
    obtain ⟨z, s5, e5, f5⟩ := bd_some f4
    obtain ⟨r, s6, e6, f6⟩ := bd_some f5
    obtain ⟨e6', rfl⟩ := up_some e6
    obtain ⟨rfl, rfl⟩ := asB_some f6
    refine iteT ⟨H0, W, o, ρ, _, z, _, G3, e5, fun v4 H4 x4 c4 r4 => ?_⟩
    have G4 := G3.ext x4 c4
    refine k2 G4 (G3.borExt x4 (G2.borExt x3 r2)) r4 e6' fun v5 H5 x5 c5 r5 => ?_
    cases r5
    exact q H5 ((((x1.trans x2).trans x3).trans x4).trans x5) c5
theorem ch3_core (k1 : OpD w r g) (k2 : OpD w r' g') (k3 : OpD w r'' g'') (σ : L2.St) (H : Hp) (Q : VK) (h : ∃ H0 W o ρ s b s', Gd w H0 W o ρ s σ H ∧ ch3 g g' g'' ma mb mc md ρ s = some (b, s') ∧ ∀ H', Ext w H H' → w.ok s' H' → Q (.bl b) H') :
    tChain3 r r' r'' (tR w ma) (tR w mb) (tR w mc) (tR w md) σ H Q := by
  obtain ⟨H0, W, o, ρ, s, b, s', G, e, q⟩ := h
  obtain ⟨x, s1, e1, f1⟩ := bd_some e
  obtain ⟨y, s2, e2, f2⟩ := bd_some f1
  obtain ⟨z, s3, e3, f3⟩ := bd_some f2
  obtain ⟨e3', rfl⟩ := up_some e3
  obtain ⟨t, s3, e4, f4⟩ := bd_some f3
  obtain ⟨rfl, rfl⟩ := asB_some e4
  refine ⟨H0, W, o, ρ, s, x, s1, G, e1, fun v H1 x1 c1 r1 => ?_⟩
  have G1 := G.ext x1 c1
  refine ⟨H0, W, o, ρ, s1, y, _, G1, e2, fun u H2 x2 c2 r2 => ?_⟩
  have G2 := G1.ext x2 c2
  refine k1 G2 (G1.borExt x2 r1) r2 e3' fun v3 H3 x3 c3 r3 => ?_
  cases r3
  refine ⟨t, rfl, ?_⟩
  have G3 := G2.ext x3 c3
  cases t with
  | false => cases f4; exact iteF (q H3 ((x1.trans x2).trans x3) c3)
  | true =>
    obtain ⟨z, s5, e5, f5⟩ := bd_some f4
    obtain ⟨r, s6, e6, f6⟩ := bd_some f5
    obtain ⟨e6', rfl⟩ := up_some e6
    obtain ⟨t', s6, e7, f7⟩ := bd_some f6
    obtain ⟨rfl, rfl⟩ := asB_some e7
    refine iteT ⟨H0, W, o, ρ, _, z, _, G3, e5, fun v4 H4 x4 c4 r4 => ?_⟩
    have G4 := G3.ext x4 c4
    refine k2 G4 (G3.borExt x4 (G2.borExt x3 r2)) r4 e6' fun v5 H5 x5 c5 r5 => ?_
    cases r5
    refine ⟨t', rfl, ?_⟩
    have G5 := G4.ext x5 c5
    cases t' with
    | false => cases f7; exact iteF (q H5 ((((x1.trans x2).trans x3).trans x4).trans x5) c5)
    | true =>
      obtain ⟨u', s8, e8, f8⟩ := bd_some f7
      obtain ⟨r8, s9, e9, f9⟩ := bd_some f8
      obtain ⟨e9', rfl⟩ := up_some e9
      obtain ⟨rfl, rfl⟩ := asB_some f9
      refine iteT ⟨H0, W, o, ρ, _, u', _, G5, e8, fun v6 H6 x6 c6 r6 => ?_⟩
      have G6 := G5.ext x6 c6
      refine k3 G6 (G5.borExt x6 (G4.borExt x5 r4)) r6 e9' fun v7 H7 x7 c7 r7 => ?_
      cases r7
      exact q H7 ((((((x1.trans x2).trans x3).trans x4).trans x5).trans x6).trans x7) c7
theorem ve_ch2 (c1 : CmpK X w op g) (c2 : CmpK X w op' g') (ha : VR X w a ma) (hb : VR X w b mb) (hc : VR X w c mc) (hm : lastMarks [op, op'] [b, c] = false := by with_unfolding_all rfl) : VE X w (.Compare a [op, op'] [b, c] pos) (ofQ (ch2 g g' ma mb mc)) := by
  obtain ⟨_, h1, k1⟩ := c1.ex
  obtain ⟨_, h2, k2⟩ := c2.ex
  refine (pe_chain h1 h2 ha hb hc hm).imp fun σ H Q ⟨H0, W, o, ρ, s, d, s', G, e, q⟩ => ?_
  obtain ⟨x, s1, e1, f⟩ := bd_some e
  cases f
  exact ch2_core k1 k2 σ H Q ⟨H0, W, o, ρ, s, x, _, G, e1, fun H' x1 c => q _ H' x1 c (.bl _)⟩
theorem vq_ch2 (c1 : CmpK X w op g) (c2 : CmpK X w op' g') (ha : VR X w a ma) (hb : VR X w b mb) (hc : VR X w c mc) (hm : lastMarks [op, op'] [b, c] = false := by with_unfolding_all rfl) : VQ X w (.Compare a [op, op'] [b, c] pos) (ch2 g g' ma mb mc) := by
  obtain ⟨_, h1, k1⟩ := c1.ex
  obtain ⟨_, h2, k2⟩ := c2.ex
  refine (pt_chain h1 h2 ha hb hc hm).imp fun σ H Q ⟨H0, W, o, ρ, s, d, s', G, e, q⟩ => ?_
  exact ch2_core k1 k2 σ H _ ⟨H0, W, o, ρ, s, d, s', G, e, fun H' x1 c => ⟨d, rfl, q H' x1 c⟩⟩
theorem ve_ch3 (c1 : CmpK X w op g) (c2 : CmpK X w op' g') (c3 : CmpK X w op'' g'') (ha : VR X w a ma) (hb : VR X w b mb) (hc : VR X w c mc) (hd : VR X w d md) (hm : lastMarks [op, op', op''] [b, c, d] = false := by with_unfolding_all rfl) :
    VE X w (.Compare a [op, op', op''] [b, c, d] pos) (ofQ (ch3 g g' g'' ma mb mc md)) := by
  obtain ⟨_, h1, k1⟩ := c1.ex
  obtain ⟨_, h2, k2⟩ := c2.ex
  obtain ⟨_, h3, k3⟩ := c3.ex
  refine (pe_chain3 h1 h2 h3 ha hb hc hd hm).imp fun σ H Q ⟨H0, W, o, ρ, s, d, s', G, e, q⟩ => ?_
  obtain ⟨x, s1, e1, f⟩ := bd_some e
  cases f
  exact ch3_core k1 k2 k3 σ H Q ⟨H0, W, o, ρ, s, x, _, G, e1, fun H' x1 c => q _ H' x1 c (.bl _)⟩
theorem vq_ch3 (c1 : CmpK X w op g) (c2 : CmpK X w op' g') (c3 : CmpK X w op'' g'') (ha : VR X w a ma) (hb : VR X w b mb) (hc : VR X w c mc) (hd : VR X w d md) (hm : lastMarks [op, op', op''] [b, c, d] = false := by with_unfolding_all rfl) :
    VQ X w (.Compare a [op, op', op''] [b, c, d] pos) (ch3 g g' g'' ma mb mc md) := by
  obtain ⟨_, h1, k1⟩ := c1.ex
  obtain ⟨_, h2, k2⟩ := c2.ex
  obtain ⟨_, h3, k3⟩ := c3.ex
  refine (pt_chain3 h1 h2 h3 ha hb hc hd hm).imp fun σ H Q ⟨H0, W, o, ρ, s, d, s', G, e, q⟩ => ?_
  exact ch3_core k1 k2 k3 σ H _ ⟨H0, W, o, ρ, s, d, s', G, e, fun H' x1 c => ⟨d, rfl, q H' x1 c⟩⟩
end

/-! ### slices -/
def tPt (w : Wd) (m : Rho → Mo w.S (Option Int)) : TO := fun σ H Q => ∃ H0 W o ρ s d s', Gd w H0 W o ρ s σ H ∧ m ρ s = some (d, s') ∧ ∀ H', Ext w H H' → w.ok s' H' → Q d H'
abbrev VO (X : Cx) (w : Wd) (e : Option Expr) (m : Rho → Mo w.S (Option Int)) : Prop := PO X e (tPt w m)
theorem _root_.L2.PO.imp {X : Cx} {e : Option Expr} {t t' : TO} (h : PO X e t) (q : ∀ σ H Q, t' σ H Q → t σ H Q) : PO X e t' := ⟨fun pins s σ H Q I k => h.run pins s σ H Q I (q σ H Q k)⟩
def cutD (ds : List D) (lo hi : Option Int) : List D := (ds.drop (HT.sIx ds.length 0 lo)).take (HT.sIx ds.length ds.length hi - HT.sIx ds.length 0 lo)
def asI {S : Type} (d : D) : Mo S (Option Int) := match d with | .int i => rt (some i) | _ => fun _ => none
section
variable {X : Cx} {w : Wd} {a : Expr} {lo hi : Option Expr} {m : Rho → Mo w.S D} {ml mh : Rho → Mo w.S (Option Int)} {pos p2 : Pos} {e : Expr}
theorem vo_none : VO X w none (fun _ => rt none) := po_none.imp fun σ H Q ⟨H0, W, o, ρ, s, d, s', G, e, q⟩ => by
  cases e
  exact q H (Ext.refl H) G.ok
theorem vo_some (h : VR X w e m) : VO X w (some e) (fun ρ => bd (m ρ) asI) := (po_some h).imp fun σ H Q ⟨H0, W, o, ρ, s, d, s', G, e, q⟩ => by
  obtain ⟨x, s1, e1, f⟩ := bd_some e
  unfold asI at f
  split at f
  · cases f
    refine ⟨H0, W, o, ρ, s, _, _, G, e1, fun v H1 x1 c1 r1 => ⟨_, r1.inv_int, q H1 x1 c1⟩⟩
  · cases f
theorem RepL.cut {ad : Nat → Addr} {H : Hp} {A : Addr → Prop} {vs : List V} {ds : List D} (h : RepL ad H A vs ds) (lo hi : Option Int) : RepL ad H A (cutV vs lo hi) (cutD ds lo hi) := by
  unfold cutV cutD
  rw [h.length]
  exact (h.drop _).take _
theorem cut_whole {ds : List D} {lo hi : Option Int} (h : HT.sIx ds.length 0 lo = 0 ∧ HT.sIx ds.length ds.length hi = ds.length) : cutD ds lo hi = ds := by
  unfold cutD
  rw [h.1, h.2]
  simp
def dCut (d : D) (lo hi : Option Int) : Option D := match d with | .tup ds => some (.tup (cutD ds lo hi)) | .lst ds => some (.lst (cutD ds lo hi)) | _ => none
theorem ve_slice (h : VR X w a m) (hl : VO X w lo ml) (hh : VO X w hi mh) : VE X w (.Subscript a (.Slice lo hi none p2) pos) (fun ρ => bd (m ρ) fun d => bd (ml ρ) fun i => bd (mh ρ) fun j => up (dCut d i j)) :=
  (pe_slice (sl_tupA.or sl_list) h hl hh).imp fun σ H Q ⟨H0, W, o, ρ, s, d, s', G, e, q⟩ => by
    obtain ⟨x, s1, e1, f1⟩ := bd_some e
    obtain ⟨i, s2, e2, f2⟩ := bd_some f1
    obtain ⟨j, s3, e3, f3⟩ := bd_some f2
    obtain ⟨f, rfl⟩ := up_some f3
    refine ⟨H0, W, o, ρ, s, x, s1, G, e1, fun v H1 x1 c1 r1 => ?_⟩
    have G1 := G.ext x1 c1
    refine ⟨H0, W, o, ρ, s1, i, s2, G1, e2, fun H2 x2 c2 => ?_⟩
    have G2 := G1.ext x2 c2
    refine ⟨H0, W, o, ρ, s2, j, _, G2, e3, fun H3 x3 c3 => ?_⟩
    have G3 := G2.ext x3 c3
    have x03 := (x1.trans x2).trans x3
    have r3 := G2.borExt x3 (G1.borExt x2 r1)
    unfold dCut at f
    split at f
    · cases f
      obtain ⟨b, xs, rfl, h1, n1, rr⟩ := r3.tup
      refine .inl ⟨b, xs, rfl, SqT.of h1, fun hw => ?_, fun _ p hp => ?_⟩
      · rw [rr.length] at hw
        rw [cut_whole hw] at q
        exact q _ H3 x03 c3 (.tup h1 n1 rr)
      · obtain ⟨x4, k4, np⟩ := fin_new G3 hp (.tup (cutV xs i j))
        exact q _ _ (x03.trans x4) k4 (.tup upd_same np ((G3.repLExt x4 rr).cut i j))
    · cases f
      obtain ⟨b, xs, rfl, h1, n1, rr⟩ := r3.lst (fun _ z => .inl z)
      refine .inr ⟨b, xs, rfl, SqL.of h1, fun p hp => ?_⟩
      obtain ⟨x4, k4, np⟩ := fin_new G3 hp (.lst (cutV xs i j))
      exact q _ _ (x03.trans x4) k4 (.lst upd_same np ((G3.repLExt x4 rr).cut i j))
    · cases f
end

/-! ### calls of built-ins -/
def CallD (w : Wd) (r : List V → Hp → VK → Prop) (g : List D → Option D) : Prop :=
  ∀ {H0 : Base} {W : Addr → Prop} {o : Own} {ρ : Rho} {s : w.S} {σ : L2.St} {H : Hp} (_ : Gd w H0 W o ρ s σ H) {xs : List V} {ds : List D} {z : D} {Q : VK},
    BorL w.ad H W (Av W o) xs ds → g ds = some z → (∀ v H', Ext w H H' → w.ok s H' → Rep w.ad H' (Av W o) v z → Q v H') → r xs H Q
/-- .. that gives a new list -/
def CallN (w : Wd) (r : List V → Hp → VK → Prop) (g : List D → Option (List D)) : Prop :=
  ∀ {H0 : Base} {W : Addr → Prop} {o : Own} {ρ : Rho} {s : w.S} {σ : L2.St} {H : Hp} (_ : Gd w H0 W o ρ s σ H) {xs : List V} {ds : List D} {z : List D} {Q : VK},
    BorL w.ad H W (Av W o) xs ds → g ds = some z → (∀ p vs, H p = none → RepL w.ad H (Av W o) vs z → Q (.ref p) (upd H p (.lst vs))) → r xs H Q
section
variable {X : Cx} {w : Wd} {e : Expr} {es : List Expr} {ms : Rho → Mo w.S (List D)} {pos p : Pos} {x : Str} {fid T : String} {r : List V → Hp → VK → Prop} {g : List D → Option D} {gn : List D → Option (List D)}
def cb {S : Type} {α : Type} (g : List D → Option α) (ms : Rho → Mo S (List D)) : Rho → Mo S α := fun ρ => bd (ms ρ) fun ds => up (g ds)
theorem call_core (k : CallD w r g) (σ : L2.St) (H : Hp) (Q : VK) (h : tV w (cb g ms) σ H Q) : tCB r (tRs w ms) σ H Q := by
  obtain ⟨H0, W, o, ρ, s, d, s', G, e, q⟩ := h
  obtain ⟨x, s1, e1, f⟩ := bd_some e
  obtain ⟨f', rfl⟩ := up_some f
  refine ⟨H0, W, o, ρ, s, x, _, G, e1, fun vs H1 x1 c1 r1 => ?_⟩
  exact k (G.ext x1 c1) r1 f' fun v H2 x2 c2 r2 => q v H2 (x1.trans x2) c2 r2
theorem Ext.free {w : Wd} {s : w.S} {H H1 : Hp} {p : Addr} (x1 : Ext w H H1) (k1 : w.ok s H1) (hp : H1 p = none) : H p = none := by
  cases e : H p with
  | none => rfl
  | some y =>
    by_cases m : w.mine p
    · exact absurd hp (w.trk k1 m)
    · rw [x1 p y e m] at hp; cases hp
/-- a new list laid at the end of an expression -/
theorem new_list {H0 : Base} {W : Addr → Prop} {o : Own} {ρ : Rho} {s s1 : w.S} {σ : L2.St} {H H1 : Hp} (G : Gd w H0 W o ρ s σ H) (x1 : Ext w H H1) (c1 : w.ok s1 H1) {p : Addr} (hp : H1 p = none) {vs : List V} {ds : List D} (r : RepL w.ad H1 (Av W o) vs ds) :
    Ext w H (upd H1 p (.lst vs)) ∧ w.ok s1 (upd H1 p (.lst vs)) ∧ H p = none ∧ RepL w.ad (upd H1 p (.lst vs)) (fun b => Av W o b ∨ b = p) vs ds := by
  have G1 := G.ext x1 c1
  obtain ⟨x2, k2, np⟩ := fin_new G1 hp (.lst vs)
  refine ⟨x1.trans x2, k2, x1.free c1 hp, r.of fun a y ha n => ⟨x2 a y ha (G1.mineAv n), fun z => ?_⟩⟩
  rcases z with z | z
  · exact n z
  · subst z; rw [hp] at ha; cases ha
theorem call_coreN (k : CallN w r gn) (σ : L2.St) (H : Hp) (Q : VK) (h : tN w (cb gn ms) σ H Q) : tCB r (tRs w ms) σ H Q := by
  obtain ⟨H0, W, o, ρ, s, d, s', G, e, q⟩ := h
  obtain ⟨x, s1, e1, f⟩ := bd_some e
  obtain ⟨f', rfl⟩ := up_some f
  refine ⟨H0, W, o, ρ, s, x, _, G, e1, fun vs H1 x1 c1 r1 => ?_⟩
  refine k (G.ext x1 c1) r1 f' fun p vs hp rr => ?_
  obtain ⟨x2, k2, hp0, r2⟩ := new_list G x1 c1 hp rr
  exact q p vs _ x2 k2 hp0 upd_same r2
theorem ve_callB (hc : CallR X (.builtin fid) r) (k : CallD w r g) (hg : Gl X x) (hm : X.mg x = none) (hv : bootBuiltins x = some (.builtin fid)) (ha : VRs X w (e :: es) ms) (hn : x ≠ "__name__" := by decide) (hdb : (x == ("__debug__" : Str)) = false := by decide)
    (he : starEach (e :: es) X.env = (false, eval e X.env) :: starEach es X.env := by rfl) (hpl : (backTo pos (starEach es X.env)).any (·.1) = false := by rfl) : VE X w (.Call (.Name x p) (e :: es) [] pos) (cb g ms) :=
  (pe_callB hc hg hm hv ha hn hdb he hpl).imp (call_core k)
theorem ve_callTy (hc : CallR X (.type T) r) (k : CallD w r g) (hg : Gl X x) (hm : X.mg x = none) (hv : bootBuiltins x = some (.type T)) (ha : VRs X w (e :: es) ms) (hn : x ≠ "__name__" := by decide) (hdb : (x == ("__debug__" : Str)) = false := by decide)
    (he : starEach (e :: es) X.env = (false, eval e X.env) :: starEach es X.env := by rfl) (hpl : (backTo pos (starEach es X.env)).any (·.1) = false := by rfl) : VE X w (.Call (.Name x p) (e :: es) [] pos) (cb g ms) :=
  (pe_callTy hc hg hm hv ha hn hdb he hpl).imp (call_core k)
theorem vn_callB (hc : CallR X (.builtin fid) r) (k : CallN w r gn) (hg : Gl X x) (hm : X.mg x = none) (hv : bootBuiltins x = some (.builtin fid)) (ha : VRs X w (e :: es) ms) (hn : x ≠ "__name__" := by decide) (hdb : (x == ("__debug__" : Str)) = false := by decide)
    (he : starEach (e :: es) X.env = (false, eval e X.env) :: starEach es X.env := by rfl) (hpl : (backTo pos (starEach es X.env)).any (·.1) = false := by rfl) : VN X w (.Call (.Name x p) (e :: es) [] pos) (cb gn ms) :=
  (pe_callB hc hg hm hv ha hn hdb he hpl).imp (call_coreN k)
theorem vn_callTy (hc : CallR X (.type T) r) (k : CallN w r gn) (hg : Gl X x) (hm : X.mg x = none) (hv : bootBuiltins x = some (.type T)) (ha : VRs X w (e :: es) ms) (hn : x ≠ "__name__" := by decide) (hdb : (x == ("__debug__" : Str)) = false := by decide)
    (he : starEach (e :: es) X.env = (false, eval e X.env) :: starEach es X.env := by rfl) (hpl : (backTo pos (starEach es X.env)).any (·.1) = false := by rfl) : VN X w (.Call (.Name x p) (e :: es) [] pos) (cb gn ms) :=
  (pe_callTy hc hg hm hv ha hn hdb he hpl).imp (call_coreN k)

/-! len, sum, min, max, any, all, list, tuple, sorted, int -/
theorem borL1 {ad : Nat → Addr} {H : Hp} {W A : Addr → Prop} {xs : List V} {d : D} (h : BorL ad H W A xs [d]) : ∃ v, xs = [v] ∧ Bor ad H W A v d := by
  cases h with | cons a b => cases b; exact ⟨_, rfl, a⟩
theorem borL2 {ad : Nat → Addr} {H : Hp} {W A : Addr → Prop} {xs : List V} {d e : D} (h : BorL ad H W A xs [d, e]) : ∃ v u, xs = [v, u] ∧ Bor ad H W A v d ∧ Bor ad H W A u e := by
  cases h with | cons a b => cases b with | cons b c => cases c; exact ⟨_, _, rfl, a, b⟩
def dLen : List D → Option D
  | [.tup ds] => some (.int ds.length)
  | [.lst ds] => some (.int ds.length)
  | _ => none
theorem len_ok {K : PySem.W.Frag} : CallD w (fun xs H Q => ∃ p ys, xs = [.ref p] ∧ (SqL K H p ys ∨ SqT K H p ys) ∧ Q (.int ys.length) H) dLen := by
  intro H0 W o ρ s σ H G xs ds z Q h hg q
  unfold dLen at hg
  split at hg
  · cases hg
    obtain ⟨v, rfl, hb⟩ := borL1 h
    obtain ⟨a, ys, rfl, h1, n1, r1⟩ := hb.tup
    exact ⟨a, ys, rfl, .inr (SqT.of h1), by rw [r1.length]; exact fin_ext G q (.int _)⟩
  · cases hg
    obtain ⟨v, rfl, hb⟩ := borL1 h
    obtain ⟨a, ys, rfl, h1, n1, r1⟩ := hb.lst (fun _ z => .inl z)
    exact ⟨a, ys, rfl, .inl (SqL.of h1), by rw [r1.length]; exact fin_ext G q (.int _)⟩
  · cases hg
/-- the dInts of a list of ints -/
def dInts : List D → Option (List Int)
  | [] => some []
  | .int i :: ds => (dInts ds).map (i :: ·)
  | _ :: _ => none
theorem dInts_rep {ad : Nat → Addr} {H : Hp} {A : Addr → Prop} {vs : List V} {ds : List D} (h : RepL ad H A vs ds) {ns : List Int} (e : dInts ds = some ns) : vs = ns.map V.int := by
  induction ds generalizing vs ns with
  | nil => cases h; cases e; rfl
  | cons d ds ih =>
    cases h with
    | cons a b =>
      cases d with
      | int i =>
        obtain ⟨ms, e1, rfl⟩ := Option.map_eq_some_iff.mp e
        cases a
        rw [ih b e1]
        rfl
      | _ => cases e
theorem dInts_map (ns : List Int) : dInts (ns.map D.int) = some ns := by
  induction ns with
  | nil => rfl
  | cons n ns ih => show (dInts (ns.map D.int)).map (n :: ·) = _; rw [ih]; rfl
theorem rep_ints {ad : Nat → Addr} {H : Hp} {A : Addr → Prop} (ns : List Int) : RepL ad H A (ns.map V.int) (ns.map D.int) := by
  induction ns with
  | nil => exact .nil
  | cons n ns ih => exact .cons (.int n) ih
def dSum : List D → Option D
  | [.lst ds] => (dInts ds).map fun ns => .int ns.sum
  | _ => none
theorem sum_ok {K : PySem.W.Frag} : CallD w (rSum K) dSum := by
  intro H0 W o ρ s σ H G xs ds z Q h hg q
  unfold dSum at hg
  split at hg
  · obtain ⟨ns, e1, rfl⟩ := Option.map_eq_some_iff.mp hg
    obtain ⟨v, rfl, hb⟩ := borL1 h
    obtain ⟨a, ys, rfl, h1, n1, r1⟩ := hb.lst (fun _ z => .inl z)
    rw [dInts_rep r1 e1] at h1
    exact ⟨a, ns, rfl, SqL.of h1, fin_ext G q (.int _)⟩
  · cases hg
def least : List Int → Option Int
  | [] => none
  | n :: ns => match least ns with | none => some n | some m => some (if m < n then m else n)
def most : List Int → Option Int
  | [] => none
  | n :: ns => match most ns with | none => some n | some m => some (if m > n then m else n)
theorem least_spec : ∀ {ns : List Int} {m : Int}, least ns = some m → m ∈ ns ∧ ∀ y ∈ ns, m ≤ y
  | [], _, h => by cases h
  | n :: ns, m, h => by
    unfold least at h
    split at h
    · rename_i e
      cases h
      cases ns with
      | nil => simp
      | cons a b => unfold least at e; split at e <;> cases e
    · rename_i m' e
      obtain ⟨h1, h2⟩ := least_spec e
      cases h
      split
      · exact ⟨List.mem_cons_of_mem _ h1, fun y hy => by rcases List.mem_cons.mp hy with rfl | hy; omega; exact h2 y hy⟩
      · exact ⟨List.mem_cons_self, fun y hy => by rcases List.mem_cons.mp hy with rfl | hy; omega; have := h2 y hy; omega⟩
theorem most_spec : ∀ {ns : List Int} {m : Int}, most ns = some m → m ∈ ns ∧ ∀ y ∈ ns, y ≤ m
  | [], _, h => by cases h
  | n :: ns, m, h => by
    unfold most at h
    split at h
    · rename_i e
      cases h
      cases ns with
      | nil => simp
      | cons a b => unfold most at e; split at e <;> cases e
    · rename_i m' e
      obtain ⟨h1, h2⟩ := most_spec e
      cases h
      split
      · exact ⟨List.mem_cons_of_mem _ h1, fun y hy => by rcases List.mem_cons.mp hy with rfl | hy; omega; exact h2 y hy⟩
      · exact ⟨List.mem_cons_self, fun y hy => by rcases List.mem_cons.mp hy with rfl | hy; omega; have := h2 y hy; omega⟩
def dMin : List D → Option D
  | [.lst ds] => ((dInts ds).bind least).map .int
  | [.int i, .int j] => some (.int (if j < i then j else i))
  | _ => none
def dMax : List D → Option D
  | [.lst ds] => ((dInts ds).bind most).map .int
  | [.int i, .int j] => some (.int (if j > i then j else i))
  | _ => none
theorem CallR.or {X : Cx} {f : Value} {r r' : List V → Hp → VK → Prop} (h : CallR X f r) (h' : CallR X f r') : CallR X f (fun xs H Q => r xs H Q ∨ r' xs H Q) := by
  intro pins s σ H xs us Q I rx q
  rcases q with q | q
  · exact h pins s σ H xs us Q I rx q
  · exact h' pins s σ H xs us Q I rx q
theorem min_ok {K : PySem.W.Frag} : CallD w (fun xs H Q => rMin K xs H Q ∨ ∃ i j, xs = [.int i, .int j] ∧ Q (.int (if j < i then j else i)) H) dMin := by
  intro H0 W o ρ s σ H G xs ds z Q h hg q
  unfold dMin at hg
  split at hg
  · obtain ⟨m, e1, rfl⟩ := Option.map_eq_some_iff.mp hg
    obtain ⟨ns, e1, e2⟩ := Option.bind_eq_some_iff.mp e1
    obtain ⟨v, rfl, hb⟩ := borL1 h
    obtain ⟨a, ys, rfl, h1, n1, r1⟩ := hb.lst (fun _ z => .inl z)
    rw [dInts_rep r1 e1] at h1
    obtain ⟨l1, l2⟩ := least_spec e2
    refine .inl ⟨a, ns, rfl, SqL.of h1, List.length_pos_of_mem l1, fun m' h1 h2 => ?_⟩
    have e : m' = m := Int.le_antisymm (h2 m l1) (l2 m' h1)
    subst e
    exact fin_ext G q (.int _)
  · cases hg
    obtain ⟨v, u, rfl, hb, hb2⟩ := borL2 h
    rw [hb.inv_int, hb2.inv_int]
    exact .inr ⟨_, _, rfl, fin_ext G q (.int _)⟩
  · cases hg
theorem max_ok {K : PySem.W.Frag} : CallD w (fun xs H Q => rMax K xs H Q ∨ ∃ i j, xs = [.int i, .int j] ∧ Q (.int (if j > i then j else i)) H) dMax := by
  intro H0 W o ρ s σ H G xs ds z Q h hg q
  unfold dMax at hg
  split at hg
  · obtain ⟨m, e1, rfl⟩ := Option.map_eq_some_iff.mp hg
    obtain ⟨ns, e1, e2⟩ := Option.bind_eq_some_iff.mp e1
    obtain ⟨v, rfl, hb⟩ := borL1 h
    obtain ⟨a, ys, rfl, h1, n1, r1⟩ := hb.lst (fun _ z => .inl z)
    rw [dInts_rep r1 e1] at h1
    obtain ⟨l1, l2⟩ := most_spec e2
    refine .inl ⟨a, ns, rfl, SqL.of h1, List.length_pos_of_mem l1, fun m' h1 h2 => ?_⟩
    have e : m' = m := Int.le_antisymm (l2 m' h1) (h2 m l1)
    subst e
    exact fin_ext G q (.int _)
  · cases hg
    obtain ⟨v, u, rfl, hb, hb2⟩ := borL2 h
    rw [hb.inv_int, hb2.inv_int]
    exact .inr ⟨_, _, rfl, fin_ext G q (.int _)⟩
  · cases hg
def bls : List D → Option (List Bool)
  | [] => some []
  | .bl i :: ds => (bls ds).map (i :: ·)
  | _ :: _ => none
theorem bls_rep {ad : Nat → Addr} {H : Hp} {A : Addr → Prop} {vs : List V} {ds : List D} (h : RepL ad H A vs ds) {ns : List Bool} (e : bls ds = some ns) : vs = ns.map V.bl := by
  induction ds generalizing vs ns with
  | nil => cases h; cases e; rfl
  | cons d ds ih =>
    cases h with
    | cons a b =>
      cases d with
      | bl i =>
        obtain ⟨ms, e1, rfl⟩ := Option.map_eq_some_iff.mp e
        cases a
        rw [ih b e1]
        rfl
      | _ => cases e
theorem bls_map (ns : List Bool) : bls (ns.map D.bl) = some ns := by
  induction ns with
  | nil => rfl
  | cons n ns ih => show (bls (ns.map D.bl)).map (n :: ·) = _; rw [ih]; rfl
def dAny : List D → Option D
  | [.lst ds] => (bls ds).map fun bs => .bl (bs.any id)
  | _ => none
def dAll : List D → Option D
  | [.lst ds] => (bls ds).map fun bs => .bl (bs.all id)
  | _ => none
theorem any_ok {K : PySem.W.Frag} : CallD w (rAny K) dAny := by
  intro H0 W o ρ s σ H G xs ds z Q h hg q
  unfold dAny at hg
  split at hg
  · obtain ⟨ns, e1, rfl⟩ := Option.map_eq_some_iff.mp hg
    obtain ⟨v, rfl, hb⟩ := borL1 h
    obtain ⟨a, ys, rfl, h1, n1, r1⟩ := hb.lst (fun _ z => .inl z)
    rw [bls_rep r1 e1] at h1
    exact ⟨a, ns, rfl, SqL.of h1, fin_ext G q (.bl _)⟩
  · cases hg
theorem all_ok {K : PySem.W.Frag} : CallD w (rAll K) dAll := by
  intro H0 W o ρ s σ H G xs ds z Q h hg q
  unfold dAll at hg
  split at hg
  · obtain ⟨ns, e1, rfl⟩ := Option.map_eq_some_iff.mp hg
    obtain ⟨v, rfl, hb⟩ := borL1 h
    obtain ⟨a, ys, rfl, h1, n1, r1⟩ := hb.lst (fun _ z => .inl z)
    rw [bls_rep r1 e1] at h1
    exact ⟨a, ns, rfl, SqL.of h1, fin_ext G q (.bl _)⟩
  · cases hg
def dList : List D → Option (List D)
  | [.lst ds] => some ds
  | [.tup ds] => some ds
  | _ => none
theorem list_ok {K : PySem.W.Frag} : CallN w (fun xs H Q => ∃ p ys, xs = [.ref p] ∧ (SqL K H p ys ∨ SqT K H p ys) ∧ ∀ l, H l = none → Q (.ref l) (upd H l (.lst ys))) dList := by
  intro H0 W o ρ s σ H G xs ds z Q h hg q
  unfold dList at hg
  split at hg
  · cases hg
    obtain ⟨v, rfl, hb⟩ := borL1 h
    obtain ⟨a, ys, rfl, h1, n1, r1⟩ := hb.lst (fun _ z => .inl z)
    exact ⟨a, ys, rfl, .inl (SqL.of h1), fun l hl => q l ys hl r1⟩
  · cases hg
    obtain ⟨v, rfl, hb⟩ := borL1 h
    obtain ⟨a, ys, rfl, h1, n1, r1⟩ := hb.tup
    exact ⟨a, ys, rfl, .inr (SqT.of h1), fun l hl => q l ys hl r1⟩
  · cases hg
def dTuple : List D → Option D
  | [.lst ds] => some (.tup ds)
  | [.tup ds] => some (.tup ds)
  | _ => none
theorem tuple_ok {K : PySem.W.Frag} : CallD w (fun xs H Q => ∃ p ys, xs = [.ref p] ∧ ((SqL K H p ys ∧ ∀ l, H l = none → Q (.ref l) (upd H l (.tup ys))) ∨ (SqT K H p ys ∧ Q (.ref p) H))) dTuple := by
  intro H0 W o ρ s σ H G xs ds z Q h hg q
  unfold dTuple at hg
  split at hg
  · cases hg
    obtain ⟨v, rfl, hb⟩ := borL1 h
    obtain ⟨a, ys, rfl, h1, n1, r1⟩ := hb.lst (fun _ z => .inl z)
    refine ⟨a, ys, rfl, .inl ⟨SqL.of h1, fun l hl => ?_⟩⟩
    obtain ⟨x1, k1, np⟩ := fin_new G hl (.tup ys)
    exact q _ _ x1 k1 (.tup upd_same np (G.repLExt x1 r1))
  · cases hg
    obtain ⟨v, rfl, hb⟩ := borL1 h
    obtain ⟨a, ys, rfl, h1, n1, r1⟩ := hb.tup
    exact ⟨a, ys, rfl, .inr ⟨SqT.of h1, fin_ext G q (.tup h1 n1 r1)⟩⟩
  · cases hg
/-- ascending dInts -/
def insI (n : Int) : List Int → List Int
  | [] => [n]
  | m :: ms => if n ≤ m then n :: m :: ms else m :: insI n ms
def sortI : List Int → List Int
  | [] => []
  | n :: ns => insI n (sortI ns)
theorem insI_perm (n : Int) : ∀ ms, (insI n ms).Perm (n :: ms)
  | [] => .refl _
  | m :: ms => by
    unfold insI
    split
    · exact .refl _
    · exact ((insI_perm n ms).cons m).trans (.swap n m ms)
theorem sortI_perm : ∀ ns, (sortI ns).Perm ns
  | [] => .refl _
  | n :: ns => (insI_perm n _).trans ((sortI_perm ns).cons n)
theorem insI_sorted (n : Int) : ∀ {ms}, ms.Pairwise (· ≤ ·) → (insI n ms).Pairwise (· ≤ ·)
  | [], _ => by simp [insI]
  | m :: ms, h => by
    unfold insI
    have h' := List.pairwise_cons.mp h
    split
    · rename_i hle
      refine List.pairwise_cons.mpr ⟨fun y hy => ?_, h⟩
      rcases List.mem_cons.mp hy with rfl | hy
      · exact hle
      · exact Int.le_trans hle (h'.1 y hy)
    · rename_i hle
      refine List.pairwise_cons.mpr ⟨fun y hy => ?_, insI_sorted n h'.2⟩
      rcases List.mem_cons.mp ((insI_perm n ms).mem_iff.mp hy) with rfl | hy
      · omega
      · exact h'.1 y hy
theorem sortI_sorted : ∀ ns, (sortI ns).Pairwise (· ≤ ·)
  | [] => .nil
  | n :: ns => insI_sorted n (sortI_sorted ns)
def dSorted : List D → Option (List D)
  | [.lst ds] => (dInts ds).map fun ns => (sortI ns).map .int
  | _ => none
theorem sorted_ok {K : PySem.W.Frag} : CallN w (rSortedI K) dSorted := by
  intro H0 W o ρ s σ H G xs ds z Q h hg q
  unfold dSorted at hg
  split at hg
  · obtain ⟨ns, e1, rfl⟩ := Option.map_eq_some_iff.mp hg
    obtain ⟨v, rfl, hb⟩ := borL1 h
    obtain ⟨a, ys, rfl, h1, n1, r1⟩ := hb.lst (fun _ z => .inl z)
    rw [dInts_rep r1 e1] at h1
    refine ⟨a, ns, rfl, SqL.of h1, fun ns' p hp hs hn => ?_⟩
    have e : ns' = sortI ns := PySem.W.ksm_same (hp.trans (sortI_perm ns).symm) hs (sortI_sorted ns)
    subst e
    exact q p _ hn (rep_ints _)
  · cases hg
def dInt : List D → Option D
  | [.int i] => some (.int i)
  | [.bl b] => some (.int (if b then 1 else 0))
  | _ => none
theorem int_ok : CallD w (fun xs H Q => (∃ i, xs = [.int i] ∧ Q (.int i) H) ∨ ∃ k, xs = [.bl k] ∧ Q (.int (if k then 1 else 0)) H) dInt := by
  intro H0 W o ρ s σ H G xs ds z Q h hg q
  unfold dInt at hg
  split at hg
  · cases hg
    obtain ⟨v, rfl, hb⟩ := borL1 h
    rw [hb.inv_int]
    exact .inl ⟨_, rfl, fin_ext G q (.int _)⟩
  · cases hg
    obtain ⟨v, rfl, hb⟩ := borL1 h
    rw [hb.inv_bl]
    exact .inr ⟨_, rfl, fin_ext G q (.int _)⟩
  · cases hg
end
end Rr

set_option Elab.async false
set_option linter.all false
set_option maxRecDepth 100000
set_option maxHeartbeats 1000000
/-! The layer of data: statements, defs, calls of the program's own defs. -/
namespace Rr
open PySem PySem.Spec L2

/-! ### slots that are stored -/
section
variable {w : Wd} {H0 : Base} {H H' : Hp} {W : Addr → Prop} {o : Own} {ρ : Rho} {s s' : w.S} {σ : L2.St}
def off (o : Own) (i : Nat) : Own := fun j => if j = i then none else o j
def onn (o : Own) (i : Nat) (a : Addr) : Own := fun j => if j = i then some a else o j
theorem off_av {a : Addr} {i : Nat} (h : Av W (off o i) a) : Av W o a := by
  rcases h with h | ⟨j, h⟩
  · exact .inl h
  · unfold off at h
    split at h
    · cases h
    · exact .inr ⟨j, h⟩
theorem set_get {α : Type} {l : List α} {i j : Nat} {x y : α} (h : (l.set i x)[j]? = some y) : (j = i ∧ y = x ∧ i < l.length) ∨ (j ≠ i ∧ l[j]? = some y) := by
  by_cases e : j = i
  · subst e
    by_cases hl : j < l.length
    · rw [List.getElem?_set_self hl] at h
      cases h
      exact .inl ⟨rfl, rfl, hl⟩
    · rw [List.getElem?_eq_none (by simpa using hl)] at h
      cases h
  · rw [List.getElem?_set_ne (Ne.symm e)] at h
    exact .inr ⟨e, h⟩
theorem Gd.setVal (G : Gd w H0 W o ρ s σ H) (i : Nat) {v : V} {d : D} (r : Rep w.ad H (Av W o) v d) : Gd w H0 W (off o i) (ρ.set i (some (.val d))) s (σ.set i (some v)) H where
  len := by rw [List.length_set, List.length_set]; exact G.len
  sub := G.sub
  trk := G.trk
  frm := G.frm
  lic := G.lic
  ok := G.ok
  val := fun j e h => by
    rcases set_get h with ⟨rfl, e1, hl⟩ | ⟨hne, h⟩
    · cases e1
      exact ⟨v, List.getElem?_set_self (by rw [← G.len]; exact hl), r.mono fun _ z => off_av z⟩
    · obtain ⟨u, h1, h2⟩ := G.val j e h
      exact ⟨u, by rw [List.getElem?_set_ne (Ne.symm hne)]; exact h1, h2.mono fun _ z => off_av z⟩
  own := fun j e h => by
    rcases set_get h with ⟨rfl, e1, hl⟩ | ⟨hne, h⟩
    · cases e1
    · obtain ⟨a, vs, h1, h2, h3, h4⟩ := G.own j e h
      exact ⟨a, vs, by unfold off; rw [if_neg hne]; exact h1, by rw [List.getElem?_set_ne (Ne.symm hne)]; exact h2, h3, h4.mono fun _ z => off_av z⟩
  inj := fun j k a h1 h2 => by
    unfold off at h1 h2
    split at h1
    · cases h1
    · split at h2
      · cases h2
      · exact G.inj j k a h1 h2
  new := fun j a h => by
    unfold off at h
    split at h
    · cases h
    · exact G.new j a h
  live := fun j a h => by
    unfold off at h
    split at h
    · cases h
    · rename_i hne
      rw [List.getElem?_set_ne (Ne.symm hne)]
      exact G.live j a h
theorem onn_av {i : Nat} {p a : Addr} (h : Av W (onn o i p) a) : Av W o a ∨ a = p := by
  rcases h with h | ⟨j, h⟩
  · exact .inl (.inl h)
  · unfold onn at h
    split at h
    · cases h; exact .inr rfl
    · exact .inl (.inr ⟨j, h⟩)
/-- a new list becomes the def's own -/
theorem Gd.setOwn (G : Gd w H0 W o ρ s σ H) (x : Ext w H H') (k : w.ok s' H') {p : Addr} (hp : H p = none) {vs : List V} (h' : H' p = some (.lst vs)) {ds : List D} (r : RepL w.ad H' (fun b => Av W o b ∨ b = p) vs ds) (i : Nat) (hi : i < ρ.length) :
    Gd w H0 W (onn o i p) (ρ.set i (some (.own ds))) s' (σ.set i (some (.ref p))) H' := by
  have rr : ∀ {v d}, Rep w.ad H (Av W o) v d → Rep w.ad H' (Av W (onn o i p)) v d := fun {v d} q => q.of fun a y ha n => ⟨x a y ha (G.mineAv n), fun z => by
    rcases onn_av z with z | z
    · exact n z
    · subst z; rw [hp] at ha; cases ha⟩
  have rrl : ∀ {v d}, RepL w.ad H (Av W o) v d → RepL w.ad H' (Av W (onn o i p)) v d := fun {v d} q => q.of fun a y ha n => ⟨x a y ha (G.mineAv n), fun z => by
    rcases onn_av z with z | z
    · exact n z
    · subst z; rw [hp] at ha; cases ha⟩
  have ne : ∀ j a, o j = some a → a ≠ p := fun j a h z => G.tracked (.inr ⟨j, h⟩) (by rw [z]; exact hp)
  exact {
    len := by rw [List.length_set, List.length_set]; exact G.len
    sub := G.sub
    trk := G.trk
    frm := (G.ext x k).frm
    lic := G.lic
    ok := k
    val := fun j e h => by
      rcases set_get h with ⟨rfl, e1, hl⟩ | ⟨hne, h⟩
      · cases e1
      · obtain ⟨u, h1, h2⟩ := G.val j e h
        exact ⟨u, by rw [List.getElem?_set_ne (Ne.symm hne)]; exact h1, rr h2⟩
    own := fun j e h => by
      rcases set_get h with ⟨rfl, e1, hl⟩ | ⟨hne, h⟩
      · cases e1
        exact ⟨p, vs, by unfold onn; rw [if_pos rfl], List.getElem?_set_self (by rw [← G.len]; exact hl), h', r.mono fun _ z => onn_av z⟩
      · obtain ⟨a, us, h1, h2, h3, h4⟩ := G.own j e h
        exact ⟨a, us, by unfold onn; rw [if_neg hne]; exact h1, by rw [List.getElem?_set_ne (Ne.symm hne)]; exact h2, x a _ h3 (G.own_mine h1), rrl h4⟩
    inj := fun j l a h1 h2 => by
      unfold onn at h1 h2
      split at h1
      · rename_i e1
        split at h2
        · rename_i e2
          rw [e1, e2]
        · cases h1; exact absurd rfl (ne l _ h2)
      · split at h2
        · cases h2; exact absurd rfl (ne j _ h1)
        · exact G.inj j l a h1 h2
    new := fun j a h => by
      unfold onn at h
      split at h
      · cases h; exact G.fresh hp
      · exact G.new j a h
    live := fun j a h => by
      unfold onn at h
      split at h
      · rename_i e
        cases h
        subst e
        exact ⟨ds, List.getElem?_set_self hi⟩
      · rename_i hne
        rw [List.getElem?_set_ne (Ne.symm hne)]
        exact G.live j a h }
/-- the def's own list is changed -/
theorem Gd.mutOwn (G : Gd w H0 W o ρ s σ H) {i : Nat} {ds : List D} (hi : ρ[i]? = some (some (.own ds))) {p : Addr} (hp : o i = some p) {vs : List V} {es : List D} (r : RepL w.ad H (Av W o) vs es) :
    Gd w H0 W o (ρ.set i (some (.own es))) s σ (upd H p (.lst vs)) := by
  have np : ¬ w.mine p := G.own_mine hp
  have k : w.ok s (upd H p (.lst vs)) := w.keep G.ok fun a ha => upd_ne fun z => np (by rw [← z]; exact ha)
  have ap : Av W o p := .inr ⟨i, hp⟩
  have rr : ∀ {v d}, Rep w.ad H (Av W o) v d → Rep w.ad (upd H p (.lst vs)) (Av W o) v d := fun {v d} q => q.of fun a y ha n => ⟨by rw [upd_ne fun z => n (by rw [z]; exact ap)]; exact ha, n⟩
  have rrl : ∀ {v d}, RepL w.ad H (Av W o) v d → RepL w.ad (upd H p (.lst vs)) (Av W o) v d := fun {v d} q => q.of fun a y ha n => ⟨by rw [upd_ne fun z => n (by rw [z]; exact ap)]; exact ha, n⟩
  have hl : i < ρ.length := (List.getElem?_eq_some_iff.mp hi).1
  obtain ⟨p', vs', hp', hs, _, _⟩ := G.own i ds hi
  rw [hp] at hp'; cases hp'
  exact {
    len := by rw [List.length_set]; exact G.len
    sub := G.sub
    trk := G.trk
    frm := fun a x h n l => by
      rw [upd_ne fun z => by
        subst z
        rcases G.new i a hp with e | e
        · rw [e] at h; cases h
        · exact l e]
      exact G.frm a x h n l
    lic := G.lic
    ok := k
    val := fun j e h => by
      rcases set_get h with ⟨rfl, e1, hl⟩ | ⟨hne, h⟩
      · cases e1
      · obtain ⟨u, h1, h2⟩ := G.val j e h
        exact ⟨u, h1, rr h2⟩
    own := fun j e h => by
      rcases set_get h with ⟨rfl, e1, hl⟩ | ⟨hne, h⟩
      · cases e1
        exact ⟨p, vs, hp, hs, upd_same, rrl r⟩
      · obtain ⟨a, us, h1, h2, h3, h4⟩ := G.own j e h
        refine ⟨a, us, h1, h2, ?_, rrl h4⟩
        rw [upd_ne fun z => hne (G.inj j i a h1 (by rw [z]; exact hp))]
        exact h3
    inj := G.inj
    new := G.new
    live := fun j a h => by
      by_cases e : j = i
      · subst e; exact ⟨es, List.getElem?_set_self hl⟩
      · rw [List.getElem?_set_ne (Ne.symm e)]; exact G.live j a h }
end

/-! ### statements -/
inductive Out (S : Type) where
  | nx (ρ : Rho) (s : S) | rt (d : D) (s : S) | rf (ds : List D) (s : S) | bk (ρ : Rho) (s : S) | ct (ρ : Rho) (s : S)
abbrev Ms (S : Type) := Rho → S → Option (Out S)
def post (w : Wd) (H0 : Base) (W : Addr → Prop) (E : Ends) : Out w.S → Prop
  | .nx ρ s => ∀ o σ H, Gd w H0 W o ρ s σ H → E.nx σ H
  | .bk ρ s => ∀ o σ H, Gd w H0 W o ρ s σ H → E.bk σ H
  | .ct ρ s => ∀ o σ H, Gd w H0 W o ρ s σ H → E.ct σ H
  | .rt d s => ∀ v H, (∀ a x, H0.hp a = some x → ¬ w.mine a → ¬ H0.lic a → H a = some x) → w.ok s H → Rep w.ad H W v d → E.rt v H
  | .rf ds s => ∀ a vs H, (∀ a x, H0.hp a = some x → ¬ w.mine a → ¬ H0.lic a → H a = some x) → w.ok s H → (H0.hp a = none ∨ H0.lic a) → H a = some (.lst vs) → RepL w.ad H (fun b => W b ∨ b = a) vs ds → E.rt (.ref a) H
def tS (w : Wd) (m : Ms w.S) : TS := fun E σ H => ∃ H0 W o ρ s out, Gd w H0 W o ρ s σ H ∧ m ρ s = some out ∧ post w H0 W E out
abbrev VS (X : Cx) (w : Wd) (st : Stmt) (m : Ms w.S) : Prop := PS X st (tS w m)
abbrev VSs (X : Cx) (w : Wd) (st : List Stmt) (m : Ms w.S) : Prop := PSs X st (tS w m)
def mNx {S : Type} : Ms S := fun ρ s => some (.nx ρ s)
def sq {S : Type} (m1 m2 : Ms S) : Ms S := fun ρ s => match m1 ρ s with | some (.nx ρ' s') => m2 ρ' s' | r => r
section
variable {X : Cx} {w : Wd} {st : Stmt} {sts sts2 : List Stmt} {m m1 m2 : Ms w.S} {e c : Expr} {me : Rho → Mo w.S D} {mn : Rho → Mo w.S (List D)} {q : Rho → Mo w.S Bool} {pos : Pos}
theorem post_ends {H0 : Base} {W : Addr → Prop} {E : Ends} {n : L2.St → Hp → Prop} {out : Out w.S} (h : ∀ ρ s, out ≠ .nx ρ s) (p : post w H0 W E out) : post w H0 W { E with nx := n } out := by
  cases out with
  | nx ρ s => exact absurd rfl (h ρ s)
  | _ => exact p
theorem vss_nil : VSs X w [] mNx := pss_nil.imp fun E σ H ⟨H0, W, o, ρ, s, out, G, e, p⟩ => by
  cases e
  exact p o σ H G
theorem vss_cons (h1 : VS X w st m1) (h2 : VSs X w sts m2) : VSs X w (st :: sts) (sq m1 m2) := (pss_cons h1 h2).imp fun E σ H ⟨H0, W, o, ρ, s, out, G, e, p⟩ => by
  unfold sq at e
  split at e
  · rename_i ρ' s' e1
    exact ⟨H0, W, o, ρ, s, _, G, e1, fun o' σ' H' G' => ⟨H0, W, o', ρ', s', out, G', e, p⟩⟩
  · rename_i hne
    exact ⟨H0, W, o, ρ, s, out, G, e, post_ends (fun ρ' s' z => hne ρ' s' (by rw [e, z])) p⟩
theorem vss_one (h1 : VS X w st m1) : VSs X w [st] m1 := pss_one h1
theorem vs_pass : VS X w (.Pass pos) mNx := ps_pass.imp fun E σ H ⟨H0, W, o, ρ, s, out, G, e, p⟩ => by
  cases e
  exact p o σ H G
theorem vs_break : VS X w (.Break pos) (fun ρ s => some (.bk ρ s)) := ps_break.imp fun E σ H ⟨H0, W, o, ρ, s, out, G, e, p⟩ => by
  cases e
  exact p o σ H G
theorem vs_continue : VS X w (.Continue pos) (fun ρ s => some (.ct ρ s)) := ps_continue.imp fun E σ H ⟨H0, W, o, ρ, s, out, G, e, p⟩ => by
  cases e
  exact p o σ H G
/-- e; -/
theorem vs_expr (he : VR X w e me) (hs : swapsWith e none pos.line X.env = pure false := by rfl) : VS X w (.Expr e pos) (fun ρ s => (me ρ s).map fun p => .nx ρ p.2) := (ps_expr he hs).imp fun E σ H ⟨H0, W, o, ρ, s, out, G, e, p⟩ => by
  obtain ⟨⟨d, s'⟩, e1, rfl⟩ := Option.map_eq_some_iff.mp e
  exact ⟨H0, W, o, ρ, s, d, s', G, e1, fun v H' x k r => p o σ H' (G.ext x k)⟩
/-- x = e -/
def mSet {S : Type} (i : Nat) (me : Rho → Mo S D) : Ms S := fun ρ s => (me ρ s).map fun p => .nx (ρ.set i (some (.val p.1))) p.2
theorem vs_set (i : Nat) {x : Str} {pos' : Pos} (hN : X.N.Nodup) (he : VE X w e me) (hi : X.N[i]? = some x := by rfl) (hx : Loc X.env.scope x := by first | exact Or.inl rfl | exact Or.inr rfl) (hs : swapsWith e (some (.Name x pos')) pos.line X.env = pure false := by rfl)
    (hf : X.fn x = true ∨ X.env.scope.names.lookup x = some .local := by first | exact .inl rfl | exact .inr rfl | assumption) : VS X w (.Assign [.Name x pos'] e pos) (mSet i me) :=
  (ps_set hN hi hx he hs hf).imp fun E σ H ⟨H0, W, o, ρ, s, out, G, e, p⟩ => by
    obtain ⟨⟨d, s'⟩, e1, rfl⟩ := Option.map_eq_some_iff.mp e
    exact ⟨H0, W, o, ρ, s, d, s', G, e1, fun v H' x k r => p _ _ H' ((G.ext x k).setVal i r)⟩
/-- x = [..], a list that the def will change -/
def mOwn {S : Type} (i : Nat) (mn : Rho → Mo S (List D)) : Ms S := fun ρ s => if i < ρ.length then (mn ρ s).map fun p => .nx (ρ.set i (some (.own p.1))) p.2 else none
theorem vs_own (i : Nat) {x : Str} {pos' : Pos} (hN : X.N.Nodup) (he : VN X w e mn) (hi : X.N[i]? = some x := by rfl) (hx : Loc X.env.scope x := by first | exact Or.inl rfl | exact Or.inr rfl) (hs : swapsWith e (some (.Name x pos')) pos.line X.env = pure false := by rfl)
    (hf : X.fn x = true ∨ X.env.scope.names.lookup x = some .local := by first | exact .inl rfl | exact .inr rfl | assumption) : VS X w (.Assign [.Name x pos'] e pos) (mOwn i mn) :=
  (ps_set hN hi hx he hs hf).imp fun E σ H ⟨H0, W, o, ρ, s, out, G, e, p⟩ => by
    unfold mOwn at e
    split at e
    · rename_i hlt
      obtain ⟨⟨d, s'⟩, e1, rfl⟩ := Option.map_eq_some_iff.mp e
      exact ⟨H0, W, o, ρ, s, d, s', G, e1, fun a vs H' x k hn h' r => p _ _ H' (G.setOwn x k hn h' r i hlt)⟩
    · cases e
/-- return e -/
theorem vs_ret (he : VE X w e me) : VS X w (.Return (some e) pos) (fun ρ s => (me ρ s).map fun p => .rt p.1 p.2) := (ps_ret he).imp fun E σ H ⟨H0, W, o, ρ, s, out, G, e, p⟩ => by
  obtain ⟨⟨d, s'⟩, e1, rfl⟩ := Option.map_eq_some_iff.mp e
  exact ⟨H0, W, o, ρ, s, d, s', G, e1, fun v H' x k r => p v H' (G.ext x k).frm k (r.mono fun _ z => .inl z)⟩
theorem vs_retF (he : VN X w e mn) : VS X w (.Return (some e) pos) (fun ρ s => (mn ρ s).map fun p => .rf p.1 p.2) := (ps_ret he).imp fun E σ H ⟨H0, W, o, ρ, s, out, G, e, p⟩ => by
  obtain ⟨⟨d, s'⟩, e1, rfl⟩ := Option.map_eq_some_iff.mp e
  exact ⟨H0, W, o, ρ, s, d, s', G, e1, fun a vs H' x k hn h' r => p a vs H' (G.ext x k).frm k (G.fresh hn) h' (r.mono fun b z => z.elim (fun y => .inl (.inl y)) .inr)⟩
/-- return x, x the def's own list -/
def mRetO {S : Type} (i : Nat) : Ms S := fun ρ s => match ρ[i]? with | some (some (.own ds)) => some (.rf ds s) | _ => none
theorem vs_retO (i : Nat) {x : Str} {pos' : Pos} (hN : X.N[i]? = some x := by rfl) (hv : Vis X.env.scope x := by first | exact Or.inl rfl | exact Or.inr (Or.inl rfl) | exact Or.inr (Or.inr rfl)) (hd : (x == ("__debug__" : Str)) = false := by decide)
    (hcd : (x == ("__classdict__" : Str)) = false := by decide) : VS X w (.Return (some (.Name x pos')) pos) (mRetO i) :=
  (ps_ret (pe_var hN hv hd hcd)).imp fun E σ H ⟨H0, W, o, ρ, s, out, G, e, p⟩ => by
    unfold mRetO at e
    split at e
    · rename_i ds hi
      cases e
      obtain ⟨a, vs, h1, h2, h3, h4⟩ := G.own i ds hi
      exact ⟨_, h2, p a vs H G.frm G.ok (G.new i a h1) h3 (h4.mono fun b z => z.elim .inl fun y => .inr ⟨i, by rw [y]; exact h1⟩)⟩
    · cases e
theorem vs_retN : VS X w (.Return none pos) (fun ρ s => some (.rt .non s)) := ps_retN.imp fun E σ H ⟨H0, W, o, ρ, s, out, G, e, p⟩ => by
  cases e
  exact p .non H G.frm G.ok .non
/-- if -/
def sIf {S : Type} (q : Rho → Mo S Bool) (m1 m2 : Ms S) : Ms S := fun ρ s => match q ρ s with | some (true, s') => m1 ρ s' | some (false, s') => m2 ρ s' | none => none
theorem vs_if (hc : VQ X w c q) (h1 : VSs X w sts m1) (h2 : VSs X w sts2 m2) : VS X w (.If c sts sts2 pos) (sIf q m1 m2) := (ps_if hc h1 h2).imp fun E σ H ⟨H0, W, o, ρ, s, out, G, e, p⟩ => by
  unfold sIf at e
  split at e
  · rename_i s' e1
    exact ⟨H0, W, o, ρ, s, true, s', G, e1, fun H' x k => iteT ⟨H0, W, o, ρ, s', out, G.ext x k, e, p⟩⟩
  · rename_i s' e1
    exact ⟨H0, W, o, ρ, s, false, s', G, e1, fun H' x k => iteF ⟨H0, W, o, ρ, s', out, G.ext x k, e, p⟩⟩
  · cases e

/-! ### x.append(e), v = x.pop(), x.insert(i, e), x[i] = e: x the def's own list in slot i -/
def owned (i : Nat) (ρ : Rho) : Option (List D) := match ρ[i]? with | some (some (.own ds)) => some ds | _ => none
theorem owned_some {i : Nat} {ρ : Rho} {ds : List D} (h : owned i ρ = some ds) : ρ[i]? = some (some (.own ds)) := by
  unfold owned at h
  split at h
  · cases h; assumption
  · cases h
theorem Gd.setSame {H0 : Base} {W : Addr → Prop} {o : Own} {ρ : Rho} {s : w.S} {σ : L2.St} {H : Hp} (G : Gd w H0 W o ρ s σ H) : True := trivial
def mApp {S : Type} (i : Nat) (me : Rho → Mo S D) : Ms S := fun ρ s => match owned i ρ with
  | some ds => if ds.length < sizeLine then (me ρ s).map fun p => .nx (ρ.set i (some (.own (ds ++ [p.1])))) p.2 else none
  | none => none
theorem vs_append (i : Nat) {x : Str} {p1 p2 p3 : Pos} (he : VEs X w [e] mn) (hN : X.N[i]? = some x := by rfl) (hv : Vis X.env.scope x := by first | exact Or.inl rfl | exact Or.inr (Or.inl rfl) | exact Or.inr (Or.inr rfl)) (hd : (x == ("__debug__" : Str)) = false := by decide)
    (hcd : (x == ("__classdict__" : Str)) = false := by decide)
    (hbase : attributeBase (.Name x p1) "append" X.env (eval (.Name x p1) X.env) = eval (.Name x p1) X.env := by rfl)
    (hfew : ((backTo p3 (starEach [e] X.env)).all (fun x => !x.1) && (backToKw p3 (keywordEach [] X.env)).all (fun x => x.1.isSome)
      && decide ([e].length + ([] : List Keyword).length + (if ([] : List Keyword).isEmpty then 0 else 1) < 30)) = true := by rfl)
    (hline : (p2.endLine == p3.line) = true := by rfl) (hs1 : starEach [e] X.env = (false, eval e X.env) :: starEach [] X.env := by rfl) (hplain : (backTo p3 (starEach [] X.env)).any (·.1) = false := by rfl)
    (hs : swapsWith (.Call (.Attribute (.Name x p1) "append" p2) [e] [] p3) none pos.line X.env = pure false := by rfl) :
    VS X w (.Expr (.Call (.Attribute (.Name x p1) "append" p2) [e] [] p3) pos) (mApp i fun ρ => bd (mn ρ) fun ds => match ds with | [d] => rt d | _ => fun _ => none) :=
  (ps_expr (pe_bm PySem.F.plainAttrs_list PySem.F.slot_list_append PySem.F.type_list_append mt_append (pe_var hN hv hd hcd) he hbase hfew hline hs1 hplain) hs).imp fun E σ H ⟨H0, W, o, ρ, s, out, G, e, p⟩ => by
    unfold mApp at e
    split at e
    · rename_i ds hds
      have hi := owned_some hds
      split at e
      · rename_i hlt
        obtain ⟨⟨d, s'⟩, e1, rfl⟩ := Option.map_eq_some_iff.mp e
        obtain ⟨xs, s1, e2, e3⟩ := bd_some e1
        obtain ⟨a, vs, h1, h2, h3, h4⟩ := G.own i ds hi
        refine ⟨.ref a, h2, .inl ⟨rfl, vs, SqL.of h3⟩, H0, W, o, ρ, s, xs, s1, G, e2, fun us H' x1 k r => ?_⟩
        have G' := G.ext x1 k
        split at e3
        · cases e3
          cases r with
          | cons r1 r2 =>
            cases r2
            have h3' := x1 a _ h3 (G.own_mine h1)
            have h4' := G.repLExt x1 h4
            refine ⟨a, vs, _, rfl, rfl, h3', by rw [h4.length]; exact hlt, ?_⟩
            exact p o σ _ (G'.mutOwn hi h1 (h4'.append (.cons r1 .nil)))
        · cases e3
      · cases e
    · cases e

/-! ### targets -/
def bName (i : Nat) : D → Rho → Option Rho := fun d ρ => some (ρ.set i (some (.val d)))
def bNil : List D → Rho → Option Rho := fun ds ρ => match ds with | [] => some ρ | _ => none
def bCons (b : D → Rho → Option Rho) (bs : List D → Rho → Option Rho) : List D → Rho → Option Rho := fun ds ρ => match ds with | d :: r => (b d ρ).bind (bs r) | [] => none
def bTup (bs : List D → Rho → Option Rho) : D → Rho → Option Rho := fun d ρ => match d with | .tup ds => bs ds ρ | _ => none
end
/-- a target: its rule, the slots that it stores and what it does -/
structure VG (X : Cx) (w : Wd) (tg : Expr) (sl : List Nat) (b : D → Rho → Option Rho) : Prop where
  ex : ∃ g, PG X tg g ∧ ∀ {H0 : Base} {W : Addr → Prop} {o : Own} {ρ ρ' : Rho} {s : w.S} {σ : L2.St} {H : Hp} {v : V} {d : D} {Q : L2.St → Hp → Prop}, Gd w H0 W o ρ s σ H → Rep w.ad H (Av W o) v d → b d ρ = some ρ' →
    (∀ o' σ', (∀ j a, o' j = some a → o j = some a) → (∀ j a, o j = some a → j ∉ sl → o' j = some a) → (∀ vs, (∀ i ∈ sl, i ∈ vs) → wipe σ' vs = wipe σ vs) → Gd w H0 W o' ρ' s σ' H → Q σ' H) → g v σ H Q
structure VGs (X : Cx) (w : Wd) (tgs : List Expr) (n : Nat) (sl : List Nat) (b : List D → Rho → Option Rho) : Prop where
  ex : ∃ g, PGs X tgs g ∧ (∀ ds ρ ρ', b ds ρ = some ρ' → ds.length = n) ∧ ∀ {H0 : Base} {W : Addr → Prop} {o : Own} {ρ ρ' : Rho} {s : w.S} {σ : L2.St} {H : Hp} {v : List V} {d : List D} {Q : L2.St → Hp → Prop}, Gd w H0 W o ρ s σ H → RepL w.ad H (Av W o) v d → b d ρ = some ρ' →
    (∀ o' σ', (∀ j a, o' j = some a → o j = some a) → (∀ j a, o j = some a → j ∉ sl → o' j = some a) → (∀ vs, (∀ i ∈ sl, i ∈ vs) → wipe σ' vs = wipe σ vs) → Gd w H0 W o' ρ' s σ' H → Q σ' H) → g v σ H Q
theorem wipe_get (σ : L2.St) (vs : List Nat) (j : Nat) : (wipe σ vs)[j]? = if j ∈ vs then (if j < σ.length then some none else none) else σ[j]? := by
  induction vs with
  | nil => simp [wipe]
  | cons v vs ih =>
    unfold wipe
    by_cases e : j = v
    · subst e
      rw [if_pos List.mem_cons_self]
      by_cases hl : j < σ.length
      · rw [List.getElem?_set_self (by rw [wipe_length]; exact hl), if_pos hl]
      · rw [List.getElem?_eq_none (by rw [List.length_set, wipe_length]; omega), if_neg hl]
    · rw [List.getElem?_set_ne (Ne.symm e), ih]
      simp only [List.mem_cons, e, false_or]
theorem wipe_set {σ : L2.St} {vs : List Nat} {i : Nat} {x : Option V} (h : i ∈ vs) : wipe (σ.set i x) vs = wipe σ vs := by
  apply List.ext_getElem?
  intro j
  rw [wipe_get, wipe_get]
  split
  · rw [List.length_set]
  · rename_i hj
    rw [List.getElem?_set_ne fun z => hj (by rw [← z]; exact h)]
section
variable {X : Cx} {w : Wd} {e : Expr} {es : List Expr} {me : Rho → Mo w.S D} {b : D → Rho → Option Rho} {bs : List D → Rho → Option Rho} {pos : Pos} {n : Nat} {sl sl2 : List Nat}
theorem vg_name (i : Nat) {x : Str} (hN : X.N.Nodup) (hi : X.N[i]? = some x := by rfl) (hx : Loc X.env.scope x := by first | exact Or.inl rfl | exact Or.inr rfl) (hf : X.fn x = true ∨ X.env.scope.names.lookup x = some .local := by first | exact .inl rfl | exact .inr rfl | assumption) :
    VG X w (.Name x pos) [i] (bName i) := by
  refine ⟨gName i, pg_name hN hi hx hf, fun {H0 W o ρ ρ' s σ H v d Q} G r hb q => ?_⟩
  cases hb
  refine q (off o i) _ (fun j a h => ?_) (fun j a h n => ?_) (fun vs h => wipe_set (h i (by simp))) (G.setVal i r)
  · unfold off at h
    split at h
    · cases h
    · exact h
  · unfold off
    rw [if_neg fun z => n (by rw [z]; simp)]
    exact h
theorem vgs_nil : VGs X w [] 0 [] bNil := by
  refine ⟨gNil, pgs_nil, fun ds ρ ρ' h => ?_, fun {H0 W o ρ ρ' s σ H v d Q} G r hb q => ?_⟩
  · unfold bNil at h
    split at h
    · rfl
    · cases h
  · unfold bNil at hb
    split at hb
    · cases hb; cases r; exact ⟨rfl, q o σ (fun _ _ h => h) (fun _ _ h _ => h) (fun _ _ => rfl) G⟩
    · cases hb
theorem vgs_cons (h1 : VG X w e sl b) (h2 : VGs X w es n sl2 bs) (hs : (assignEach (e :: es) X.env).map (·.2) = assign e X.env :: (assignEach es X.env).map (·.2) := by rfl) : VGs X w (e :: es) (n + 1) (sl ++ sl2) (bCons b bs) := by
  obtain ⟨g1, p1, k1⟩ := h1.ex
  obtain ⟨g2, p2, l2, k2⟩ := h2.ex
  refine ⟨gCons g1 g2, pgs_cons p1 p2 hs, fun ds ρ ρ' h => ?_, fun {H0 W o ρ ρ' s σ H v d Q} G r hb q => ?_⟩
  · unfold bCons at h
    split at h
    · obtain ⟨ρ1, e1, e2⟩ := Option.bind_eq_some_iff.mp h
      rw [List.length_cons, l2 _ _ _ e2]
    · cases h
  · unfold bCons at hb
    split at hb
    · obtain ⟨ρ1, e1, e2⟩ := Option.bind_eq_some_iff.mp hb
      cases r with
      | cons r1 r2 =>
        refine ⟨_, _, rfl, k1 G r1 e1 fun o' σ' ho hb' hw G' => ?_⟩
        refine k2 G' (r2.mono fun a z => z.elim .inl fun ⟨j, h⟩ => .inr ⟨j, ho j a h⟩) e2 fun o'' σ'' ho' hb2 hw' G'' => q o'' σ'' (fun j a h => ho j a (ho' j a h)) (fun j a h n => hb2 j a (hb' j a h fun z => n (List.mem_append_left _ z)) fun z => n (List.mem_append_right _ z)) (fun vs h => ?_) G''
        rw [hw' vs fun i hi => h i (List.mem_append_right _ hi), hw vs fun i hi => h i (List.mem_append_left _ hi)]
    · cases hb
theorem vg_tup {k : Nat} (hc : X.calm = true) (h : VGs X w es n sl bs) (hn : (assignEach es X.env).length = n := by rfl) (hst : (assignEach es X.env).findIdx? (·.1) = none := by rfl) : VG X w (.Tuple es k pos) sl (bTup bs) := by
  obtain ⟨g, p, l, kk⟩ := h.ex
  refine ⟨_, pg_tup hc p hn hst, fun {H0 W o ρ ρ' s σ H v d Q} G r hb q => ?_⟩
  unfold bTup at hb
  split at hb
  · cases r with
    | tup h1 h2 h3 => exact ⟨_, _, rfl, SqT.of h1, by rw [h3.length]; exact l _ _ _ hb, kk G h3 hb q⟩
  · cases hb
/-- a target's reading -/
def tG (w : Wd) (sl : List Nat) (b : D → Rho → Option Rho) : TG := fun v σ H Q => ∃ H0 W o ρ s d ρ', Gd w H0 W o ρ s σ H ∧ Rep w.ad H (Av W o) v d ∧ b d ρ = some ρ' ∧
  ∀ o' σ', (∀ j a, o' j = some a → o j = some a) → (∀ j a, o j = some a → j ∉ sl → o' j = some a) → (∀ vs, (∀ i ∈ sl, i ∈ vs) → wipe σ' vs = wipe σ vs) → Gd w H0 W o' ρ' s σ' H → Q σ' H
theorem vg_pg {tg : Expr} (h : VG X w tg sl b) : PG X tg (tG w sl b) := by
  obtain ⟨g, p, k⟩ := h.ex
  exact ⟨fun pins s σ H v u Q I r q => p.run pins s σ H v u Q I r (by obtain ⟨H0, W, o, ρ, s', d, ρ', G, r', e, f⟩ := q; exact k G r' e f)⟩
/-- target = e -/
def mAsg {S : Type} (me : Rho → Mo S D) (b : D → Rho → Option Rho) : Ms S := fun ρ s => match me ρ s with | some (d, s') => (b d ρ).map fun ρ' => .nx ρ' s' | none => none
theorem vs_asg {tg : Expr} (he : VE X w e me) (hg : VG X w tg sl b) (hs : swapsWithSole [tg] e pos.line X.env = pure false := by rfl) (hw : swappedStores [tg] e X.env = pure none := by rfl)
    (h1 : (assignEach [tg] X.env).map (·.2) = [assign tg X.env] := by rfl) : VS X w (.Assign [tg] e pos) (mAsg me b) := by
  obtain ⟨g, p, kk⟩ := hg.ex
  refine (ps_asg he p hs hw h1).imp fun E σ H ⟨H0, W, o, ρ, s, out, G, e, pp⟩ => ?_
  unfold mAsg at e
  split at e
  · rename_i d s' e1
    obtain ⟨ρ', e2, rfl⟩ := Option.map_eq_some_iff.mp e
    refine ⟨H0, W, o, ρ, s, d, s', G, e1, fun v H' x k r => ?_⟩
    exact kk (G.ext x k) r e2 fun o' σ' _ _ _ G' => pp o' σ' H' G'
  · cases e
end

/-! ### defs and their promises -/
def spV (w : Wd) (n : Nat) (F : List D → Mo w.S D) : Sp := fun vs H Q _ => ∃ W ds s d s', (∀ a, w.mine a → W a) ∧ (∀ a, W a → H a ≠ none) ∧ w.ok s H ∧ RepL w.ad H W vs ds ∧ ds.length = n ∧ F ds s = some (d, s') ∧
  ∀ v H', Ext w H H' → w.ok s' H' → Rep w.ad H' W v d → Q v H'
def spN (w : Wd) (n : Nat) (F : List D → Mo w.S (List D)) : Sp := fun vs H Q _ => ∃ W ds s d s', (∀ a, w.mine a → W a) ∧ (∀ a, W a → H a ≠ none) ∧ w.ok s H ∧ RepL w.ad H W vs ds ∧ ds.length = n ∧ F ds s = some (d, s') ∧
  ∀ a vs H', Ext w H H' → w.ok s' H' → H a = none → H' a = some (.lst vs) → RepL w.ad H' (fun b => W b ∨ b = a) vs d → Q (.ref a) H'
def begin_ (k : Nat) (ds : List D) : Rho := ds.map (fun d => some (.val d)) ++ List.replicate (k - ds.length) none
def endV {S : Type} (m : Ms S) (ρ : Rho) : Mo S D := fun s => match m ρ s with | some (.rt d s') => some (d, s') | some (.nx _ s') => some (.non, s') | _ => none
def endN {S : Type} (m : Ms S) (ρ : Rho) : Mo S (List D) := fun s => match m ρ s with | some (.rf d s') => some (d, s') | _ => none
section
variable {w : Wd}
theorem start_gd {N : List Str} {vs : List V} {ds : List D} {W : Addr → Prop} {s : w.S} {H : Hp} (hm : ∀ a, w.mine a → W a) (ht : ∀ a, W a → H a ≠ none) (k : w.ok s H) (r : RepL w.ad H W vs ds) :
    Gd w ⟨H, fun _ => False⟩ W (fun _ => none) (begin_ N.length ds) s (L2.start N vs) H where
  len := by unfold begin_ L2.start; simp [r.length]
  sub := hm
  trk := ht
  frm := fun _ _ h _ _ => h
  lic := fun _ h => h.elim
  ok := k
  val := fun i d h => by
    unfold begin_ at h
    rw [List.getElem?_append] at h
    split at h
    · rw [List.getElem?_map] at h
      obtain ⟨d', e1, e2⟩ := Option.map_eq_some_iff.mp h
      cases e2
      obtain ⟨v, e3, r3⟩ := r.get e1
      refine ⟨v, ?_, r3.mono fun a z => z.elim id fun ⟨_, q⟩ => nomatch q⟩
      unfold L2.start
      rw [List.getElem?_append_left (by rw [List.length_map]; exact (List.getElem?_eq_some_iff.mp e3).1), List.getElem?_map, e3]
      rfl
    · rw [List.getElem?_replicate] at h
      split at h
      · cases h
      · cases h
  own := fun i ds' h => by
    unfold begin_ at h
    rw [List.getElem?_append] at h
    split at h
    · rw [List.getElem?_map] at h
      obtain ⟨d', e1, e2⟩ := Option.map_eq_some_iff.mp h
      cases e2
    · rw [List.getElem?_replicate] at h
      split at h
      · cases h
      · cases h
  inj := fun _ _ _ h _ => nomatch h
  new := fun _ _ h => nomatch h
  live := fun _ _ h => nomatch h
variable {P : Program} {wo : World} {K : PySem.W.Frag} {mg : Str → Option Value} {base : Heap}
theorem def_v {x qual : Str} {st : Stmt} {f : Addr} {fd : FuncData} {N ps : List Str} {k n : Nat} {F : List D → Mo w.S D} {m : Ms w.S} (FF : Fun K x qual st f fd) (S : FnScope N ps (defScope st)) (hn : ps.length = n)
    (body : ∀ (cdv : Value) (A : Around) (outer : List Env) (s : Shared) (H : Hp) (E : XK), Room k (A.deeper (PyProof.Rows.envOfC qual (defScope st) s.heap.objs.size f cdv)) → VSs (cxOf CX0 P wo K mg base N qual (defScope st) f cdv A outer s H E).nox w (defBody st) m)
    (hF : ∀ ds s r, ds.length = n → F ds s = some r → endV m (begin_ N.length ds) s = some r) : FnOk P wo K mg base CX0 (k + 1) f fd ps (spV w n F) := by
  refine FF.ok S (fun vs H Q E h => ?_) fun cdv A outer s H vs Q E hr h => ?_
  · obtain ⟨W, ds, s, d, s', _, _, _, r, hl, _⟩ := h
    rw [r.length, hl, hn]
  · obtain ⟨W, ds, s1, d, s', hm, ht, hk, r, hl, e, q⟩ := h
    refine ⟨_, body cdv A outer s H E hr, ⟨H, fun _ => False⟩, W, fun _ => none, begin_ N.length ds, s1, ?_⟩
    have e' := hF ds s1 _ hl e
    unfold endV at e'
    split at e'
    · rename_i d2 s2 e2
      cases e'
      exact ⟨_, start_gd hm ht hk r, e2, fun v H' x k r => q v H' (fun a y h n => x a y h n fun z => z) k r⟩
    · rename_i ρ2 s2 e2
      cases e'
      exact ⟨_, start_gd hm ht hk r, e2, fun o σ H' G => q .non H' (fun a y h n => G.frm a y h n fun z => z) G.ok .non⟩
    · cases e'
theorem def_n {x qual : Str} {st : Stmt} {f : Addr} {fd : FuncData} {N ps : List Str} {k n : Nat} {F : List D → Mo w.S (List D)} {m : Ms w.S} (FF : Fun K x qual st f fd) (S : FnScope N ps (defScope st)) (hn : ps.length = n)
    (body : ∀ (cdv : Value) (A : Around) (outer : List Env) (s : Shared) (H : Hp) (E : XK), Room k (A.deeper (PyProof.Rows.envOfC qual (defScope st) s.heap.objs.size f cdv)) → VSs (cxOf CX0 P wo K mg base N qual (defScope st) f cdv A outer s H E).nox w (defBody st) m)
    (hF : ∀ ds s r, ds.length = n → F ds s = some r → endN m (begin_ N.length ds) s = some r) : FnOk P wo K mg base CX0 (k + 1) f fd ps (spN w n F) := by
  refine FF.ok S (fun vs H Q E h => ?_) fun cdv A outer s H vs Q E hr h => ?_
  · obtain ⟨W, ds, s, d, s', _, _, _, r, hl, _⟩ := h
    rw [r.length, hl, hn]
  · obtain ⟨W, ds, s1, d, s', hm, ht, hk, r, hl, e, q⟩ := h
    refine ⟨_, body cdv A outer s H E hr, ⟨H, fun _ => False⟩, W, fun _ => none, begin_ N.length ds, s1, ?_⟩
    have e' := hF ds s1 _ hl e
    unfold endN at e'
    split at e'
    · rename_i d2 s2 e2
      cases e'
      exact ⟨_, start_gd hm ht hk r, e2, fun a vs H' x k hn h' r => q a vs H' (fun a y h n => x a y h n fun z => z) k (hn.elim id fun z => z.elim) h' r⟩
    · cases e'
end

/-! ### calls of such defs -/
/-- no list, no dict, no object within -/
def lf : D → Bool
  | .non => true | .bl _ => true | .int _ => true | .str _ => true
  | .tup xs => lfs xs
  | _ => false
where lfs : List D → Bool
  | [] => true
  | d :: ds => lf d && lfs ds
section
variable {X : Cx} {w : Wd} {e : Expr} {es : List Expr} {ms : Rho → Mo w.S (List D)} {pos p : Pos} {x : Str} {k n : Nat} {f : Addr} {fd : FuncData} {ps : List Str} {F : List D → Mo w.S D} {Fn : List D → Mo w.S (List D)}
def mCall {S α : Type} (n : Nat) (F : List D → Mo S α) (ms : Rho → Mo S (List D)) : Rho → Mo S α := fun ρ => bd (ms ρ) fun ds => if ds.length = n then F ds else fun _ => none
theorem mCall_some {S α : Type} {n : Nat} {F : List D → Mo S α} {ms : Rho → Mo S (List D)} {ρ : Rho} {s s' : S} {d : α} (h : mCall n F ms ρ s = some (d, s')) : ∃ ds s1, ms ρ s = some (ds, s1) ∧ ds.length = n ∧ F ds s1 = some (d, s') := by
  obtain ⟨ds, s1, e1, e2⟩ := bd_some h
  split at e2
  · exact ⟨ds, s1, e1, by assumption, e2⟩
  · cases e2
theorem ve_call (Fk : FnOk X.prog X.w X.K X.mg X.base CX0 k f fd ps (spV w n F)) (hr : Room k X.A) (hm : X.mg x = some (.ref f)) (hk : PySem.W.keepIn X.K (.ref f) = true) (hb : Binds X.K fd ps []) (ha : VEs X w (e :: es) ms)
    (hg : Gl X x := by rfl) (hdb : (x == ("__debug__" : Str)) = false := by decide) (he : starEach (e :: es) X.env = (false, eval e X.env) :: starEach es X.env := by rfl) (hpl : (backTo pos (starEach es X.env)).any (·.1) = false := by rfl) :
    VE X w (.Call (.Name x p) (e :: es) [] pos) (mCall n F ms) :=
  (pe_call Fk hr hg hm hk hb .nil (E := E0) pass0 ha hdb he hpl).imp fun σ H Q ⟨H0, W, o, ρ, s, d, s', G, e, q⟩ => by
    obtain ⟨ds, s1, e1, hl, e2⟩ := mCall_some e
    refine ⟨H0, W, o, ρ, s, ds, s1, G, e1, fun vs H1 x1 k1 r1 => ?_⟩
    have G1 := G.ext x1 k1
    show spV w n F (vs ++ []) H1 Q E0
    rw [List.append_nil]
    exact ⟨Av W o, ds, s1, d, s', fun a z => .inl (G.sub a z), fun a z => G1.tracked z, k1, r1, hl, e2, fun v H2 x2 k2 r2 => q v H2 (x1.trans x2) k2 r2⟩
theorem vn_call (Fk : FnOk X.prog X.w X.K X.mg X.base CX0 k f fd ps (spN w n Fn)) (hr : Room k X.A) (hm : X.mg x = some (.ref f)) (hk : PySem.W.keepIn X.K (.ref f) = true) (hb : Binds X.K fd ps []) (ha : VEs X w (e :: es) ms)
    (hg : Gl X x := by rfl) (hdb : (x == ("__debug__" : Str)) = false := by decide) (he : starEach (e :: es) X.env = (false, eval e X.env) :: starEach es X.env := by rfl) (hpl : (backTo pos (starEach es X.env)).any (·.1) = false := by rfl) :
    VN X w (.Call (.Name x p) (e :: es) [] pos) (mCall n Fn ms) :=
  (pe_call Fk hr hg hm hk hb .nil (E := E0) pass0 ha hdb he hpl).imp fun σ H Q ⟨H0, W, o, ρ, s, d, s', G, e, q⟩ => by
    obtain ⟨ds, s1, e1, hl, e2⟩ := mCall_some e
    refine ⟨H0, W, o, ρ, s, ds, s1, G, e1, fun vs H1 x1 k1 r1 => ?_⟩
    have G1 := G.ext x1 k1
    show spN w n Fn (vs ++ []) H1 Q E0
    rw [List.append_nil]
    exact ⟨Av W o, ds, s1, d, s', fun a z => .inl (G.sub a z), fun a z => G1.tracked z, k1, r1, hl, e2, fun a vs H2 x2 k2 hn h' r2 => q a vs H2 (x1.trans x2) k2 (x1.free k1 hn) h' r2⟩
end
end Rr

set_option Elab.async false
set_option linter.all false
set_option maxRecDepth 100000
set_option maxHeartbeats 1000000
/-! The layer of data: what is walked, for, while, list comprehensions. -/
namespace Rr
open PySem PySem.Spec L2

/-! ### what is walked -/
def Stb (A : Addr → Prop) (H1 H : Hp) : Prop := ∀ a x, H1 a = some x → ¬ A a → H a = some x
structure Src (ad : Nat → Addr) (A : Addr → Prop) (J : It) (H1 : Hp) (ds : List D) : Prop where
  stop : ∀ i H, Stb A H1 H → ds.length ≤ i → J.stop i H
  go : ∀ i H d, Stb A H1 H → ds[i]? = some d → J.go i H
  yld : ∀ i H d, Stb A H1 H → ds[i]? = some d → ∀ v H', J.yld i H v H' → (H' = H ∨ ∃ p x, H p = none ∧ H' = upd H p x) ∧ ∀ B : Addr → Prop, (∀ a, B a → A a ∨ H1 a = none) → (∀ a, B a → H a ≠ none) → Rep ad H' B v d
/-- the reading of what is walked -/
def tI (w : Wd) (m : Rho → Mo w.S (List D)) : TI := fun σ H R => ∃ H0 W o ρ s ds s', Gd w H0 W o ρ s σ H ∧ m ρ s = some (ds, s') ∧ ∀ J H1, Ext w H H1 → w.ok s' H1 → Src w.ad (Av W o) J H1 ds → R J H1
abbrev VI (X : Cx) (w : Wd) (tg it : Expr) (m : Rho → Mo w.S (List D)) : Prop := PI X tg it (tI w m)
theorem _root_.L2.PI.imp {X : Cx} {tg it : Expr} {t t' : TI} (h : PI X tg it t) (q : ∀ σ H R, t' σ H R → t σ H R) : PI X tg it t' := ⟨fun pins s σ H R I k => h.run pins s σ H R I (q σ H R k)⟩
theorem PI.or {X : Cx} {tg it : Expr} {t t' : TI} (h : PI X tg it t) (h' : PI X tg it t') : PI X tg it (fun σ H R => t σ H R ∨ t' σ H R) := ⟨fun pins s σ H R I k => k.elim (fun q => h.run pins s σ H R I q) fun q => h'.run pins s σ H R I q⟩
section
variable {ad : Nat → Addr} {A : Addr → Prop} {H1 : Hp} {K : PySem.W.Frag}
theorem RepL.now {vs : List V} {ds : List D} {H : Hp} {B : Addr → Prop} (r : RepL ad H1 A vs ds) (st : Stb A H1 H) (hb : ∀ a, B a → A a ∨ H1 a = none) : RepL ad H B vs ds :=
  r.of fun a x e n => ⟨st a x e n, fun z => (hb a z).elim n fun y => by rw [y] at e; cases e⟩
theorem Rep.now {v : V} {d : D} {H : Hp} {B : Addr → Prop} (r : Rep ad H1 A v d) (st : Stb A H1 H) (hb : ∀ a, B a → A a ∨ H1 a = none) : Rep ad H B v d :=
  r.of fun a x e n => ⟨st a x e n, fun z => (hb a z).elim n fun y => by rw [y] at e; cases e⟩
theorem src_list {a : Addr} {vs : List V} {ds : List D} (e : H1 a = some (.lst vs)) (n : ¬ A a) (r : RepL ad H1 A vs ds) : Src ad A (Itl K a) H1 ds where
  stop := fun i H st h => ⟨vs, SqL.of (st _ _ e n), by rw [r.length]; exact h⟩
  go := fun i H d st h => by
    obtain ⟨v, e1, _⟩ := r.get h
    exact ⟨vs, v, SqL.of (st _ _ e n), e1⟩
  yld := fun i H d st h v H' ⟨e1, f⟩ => by
    obtain ⟨u, e2, r2⟩ := r.get h
    have e3 := f vs (SqL.of (st _ _ e n))
    rw [e2] at e3; cases e3
    subst e1
    exact ⟨.inl rfl, fun B hb _ => r2.now st hb⟩
theorem src_tup {a : Addr} {vs : List V} {ds : List D} (e : H1 a = some (.tup vs)) (n : ¬ A a) (r : RepL ad H1 A vs ds) : Src ad A (Itt K a) H1 ds where
  stop := fun i H st h => ⟨vs, SqT.of (st _ _ e n), by rw [r.length]; exact h⟩
  go := fun i H d st h => by
    obtain ⟨v, e1, _⟩ := r.get h
    exact ⟨vs, v, SqT.of (st _ _ e n), e1⟩
  yld := fun i H d st h v H' ⟨e1, f⟩ => by
    obtain ⟨u, e2, r2⟩ := r.get h
    have e3 := f vs (SqT.of (st _ _ e n))
    rw [e2] at e3; cases e3
    subst e1
    exact ⟨.inl rfl, fun B hb _ => r2.now st hb⟩
/-- lo, lo + 1, .. -/
def rngD (lo : Int) (n : Nat) : List D := (List.range n).map fun (i : Nat) => .int (lo + i)
theorem src_rng {lo : Int} {n : Nat} : Src ad A (Itr lo n) H1 (rngD lo n) where
  stop := fun i H _ h => by
    unfold rngD at h
    rw [List.length_map, List.length_range] at h
    exact h
  go := fun i H d _ h => by
    have := (List.getElem?_eq_some_iff.mp h).1
    unfold rngD at this
    rw [List.length_map, List.length_range] at this
    exact this
  yld := fun i H d _ h v H' ⟨e1, e2⟩ => by
    subst e1 e2
    unfold rngD at h
    rw [List.getElem?_map] at h
    obtain ⟨j, e1, rfl⟩ := Option.map_eq_some_iff.mp h
    rw [List.getElem?_range (by have := (List.getElem?_eq_some_iff.mp e1).1; rwa [List.length_range] at this)] at e1
    cases e1
    exact ⟨.inl rfl, fun _ _ _ => .int _⟩
/-- (0, x0), (1, x1), .. -/
def enumD : Nat → List D → List D
  | _, [] => []
  | i, d :: ds => .tup [.int (i : Nat), d] :: enumD (i + 1) ds
theorem enumD_length : ∀ (k : Nat) (ds : List D), (enumD k ds).length = ds.length
  | _, [] => rfl
  | k, d :: ds => by unfold enumD; rw [List.length_cons, enumD_length, List.length_cons]
theorem enumD_get : ∀ (k i : Nat) (ds : List D), (enumD k ds)[i]? = (ds[i]?).map fun d => .tup [.int ((k + i : Nat) : Int), d]
  | _, _, [] => by simp [enumD]
  | k, 0, d :: ds => by simp [enumD]
  | k, i + 1, d :: ds => by
    unfold enumD
    rw [List.getElem?_cons_succ, List.getElem?_cons_succ, enumD_get (k + 1) i ds, show k + 1 + i = k + (i + 1) by omega]
theorem src_enum {a : Addr} {vs : List V} {ds : List D} (e : H1 a = some (.lst vs)) (n : ¬ A a) (r : RepL ad H1 A vs ds) : Src ad A (Ite K a) H1 (enumD 0 ds) where
  stop := fun i H st h => ⟨vs, SqL.of (st _ _ e n), by rw [r.length, ← enumD_length 0]; exact h⟩
  go := fun i H d st h => by
    rw [enumD_get] at h
    obtain ⟨d', e1, _⟩ := Option.map_eq_some_iff.mp h
    obtain ⟨v, e2, _⟩ := r.get e1
    exact ⟨vs, v, SqL.of (st _ _ e n), e2⟩
  yld := fun i H d st h v H' ⟨T, x, e1, e2, e3, f⟩ => by
    rw [enumD_get] at h
    obtain ⟨d', e4, e5⟩ := Option.map_eq_some_iff.mp h
    obtain ⟨u, e6, r2⟩ := r.get e4
    have e7 := f vs (SqL.of (st _ _ e n))
    rw [e6] at e7; cases e7
    subst e1 e3 e5
    refine ⟨.inr ⟨T, _, e2, rfl⟩, fun B hb ht => ?_⟩
    refine .tup upd_same (fun z => ht _ z e2) (.cons (by rw [Nat.zero_add]; exact .int _) (.cons ?_ .nil))
    refine r2.of fun b y eb nb => ⟨?_, fun z => (hb b z).elim nb fun q => by rw [q] at eb; cases eb⟩
    have q := st b y eb nb
    rw [upd_ne (ne_of_none q e2)]
    exact q
/-- pairs -/
def zipD : List D → List D → List D
  | d :: ds, e :: es => .tup [d, e] :: zipD ds es
  | _, _ => []
theorem zipD_get : ∀ (i : Nat) (ds es : List D), (zipD ds es)[i]? = match ds[i]?, es[i]? with | some d, some e => some (.tup [d, e]) | _, _ => none
  | i, [], es => by simp [zipD]
  | i, d :: ds, [] => by cases i <;> simp [zipD] <;> (cases h : ds[_]? <;> rfl)
  | 0, d :: ds, e :: es => by simp [zipD]
  | i + 1, d :: ds, e :: es => by
    unfold zipD
    rw [List.getElem?_cons_succ, List.getElem?_cons_succ, List.getElem?_cons_succ, zipD_get i ds es]
theorem zipD_length : ∀ (ds es : List D), (zipD ds es).length = min ds.length es.length
  | [], es => by simp [zipD]
  | d :: ds, [] => by simp [zipD]
  | d :: ds, e :: es => by unfold zipD; rw [List.length_cons, zipD_length ds es, List.length_cons, List.length_cons]; omega
theorem zip_get {ds es : List D} {i : Nat} {d : D} (h : (zipD ds es)[i]? = some d) : ∃ x y, ds[i]? = some x ∧ es[i]? = some y ∧ d = .tup [x, y] := by
  rw [zipD_get] at h
  split at h
  · cases h; exact ⟨_, _, by assumption, by assumption, rfl⟩
  · cases h
theorem src_zip {a b : Addr} {vs us : List V} {ds es : List D} (e : H1 a = some (.lst vs)) (n : ¬ A a) (r : RepL ad H1 A vs ds) (e' : H1 b = some (.lst us)) (n' : ¬ A b) (r' : RepL ad H1 A us es) : Src ad A (Itz K a b) H1 (zipD ds es) where
  stop := fun i H st h => ⟨vs, us, SqL.of (st _ _ e n), SqL.of (st _ _ e' n'), by rw [zipD_length] at h; rw [r.length, r'.length]; omega⟩
  go := fun i H d st h => by
    obtain ⟨x, y, e1, e2, _⟩ := zip_get h
    obtain ⟨v, e3, _⟩ := r.get e1
    obtain ⟨u, e4, _⟩ := r'.get e2
    exact ⟨vs, us, v, u, SqL.of (st _ _ e n), SqL.of (st _ _ e' n'), e3, e4⟩
  yld := fun i H d st h v H' ⟨T, x0, y0, e1, e2, e3, f, f'⟩ => by
    obtain ⟨x, y, e4, e5, rfl⟩ := zip_get h
    obtain ⟨v1, e6, r2⟩ := r.get e4
    obtain ⟨u1, e7, r3⟩ := r'.get e5
    have e8 := f vs (SqL.of (st _ _ e n))
    have e9 := f' us (SqL.of (st _ _ e' n'))
    rw [e6] at e8; cases e8
    rw [e7] at e9; cases e9
    subst e1 e3
    refine ⟨.inr ⟨T, _, e2, rfl⟩, fun B hb ht => ?_⟩
    have go : ∀ {v d}, Rep ad H1 A v d → Rep ad (upd H T (.tup [x0, y0])) B v d := fun {v d} q => q.of fun b y eb nb => ⟨by
      have q := st b y eb nb
      rw [upd_ne (ne_of_none q e2)]
      exact q, fun z => (hb b z).elim nb fun q => by rw [q] at eb; cases eb⟩
    exact .tup upd_same (fun z => ht _ z e2) (.cons (go r2) (.cons (go r3) .nil))
theorem src_zipT {a b : Addr} {vs us : List V} {ds es : List D} (e : H1 a = some (.tup vs)) (n : ¬ A a) (r : RepL ad H1 A vs ds) (e' : H1 b = some (.tup us)) (n' : ¬ A b) (r' : RepL ad H1 A us es) : Src ad A (RZ.ItzT K a b) H1 (zipD ds es) where
  stop := fun i H st h => ⟨vs, us, SqT.of (st _ _ e n), SqT.of (st _ _ e' n'), by rw [zipD_length] at h; rw [r.length, r'.length]; omega⟩
  go := fun i H d st h => by
    obtain ⟨x, y, e1, e2, _⟩ := zip_get h
    obtain ⟨v, e3, _⟩ := r.get e1
    obtain ⟨u, e4, _⟩ := r'.get e2
    exact ⟨vs, us, v, u, SqT.of (st _ _ e n), SqT.of (st _ _ e' n'), e3, e4⟩
  yld := fun i H d st h v H' ⟨T, x0, y0, e1, e2, e3, f, f'⟩ => by
    obtain ⟨x, y, e4, e5, rfl⟩ := zip_get h
    obtain ⟨v1, e6, r2⟩ := r.get e4
    obtain ⟨u1, e7, r3⟩ := r'.get e5
    have e8 := f vs (SqT.of (st _ _ e n))
    have e9 := f' us (SqT.of (st _ _ e' n'))
    rw [e6] at e8; cases e8
    rw [e7] at e9; cases e9
    subst e1 e3
    refine ⟨.inr ⟨T, _, e2, rfl⟩, fun B hb ht => ?_⟩
    have go : ∀ {v d}, Rep ad H1 A v d → Rep ad (upd H T (.tup [x0, y0])) B v d := fun {v d} q => q.of fun b y eb nb => ⟨by
      have q := st b y eb nb
      rw [upd_ne (ne_of_none q e2)]
      exact q, fun z => (hb b z).elim nb fun q => by rw [q] at eb; cases eb⟩
    exact .tup upd_same (fun z => ht _ z e2) (.cons (go r2) (.cons (go r3) .nil))
end
section
variable {X : Cx} {w : Wd} {tg e e2 : Expr} {m m2 : Rho → Mo w.S D} {ms : Rho → Mo w.S (List D)} {pos p tpos : Pos} {elts : List Expr} {kk : Nat}
def seqD (d : D) : Option (List D) := match d with | .lst ds => some ds | .tup ds => some ds | _ => none
/-- a list or a tuple -/
theorem vi_seq (h : VE X w e m) : VI X w tg e (fun ρ => bd (m ρ) fun d => up (seqD d)) := (PI.or (pi_list h) (pi_tup h)).imp fun σ H R ⟨H0, W, o, ρ, s, ds, s', G, e, q⟩ => by
  obtain ⟨d, s1, e1, f⟩ := bd_some e
  obtain ⟨f', rfl⟩ := up_some f
  unfold seqD at f'
  split at f'
  · cases f'
    refine .inl ⟨H0, W, o, ρ, s, _, _, G, e1, fun v H1 x1 k1 r1 => ?_⟩
    cases r1 with
    | lst h1 h2 h3 => exact ⟨_, rfl, ⟨_, SqL.of h1⟩, q _ H1 x1 k1 (src_list h1 h2 h3)⟩
  · cases f'
    refine .inr ⟨H0, W, o, ρ, s, _, _, G, e1, fun v H1 x1 k1 r1 => ?_⟩
    cases r1 with
    | tup h1 h2 h3 => exact ⟨_, rfl, ⟨_, SqT.of h1⟩, q _ H1 x1 k1 (src_tup h1 h2 h3)⟩
  · cases f'
def big (j : Int) : Bool := decide (-(2 ^ 62) ≤ j) && decide (j < 2 ^ 62)
theorem big_of {j : Int} (h : big j = true) : -(2 ^ 62) ≤ j ∧ j < 2 ^ 62 := by
  unfold big at h
  simp only [Bool.and_eq_true, decide_eq_true_eq] at h
  exact h
def rng1 : List D → Option (List D)
  | [.int j] => if big j then some (rngD 0 j.toNat) else none
  | _ => none
theorem vi_range1 (hm : X.mg "range" = none) (ha : VEs X w [e] ms) (hg : Gl X "range" := by rfl) (hs : starEach [e] X.env = [(false, eval e X.env)] := by rfl) : VI X w tg (.Call (.Name "range" p) [e] [] pos) (cb rng1 ms) :=
  (pi_range1 hg hm ha hs).imp fun σ H R ⟨H0, W, o, ρ, s, ds, s', G, e, q⟩ => by
    obtain ⟨d, s1, e1, f⟩ := bd_some e
    obtain ⟨f', rfl⟩ := up_some f
    unfold rng1 at f'
    split at f'
    · split at f'
      · rename_i hb
        cases f'
        refine ⟨H0, W, o, ρ, s, _, _, G, e1, fun vs H1 x1 k1 r1 => ?_⟩
        cases r1 with
        | cons a b =>
          cases a; cases b
          exact ⟨_, rfl, (big_of hb).1, (big_of hb).2, q _ H1 x1 k1 src_rng⟩
      · cases f'
    · cases f'
def rng2 : List D → Option (List D)
  | [.int i, .int j] => if big i && big j then some (rngD i (j - i).toNat) else none
  | _ => none
theorem vi_range2 (hm : X.mg "range" = none) (ha : VEs X w [e, e2] ms) (hg : Gl X "range" := by rfl) (hs : starEach [e, e2] X.env = [(false, eval e X.env), (false, eval e2 X.env)] := by rfl) (hs2 : starEach [e2] X.env = [(false, eval e2 X.env)] := by rfl) : VI X w tg (.Call (.Name "range" p) [e, e2] [] pos) (cb rng2 ms) :=
  (pi_range2 hg hm ha hs hs2).imp fun σ H R ⟨H0, W, o, ρ, s, ds, s', G, e, q⟩ => by
    obtain ⟨d, s1, e1, f⟩ := bd_some e
    obtain ⟨f', rfl⟩ := up_some f
    unfold rng2 at f'
    split at f'
    · split at f'
      · rename_i hb
        cases f'
        simp only [Bool.and_eq_true] at hb
        refine ⟨H0, W, o, ρ, s, _, _, G, e1, fun vs H1 x1 k1 r1 => ?_⟩
        cases r1 with
        | cons a b =>
          cases a
          cases b with
          | cons c d =>
            cases c; cases d
            exact ⟨_, _, rfl, ⟨(big_of hb.1).1, (big_of hb.1).2, (big_of hb.2).1, (big_of hb.2).2⟩, q _ H1 x1 k1 src_rng⟩
      · cases f'
    · cases f'
def zip2 : List D → Option (List D)
  | [.lst ds, .lst es] => some (zipD ds es)
  | [.tup ds, .tup es] => some (zipD ds es)
  | _ => none
theorem vi_zip (hm : X.mg "zip" = none) (ha : VEs X w [e, e2] ms) (hg : Gl X "zip" := by rfl) (hs : starEach [e, e2] X.env = (false, eval e X.env) :: starEach [e2] X.env := by rfl) (hpl : (backTo pos (starEach [e2] X.env)).any (·.1) = false := by rfl) :
    VI X w (.Tuple elts kk tpos) (.Call (.Name "zip" p) [e, e2] [] pos) (cb zip2 ms) :=
  (RZ.pi_zipA hg hm ha hs hpl).imp fun σ H R ⟨H0, W, o, ρ, s, ds, s', G, e, q⟩ => by
    obtain ⟨d, s1, e1, f⟩ := bd_some e
    obtain ⟨f', rfl⟩ := up_some f
    unfold zip2 at f'
    split at f'
    · cases f'
      refine ⟨H0, W, o, ρ, s, _, _, G, e1, fun vs H1 x1 k1 r1 => ?_⟩
      cases r1 with
      | cons a b =>
        cases b with
        | cons c d =>
          cases d
          cases a with
          | lst h1 h2 h3 => cases c with
            | lst h4 h5 h6 => exact ⟨_, _, _, _, rfl, .inl ⟨SqL.of h1, SqL.of h4, q _ H1 x1 k1 (src_zip h1 h2 h3 h4 h5 h6)⟩⟩
    · cases f'
      refine ⟨H0, W, o, ρ, s, _, _, G, e1, fun vs H1 x1 k1 r1 => ?_⟩
      cases r1 with
      | cons a b =>
        cases b with
        | cons c d =>
          cases d
          cases a with
          | tup h1 h2 h3 => cases c with
            | tup h4 h5 h6 => exact ⟨_, _, _, _, rfl, .inr ⟨SqT.of h1, SqT.of h4, q _ H1 x1 k1 (src_zipT h1 h2 h3 h4 h5 h6)⟩⟩
    · cases f'
def enumL : List D → Option (List D)
  | [.lst ds] => some (enumD 0 ds)
  | _ => none
theorem vi_enumL (hm : X.mg "enumerate" = none) (ha : VEs X w [e] ms) (hg : Gl X "enumerate" := by rfl) (hs : starEach [e] X.env = [(false, eval e X.env)] := by rfl) : VI X w (.Tuple elts kk tpos) (.Call (.Name "enumerate" p) [e] [] pos) (cb enumL ms) :=
  (pi_enum hg hm ha hs).imp fun σ H R ⟨H0, W, o, ρ, s, ds, s', G, e, q⟩ => by
    obtain ⟨d, s1, e1, f⟩ := bd_some e
    obtain ⟨f', rfl⟩ := up_some f
    unfold enumL at f'
    split at f'
    · cases f'
      refine ⟨H0, W, o, ρ, s, _, _, G, e1, fun vs H1 x1 k1 r1 => ?_⟩
      cases r1 with
      | cons a b =>
        cases b
        cases a with
        | lst h1 h2 h3 => exact ⟨_, _, rfl, SqL.of h1, q _ H1 x1 k1 (src_enum h1 h2 h3)⟩
    · cases f'
end

/-! ### for -/
section
variable {w : Wd} {H0 : Base} {H H' : Hp} {W : Addr → Prop} {o o' : Own} {ρ ρ' : Rho} {s s' : w.S} {σ σ' : L2.St}
/-- the block's base: what stands now -/
abbrev now (H : Hp) (o : Own) : Base := ⟨H, fun a => ∃ i, o i = some a⟩
theorem Gd.inner (G : Gd w H0 W o ρ s σ H) : Gd w (now H o) W o ρ s σ H where
  len := G.len
  sub := G.sub
  trk := fun a h => G.tracked (.inl h)
  frm := fun _ _ h _ _ => h
  lic := fun a ⟨i, h⟩ => G.own_W h
  ok := G.ok
  val := G.val
  own := G.own
  inj := G.inj
  new := fun i a h => .inr ⟨i, h⟩
  live := G.live
theorem Gd.frm_outer (G : Gd w H0 W o ρ s σ H) {a : Addr} {x : HO} (h : H0.hp a = some x) (n : ¬ w.mine a) (l : ¬ H0.lic a) : H a = some x ∧ ¬ ∃ i, o i = some a := by
  refine ⟨G.frm a x h n l, fun ⟨i, e⟩ => ?_⟩
  rcases G.new i a e with q | q
  · rw [q] at h; cases h
  · exact l q
theorem Gd.new_outer (G : Gd w H0 W o ρ s σ H) {a : Addr} (h : H a = none ∨ ∃ i, o i = some a) : H0.hp a = none ∨ H0.lic a := by
  rcases h with h | ⟨i, h⟩
  · exact G.fresh h
  · exact G.new i a h
theorem Gd.outer (G : Gd w H0 W o ρ s σ H) (G' : Gd w (now H o) W o' ρ' s' σ' H') : Gd w H0 W o' ρ' s' σ' H' where
  len := G'.len
  sub := G.sub
  trk := G.trk
  frm := fun a x h n l => by
    obtain ⟨h1, h2⟩ := G.frm_outer h n l
    exact G'.frm a x h1 n h2
  lic := G.lic
  ok := G'.ok
  val := G'.val
  own := G'.own
  inj := G'.inj
  new := fun i a h => G.new_outer (G'.new i a h)
  live := G'.live
theorem post_inner {E : Ends} {out : Out w.S} (G : Gd w H0 W o ρ s σ H) (p : post w H0 W E out) : post w (now H o) W E out := by
  cases out with
  | nx ρ s => exact fun o σ H G' => p o σ H (G.outer G')
  | bk ρ s => exact fun o σ H G' => p o σ H (G.outer G')
  | ct ρ s => exact fun o σ H G' => p o σ H (G.outer G')
  | rt d s =>
    refine fun v H hf k r => p v H (fun a x h n l => ?_) k r
    obtain ⟨h1, h2⟩ := G.frm_outer h n l
    exact hf a x h1 n h2
  | rf d s =>
    refine fun a vs H hf k hn h' r => p a vs H (fun a x h n l => ?_) k (G.new_outer hn) h' r
    obtain ⟨h1, h2⟩ := G.frm_outer h n l
    exact hf a x h1 n h2
end
def loopD {S : Type} (b : D → Rho → Option Rho) (mb : Ms S) : List D → Ms S
  | [], ρ, s => some (.nx ρ s)
  | d :: ds, ρ, s => match b d ρ with
    | none => none
    | some ρ1 => match mb ρ1 s with
      | some (.nx ρ' s') => loopD b mb ds ρ' s'
      | some (.ct ρ' s') => loopD b mb ds ρ' s'
      | some (.bk ρ' s') => some (.nx ρ' s')
      | some (.rt d s') => some (.rt d s')
      | some (.rf ds s') => some (.rf ds s')
      | none => none
def mFor {S : Type} (mi : Rho → Mo S (List D)) (b : D → Rho → Option Rho) (mb : Ms S) : Ms S := fun ρ s => match mi ρ s with | some (ds, s') => loopD b mb ds ρ s' | none => none
section
variable {X : Cx} {w : Wd} {tg it c : Expr} {body : List Stmt} {mi : Rho → Mo w.S (List D)} {b : D → Rho → Option Rho} {mb : Ms w.S} {sl : List Nat} {pos : Pos} {q : Rho → Mo w.S Bool}
theorem yld_ext {ad : Nat → Addr} {H H' : Hp} (h : H' = H ∨ ∃ p x, H p = none ∧ H' = upd H p x) {s : w.S} (k : w.ok s H) : Ext w H H' ∧ w.ok s H' := by
  rcases h with rfl | ⟨p, x, hp, rfl⟩
  · exact ⟨Ext.refl _, k⟩
  · exact ⟨Ext.new hp, w.keep k fun a ha => upd_ne fun z => by subst z; exact w.trk k ha hp⟩
theorem vs_for (hp : PassesOwn (model X.prog X.w) X.A X.env X.xe) (hc : X.calm = true) (hi : VI X w tg it mi) (hg : VG X w tg sl b) (hb : VSs X w body mb) (hs : ∀ x, foldedSetIterable it X.env x = pure x := by intro _; rfl) : VS X w (.For tg it body [] pos) (mFor mi b mb) := by
  obtain ⟨g, pg, kg⟩ := hg.ex
  refine (ps_for hp hc hi pg hb hs).imp fun E σ H ⟨H0, W, o, ρ, s, out, G, e, p⟩ => ?_
  unfold mFor at e
  split at e
  · rename_i ds s1 e1
    refine ⟨H0, W, o, ρ, s, ds, s1, G, e1, fun J H1 x1 k1 src => ?_⟩
    have G1 := G.ext x1 k1
    refine ⟨fun i m σ H => m = ds.length - i ∧ i ≤ ds.length ∧ ∃ o' ρ' s', Gd w (now H1 o) W o' ρ' s' σ H ∧ loopD b mb (ds.drop i) ρ' s' = some out, ⟨ds.length, by simp, Nat.zero_le _, o, ρ, s1, G1.inner, by simpa using e⟩, ?_⟩
    rintro i m σ2 H2 ⟨rfl, hle, o', ρ', s', G', el⟩
    have st : Stb (Av W o) H1 H2 := fun a x h n => G'.frm a x h (fun z => n (.inl (G.sub a z))) fun ⟨j, z⟩ => n (.inr ⟨j, z⟩)
    by_cases hlt : i < ds.length
    · have hd : ds[i]? = some ds[i] := List.getElem?_eq_getElem hlt
      rw [List.drop_eq_getElem_cons hlt] at el
      unfold loopD at el
      refine .inr ⟨src.go i H2 _ st hd, fun σ' H' => ∃ o' ρ' s', Gd w (now H1 o) W o' ρ' s' σ' H' ∧ loopD b mb (ds.drop (i + 1)) ρ' s' = some out, fun σ' H' h => ⟨ds.length - (i + 1), by omega, rfl, hlt, h⟩, fun v H3 hy => ?_⟩
      obtain ⟨hh, hr⟩ := src.yld i H2 _ st hd v H3 hy
      obtain ⟨x3, k3⟩ := yld_ext (ad := w.ad) hh G'.ok
      have G3 := G'.ext x3 k3
      have r := hr (Av W o') (fun a z => by
        rcases z with z | ⟨j, z⟩
        · exact .inl (.inl z)
        · rcases G'.new j a z with q | q
          · exact .inr q
          · exact .inl (.inr q)) (fun a z => G'.tracked z)
      split at el
      · cases el
      · rename_i ρ1 eb
        refine kg G3 r eb fun o4 σ4 _ _ _ G4 => ?_
        split at el
        · rename_i ρ5 s5 em
          exact ⟨_, W, o4, ρ1, s', _, G4, em, fun o6 σ6 H6 G6 => ⟨o6, ρ5, s5, G6, el⟩⟩
        · rename_i ρ5 s5 em
          exact ⟨_, W, o4, ρ1, s', _, G4, em, fun o6 σ6 H6 G6 => ⟨o6, ρ5, s5, G6, el⟩⟩
        · rename_i ρ5 s5 em
          cases el
          exact ⟨_, W, o4, ρ1, s', _, G4, em, fun o6 σ6 H6 G6 => p o6 σ6 H6 (G1.outer G6)⟩
        · rename_i d5 s5 em
          cases el
          exact ⟨_, W, o4, ρ1, s', _, G4, em, post_inner (E := E) G1 p⟩
        · rename_i d5 s5 em
          cases el
          exact ⟨_, W, o4, ρ1, s', _, G4, em, post_inner (E := E) G1 p⟩
        · cases el
    · rw [List.drop_eq_nil_of_le (by omega)] at el
      cases el
      exact .inl ⟨src.stop i H2 st (by omega), p o' σ2 H2 (G1.outer G')⟩
  · cases e

/-! ### while -/
def loopW {S : Type} (q : Rho → Mo S Bool) (mb : Ms S) : Nat → Ms S
  | 0, _, _ => none
  | n + 1, ρ, s => match q ρ s with
    | none => none
    | some (false, s') => some (.nx ρ s')
    | some (true, s1) => match mb ρ s1 with
      | some (.nx ρ' s') => loopW q mb n ρ' s'
      | some (.ct ρ' s') => loopW q mb n ρ' s'
      | some (.bk ρ' s') => some (.nx ρ' s')
      | some (.rt d s') => some (.rt d s')
      | some (.rf ds s') => some (.rf ds s')
      | none => none
theorem vs_while (fuel : Rho → w.S → Nat) (hp : PassesOwn (model X.prog X.w) X.A X.env X.xe) (hc : VQ X w c q) (hb : VSs X w body mb) : VS X w (.While c body [] pos) (fun ρ s => loopW q mb (fuel ρ s) ρ s) := by
  refine (ps_while hp hc hb).imp fun E σ H ⟨H0, W, o, ρ, s, out, G, e, p⟩ => ?_
  refine ⟨fun m σ H => ∃ o' ρ' s', Gd w H0 W o' ρ' s' σ H ∧ loopW q mb m ρ' s' = some out, ⟨_, o, ρ, s, G, e⟩, ?_⟩
  rintro m σ1 H1 ⟨o', ρ', s', G', el⟩
  cases m with
  | zero => cases el
  | succ m =>
    unfold loopW at el
    split at el
    · cases el
    · rename_i s2 eq
      cases el
      exact ⟨H0, W, o', ρ', s', false, s2, G', eq, fun H2 x2 k2 => iteF (p o' σ1 H2 (G'.ext x2 k2))⟩
    · rename_i s2 eq
      refine ⟨H0, W, o', ρ', s', true, s2, G', eq, fun H2 x2 k2 => iteT ?_⟩
      have G2 := G'.ext x2 k2
      refine ⟨fun σ' H' => ∃ o' ρ' s', Gd w H0 W o' ρ' s' σ' H' ∧ loopW q mb m ρ' s' = some out, fun σ' H' h => ⟨m, Nat.lt_succ_self _, h⟩, ?_⟩
      split at el
      · rename_i ρ5 s5 em
        exact ⟨H0, W, o', ρ', s2, _, G2, em, fun o6 σ6 H6 G6 => ⟨o6, ρ5, s5, G6, el⟩⟩
      · rename_i ρ5 s5 em
        exact ⟨H0, W, o', ρ', s2, _, G2, em, fun o6 σ6 H6 G6 => ⟨o6, ρ5, s5, G6, el⟩⟩
      · rename_i ρ5 s5 em
        cases el
        exact ⟨H0, W, o', ρ', s2, _, G2, em, fun o6 σ6 H6 G6 => p o6 σ6 H6 G6⟩
      · rename_i d5 s5 em
        cases el
        exact ⟨H0, W, o', ρ', s2, _, G2, em, p⟩
      · rename_i d5 s5 em
        cases el
        exact ⟨H0, W, o', ρ', s2, _, G2, em, p⟩
      · cases el
end
end Rr

set_option Elab.async false
set_option linter.all false
set_option maxRecDepth 100000
set_option maxHeartbeats 1000000
/-! The layer of data: list comprehensions. -/
namespace Rr
open PySem PySem.Spec L2

def wipeE (ρ : Rho) : List Nat → Rho
  | [] => ρ
  | v :: vs => (wipeE ρ vs).set v none
theorem wipeE_length (ρ : Rho) : ∀ vs, (wipeE ρ vs).length = ρ.length
  | [] => rfl
  | v :: vs => by unfold wipeE; rw [List.length_set, wipeE_length ρ vs]
theorem wipeE_get (ρ : Rho) (vs : List Nat) (j : Nat) : (wipeE ρ vs)[j]? = if j ∈ vs then (if j < ρ.length then some none else none) else ρ[j]? := by
  induction vs with
  | nil => simp [wipeE]
  | cons v vs ih =>
    unfold wipeE
    by_cases e : j = v
    · subst e
      rw [if_pos List.mem_cons_self]
      by_cases hl : j < ρ.length
      · rw [List.getElem?_set_self (by rw [wipeE_length]; exact hl), if_pos hl]
      · rw [List.getElem?_eq_none (by rw [List.length_set, wipeE_length]; omega), if_neg hl]
    · rw [List.getElem?_set_ne (Ne.symm e), ih]
      simp only [List.mem_cons, e, false_or]
theorem wipe_wipe (σ : L2.St) (vs : List Nat) : wipe (wipe σ vs) vs = wipe σ vs := by
  apply List.ext_getElem?
  intro j
  rw [wipe_get, wipe_get, wipe_length]
  split <;> rfl
theorem wipeE_some {ρ : Rho} {vs : List Nat} {j : Nat} {x : Sl} (h : (wipeE ρ vs)[j]? = some (some x)) : ρ[j]? = some (some x) ∧ j ∉ vs := by
  rw [wipeE_get] at h
  split at h
  · split at h <;> cases h
  · exact ⟨h, by assumption⟩
def clean (vs : List Nat) (ρ : Rho) : Bool := vs.all fun i => match ρ[i]? with | some (some (.own _)) => false | _ => true
theorem clean_of {vs : List Nat} {ρ : Rho} (h : clean vs ρ = true) {i : Nat} {ds : List D} (e : ρ[i]? = some (some (.own ds))) : i ∉ vs := fun hm => by
  have q := List.all_eq_true.mp h i hm
  rw [e] at q
  cases q
/-- one clause's turn -/
def tst {S : Type} (qt : Rho → Mo S Bool) (me : Rho → Mo S (List D)) : Rho → Mo S (List D) := fun ρ s => match qt ρ s with
  | some (true, s1) => me ρ s1
  | some (false, s1) => some ([], s1)
  | none => none
def item1 {S : Type} (b : D → Rho → Option Rho) (qt : Rho → Mo S Bool) (me : Rho → Mo S (List D)) : D → Rho → Mo S (List D) := fun d ρ s => match b d ρ with
  | none => none
  | some ρ1 => tst qt me ρ1 s
def one {S : Type} (me : Rho → Mo S D) : Rho → Mo S (List D) := fun ρ => bd (me ρ) fun x => rt [x]
def lcG {S : Type} (item : D → Rho → Mo S (List D)) : List D → Rho → Mo S (List D)
  | [], _ => rt []
  | d :: ds, ρ => bd (item d ρ) fun xs => bd (lcG item ds ρ) fun ys => rt (xs ++ ys)
def mLc {S : Type} (mi : Rho → Mo S (List D)) (vs : List Nat) (item : D → Rho → Mo S (List D)) : Rho → Mo S (List D) := fun ρ s => if clean vs ρ then bd (mi ρ) (fun ds => bd (lcG item ds (wipeE ρ vs)) fun xs => up (sz xs)) s else none

section
variable {w : Wd} {H0 : Base} {H H' : Hp} {W : Addr → Prop} {o o' : Own} {ρ ρ' : Rho} {s s' : w.S} {σ σ' : L2.St}
/-- the block of a comprehension begins: its new list at p is not to be met -/
theorem Gd.block (G : Gd w H0 W o ρ s σ H) {p : Addr} (hp : H p = none) (x : HO) {vs : List Nat} (hc : clean vs ρ = true) :
    Gd w (now (upd H p x) o) (fun a => W a ∨ a = p) o (wipeE ρ vs) s (wipe σ vs) (upd H p x) := by
  have k : w.ok s (upd H p x) := w.keep G.ok fun a ha => upd_ne fun z => by subst z; exact w.trk G.ok ha hp
  have sp : ∀ a y, H a = some y → upd H p x a = some y ∧ a ≠ p := fun a y e => ⟨by rw [upd_ne (ne_of_none e hp)]; exact e, ne_of_none e hp⟩
  have av : ∀ a, Av (fun a => W a ∨ a = p) o a → Av W o a ∨ a = p := fun a z => by
    rcases z with (z | z) | z
    · exact .inl (.inl z)
    · exact .inr z
    · exact .inl (.inr z)
  have rr : ∀ {v d}, Rep w.ad H (Av W o) v d → Rep w.ad (upd H p x) (Av (fun a => W a ∨ a = p) o) v d := fun {v d} q => q.of fun a y e n => ⟨(sp a y e).1, fun z => (av a z).elim n (sp a y e).2⟩
  have rrl : ∀ {v d}, RepL w.ad H (Av W o) v d → RepL w.ad (upd H p x) (Av (fun a => W a ∨ a = p) o) v d := fun {v d} q => q.of fun a y e n => ⟨(sp a y e).1, fun z => (av a z).elim n (sp a y e).2⟩
  have tr : ∀ a, Av W o a → a ≠ p := fun a z e => G.tracked z (by rw [e]; exact hp)
  exact {
    len := by rw [wipeE_length, wipe_length]; exact G.len
    sub := fun a z => .inl (G.sub a z)
    trk := fun a z => by
      show upd H p x a ≠ none
      rcases z with z | z
      · rw [upd_ne (tr a (.inl z))]; exact G.tracked (.inl z)
      · subst z; rw [upd_same]; exact Option.some_ne_none _
    frm := fun _ _ h _ _ => h
    lic := fun a ⟨i, h⟩ z => z.elim (G.own_W h) fun e => tr a (.inr ⟨i, h⟩) e
    ok := k
    val := fun i d h => by
      obtain ⟨h1, h2⟩ := wipeE_some h
      obtain ⟨v, h3, h4⟩ := G.val i d h1
      exact ⟨v, by rw [wipe_get, if_neg h2]; exact h3, rr h4⟩
    own := fun i ds h => by
      obtain ⟨h1, h2⟩ := wipeE_some h
      obtain ⟨a, us, h3, h4, h5, h6⟩ := G.own i ds h1
      exact ⟨a, us, h3, by rw [wipe_get, if_neg h2]; exact h4, (sp a _ h5).1, rrl h6⟩
    inj := G.inj
    new := fun i a h => .inr ⟨i, h⟩
    live := fun i a h => by
      obtain ⟨ds, e⟩ := G.live i a h
      exact ⟨ds, by rw [wipeE_get, if_neg (clean_of hc e)]; exact e⟩ }
/-- what is not to be met is changed -/
theorem Gd.mutW (G : Gd w H0 W o ρ s σ H) {p : Addr} (hW : W p) (hm : ¬ w.mine p) (x : HO) : Gd w (now (upd H p x) o) W o ρ s σ (upd H p x) := by
  have k : w.ok s (upd H p x) := w.keep G.ok fun a ha => upd_ne fun z => hm (by rw [← z]; exact ha)
  have rr : ∀ {v d}, Rep w.ad H (Av W o) v d → Rep w.ad (upd H p x) (Av W o) v d := fun {v d} q => q.of fun a y e n => ⟨by rw [upd_ne fun z => n (.inl (by rw [z]; exact hW))]; exact e, n⟩
  have rrl : ∀ {v d}, RepL w.ad H (Av W o) v d → RepL w.ad (upd H p x) (Av W o) v d := fun {v d} q => q.of fun a y e n => ⟨by rw [upd_ne fun z => n (.inl (by rw [z]; exact hW))]; exact e, n⟩
  exact {
    len := G.len
    sub := G.sub
    trk := fun a z => by
      show upd H p x a ≠ none
      by_cases e : a = p
      · subst e; rw [upd_same]; exact Option.some_ne_none _
      · rw [upd_ne e]; exact G.tracked (.inl z)
    frm := fun _ _ h _ _ => h
    lic := fun a ⟨i, h⟩ => G.own_W h
    ok := k
    val := fun i d h => let ⟨v, h1, h2⟩ := G.val i d h; ⟨v, h1, rr h2⟩
    own := fun i ds h => let ⟨a, us, h1, h2, h3, h4⟩ := G.own i ds h; ⟨a, us, h1, h2, by rw [upd_ne fun z => G.own_W h1 (by rw [z]; exact hW)]; exact h3, rrl h4⟩
    inj := G.inj
    new := fun i a h => .inr ⟨i, h⟩
    live := G.live }
end

/-- the state of a comprehension's block between two turns -/
structure Blk (w : Wd) (W : Addr → Prop) (o : Own) (p : Addr) (H1 : Hp) (ρ : Rho) (σ : L2.St) (da : List D) (s : w.S) (H : Hp) : Prop where
  gd : ∃ Hb, Gd w Hb (fun a => W a ∨ a = p) o ρ s σ H
  acc : ∃ acc, H p = some (.lst acc) ∧ RepL w.ad H (Av (fun a => W a ∨ a = p) o) acc da
  ext : Ext w H1 H
section
variable {X : Cx} {w : Wd} {tg iter elt : Expr} {ifs : List Expr} {scope : Scope} {own : List (Str × Nat)} {pos : Pos} {mi : Rho → Mo w.S (List D)} {b : D → Rho → Option Rho} {qt : Rho → Mo w.S Bool} {me : Rho → Mo w.S D} {sl vs : List Nat}
/-- a clause's test and element behind its store: from a good block's slots to what a turn is to reach -/
theorem elt_turn {W : Addr → Prop} {o o4 : Own} {p : Addr} {H1 H3 : Hp} {ρ ρ1 : Rho} {σ σ4 : L2.St} {da xs1 : List D} {s s2 : w.S} {Hb Hb2 : Base} (hp : H1 p = none) (hm : ¬ w.mine p)
    (G : Gd w Hb (fun a => W a ∨ a = p) o ρ s σ H3) (acc : List V) (ha : H3 p = some (.lst acc)) (ra : RepL w.ad H3 (Av (fun a => W a ∨ a = p) o) acc da) (x1 : Ext w H1 H3)
    (ho : ∀ j a, o4 j = some a → o j = some a) (ho2 : ∀ j a, o j = some a → o4 j = some a) (G4 : Gd w Hb2 (fun a => W a ∨ a = p) o4 ρ1 s σ4 H3)
    (e : tst qt (one me) ρ1 s = some (xs1, s2)) (hz : xs1 ≠ [] → da.length < sizeLine) {Nx : Hp → Prop}
    (hN : ∀ H', Blk w W o p H1 ρ σ (da ++ xs1) s2 H' → Nx H') :
    tQ w qt σ4 H3 fun b H5 => if b = true then tV w me σ4 H5 fun y H6 => ∃ acc, H6 p = some (.lst acc) ∧ acc.length < sizeLine ∧ Nx (upd H6 p (.lst (acc ++ [y]))) else Nx H5 := by
  have avo : ∀ a, Av (fun a => W a ∨ a = p) o a → Av (fun a => W a ∨ a = p) o4 a := fun a z => z.elim .inl fun ⟨j, h⟩ => .inr ⟨j, ho2 j a h⟩
  unfold tst at e
  split at e
  · rename_i s3 eq
    obtain ⟨x, s4, em, e'⟩ := bd_some e
    cases e'
    refine ⟨Hb2, _, o4, ρ1, s, true, s3, G4, eq, fun H5 x5 k5 => iteT ⟨Hb2, _, o4, ρ1, s3, x, _, G4.ext x5 k5, em, fun v H6 x6 k6 r6 => ?_⟩⟩
    have x56 := x5.trans x6
    have G6 := G.ext x56 k6
    refine ⟨acc, x56 p _ ha hm, by rw [ra.length]; exact hz (by simp), hN _ ⟨⟨_, G6.mutW (.inr rfl) hm _⟩, ⟨acc ++ [v], upd_same, ?_⟩, (x1.trans x56).mut hp⟩⟩
    have ra6 := G.repLExt x56 ra
    have r6' : Rep w.ad H6 (Av (fun a => W a ∨ a = p) o) v x := r6.mono avo
    refine (ra6.append (.cons r6' .nil)).of fun a y ea n => ⟨?_, n⟩
    rw [upd_ne fun z => n (.inl (.inr z))]
    exact ea
  · rename_i s3 eq
    cases e
    refine ⟨Hb2, _, o4, ρ1, s, false, _, G4, eq, fun H5 x5 k5 => iteF (hN _ ⟨⟨_, G.ext x5 k5⟩, ⟨acc, x5 p _ ha hm, by rw [List.append_nil]; exact G.repLExt x5 ra⟩, x1.trans x5⟩)⟩
  · cases e
theorem lcG_cons {S : Type} {item : D → Rho → Mo S (List D)} {d : D} {ds : List D} {ρ : Rho} {s s' : S} {zs : List D} (h : lcG item (d :: ds) ρ s = some (zs, s')) : ∃ xs ys s1, item d ρ s = some (xs, s1) ∧ lcG item ds ρ s1 = some (ys, s') ∧ zs = xs ++ ys := by
  obtain ⟨xs, s1, e1, f1⟩ := bd_some h
  obtain ⟨ys, s2, e2, f2⟩ := bd_some f1
  cases f2
  exact ⟨xs, ys, s1, e1, e2, rfl⟩
theorem lc_core1 (hsl : ∀ i ∈ sl, i ∈ vs) (σ : L2.St) (H : Hp) (Q : VK) (h : tN w (mLc mi vs (item1 b qt (one me))) σ H Q) : tLc (tI w mi) (tG w sl b) (tQ w qt) (tV w me) vs σ H Q := by
  obtain ⟨H0, W, o, ρ, s, xs, send, G, e, q⟩ := h
  unfold mLc at e
  split at e
  · rename_i hcl
    obtain ⟨ds, s1, e1, f1⟩ := bd_some e
    obtain ⟨xs', s2, e2, f2⟩ := bd_some f1
    obtain ⟨f3, rfl⟩ := up_some f2
    obtain ⟨rfl, hz⟩ := sz_some f3
    refine ⟨H0, W, o, ρ, s, ds, s1, G, e1, fun J H1 x1 k1 src p hp => ?_⟩
    have G1 := G.ext x1 k1
    have hm : ¬ w.mine p := fun z => w.trk k1 z hp
    refine ⟨fun i m H => m = ds.length - i ∧ i ≤ ds.length ∧ ∃ da ys s', Blk w W o p H1 (wipeE ρ vs) (wipe σ vs) da s' H ∧ lcG (item1 b qt (one me)) (ds.drop i) (wipeE ρ vs) s' = some (ys, send) ∧ da ++ ys = xs, ⟨ds.length, by simp, Nat.zero_le _, [], xs, s1, ⟨⟨_, G1.block hp _ hcl⟩, ⟨[], upd_same, .nil⟩, Ext.new hp⟩, by simpa using e2, rfl⟩, ?_⟩
    rintro i m H2 ⟨rfl, hle, da, ys, s', B, el, exs⟩
    obtain ⟨⟨Hb, G2⟩, ⟨acc, ha, ra⟩, x12⟩ := B
    have st : Stb (Av W o) H1 H2 := fun a y h n => x12 a y h fun z => n (.inl (G.sub a z))
    by_cases hlt : i < ds.length
    · have hd : ds[i]? = some ds[i] := List.getElem?_eq_getElem hlt
      rw [List.drop_eq_getElem_cons hlt] at el
      obtain ⟨xs1, ys1, s3, ei, er, rfl⟩ := lcG_cons el
      refine .inr ⟨src.go i H2 _ st hd, fun H' => ∃ da ys s', Blk w W o p H1 (wipeE ρ vs) (wipe σ vs) da s' H' ∧ lcG (item1 b qt (one me)) (ds.drop (i + 1)) (wipeE ρ vs) s' = some (ys, send) ∧ da ++ ys = xs, fun H' h => ⟨ds.length - (i + 1), by omega, rfl, hlt, h⟩, fun v H3 hy => ?_⟩
      obtain ⟨hh, hr⟩ := src.yld i H2 _ st hd v H3 hy
      obtain ⟨x3, k3⟩ := yld_ext (ad := w.ad) hh G2.ok
      have G3 := G2.ext x3 k3
      have r := hr (Av (fun a => W a ∨ a = p) o) (fun a z => by
        rcases z with (z | z) | z
        · exact .inl (.inl z)
        · subst z; exact .inr hp
        · exact .inl (.inr z)) (fun a z => G2.tracked z)
      unfold item1 at ei
      split at ei
      · cases ei
      · rename_i ρ1 eb
        refine ⟨Hb, _, o, wipeE ρ vs, s', ds[i], ρ1, G3, r, eb, fun o4 σ4 ho hb2 hw G4 => ⟨by rw [hw vs hsl, wipe_wipe], ?_⟩⟩
        refine elt_turn (qt := qt) (me := me) hp hm G3 acc (x3 p _ ha hm) (G2.repLExt x3 ra) (x12.trans x3) ho (fun j a h => hb2 j a h fun z => ?_) G4 ei (fun hne => ?_) fun H' B' => ⟨da ++ xs1, ys1, s3, B', er, by rw [List.append_assoc]; exact exs⟩
        · obtain ⟨ds', e5⟩ := G2.live j a h
          exact (wipeE_some e5).2 (hsl j z)
        · rw [← exs, List.length_append, List.length_append] at hz
          have : 0 < xs1.length := List.length_pos_iff.mpr hne
          omega
    · rw [List.drop_eq_nil_of_le (by omega)] at el
      cases el
      refine .inl ⟨src.stop i H2 st (by omega), ?_⟩
      rw [List.append_nil] at exs
      subst exs
      refine q p acc H2 (x1.trans x12) G2.ok (x1.free k1 hp) ha (ra.mono fun a z => ?_)
      rcases z with (z | z) | z
      · exact .inl (.inl z)
      · exact .inr z
      · exact .inl (.inr z)
  · cases e
/-- a clause's tests, as a reading -/
abbrev VTs (X : Cx) (w : Wd) (ifs : List Expr) (q : Rho → Mo w.S Bool) : Prop := PTs X ifs (tQ w q)
theorem _root_.L2.PTs.imp {X : Cx} {e : List Expr} {t t' : TT} (h : PTs X e t) (q : ∀ σ H Q, t' σ H Q → t σ H Q) : PTs X e t' := ⟨fun pins s σ H Q I k => h.run pins s σ H Q I (q σ H Q k)⟩
theorem vts_nil : VTs X w [] (fun _ => rt true) := pts_nil.imp fun σ H Q ⟨H0, W, o, ρ, s, d, s', G, e, q⟩ => by
  cases e
  exact q H (Ext.refl H) G.ok
theorem vts_one {c : Expr} (h : VQ X w c qt) : VTs X w [c] qt := pts_one h
theorem vn_lc (hc : X.calm = true) (hN : X.N.Nodup) (hi : VI X w tg iter mi) (ok : BlkOk X.N X.env.scope scope own)
    (hg : ∀ (s : Shared) (H : Hp) (C : Addr) (cl : List (Str × Addr)) (fp : List Addr), VG (X.blk s H scope (PySem.compEnvC scope cl C X.env) fp) w tg sl b) (ht : ∀ (s : Shared) (H : Hp) (C : Addr) (cl : List (Str × Addr)) (fp : List Addr), VTs (X.blk s H scope (PySem.compEnvC scope cl C X.env) fp) w ifs qt)
    (he : ∀ (s : Shared) (H : Hp) (C : Addr) (cl : List (Str × Addr)) (fp : List Addr), VE (X.blk s H scope (PySem.compEnvC scope cl C X.env) fp) w elt me) (hsl : ∀ i ∈ sl, i ∈ own.map (·.2) := by decide) (hs : ∀ x, foldedSetIterable iter X.env x = pure x := by intro _; rfl) :
    VN X w (.ListComp elt [⟨tg, iter, ifs, 0⟩] scope pos) (mLc mi (own.map (·.2)) (item1 b qt (one me))) :=
  (pe_lc hc hN hi ok (fun s H C cl fp => vg_pg (hg s H C cl fp)) ht he hs).imp (lc_core1 hsl)
/-- x = [..] on one line -/
theorem asg_own {i : Nat} {mn : Rho → Mo w.S (List D)} {t : TE} (ht : ∀ σ H Q, tN w mn σ H Q → t σ H Q) : ∀ E σ H, tS w (mOwn i mn) E σ H → tAsg t (gName i) E σ H := fun E σ H ⟨H0, W, o, ρ, s, out, G, e, p⟩ => by
  unfold mOwn at e
  split at e
  · rename_i hlt
    obtain ⟨⟨d, s'⟩, e1, rfl⟩ := Option.map_eq_some_iff.mp e
    exact ht σ H _ ⟨H0, W, o, ρ, s, d, s', G, e1, fun a vs H' x k hn h' r => p _ _ H' (G.setOwn x k hn h' r i hlt)⟩
  · cases e
theorem asg_val {i : Nat} {mn : Rho → Mo w.S (List D)} {t : TE} (ht : ∀ σ H Q, tN w mn σ H Q → t σ H Q) : ∀ E σ H, tS w (mSet i fun ρ => bd (mn ρ) fun ds => rt (.lst ds)) E σ H → tAsg t (gName i) E σ H := fun E σ H ⟨H0, W, o, ρ, s, out, G, e, p⟩ => by
  obtain ⟨⟨d, s'⟩, e1, rfl⟩ := Option.map_eq_some_iff.mp e
  obtain ⟨ds, s1, e2, e3⟩ := bd_some e1
  cases e3
  exact ht σ H _ ⟨H0, W, o, ρ, s, ds, _, G, e2, fun a vs H' x k hn h' r => p _ _ H' ((G.ext x k).setVal i (.lst h' (G.notAv hn) (r.mono fun b z => .inl z)))⟩
theorem vs_setLc {i : Nat} {y : Str} {py spos : Pos} (hc : X.calm = true) (hN : X.N.Nodup) (hi : VI X w tg iter mi) (ok : BlkOk X.N X.env.scope scope own)
    (hg : ∀ (s : Shared) (H : Hp) (C : Addr) (cl : List (Str × Addr)) (fp : List Addr), VG (X.blk s H scope (PySem.compEnvC scope cl C X.env) fp) w tg sl b) (ht : ∀ (s : Shared) (H : Hp) (C : Addr) (cl : List (Str × Addr)) (fp : List Addr), VTs (X.blk s H scope (PySem.compEnvC scope cl C X.env) fp) w ifs qt)
    (he : ∀ (s : Shared) (H : Hp) (C : Addr) (cl : List (Str × Addr)) (fp : List Addr), VE (X.blk s H scope (PySem.compEnvC scope cl C X.env) fp) w elt me) (hy : X.N[i]? = some y := by rfl) (hyl : X.env.scope.names.lookup y = some .local := by rfl)
    (hsw : swapsWith (.ListComp elt [⟨tg, iter, ifs, 0⟩] scope pos) (some (.Name y py)) spos.line X.env = pure true := by exact sw_true rfl rfl rfl (by decide +kernel)) (hsl : ∀ i ∈ sl, i ∈ own.map (·.2) := by decide) (hs : ∀ x, foldedSetIterable iter X.env x = pure x := by intro _; rfl) :
    VS X w (.Assign [.Name y py] (.ListComp elt [⟨tg, iter, ifs, 0⟩] scope pos) spos) (mSet i fun ρ => bd (mLc mi (own.map (·.2)) (item1 b qt (one me)) ρ) fun ds => rt (.lst ds)) :=
  (ps_setLc hc hN hy hyl hsw hi ok (fun s H C cl fp => vg_pg (hg s H C cl fp)) ht he hs).imp (asg_val (lc_core1 hsl))
theorem vs_ownLc {i : Nat} {y : Str} {py spos : Pos} (hc : X.calm = true) (hN : X.N.Nodup) (hi : VI X w tg iter mi) (ok : BlkOk X.N X.env.scope scope own)
    (hg : ∀ (s : Shared) (H : Hp) (C : Addr) (cl : List (Str × Addr)) (fp : List Addr), VG (X.blk s H scope (PySem.compEnvC scope cl C X.env) fp) w tg sl b) (ht : ∀ (s : Shared) (H : Hp) (C : Addr) (cl : List (Str × Addr)) (fp : List Addr), VTs (X.blk s H scope (PySem.compEnvC scope cl C X.env) fp) w ifs qt)
    (he : ∀ (s : Shared) (H : Hp) (C : Addr) (cl : List (Str × Addr)) (fp : List Addr), VE (X.blk s H scope (PySem.compEnvC scope cl C X.env) fp) w elt me) (hy : X.N[i]? = some y := by rfl) (hyl : X.env.scope.names.lookup y = some .local := by rfl)
    (hsw : swapsWith (.ListComp elt [⟨tg, iter, ifs, 0⟩] scope pos) (some (.Name y py)) spos.line X.env = pure true := by exact sw_true rfl rfl rfl (by decide +kernel)) (hsl : ∀ i ∈ sl, i ∈ own.map (·.2) := by decide) (hs : ∀ x, foldedSetIterable iter X.env x = pure x := by intro _; rfl) :
    VS X w (.Assign [.Name y py] (.ListComp elt [⟨tg, iter, ifs, 0⟩] scope pos) spos) (mOwn i (mLc mi (own.map (·.2)) (item1 b qt (one me)))) :=
  (ps_setLc hc hN hy hyl hsw hi ok (fun s H C cl fp => vg_pg (hg s H C cl fp)) ht he hs).imp (asg_own (lc_core1 hsl))
end
end Rr

set_option Elab.async false
set_option linter.all false
set_option maxRecDepth 100000
set_option maxHeartbeats 1000000
/-! The layer of data: enumerate of a tuple. -/
namespace Rr
open PySem PySem.Spec L2 PyProof.Rows
/-- a tuple is drawn item by item -/
theorem drawsTuple {pr : Program} {wo : World} {ar : Around} (hh : ar.handled = none) (ti tu : Addr) (hne : tu ≠ ti) (ks : Array Value) :
    Draws pr wo ar ti [ti, tu] ks.size (fun j v => ks[j]? = some v) (fun j hp => hp.IsTupleIter ti tu j ∧ hp.IsTuple tu ks) := by
  constructor
  · rintro _ _ ⟨⟨ob, hob, _⟩, _⟩
    exact ⟨ob, hob⟩
  · rintro _ _ _ ⟨h1, ob, hob, hr⟩ hk
    exact ⟨h1.at fun ob q => hk ti (by simp) ob q, ob, hk tu (by simp) ob hob, hr⟩
  · rintro j st Q E hj ⟨h1, h2⟩ hQ
    refine RZ.nextOf_tuple_item h1 h2 (x := ks[j]) (by simp [hj]) fun hp' i' sb => hQ _ hp' st.toks (by simp [hj]) ⟨i', ?_⟩ sb
    obtain ⟨ob, hob, hr⟩ := h2
    exact ⟨ob, (sb.2 tu hne).trans hob, hr⟩
  · rintro st Q E ⟨h1, h2⟩ hE
    exact RZ.nextOf_tuple_end hh h1 h2 (by simp) hE
/-- the enumerate at its end, over a tuple -/
theorem enumT_end {pr : Program} {wo : World} {ar : Around} {E : Value → Shared → Prop} {st : Shared} {en ti tu : Addr} {j : Nat} {ks : Array Value} {old : Value} {c : Int} {Q : Option Value → Shared → Prop} (hh : ar.handled = none)
    (he : IsEnum st.heap en ti c old) (h1 : st.heap.IsTupleIter ti tu j) (h2 : st.heap.IsTuple tu ks) (hx : ks[j]? = none)
    (hQ : ∀ hp', Heap.ExtBut ti st.heap hp' → Q none { st with heap := hp' }) : wpAny (model pr wo) ar (pyNext (.ref en)) Q E st := by
  have hT : st.TypeIs (.ref en) "enumerate" := ⟨_, he, rfl⟩
  have inner : wpAny (model pr wo) ar.in1 (Builtin.SmallTypes.nextOf (.ref ti)) (fun _ _ => False) (fun e s' => ∃ hp', Heap.ExtBut ti st.heap hp' ∧ (∃ ob, hp'.get? (match e with | .ref a => a | _ => 0) = some ob ∧ ob.cls = .type "StopIteration") ∧ (∃ a, e = .ref a) ∧ s' = { st with heap := hp' }) st :=
    RZ.nextOf_tuple_end hh h1 h2 hx fun hp' a x y => ⟨hp', x, y, ⟨a, rfl⟩, rfl⟩
  unfold pyNext
  refine wpAny_bind (wpAny_attempt (wpAny_callSpecial?_slot (name := Str.ofString "__next__") hT F.slot_enumerate_next (wpAny_call_entry F.slot_enumerate_next hT F.entry_enumerate_next ?_ (F.args_enumerate_next_1 _))))
  show wpAny _ _ (field (.ref en) 2 >>= _) _ _ _
  refine wpAny_bind (wpAny_field he rfl (x := .ref ti) rfl (wpAny_bind (wpAny_mono inner (fun _ _ z => False.elim z) ?_)))
  rintro e s' ⟨hp', x, ⟨ob, hob, hc⟩, ⟨a, rfl⟩, rfl⟩
  exact wpAny_bind (wpAny_isInstance (T := "StopIteration") (b := true) ⟨ob, hob, hc⟩ isSubtype_stop (wpAny_pure (hQ hp' x)))
/-- the tuple at a, each item in a new pair -/
def IteT (K : PySem.W.Frag) (a : Addr) : It where
  go j H := ∃ (us : List V) (x : V), SqT K H a us ∧ us[j]? = some x
  yld j H v H' := ∃ T x, v = .ref T ∧ H T = none ∧ H' = upd H T (.tup [.int (j : Nat), x]) ∧ ∀ us, SqT K H a us → us[j]? = some x
  stop j H := ∃ us : List V, SqT K H a us ∧ us.length ≤ j
theorem turn_enumT {pr : Program} {wo : World} {K : PySem.W.Frag} {elts : List Expr} {kk : Nat} {tpos : Pos} (tu en ti : Addr) (hte : tu ≠ en) (hti : tu ≠ ti) :
    Turn pr wo K (.Tuple elts kk tpos) (IteT K tu) [en, ti] en (fun j hp => (∃ old, IsEnum hp en ti ((j : Nat) : Int) old) ∧ hp.IsTupleIter ti tu j ∧ en ≠ ti) := by
  constructor
  · simp
  · rintro j hp ⟨⟨old, he⟩, ⟨ob, hob, _, hdt⟩, _⟩ b hb
    rcases (show b = en ∨ b = ti by simpa using hb) with rfl | rfl
    · exact ⟨_, he, fun v z => nomatch z⟩
    · exact ⟨ob, hob, fun v z => by rw [hdt] at z; cases z⟩
  · rintro j hp hp' ⟨⟨old, he⟩, hi, ne⟩ k
    exact ⟨⟨old, k en (by simp) _ he⟩, hi.at fun ob z => k ti (by simp) ob z, ne⟩
  · rintro X rfl rfl rfl calm j pins st σ H E I hf ⟨⟨old, he⟩, hit, ne⟩ ⟨us, x, hq, hx⟩
    obtain ⟨ks, rv, tp, _⟩ := I.tuple hq
    obtain ⟨u, hu, ru⟩ := rv.get hx
    have le1 : en < st.heap.objs.size := Heap.lt_size he
    have le2 : ti < st.heap.objs.size := let ⟨_, z, _⟩ := hit; Heap.lt_size z
    have hu' : ks.toArray[j]? = some u := by simpa using hu
    have hlt : j < ks.toArray.size := (Array.getElem?_eq_some_iff.mp hu').1
    refine wpAny_pyNext_enum_itemD (drawsTuple (ar := X.A.in1) (I.ok.hd calm) ti tu hti ks.toArray) he ⟨hit, tp⟩ hlt ne (by simp only [List.mem_cons, List.not_mem_nil, or_false, not_or]; exact ⟨ne, hte.symm⟩) fun v hp1 tk hv ho hit' hT _ hk => ?_
    obtain rfl : v = u := Option.some.inj (hv.symm.trans hu')
    refine ⟨_, rfl, wpAny_letOwnedTupleGo_enum (s := { st with heap := hp1, toks := tk + 1 }) ho fun hp2 he2 sb => ?_⟩
    have hT2 : hp2.get? st.heap.objs.size = some { cls := .type "tuple", data := .seq #[.int j tk, v] } := (sb.2 _ (Nat.ne_of_gt le1)).trans hT
    have I1 : Inv X pins σ (upd H st.heap.objs.size (.tup [.int (j : Nat), x])) { st with heap := hp2, toks := tk + 1 } :=
      I.turnedNew (ch := [en, ti]) (fun b ob nb z => (sb.2 b fun y => nb (by simp [y])).trans (hk b ob (fun y => nb (by simp [y])) (fun y => nb (by simp [y])) z)) hf (Nat.le_refl _)
        ⟨by show 2 ≤ sizeLine; decide, [.int j tk, v], .cons ⟨_, rfl⟩ (.cons ru .nil), ⟨_, hT2, rfl, _, rfl⟩⟩
    refine ⟨.ref st.heap.objs.size, _, I1, rfl, ⟨_, x, rfl, I.hok.fresh (Nat.le_refl _), rfl, fun ys hy => by rw [I.tuple_inj hy hq]; exact hx⟩, ⟨⟨v, ?_⟩, hit'.1.at fun ob z => (sb.2 ti ne.symm).trans z, ne⟩, fun b hb => ?_⟩
    · rw [show ((j + 1 : Nat) : Int) = (j : Int) + 1 by omega]; exact he2
    · have lb : b < st.heap.objs.size := by rcases (show b = en ∨ b = ti by simpa using hb) with rfl | rfl <;> assumption
      rw [upd_ne (Nat.ne_of_lt lb)]
      exact (hf b hb).1
  · rintro X rfl rfl rfl calm j pins st σ H E I hf ⟨⟨old, he⟩, hit, ne⟩ ⟨us, hq, hx⟩
    obtain ⟨ks, rv, tp, _⟩ := I.tuple hq
    obtain ⟨f0, f1, f2, f3, f4, f5⟩ := hf ti (by simp)
    have hl := rv.length
    exact enumT_end (I.ok.hd calm) he hit tp (by simp; omega) fun hp' eb => ⟨rfl, I.turned (t' := st.toks) (fun b ob nb z => eb b ob nb z) f0 f1 f3 f4 f5⟩
  · rintro ar j st Q E ⟨⟨_, he⟩, _⟩ h
    exact wpAny_pyIter_enum he h
theorem meets_enumT (tu : Addr) (ks : Array Value) :
    Meets (Builtin.«enumerate.__new__» ⟨[.type "enumerate", .ref tu], []⟩) (fun _ R s => s.heap.IsTuple tu ks ∧
      R (.ok (.ret (.ref (s.heap.push { cls := .type "tuple_iterator", data := .fields #[.ref tu, .int 0 0] }).objs.size)))
        { s with heap := (s.heap.push { cls := .type "tuple_iterator", data := .fields #[.ref tu, .int 0 0] }).push { cls := .type "enumerate", data := .fields #[.none, .bool false, .ref s.heap.objs.size, rawInt 0, .none, .none] } }) :=
  .of_wp fun pr wo ar R st h => by
    obtain ⟨hp, g, d, tk, os⟩ := st
    obtain ⟨hT, h⟩ := h
    have hsub := sub_enumerate
    have hL : Heap.IsTuple (Shared.heap ⟨hp, g, d, tk, os⟩) tu ks := hT
    wp_walk
    refine wpAny_stack_any fun st => wpAny_pure ?_
    split
    · rename_i c _ _ _ _ _
      cases (c == Value.type "enumerate") <;> (wp_walk using wpAny_pyIter_tuple hL; exact ⟨_, rfl, h⟩)
    · wp_walk using wpAny_pyIter_tuple hL
      exact ⟨_, rfl, h⟩
theorem call_enumT {pr : Program} {wo : World} {ar : Around} {E : Value → Shared → Prop} {st : Shared} {tu : Addr} {ks : Array Value} {Q : Value → Shared → Prop} (hT : st.heap.IsTuple tu ks)
    (h : ∀ hp', IsEnum hp' (st.heap.objs.size + 1) st.heap.objs.size 0 .none → hp'.IsTupleIter st.heap.objs.size tu 0 → (∀ b ob, st.heap.get? b = some ob → hp'.get? b = some ob) → Q (.ref (st.heap.objs.size + 1)) { st with heap := hp' }) :
    wpAny (model pr wo) ar (call (.type "enumerate") [.ref tu]) Q E st := by
  refine callType_new F.called_enumerate (by decide) (F.typeCall_enumerate_1 _) (F.newCall_enumerate_1 _) (fun obj => F.args_object_init_2 obj _) F.entry_enumerate_new (meets_enumT tu ks) ⟨hT, ?_⟩
  have sz : (st.heap.push { cls := .type "tuple_iterator", data := .fields #[.ref tu, .int 0 0] }).objs.size = st.heap.objs.size + 1 := Heap.size_push ..
  have top := Heap.get?_push_size (st.heap.push { cls := .type "tuple_iterator", data := .fields #[.ref tu, .int 0 0] }) (o := { cls := .type "enumerate", data := .fields #[.none, .bool false, .ref st.heap.objs.size, rawInt 0, .none, .none] }) rfl
  rw [sz] at top
  show _ ∧ _
  rw [sz]
  exact ⟨⟨_, top, rfl⟩, h _ top ⟨_, Heap.get?_push_of_some _ (Heap.get?_push_size _ rfl), rfl, rfl⟩ fun b ob x => Heap.get?_push_of_some _ (Heap.get?_push_of_some _ x)⟩
def iEnumT (K : PySem.W.Frag) (ta : TA) : TI := fun σ H R => ta σ H fun vs H1 => ∃ a us, vs = [.ref a] ∧ SqT K H1 a us ∧ R (IteT K a) H1
theorem pi_enumT {X : Cx} {e : Expr} {ta : TA} {p pos tpos : Pos} {elts : List Expr} {kk : Nat} (hg : Gl X "enumerate") (hm : X.mg "enumerate" = none) (ha : PA X [e] ta) (hs : starEach [e] X.env = [(false, eval e X.env)] := by rfl) :
    PI X (.Tuple elts kk tpos) (.Call (.Name "enumerate" p) [e] [] pos) (iEnumT X.K ta) := by
  constructor
  intro pins st σ H R I h
  refine Call_ (ld_blt I hg hm boot_enumerate (PyProof.Rows.callWith_type1 (thn (ha.run pos pins st σ H _ I h) fun us s1 ⟨vs, H1, I1, r1, a, xs, ex, hq, q⟩ => ?_) hs rfl))
  subst ex
  rw [Vals.ref1 r1]
  obtain ⟨ks, rv, tp, _⟩ := I1.tuple hq
  have la : a < s1.heap.objs.size := tp.lt
  refine call_enumT tp fun hp' he hit hk => wpAny_pyIter_enum he ?_
  have I2 : Inv X pins σ H1 { s1 with heap := hp' } := I1.kept (t' := s1.toks) hk
  refine ⟨s1.heap.objs.size + 1, [s1.heap.objs.size + 1, s1.heap.objs.size], _, _, H1, rfl, I2, turn_enumT a (s1.heap.objs.size + 1) s1.heap.objs.size (Nat.ne_of_lt (Nat.lt_succ_of_lt la)) (Nat.ne_of_lt la), ⟨⟨.none, he⟩, hit, Nat.succ_ne_self _⟩, fun b hb => ?_, q⟩
  have lb : s1.heap.objs.size ≤ b := by
    rcases (show b = s1.heap.objs.size + 1 ∨ b = s1.heap.objs.size by simpa using hb) with rfl | rfl
    · exact Nat.le_succ _
    · exact Nat.le_refl _
  exact I1.fpOk lb (I1.hok.fresh lb)

section
variable {ad : Nat → Addr} {A : Addr → Prop} {H1 : Hp} {K : PySem.W.Frag}
theorem src_enumT {a : Addr} {vs : List V} {ds : List D} (e : H1 a = some (.tup vs)) (n : ¬ A a) (r : RepL ad H1 A vs ds) : Src ad A (IteT K a) H1 (enumD 0 ds) where
  stop := fun i H st h => ⟨vs, SqT.of (st _ _ e n), by rw [r.length, ← enumD_length 0]; exact h⟩
  go := fun i H d st h => by
    rw [enumD_get] at h
    obtain ⟨d', e1, _⟩ := Option.map_eq_some_iff.mp h
    obtain ⟨v, e2, _⟩ := r.get e1
    exact ⟨vs, v, SqT.of (st _ _ e n), e2⟩
  yld := fun i H d st h v H' ⟨T, x, e1, e2, e3, f⟩ => by
    rw [enumD_get] at h
    obtain ⟨d', e4, e5⟩ := Option.map_eq_some_iff.mp h
    obtain ⟨u, e6, r2⟩ := r.get e4
    have e7 := f vs (SqT.of (st _ _ e n))
    rw [e6] at e7; cases e7
    subst e1 e3 e5
    refine ⟨.inr ⟨T, _, e2, rfl⟩, fun B hb ht => ?_⟩
    refine .tup upd_same (fun z => ht _ z e2) (.cons (by rw [Nat.zero_add]; exact .int _) (.cons ?_ .nil))
    refine r2.of fun b y eb nb => ⟨?_, fun z => (hb b z).elim nb fun q => by rw [q] at eb; cases eb⟩
    have q := st b y eb nb
    rw [upd_ne (ne_of_none q e2)]
    exact q
end
def enumA : List D → Option (List D)
  | [.lst ds] => some (enumD 0 ds)
  | [.tup ds] => some (enumD 0 ds)
  | _ => none
theorem vi_enum {X : Cx} {w : Wd} {e : Expr} {ms : Rho → Mo w.S (List D)} {pos p tpos : Pos} {elts : List Expr} {kk : Nat} (hm : X.mg "enumerate" = none) (ha : VEs X w [e] ms) (hg : Gl X "enumerate" := by rfl) (hs : starEach [e] X.env = [(false, eval e X.env)] := by rfl) :
    VI X w (.Tuple elts kk tpos) (.Call (.Name "enumerate" p) [e] [] pos) (cb enumA ms) :=
  (PI.or (pi_enum hg hm ha hs) (pi_enumT hg hm ha hs)).imp fun σ H R ⟨H0, W, o, ρ, s, ds, s', G, e, q⟩ => by
    obtain ⟨d, s1, e1, f⟩ := bd_some e
    obtain ⟨f', rfl⟩ := up_some f
    unfold enumA at f'
    split at f'
    · cases f'
      refine .inl ⟨H0, W, o, ρ, s, _, _, G, e1, fun vs H1 x1 k1 r1 => ?_⟩
      cases r1 with
      | cons a b =>
        cases b
        cases a with
        | lst h1 h2 h3 => exact ⟨_, _, rfl, SqL.of h1, q _ H1 x1 k1 (src_enum h1 h2 h3)⟩
    · cases f'
      refine .inr ⟨H0, W, o, ρ, s, _, _, G, e1, fun vs H1 x1 k1 r1 => ?_⟩
      cases r1 with
      | cons a b =>
        cases b
        cases a with
        | tup h1 h2 h3 => exact ⟨_, _, rfl, SqT.of h1, q _ H1 x1 k1 (src_enumT h1 h2 h3)⟩
    · cases f'
end Rr

set_option Elab.async false
set_option linter.all false
set_option maxRecDepth 100000
set_option maxHeartbeats 1000000
/-! The layer of data: list comprehensions of any number of clauses. -/
namespace Rr
open PySem PySem.Spec L2 PyProof.Rows

/-! ### one turn of a clause -/
def turnHead (tg : Expr) (ip : Pos) (ifs : List Expr) (env : Env) (it : Value) (inner : Sem PySem.Fin → Sem PySem.Fin) (nxt : Sem PySem.Fin) : Sem PySem.Fin := do
  standAt ip
  let r ← pyNext it
  match r with
  | none => pure (.done .next)
  | some v =>
    letOwnedTupleGo tg it v
    assign tg env v
    let ok ← forIn ifs true fun c r => if r = true then do let ok ← isTrue c env (eval c env); pure (ForInStep.yield ok) else pure (ForInStep.yield r)
    if ok = true then inner nxt else nxt
def innerLast (elt : Expr) (acc : Value) (env : Env) (k : Sem PySem.Fin) : Sem PySem.Fin := do
  (do let x ← eval elt env; let _ ← call (.builtin "list.append") [acc, x]; pure ())
  k
def innerNext (C : Expr) (j : Nat) (iter1 : Expr) (acc : Value) (env : Env) (k : Sem PySem.Fin) : Sem PySem.Fin := do
  let x ← eval iter1 env
  standAt iter1.pos
  let x ← foldedSetIterable iter1 env x
  let y ← holding [x] (pyIter x)
  let _ ← runOwn (.compStart C (j + 1) y acc env) env
  k
theorem turn_last {elt tg iter : Expr} {ifs : List Expr} {gens : List Comprehension} {scope : Scope} {pos : Pos} {j : Nat} {it acc : Value} {env : Env} (hj : gens[j]? = some ⟨tg, iter, ifs, 0⟩) (hj1 : gens[j + 1]? = none) :
    compTurn (.ListComp elt gens scope pos) j it acc env = turnHead tg iter.pos ifs env it (innerLast elt acc env) (again (.compLoop (.ListComp elt gens scope pos) j it acc env)) := by
  unfold compTurn turnHead innerLast
  simp only [hj, hj1]
  rfl
theorem turn_next {elt tg iter tg1 iter1 : Expr} {ifs ifs1 : List Expr} {gens : List Comprehension} {scope : Scope} {pos : Pos} {j : Nat} {it acc : Value} {env : Env} (hj : gens[j]? = some ⟨tg, iter, ifs, 0⟩) (hj1 : gens[j + 1]? = some ⟨tg1, iter1, ifs1, 0⟩) :
    compTurn (.ListComp elt gens scope pos) j it acc env = turnHead tg iter.pos ifs env it (innerNext (.ListComp elt gens scope pos) j iter1 acc env) (again (.compLoop (.ListComp elt gens scope pos) j it acc env)) := by
  unfold compTurn turnHead innerNext
  simp only [hj, hj1, show ((0 : Nat) != 0) = false from rfl, Bool.false_eq_true, if_false]
  rfl
theorem start_ok {pr : Program} {wo : World} {ar : Around} {R : Result → Shared → Prop} {s : Shared} {elt tg iter : Expr} {ifs : List Expr} {gens : List Comprehension} {scope : Scope} {pos : Pos} {j : Nat} {it acc : Value} {env : Env} (hj : gens[j]? = some ⟨tg, iter, ifs, 0⟩)
    (h0 : codeAny (model pr wo) ar (.compLoop (.ListComp elt gens scope pos) j it acc env) R s)
    (h : ∀ E, wpAny (model pr wo) ar (pyIter it) (fun y s' => codeAny (model pr wo) ar (.compLoop (.ListComp elt gens scope pos) j y acc env) R s') E s) : codeAny (model pr wo) ar (.compStart (.ListComp elt gens scope pos) j it acc env) R s := by
  refine codeAny_of_tree ?_
  show wpAny _ _ ((compStart (.ListComp elt gens scope pos) j it acc env).onRaise (fun x => do noteFrame x env; standAt theWindowsPlace)) _ _ s
  refine wpAny_notedAt ?_
  have hc : (clausesOf (.ListComp elt gens scope pos))[j]? = some ⟨tg, iter, ifs, 0⟩ := hj
  unfold compStart
  rw [hc]
  show wpAny _ _ (ask >>= _) _ _ s
  refine wpAny_bind (wpAny_askSetting (wpAny_ite ?_))
  split
  · first
      | exact wpAny_bind (wpAny_pure (wpAny_pure (And.intro rfl h0)))
      | exact wpAny_pure (And.intro rfl h0)
  · first
      | exact wpAny_bind (wpAny_rule (wpAny_bind (wpAny_standAt (wpAny_bind (wpAny_mono (h _) (fun it' s' h' => wpAny_pure (And.intro rfl h')) fun _ _ x => x)))))
      | (refine wpAny_bind (wpAny_rule ?_); show wpAny _ _ (standAt iter.pos >>= _) _ _ s; exact wpAny_bind (wpAny_standAt (wpAny_bind (wpAny_mono (h _) (fun it' s' h' => wpAny_pure (And.intro rfl h')) fun _ _ x => x))))

abbrev Wp (W : Addr → Prop) (p : Addr) : Addr → Prop := fun a => W a ∨ a = p
def del (H : Hp) (p : Addr) : Hp := fun a => if a = p then none else H a
theorem del_self {H : Hp} {p : Addr} : del H p p = none := by unfold del; rw [if_pos rfl]
theorem del_some {H : Hp} {p a : Addr} {x : HO} (h : del H p a = some x) : H a = some x := by
  unfold del at h
  split at h
  · cases h
  · exact h
theorem del_of {H : Hp} {p a : Addr} {x : HO} (h : H a = some x) (n : a ≠ p) : del H p a = some x := by unfold del; rw [if_neg n]; exact h
section
variable {w : Wd} {H0 : Base} {H H' : Hp} {W : Addr → Prop} {o o' : Own} {ρ ρ' : Rho} {s s' : w.S} {σ σ' : L2.St}
theorem Gd.wipe (G : Gd w H0 W o ρ s σ H) {vs : List Nat} (hc : clean vs ρ = true) : Gd w H0 W o (wipeE ρ vs) s (L2.wipe σ vs) H where
  len := by rw [wipeE_length, wipe_length]; exact G.len
  sub := G.sub
  trk := G.trk
  frm := G.frm
  lic := G.lic
  ok := G.ok
  val := fun i d h => by
    obtain ⟨h1, h2⟩ := wipeE_some h
    obtain ⟨v, h3, h4⟩ := G.val i d h1
    exact ⟨v, by rw [wipe_get, if_neg h2]; exact h3, h4⟩
  own := fun i ds h => by
    obtain ⟨h1, h2⟩ := wipeE_some h
    obtain ⟨a, us, h3, h4, h5, h6⟩ := G.own i ds h1
    exact ⟨a, us, h3, by rw [wipe_get, if_neg h2]; exact h4, h5, h6⟩
  inj := G.inj
  new := G.new
  live := fun i a h => by
    obtain ⟨ds, e⟩ := G.live i a h
    exact ⟨ds, by rw [wipeE_get, if_neg (clean_of hc e)]; exact e⟩
/-- all is kept but what stands at p, which is not to be met -/
theorem Gd.but (G : Gd w H0 W o ρ s σ H) {p : Addr} (hW : W p) (x : Ext w (del H p) H') (hp : H' p ≠ none) (k : w.ok s' H') : Gd w (now H' o) W o ρ s' σ H' := by
  have np : ∀ a, ¬ Av W o a → a ≠ p := fun a n z => n (.inl (by rw [z]; exact hW))
  have rr : ∀ {v d}, Rep w.ad H (Av W o) v d → Rep w.ad H' (Av W o) v d := fun {v d} q => q.of fun a y e n => ⟨x a y (del_of e (np a n)) (G.mineAv n), n⟩
  have rrl : ∀ {v d}, RepL w.ad H (Av W o) v d → RepL w.ad H' (Av W o) v d := fun {v d} q => q.of fun a y e n => ⟨x a y (del_of e (np a n)) (G.mineAv n), n⟩
  exact {
    len := G.len
    sub := G.sub
    trk := fun a z => by
      show H' a ≠ none
      by_cases e : a = p
      · rw [e]; exact hp
      · by_cases m : w.mine a
        · exact w.trk k m
        · cases q : H a with
          | none => exact absurd q (G.tracked (.inl z))
          | some y => rw [x a y (del_of q e) m]; exact Option.some_ne_none _
    frm := fun _ _ h _ _ => h
    lic := fun a ⟨i, h⟩ => G.own_W h
    ok := k
    val := fun i d h => let ⟨v, h1, h2⟩ := G.val i d h; ⟨v, h1, rr h2⟩
    own := fun i ds h => let ⟨a, us, h1, h2, h3, h4⟩ := G.own i ds h; ⟨a, us, h1, h2, x a _ (del_of h3 fun z => G.own_W h1 (by rw [z]; exact hW)) (G.own_mine h1), rrl h4⟩
    inj := G.inj
    new := fun i a h => .inr ⟨i, h⟩
    live := G.live }
end
/-- the clauses from the j-th on, run in the block: what they add to the list at p -/
def ClauseOk (X : Cx) (w : Wd) (C tg : Expr) (j : Nat) (vs : List Nat) (item : D → Rho → Mo w.S (List D)) : Prop :=
  ∀ {pins : List (Addr × Obj)} {s : Shared} {σ : L2.St} {H H1 Hs : Hp} {it p : Addr} {fp : List Addr} {tn : Nat → Heap → Prop} {J : It} {ρ : Rho} {sV send : w.S} {da ds xs : List D} {W : Addr → Prop} {o : Own} {Hb : Base} {acc : List V} {R : Result → Shared → Prop},
    L2.Inv X pins σ H s → Turn X.prog X.w X.K tg J fp it tn → tn 0 s.heap → (∀ b ∈ fp, FpOk X pins H b) → Src w.ad (Av (Wp W p) o) J Hs ds → Stb (Av (Wp W p) o) Hs H →
    H1 p = none → ¬ w.mine p → Gd w Hb (Wp W p) o ρ sV σ H → clean vs ρ = true → H p = some (.lst acc) → RepL w.ad H (Av (Wp W p) o) acc da → Ext w H1 H →
    lcG item ds (wipeE ρ vs) sV = some (xs, send) → (da ++ xs).length ≤ sizeLine →
    (∀ s' H', L2.Inv X pins (wipe σ vs) H' s' → Blk w W o p H1 (wipeE ρ vs) (wipe σ vs) (da ++ xs) send H' → R (.ok .next) s') →
    codeAny (model X.prog X.w) X.A (.compLoop C j (.ref it) (.ref p) X.env) R s
section
variable {X : Cx} {w : Wd} {elt tg iter tg1 iter1 : Expr} {ifs ifs1 : List Expr} {gens : List Comprehension} {scope : Scope} {pos : Pos} {j : Nat} {b : D → Rho → Option Rho} {qt : Rho → Mo w.S Bool} {me : Rho → Mo w.S D} {sl vs vs1 : List Nat} {mi1 : Rho → Mo w.S (List D)} {item1' : D → Rho → Mo w.S (List D)}
/-- what a clause's loop keeps, and how a turn of it goes: K is what the test and the rest of a turn have to do -/
theorem clause_loop (hc : X.calm = true) (hx : X.xe = fun _ _ => False) {mr : Rho → Mo w.S (List D)} {inner : Value → Sem PySem.Fin → Sem PySem.Fin}
    (hT : ∀ it acc, compTurn (.ListComp elt gens scope pos) j it acc X.env = turnHead tg iter.pos ifs X.env it (inner acc) (again (.compLoop (.ListComp elt gens scope pos) j it acc X.env)))
    (pg : PG X tg (tG w sl b)) (pt : PTs X ifs (tQ w qt)) (hsl : ∀ i ∈ sl, i ∈ vs)
    (hin : ∀ {pins : List (Addr × Obj)} {s : Shared} {σ4 : L2.St} {H5 H1 : Hp} {p : Addr} {ρ1 : Rho} {sV s2 : w.S} {da xs1 : List D} {W : Addr → Prop} {o o4 : Own} {Hb : Base} {acc : List V} {Z : PySem.Fin → Shared → Prop} {E : Value → Shared → Prop} {nxt : Sem PySem.Fin},
      L2.Inv X pins σ4 H5 s → H1 p = none → ¬ w.mine p → Gd w Hb (Wp W p) o4 ρ1 sV σ4 H5 → H5 p = some (.lst acc) → RepL w.ad H5 (Av (Wp W p) o) acc da → (∀ j a, o4 j = some a → o j = some a) → (∀ j a, o j = some a → o4 j = some a) →
      mr ρ1 sV = some (xs1, s2) → da.length + xs1.length ≤ sizeLine →
      (∀ s' σ' H', L2.Inv X pins σ' H' s' → σ'.length = σ4.length → (∀ (i : Nat) v, i ∉ vs → σ4[i]? = some (some v) → σ'[i]? = some (some v)) → Ext w (del H5 p) H' → w.ok s2 H' → (∃ acc', H' p = some (.lst acc') ∧ RepL w.ad H' (Av (Wp W p) o) acc' (da ++ xs1)) → wpAny (model X.prog X.w) X.A nxt Z E s') →
      wpAny (model X.prog X.w) X.A (inner (.ref p) nxt) Z E s) :
    ClauseOk X w (.ListComp elt gens scope pos) tg j vs (item1 b qt mr) := by
  intro pins s σ H H1 Hs it p fp tn J ρ sV send da ds xs W o Hb acc R I T st0 hfp src stb hp hm G hcl ha ra x1 el hz hR
  have stat : ∀ {H' : Hp}, (∀ b ∈ fp, H' b = none) → ∀ b ∈ fp, FpOk X pins H' b := fun hn b hb => ⟨hn b hb, (hfp b hb).2⟩
  refine codeAny_loop rfl (fun n s' => ∃ i H' da' ys sV', n = ds.length - i ∧ i ≤ ds.length ∧ L2.Inv X pins (wipe σ vs) H' s' ∧ tn i s'.heap ∧ (∀ b ∈ fp, H' b = none) ∧ Blk w W o p H1 (wipeE ρ vs) (wipe σ vs) da' sV' H' ∧ Stb (Av (Wp W p) o) Hs H' ∧
    lcG (item1 b qt mr) (ds.drop i) (wipeE ρ vs) sV' = some (ys, send) ∧ da' ++ ys = da ++ xs) (fun n s5 hI => ?_) ds.length
    ⟨0, H, da, xs, sV, by simp, Nat.zero_le _, I.weak (wipe_length _ _) (fun j v e => (wipe_some e).1), st0, fun b hb => (hfp b hb).1, ⟨⟨_, G.wipe hcl⟩, ⟨acc, ha, ra⟩, x1⟩, stb, by simpa using el, rfl⟩
  obtain ⟨i, H5, da5, ys, s5V, rfl, hle, I5, st5, n5, ⟨⟨Hb5, G5⟩, ⟨acc5, ha5, ra5⟩, x15⟩, stb5, el5, exs⟩ := hI
  show wpAny _ _ ((compTurn (.ListComp elt gens scope pos) j (.ref it) (.ref p) X.env).onRaise (fun x => do noteFrame x X.env; theTreesLotGoes x)) _ _ s5
  refine wpAny_noted ?_
  rw [hT]
  unfold turnHead
  by_cases hlt : i < ds.length
  · have hd : ds[i]? = some ds[i] := List.getElem?_eq_getElem hlt
    rw [List.drop_eq_getElem_cons hlt] at el5
    obtain ⟨xs1, ys1, s6V, ei, er, rfl⟩ := lcG_cons el5
    refine wpAny_bind (wpAny_standAt (wpAny_bind (thnF (T.item X rfl rfl rfl hc i pins s5 _ H5 (fun _ _ => False) I5 (stat n5) st5 (src.go i H5 _ stb5 hd)) fun r s6 ⟨u, hr, h6⟩ => ?_)))
    subst hr
    refine wpAny_bind (thnF h6 fun _ s7 ⟨v, H7, I7, r7, y7, st7, n7⟩ => ?_)
    obtain ⟨hh, hrep⟩ := src.yld i H5 _ stb5 hd v H7 y7
    obtain ⟨x7, k7⟩ := yld_ext (ad := w.ad) hh G5.ok
    have G7 := G5.ext x7 k7
    have rv := hrep (Av (Wp W p) o) (fun a z => .inl z) (fun a z => G5.tracked z)
    have I7' := I7.pinned (stat n7) (T.obj _ _ st7)
    unfold item1 at ei
    split at ei
    · cases ei
    · rename_i ρ1 eb
      have hfe : ∀ {α : Type} {t : Sem α} {Q Q' : α → Shared → Prop} {E : Value → Shared → Prop} {s : Shared}, wpAny (model X.prog X.w) X.A t Q X.xe s → (∀ a s, Q a s → Q' a s) → wpAny (model X.prog X.w) X.A t Q' E s := fun {α t Q Q' E s} h hq => by
        rw [hx] at h
        exact thnF h hq
      refine wpAny_bind (hfe (pg.run _ s7 _ H7 v u (fun σ8 H8 => H8 = H7 ∧ wipe σ8 vs = wipe σ vs ∧ ∃ o4, (∀ j a, o4 j = some a → o j = some a) ∧ (∀ j a, o j = some a → o4 j = some a) ∧ Gd w Hb5 (Wp W p) o4 ρ1 s5V σ8 H7) I7' r7
        ⟨Hb5, _, o, wipeE ρ vs, s5V, ds[i], ρ1, G7, rv, eb, fun o4 σ4 ho hb2 hw G4 => ⟨rfl, by rw [hw vs hsl, wipe_wipe], o4, ho, fun j a h => hb2 j a h fun z => ?_, G4⟩⟩) fun _ s8 ⟨σ8, H8, I8, e8, hw8, o4, ho, ho2, G8⟩ => ?_)
      · obtain ⟨ds', e5⟩ := G5.live j a h
        exact (wipeE_some e5).2 (hsl j z)
      · subst e8
        -- back to the loop
        have l8 : σ8.length = (wipe σ vs).length := by rw [← hw8, wipe_length]
        have fin : ∀ {σ9 : L2.St} {s' : Shared} {H' : Hp} {sv : w.S}, L2.Inv X (pins ++ pinsAt fp s7.heap) σ9 H' s' → σ9.length = σ8.length → (∀ (i : Nat) v, i ∉ vs → σ8[i]? = some (some v) → σ9[i]? = some (some v)) → Ext w (del H8 p) H' → w.ok sv H' → (∃ acc', H' p = some (.lst acc') ∧ RepL w.ad H' (Av (Wp W p) o) acc' (da5 ++ xs1)) → sv = s6V →
            ∃ m, m < ds.length - i ∧ ∃ i H' da' ys sV', m = ds.length - i ∧ i ≤ ds.length ∧ L2.Inv X pins (wipe σ vs) H' s' ∧ tn i s'.heap ∧ (∀ b ∈ fp, H' b = none) ∧ Blk w W o p H1 (wipeE ρ vs) (wipe σ vs) da' sV' H' ∧ Stb (Av (Wp W p) o) Hs H' ∧
              lcG (item1 b qt mr) (ds.drop i) (wipeE ρ vs) sV' = some (ys, send) ∧ da' ++ ys = da ++ xs := fun {σ9 s' H' sv} I' hl9 hk9 xd k' hacc esv => by
          subst esv
          obtain ⟨acc', ha', ra'⟩ := hacc
          have pin' : ∀ b ∈ fp, ∀ ob, s7.heap.get? b = some ob → s'.heap.get? b = some ob ∧ H' b = none := fun b hb ob e =>
            let z := I'.pin (b, ob) (List.mem_append_right _ (List.mem_append_right _ (mem_pinsAt hb e)))
            ⟨z.1, z.2.1⟩
          refine ⟨ds.length - (i + 1), by omega, i + 1, H', da5 ++ xs1, ys1, sv, rfl, hlt, I'.unpinned.weak (by rw [hl9]; exact l8.symm) (fun j v e => ?_), T.keep _ _ _ st7 fun b hb ob e => (pin' b hb ob e).1, fun b hb => ?_, ⟨⟨_, G7.but (.inr rfl) xd (by rw [ha']; exact Option.some_ne_none _) k'⟩, ⟨acc', ha', ra'⟩, fun a y e n => ?_⟩, fun a y e n => ?_, er, by rw [List.append_assoc]; exact exs⟩
          · obtain ⟨e1, e2⟩ := wipe_some e
            refine hk9 j v e2 ?_
            have q : (wipe σ8 vs)[j]? = some (some v) := by rw [hw8]; exact e
            exact (wipe_some q).1
          · obtain ⟨ob, e, _⟩ := T.obj _ _ st7 b hb
            exact (pin' b hb ob e).2
          · exact xd a y (del_of (x7 a y (x15 a y e n) n) fun z => by rw [z, hp] at e; cases e) n
          · refine xd a y (del_of (x7 a y (stb5 a y e n) fun z => n (.inl (.inl (G5.sub a z |>.elim id fun q => absurd (q ▸ z) hm)))) fun z => n (.inl (.inr z))) fun z => n (.inl (.inl (G5.sub a z |>.elim id fun q => absurd (q ▸ z) hm)))
        have ha7 := x7 p _ ha5 hm
        have ra7 := G5.repLExt x7 ra5
        have avo : ∀ a, Av (Wp W p) o a → Av (Wp W p) o4 a := fun a z => z.elim .inl fun ⟨j, h⟩ => .inr ⟨j, ho2 j a h⟩
        unfold tst at ei
        split at ei
        · rename_i s9V eq
          refine wpAny_bind (hfe (pt.run _ s8 σ8 _ (fun t H9 => t = true ∧ Ext w H8 H9 ∧ w.ok s9V H9) I8 ⟨Hb5, _, o4, ρ1, s5V, true, s9V, G8, eq, fun H9 x9 k9 => ⟨rfl, x9, k9⟩⟩) fun t s9 ⟨H9, I9, et, x9, k9⟩ => ?_)
          subst et
          rw [if_pos rfl]
          have x9d : Ext w (del H8 p) (del H9 p) := fun a y e n => del_of (x9 a y (del_some e) n) fun z => by rw [z, del_self] at e; cases e
          refine hin I9 hp hm (G8.ext x9 k9) (x9 p _ ha7 hm) (G7.repLExt x9 ra7) ho ho2 ei ?_ fun s' σ' H' I' hl' hk' xd k' hacc => ?_
          · have := congrArg List.length exs
            simp only [List.length_append] at this hz
            omega
          · exact wpAny_pure ⟨rfl, fin I' hl' hk' (x9d.trans xd) k' hacc rfl⟩
        · rename_i s9V eq
          cases ei
          refine wpAny_bind (hfe (pt.run _ s8 σ8 _ (fun t H9 => t = false ∧ Ext w H8 H9 ∧ w.ok s6V H9) I8 ⟨Hb5, _, o4, ρ1, s5V, false, s6V, G8, eq, fun H9 x9 k9 => ⟨rfl, x9, k9⟩⟩) fun t s9 ⟨H9, I9, et, x9, k9⟩ => ?_)
          subst et
          rw [if_neg (by decide)]
          exact wpAny_pure ⟨rfl, fin I9 rfl (fun _ _ _ h => h) (fun a y e n => x9 a y (del_some e) n) k9 ⟨acc5, x9 p _ ha7 hm, by rw [List.append_nil]; exact G7.repLExt x9 ra7⟩ rfl⟩
        · cases ei
  · rw [List.drop_eq_nil_of_le (by omega)] at el5
    cases el5
    refine wpAny_bind (wpAny_standAt (wpAny_bind (thnF (T.done X rfl rfl rfl hc i pins s5 _ H5 (fun _ _ => False) I5 (stat n5) st5 (src.stop i H5 stb5 (by omega))) fun r s6 ⟨hr, I6⟩ => ?_)))
    subst hr
    rw [List.append_nil] at exs
    subst exs
    exact wpAny_pure (hR s6 H5 I6 ⟨⟨_, G5⟩, ⟨acc5, ha5, ra5⟩, x15⟩)
theorem clause_last (hc : X.calm = true) (hx : X.xe = fun _ _ => False) (hj : gens[j]? = some ⟨tg, iter, ifs, 0⟩) (hj1 : gens[j + 1]? = none) (pg : PG X tg (tG w sl b)) (pt : PTs X ifs (tQ w qt)) (hsl : ∀ i ∈ sl, i ∈ vs) (pe : VE X w elt me) :
    ClauseOk X w (.ListComp elt gens scope pos) tg j vs (item1 b qt (one me)) := by
  refine clause_loop hc hx (inner := fun acc => innerLast elt acc X.env) (fun it acc => turn_last hj hj1) pg pt hsl ?_
  intro pins s σ4 H5 H1 p ρ1 sV s2 da xs1 W o o4 Hb acc Z E nxt I hp hm G ha ra ho ho2 e hz k
  obtain ⟨x, s3, e1, e2⟩ := bd_some e
  cases e2
  have avo : ∀ a, Av (Wp W p) o a → Av (Wp W p) o4 a := fun a z => z.elim .inl fun ⟨j, h⟩ => .inr ⟨j, ho2 j a h⟩
  have run := pe.run pins s σ4 H5 (fun y H6 => Ext w H5 H6 ∧ w.ok s2 H6 ∧ Rep w.ad H6 (Av (Wp W p) o4) y x) I ⟨Hb, _, o4, ρ1, sV, x, s2, G, e1, fun v H6 x6 k6 r6 => ⟨x6, k6, r6⟩⟩
  rw [hx] at run
  show wpAny _ _ ((do let x ← eval elt X.env; let _ ← call (.builtin "list.append") [.ref p, x]; pure ()) >>= fun _ => nxt) _ _ s
  refine wpAny_bind (wpAny_bind (thnF run fun u s6 ⟨v, H6, I6, r6, x6, k6, rr⟩ => ?_))
  have ha6 := x6 p _ ha hm
  have G6 := G.ext x6 k6
  have nav : Av (Wp W p) o p := .inl (.inr rfl)
  have ra6 : RepL w.ad H6 (Av (Wp W p) o) acc da := ra.of fun a y ea n => ⟨x6 a y ea fun z => n (.inl (G.sub a z)), n⟩
  refine wpAny_bind (app_ok I6 ha6 (by rw [ra6.length]; simp only [List.length_singleton] at hz; omega) r6 fun s7 I7 => wpAny_pure ?_)
  refine k s7 σ4 _ I7 rfl (fun _ _ _ h => h) (fun a y e n => ?_) (w.keep k6 fun a z => upd_ne fun q => hm (by rw [← q]; exact z)) ⟨acc ++ [v], upd_same, ?_⟩
  · have na : a ≠ p := fun z => by rw [z, del_self] at e; cases e
    rw [upd_ne na]
    exact x6 a y (del_some e) n
  · refine (ra6.append (.cons (rr.mono avo) .nil)).of fun a y ea n => ⟨?_, n⟩
    rw [upd_ne fun z => n (by rw [z]; exact nav)]
    exact ea
def mIn {S : Type} (mi : Rho → Mo S (List D)) (vs : List Nat) (item : D → Rho → Mo S (List D)) : Rho → Mo S (List D) := fun ρ s => if clean vs ρ then bd (mi ρ) (fun ds => lcG item ds (wipeE ρ vs)) s else none
theorem clause_next (hc : X.calm = true) (hx : X.xe = fun _ _ => False) (hj : gens[j]? = some ⟨tg, iter, ifs, 0⟩) (hj1 : gens[j + 1]? = some ⟨tg1, iter1, ifs1, 0⟩) (pg : PG X tg (tG w sl b)) (pt : PTs X ifs (tQ w qt)) (hsl : ∀ i ∈ sl, i ∈ vs) (hv1 : ∀ i ∈ vs1, i ∈ vs)
    (pi : VI X w tg1 iter1 mi1) (hs : ∀ x, foldedSetIterable iter1 X.env x = pure x) (cl : ClauseOk X w (.ListComp elt gens scope pos) tg1 (j + 1) vs1 item1') : ClauseOk X w (.ListComp elt gens scope pos) tg j vs (item1 b qt (mIn mi1 vs1 item1')) := by
  refine clause_loop hc hx (inner := fun acc => innerNext (.ListComp elt gens scope pos) j iter1 acc X.env) (fun it acc => turn_next hj hj1) pg pt hsl ?_
  intro pins s σ4 H5 H1 p ρ1 sV s2 da xs1 W o o4 Hb acc Z E nxt I hp hm G ha ra ho ho2 e hz k
  unfold mIn at e
  split at e
  · rename_i hcl
    obtain ⟨ds1, s3V, e1, e2⟩ := bd_some e
    have avo : ∀ a, Av (Wp W p) o4 a → Av (Wp W p) o a := fun a z => z.elim .inl fun ⟨j, h⟩ => .inr ⟨j, ho j a h⟩
    have avo2 : ∀ a, Av (Wp W p) o a → Av (Wp W p) o4 a := fun a z => z.elim .inl fun ⟨j, h⟩ => .inr ⟨j, ho2 j a h⟩
    have run := pi.run pins s σ4 H5 (fun J H6 => Ext w H5 H6 ∧ w.ok s3V H6 ∧ Src w.ad (Av (Wp W p) o4) J H6 ds1) I ⟨Hb, _, o4, ρ1, sV, ds1, s3V, G, e1, fun J H6 x6 k6 src => ⟨x6, k6, src⟩⟩
    rw [hx] at run
    unfold innerNext
    refine wpAny_bind (thnF run fun xv s5 hxv => ?_)
    refine wpAny_bind (wpAny_standAt (wpAny_bind (wpAny_of_eq (hs xv) (wpAny_bind (wpAny_holding (thnF hxv fun itv s6 h6 => ?_))))))
    obtain ⟨it1, fp1, tn1, J1, H6, ei, I6, T1, st6, f6, x6, k6, src⟩ := h6
    subst ei
    refine wpAny_bind (wpAny_runOwn ?_)
    rw [Around.mark_none]
    have G6 := G.ext x6 k6
    have ha6 := x6 p _ ha hm
    have ra6 : RepL w.ad H6 (Av (Wp W p) o4) acc da := (ra.of fun a y ea n => ⟨x6 a y ea fun z => n (.inl (G.sub a z)), n⟩).mono avo
    have loop1 : codeAny (model X.prog X.w) X.A (.compLoop (.ListComp elt gens scope pos) (j + 1) (.ref it1) (.ref p) X.env) (fun r s' => ∃ f, r = .ok f ∧ wpAny (model X.prog X.w) X.A nxt Z E s') s6 := by
      refine cl (H1 := del H6 p) I6 T1 st6 f6 src (fun a y e _ => e) del_self hm G6 hcl ha6 ra6 (fun a y e n => del_some e) e2 (by rw [List.length_append]; exact hz) fun s' H' I' B => ?_
      obtain ⟨⟨Hb', G'⟩, ⟨acc', ha', ra'⟩, xe⟩ := B
      refine ⟨_, rfl, k s' _ H' I' (wipe_length _ _) (fun i v hi h => ?_) (fun a y e n => xe a y (del_of (x6 a y (del_some e) n) fun z => by rw [z, del_self] at e; cases e) n) G'.ok ⟨acc', ha', ra'.mono avo2⟩⟩
      rw [wipe_get, if_neg fun z => hi (hv1 i z)]
      exact h
    refine codeAny_mono (start_ok hj1 loop1 fun E => T1.self X.A 0 _ _ _ st6 loop1) fun r s' ⟨f, er, hr⟩ => ?_
    subst er
    first
      | exact wpAny_pure hr
      | exact wpAny_bind (wpAny_pure hr)
      | exact hr
  · cases e
end
end Rr

set_option Elab.async false
set_option linter.all false
set_option maxRecDepth 100000
set_option maxHeartbeats 1000000
/-! The layer of data: the whole comprehension, of any number of clauses. -/
namespace Rr
open PySem PySem.Spec L2 PyProof.Rows

theorem Src.but {ad : Nat → Addr} {A B : Addr → Prop} {J : It} {H1 : Hp} {ds : List D} (h : Src ad A J H1 ds) (q : ∀ a, B a → A a ∨ H1 a = none) : Src ad B J H1 ds :=
  have st : ∀ {H}, Stb B H1 H → Stb A H1 H := fun s a x e n => s a x e fun z => (q a z).elim n fun y => by rw [y] at e; cases e
  { stop := fun i H s => h.stop i H (st s)
    go := fun i H d s => h.go i H d (st s)
    yld := fun i H d s e v H' y => by
      obtain ⟨h1, h2⟩ := h.yld i H d (st s) e v H' y
      exact ⟨h1, fun C hc => h2 C fun a z => (hc a z).elim (q a) .inr⟩ }
theorem wipeE_wipeE (ρ : Rho) (vs : List Nat) : wipeE (wipeE ρ vs) vs = wipeE ρ vs := by
  apply List.ext_getElem?
  intro j
  rw [wipeE_get, wipeE_get, wipeE_length]
  by_cases h : j ∈ vs
  · rw [if_pos h, if_pos h]
  · rw [if_neg h, if_neg h]
theorem clean_wipeE (ρ : Rho) (vs : List Nat) : clean vs (wipeE ρ vs) = true := by
  unfold clean
  refine List.all_eq_true.mpr fun i hi => ?_
  rw [wipeE_get, if_pos hi]
  split
  · rename_i h
    split at h
    · cases h
    · cases h
  · rfl
section
variable {X : Cx} {w : Wd} {tg iter elt : Expr} {ifs : List Expr} {gs : List Comprehension} {scope : Scope} {own : List (Str × Nat)} {pos pos' : Pos} {mi : Rho → Mo w.S (List D)} {item : D → Rho → Mo w.S (List D)}
theorem lcN_core {pins : List (Addr × Obj)} {s : Shared} {σ : L2.St} {H : Hp} {Q : VK} {use : Option (Value → Sem Unit)} {Qf : Value → Shared → Prop}
    (hc : X.calm = true) (hN : X.N.Nodup) (I : L2.Inv X pins σ H s) (hi : VI X w tg iter mi) (ok : BlkOk X.N X.env.scope scope own)
    (hcl : ∀ (s : Shared) (H : Hp) (C : Addr) (cl : List (Str × Addr)) (fp : List Addr), ClauseOk (X.blk s H scope (PySem.compEnvC scope cl C X.env) fp) w (.ListComp elt (⟨tg, iter, ifs, 0⟩ :: gs) scope pos) tg 0 (own.map (·.2)) item)
    (hs : ∀ x, foldedSetIterable iter X.env x = pure x)
    (h : tN w (mLc mi (own.map (·.2)) item) σ H Q)
    (hRR : ∀ D C s' m H', L2.Inv X pins σ H' s' → Q (.ref D) H' → s'.heap.Ns C m → FpOk X pins H' C → compPost (model X.prog X.w) X.A X.xe use Qf (.ref D) C (.ok .next) s') :
    wpAny (model X.prog X.w) X.A (comprehension (.ListComp elt (⟨tg, iter, ifs, 0⟩ :: gs) scope pos) scope X.env pos' (newList []) false (eval iter X.env) use) Qf X.xe s := by
  obtain ⟨H0, W, o, ρ, sV, xs, send, G, e, q⟩ := h
  unfold mLc at e
  split at e
  · rename_i hcln
    obtain ⟨ds, sW, e1, f1⟩ := bd_some e
    obtain ⟨xs', s2V, e2, f2⟩ := bd_some f1
    obtain ⟨f3, rfl⟩ := up_some f2
    obtain ⟨rfl, hz⟩ := sz_some f3
    have hfree : ∀ y ∈ scope.names, y.2 = .free → ∃ c, X.env.cells.lookup y.1 = some c := fun y hy e => by
      rcases ok.free y hy e with k | k
      · exact I.ok.has _ (.inl k)
      · exact I.ok.has _ (.inr k)
    have run := hi.run pins s σ H (fun J H1 => Ext w H H1 ∧ w.ok sW H1 ∧ Src w.ad (Av W o) J H1 ds) I ⟨H0, W, o, ρ, sV, ds, sW, G, e1, fun J H1 x k src => ⟨x, k, src⟩⟩
    refine wpAny_comprehension_free (use := use) rfl hs (closure_ok hfree) ok.kind (fun y hy e => by rw [ok.uniq y hy, e])
      (thn run fun xv s1 hx => thn hx fun itv s2 h2 => ?_)
    obtain ⟨it, fp, tn, J, H2, e, I2, T, st2, f2, x2, k2, src⟩ := h2
    subst e
    refine wpAny_newObj_type (newEnv_comp ?_) (by show 0 ≤ sizeLine; decide)
    generalize hD : s2.heap.objs.size = D
    have hDn : H2 D = none := I2.hok.fresh (Nat.le_of_eq hD)
    have G2 := G.ext x2 k2
    have hm : ¬ w.mine D := fun z => w.trk k2 z hDn
    generalize hs3 : ({ s2 with heap := s2.heap.push { cls := .type "list", data := .seq ([] : List Value).toArray } } : Shared) = s3
    have I3 : L2.Inv X pins σ (upd H2 D (.lst [])) s3 := by
      rw [← hs3]
      refine I2.laid (t' := s2.toks) (fun b o e => Heap.get?_push_of_some _ e) (Nat.le_of_eq hD) ⟨Nat.zero_le _, [], 0, .nil, ?_⟩
      rw [← hD]
      exact Heap.get?_push_size _ rfl
    have h3 : s3.heap = s2.heap.push { cls := .type "list", data := .seq ([] : List Value).toArray } := by rw [← hs3]
    have sz : ∀ b ∈ fp, b < s2.heap.objs.size := fun b hb => by
      obtain ⟨o, e, _⟩ := T.obj _ _ st2 b hb
      exact Heap.lt_size e
    have f3 : ∀ b ∈ fp, FpOk X pins (upd H2 D (.lst [])) b ∧ b < s3.heap.objs.size := fun b hb => by
      have hlt := sz b hb
      refine ⟨⟨?_, (f2 b hb).2⟩, by rw [h3, Heap.size_push]; exact Nat.lt_succ_of_lt hlt⟩
      rw [upd_ne (by rw [← hD]; exact Nat.ne_of_lt hlt)]
      exact (f2 b hb).1
    have st3 : tn 0 s3.heap := T.keep _ _ _ st2 fun b _ o e => by rw [h3]; exact Heap.get?_push_of_some _ e
    have I4 := block_start I3 ok hN f3
    have cl := @hcl s3 (upd H2 D (.lst [])) s3.heap.objs.size (cellsFrom (s3.heap.objs.size + 1) scope.names (cloFrom X.env.cells scope.names [])) fp
    show codeAny _ _ (.compStart (.ListComp elt (⟨tg, iter, ifs, 0⟩ :: gs) scope pos) 0 (.ref it) (.ref D) (compEnvC scope (cellsFrom (s3.heap.objs.size + 1) scope.names (cloFrom X.env.cells scope.names [])) s3.heap.objs.size X.env)) (compPost (model X.prog X.w) X.A X.xe use Qf (.ref D) s3.heap.objs.size) { s3 with heap := pushCells (s3.heap.push { cls := .type "dict", data := .dict #[] }) scope.names }
    have nfp : ∀ b ∈ fp, (upd H2 D (.lst [])) b = none := fun b hb => (f3 b hb).1.1
    generalize hce : compEnvC scope (cellsFrom (s3.heap.objs.size + 1) scope.names (cloFrom X.env.cells scope.names [])) s3.heap.objs.size X.env = ce at I4 cl ⊢
    have cL : ce.locals = s3.heap.objs.size := by subst hce; rfl
    generalize hs4 : ({ s3 with heap := pushCells (s3.heap.push { cls := .type "dict", data := .dict #[] }) scope.names } : Shared) = s4 at I4 ⊢
    have st4 : tn 0 s4.heap := T.keep _ _ _ st3 fun b _ o e => by rw [← hs4]; exact pushCells_keeps _ _ _ _ (Heap.get?_push_of_some _ e)
    have stat : ∀ b ∈ fp, FpOk (X.blk s3 (upd H2 D (.lst [])) scope ce fp) [] (upd H2 D (.lst [])) b := fun b hb =>
      ⟨nfp b hb, (I4.ok.exf b hb).1, I4.ok.exfs b hb, .inl hb, fun x c e => (I4.ok.exf b hb).2 x c e, fun p hp => absurd (show p ∈ ([] : List (Addr × Obj)) ++ [] from hp) (by simp)⟩
    have loop : codeAny (model X.prog X.w) X.A (.compLoop (.ListComp elt (⟨tg, iter, ifs, 0⟩ :: gs) scope pos) 0 (.ref it) (.ref D) ce) (compPost (model X.prog X.w) X.A X.xe use Qf (.ref D) s3.heap.objs.size) s4 := by
      refine cl (H1 := H2) (Hs := H2) (da := []) (acc := []) (send := send) I4 T st4 stat (src.but fun a z => ?_) (fun a y ea n => ?_) hDn hm (G2.block hDn _ hcln) (clean_wipeE _ _) upd_same .nil (Ext.new hDn) ?_ (by rw [List.nil_append]; exact hz) fun s6 H' I6 B => ?_
      · rcases z with (z | z) | z
        · exact .inl (.inl z)
        · subst z; exact .inr hDn
        · exact .inl (.inr z)
      · rw [upd_ne fun z => n (.inl (.inr z))]
        exact ea
      · rw [wipeE_wipeE]; exact e2
      · rw [wipe_wipe, wipeE_wipeE] at *
        obtain ⟨⟨Hb, G6⟩, ⟨acc, ha, ra⟩, x6⟩ := B
        rw [List.nil_append] at ra
        have I7 : L2.Inv X pins σ H' s6 := I3.call' (ch := fp) I6.os I6.base I6.hok I6.bare fun b hb => ⟨(f3 b hb).1.2.2.2.1, (f3 b hb).1.2.1, (f3 b hb).1.2.2.2.2.1, (f3 b hb).1.2.2.2.2.2⟩
        have nC : H' s3.heap.objs.size = none := by
          have z : H' ce.locals = none := I6.free
          rw [cL] at z
          exact z
        obtain ⟨m, hn, _⟩ := I6.loc
        have hn : s6.heap.Ns ce.locals m := hn
        rw [cL] at hn
        refine hRR D s3.heap.objs.size s6 m H' I7 (q D acc H' (x2.trans x6) G6.ok (x2.free k2 hDn) ha (ra.mono fun a z => ?_)) hn (I3.fpOk (Nat.le_refl _) nC)
        rcases z with (z | z) | z
        · exact .inl (.inl z)
        · exact .inr z
        · exact .inl (.inr z)
    exact codeAny_compStart_list loop (T.self X.A 0 _ _ _ st4 loop)
  · cases e
theorem vn_lcN (hc : X.calm = true) (hN : X.N.Nodup) (hi : VI X w tg iter mi) (ok : BlkOk X.N X.env.scope scope own)
    (hcl : ∀ (s : Shared) (H : Hp) (C : Addr) (cl : List (Str × Addr)) (fp : List Addr), ClauseOk (X.blk s H scope (PySem.compEnvC scope cl C X.env) fp) w (.ListComp elt (⟨tg, iter, ifs, 0⟩ :: gs) scope pos) tg 0 (own.map (·.2)) item) (hs : ∀ x, foldedSetIterable iter X.env x = pure x := by intro _; rfl) :
    VN X w (.ListComp elt (⟨tg, iter, ifs, 0⟩ :: gs) scope pos) (mLc mi (own.map (·.2)) item) := by
  refine ⟨fun pins s σ H Q I h => ?_⟩
  rw [eval_ListComp]
  refine lcN_core hc hN I hi ok hcl hs h fun D C s' m H' I' q hn f => ⟨m, hn, fun h'' sb => ?_⟩
  obtain ⟨f0, f1, f2, f3, f4, f5⟩ := f
  exact ⟨.ref D, H', I'.turned (t' := s'.toks) (fun b o hb e => (sb.2 b hb).trans e) f0 f1 f3 f4 f5, rfl, q⟩
/-- name = [..] on one line, the name a local -/
theorem lcN_asg {i : Nat} {y : Str} {py spos : Pos} {t : TG} (hc : X.calm = true) (hN : X.N.Nodup) (hi : VI X w tg iter mi) (ok : BlkOk X.N X.env.scope scope own)
    (hcl : ∀ (s : Shared) (H : Hp) (C : Addr) (cl : List (Str × Addr)) (fp : List Addr), ClauseOk (X.blk s H scope (PySem.compEnvC scope cl C X.env) fp) w (.ListComp elt (⟨tg, iter, ifs, 0⟩ :: gs) scope pos) tg 0 (own.map (·.2)) item) (hy : X.N[i]? = some y) (hyl : X.env.scope.names.lookup y = some .local)
    (hsw : swapsWith (.ListComp elt (⟨tg, iter, ifs, 0⟩ :: gs) scope pos) (some (.Name y py)) spos.line X.env = pure true) (hs : ∀ x, foldedSetIterable iter X.env x = pure x) :
    PS X (.Assign [.Name y py] (.ListComp elt (⟨tg, iter, ifs, 0⟩ :: gs) scope pos) spos) (tAsg (tN w (mLc mi (own.map (·.2)) item)) (gName i)) := by
  refine ⟨fun pins s σ H D I h => ?_⟩
  rw [exec_Assign_Name_used _ _ _ _ hsw]
  refine wpAny_bind (wpAny_standAt (wpAny_bind ?_))
  show wpAny _ X.A (do let _ ← comprehension (.ListComp elt (⟨tg, iter, ifs, 0⟩ :: gs) scope pos) scope X.env (firstIterPos (⟨tg, iter, ifs, 0⟩ :: gs) pos) (newList []) false (eval iter X.env) (some (assign (.Name y py) X.env))) _ _ s
  have h : tN w (mLc mi (own.map (·.2)) item) σ H (fun x H1 => gName i x σ H1 D.nx) := h
  refine wpAny_bind (thn (lcN_core (Qf := fun _ s' => SP X pins D .next s') hc hN I hi ok hcl hs h fun L C s' m H' I' q hn f => ?_) fun _ s' hq => wpAny_pure (wpAny_pure hq))
  show wpAny _ _ (assign (.Name y py) X.env (.ref L)) _ _ _
  refine wpAny_assign_Name (store_ok2 (v := V.ref L) I' hN hy (.inl hyl) rfl (fun s2 I2 ⟨a, sb, ha⟩ => ?_) (.inr hyl))
  obtain ⟨f0, f1, f2, f3, f4, f5⟩ := f
  have haC : C ≠ a := by
    rcases ha with z | z
    · rw [z]; exact f1
    · exact fun e => f4 y a z e.symm
  refine ⟨m, hn.sameBut sb haC, fun h3 sb3 => ?_⟩
  exact ⟨_, H', I2.turned (t' := s2.toks) (fun b o hb e => (sb3.2 b hb).trans e) f0 f1 f3 f4 f5, q⟩
theorem vs_setLcN {i : Nat} {y : Str} {py spos : Pos} (hc : X.calm = true) (hN : X.N.Nodup) (hi : VI X w tg iter mi) (ok : BlkOk X.N X.env.scope scope own)
    (hcl : ∀ (s : Shared) (H : Hp) (C : Addr) (cl : List (Str × Addr)) (fp : List Addr), ClauseOk (X.blk s H scope (PySem.compEnvC scope cl C X.env) fp) w (.ListComp elt (⟨tg, iter, ifs, 0⟩ :: gs) scope pos) tg 0 (own.map (·.2)) item) (hy : X.N[i]? = some y := by rfl) (hyl : X.env.scope.names.lookup y = some .local := by rfl)
    (hsw : swapsWith (.ListComp elt (⟨tg, iter, ifs, 0⟩ :: gs) scope pos) (some (.Name y py)) spos.line X.env = pure true := by exact sw_true rfl rfl rfl (by decide +kernel)) (hs : ∀ x, foldedSetIterable iter X.env x = pure x := by intro _; rfl) :
    VS X w (.Assign [.Name y py] (.ListComp elt (⟨tg, iter, ifs, 0⟩ :: gs) scope pos) spos) (mSet i fun ρ => bd (mLc mi (own.map (·.2)) item ρ) fun ds => rt (.lst ds)) :=
  (lcN_asg (t := gName i) hc hN hi ok hcl hy hyl hsw hs).imp (asg_val fun _ _ _ h => h)
theorem vs_ownLcN {i : Nat} {y : Str} {py spos : Pos} (hc : X.calm = true) (hN : X.N.Nodup) (hi : VI X w tg iter mi) (ok : BlkOk X.N X.env.scope scope own)
    (hcl : ∀ (s : Shared) (H : Hp) (C : Addr) (cl : List (Str × Addr)) (fp : List Addr), ClauseOk (X.blk s H scope (PySem.compEnvC scope cl C X.env) fp) w (.ListComp elt (⟨tg, iter, ifs, 0⟩ :: gs) scope pos) tg 0 (own.map (·.2)) item) (hy : X.N[i]? = some y := by rfl) (hyl : X.env.scope.names.lookup y = some .local := by rfl)
    (hsw : swapsWith (.ListComp elt (⟨tg, iter, ifs, 0⟩ :: gs) scope pos) (some (.Name y py)) spos.line X.env = pure true := by exact sw_true rfl rfl rfl (by decide +kernel)) (hs : ∀ x, foldedSetIterable iter X.env x = pure x := by intro _; rfl) :
    VS X w (.Assign [.Name y py] (.ListComp elt (⟨tg, iter, ifs, 0⟩ :: gs) scope pos) spos) (mOwn i (mLc mi (own.map (·.2)) item)) :=
  (lcN_asg (t := gName i) hc hN hi ok hcl hy hyl hsw hs).imp (asg_own fun _ _ _ h => h)
end
end Rr

set_option Elab.async false
set_option linter.all false
set_option maxRecDepth 100000
set_option maxHeartbeats 1000000
/-! The layer of data: sorted() of tuples of ints of any lengths. -/
namespace Rr
open PySem PySem.Spec L2 PyProof.Rows

/-! ### the order -/
def lexI : List Int → List Int → Bool
  | _, [] => false
  | [], _ :: _ => true
  | x :: r, y :: t => if x = y then lexI r t else decide (x < y)
theorem lexI_irrefl : ∀ a, lexI a a = false
  | [] => rfl
  | x :: r => by unfold lexI; rw [if_pos rfl]; exact lexI_irrefl r
theorem lexI_asym : ∀ a b, lexI a b = true → lexI b a = false
  | _, [], h => by unfold lexI at h; cases h
  | [], _ :: _, _ => by unfold lexI; rfl
  | x :: r, y :: t, h => by
    unfold lexI at h ⊢
    by_cases e : x = y
    · subst e
      rw [if_pos rfl] at h ⊢
      exact lexI_asym r t h
    · rw [if_neg e, decide_eq_true_eq] at h
      rw [if_neg (Ne.symm e)]
      exact decide_eq_false (by omega)
theorem lexI_total : ∀ a b, lexI a b = false → lexI b a = false → a = b
  | [], [], _, _ => rfl
  | [], _ :: _, h, _ => by unfold lexI at h; cases h
  | _ :: _, [], _, h => by unfold lexI at h; cases h
  | x :: r, y :: t, h1, h2 => by
    unfold lexI at h1 h2
    by_cases e : x = y
    · subst e
      rw [if_pos rfl] at h1 h2
      rw [lexI_total r t h1 h2]
    · rw [if_neg e] at h1
      rw [if_neg (Ne.symm e)] at h2
      have := of_decide_eq_false h1
      have := of_decide_eq_false h2
      omega
theorem lexI_trans : ∀ a b c, lexI a b = true → lexI b c = true → lexI a c = true
  | _, [], _, h, _ => by unfold lexI at h; cases h
  | _, _ :: _, [], _, h => by unfold lexI at h; cases h
  | [], _ :: _, _ :: _, _, _ => by unfold lexI; rfl
  | x :: r, y :: t, z :: u, h1, h2 => by
    unfold lexI at h1 h2 ⊢
    by_cases e : x = y
    · subst e
      rw [if_pos rfl] at h1
      by_cases e2 : x = z
      · subst e2
        rw [if_pos rfl] at h2 ⊢
        exact lexI_trans r t u h1 h2
      · rw [if_neg e2] at h2 ⊢; exact h2
    · rw [if_neg e, decide_eq_true_eq] at h1
      by_cases e2 : y = z
      · subst e2
        rw [if_neg e]; exact decide_eq_true h1
      · rw [if_neg e2, decide_eq_true_eq] at h2
        rw [if_neg (by omega)]
        exact decide_eq_true (by omega)
theorem lexI_ntr (x y z : List Int) (h1 : lexI y x = false) (h2 : lexI z y = false) : lexI z x = false := by
  cases h : lexI z x with
  | false => rfl
  | true =>
    cases q : lexI x y with
    | true => rw [lexI_trans z x y h q] at h2; cases h2
    | false => rw [lexI_total x y q h1] at h; rw [h] at h2; cases h2
theorem lexI_swo (k : Value → List Int) : SrtO.Swo fun v u => lexI (k v) (k u) := ⟨fun x y => lexI_asym _ _, fun x y z => lexI_ntr _ _ _⟩
/-- inserted, sorted -/
def insT (n : List Int) : List (List Int) → List (List Int)
  | [] => [n]
  | m :: ms => if lexI m n then m :: insT n ms else n :: m :: ms
def sortT : List (List Int) → List (List Int)
  | [] => []
  | n :: ns => insT n (sortT ns)
abbrev LeT (a b : List Int) : Prop := lexI b a = false
theorem insT_perm (n : List Int) : ∀ ms, (insT n ms).Perm (n :: ms)
  | [] => .refl _
  | m :: ms => by
    unfold insT
    split
    · exact ((insT_perm n ms).cons m).trans (.swap n m ms)
    · exact .refl _
theorem sortT_perm : ∀ ns, (sortT ns).Perm ns
  | [] => .refl _
  | n :: ns => (insT_perm n _).trans ((sortT_perm ns).cons n)
theorem insT_sorted (n : List Int) : ∀ {ms}, ms.Pairwise LeT → (insT n ms).Pairwise LeT
  | [], _ => List.pairwise_singleton _ _
  | m :: ms, h => by
    unfold insT
    obtain ⟨h1, h2⟩ := List.pairwise_cons.mp h
    split
    · rename_i hl
      refine List.pairwise_cons.mpr ⟨fun z hz => ?_, insT_sorted n h2⟩
      rcases List.mem_cons.mp ((insT_perm n ms).mem_iff.mp hz) with rfl | hz
      · exact lexI_asym _ _ hl
      · exact h1 z hz
    · rename_i hl
      have hl : lexI m n = false := by simpa using hl
      refine List.pairwise_cons.mpr ⟨fun z hz => ?_, h⟩
      rcases List.mem_cons.mp hz with rfl | hz
      · exact hl
      · exact lexI_ntr _ _ _ hl (h1 z hz)
theorem sortT_sorted : ∀ ns, (sortT ns).Pairwise LeT
  | [] => .nil
  | n :: ns => insT_sorted n (sortT_sorted ns)
theorem sortT_only : ∀ {xs ys : List (List Int)}, xs.Perm ys → xs.Pairwise LeT → ys.Pairwise LeT → xs = ys
  | [], ys, p, _, _ => by rw [List.nil_perm.mp p]
  | x :: xs, [], p, _, _ => by have := p.length_eq; simp at this
  | x :: xs, y :: ys, p, h1, h2 => by
    obtain ⟨a1, a2⟩ := List.pairwise_cons.mp h1
    obtain ⟨b1, b2⟩ := List.pairwise_cons.mp h2
    have e : x = y := by
      have m1 : x ∈ y :: ys := p.mem_iff.mp (by simp)
      have m2 : y ∈ x :: xs := p.mem_iff.mpr (by simp)
      rcases List.mem_cons.mp m1 with e | m1
      · exact e
      · rcases List.mem_cons.mp m2 with e | m2
        · exact e.symm
        · exact lexI_total _ _ (b1 x m1) (a1 y m2)
    subst e
    rw [sortT_only (p.cons_inv) a2 b2]

/-! ### the model compares so -/
section
variable {prog : Program} {wo : World} {A : Around} {s : Shared}
def IsT (h : Heap) (v : Value) (ks : List Int) : Prop := ∃ a o us n, v = .ref a ∧ h.get? a = some o ∧ o.cls = .type "tuple" ∧ o.data = .seq us n ∧ IntsAre us.toList ks
theorem IsT.keeps {h h' : Heap} {v : Value} {ks : List Int} (p : IsT h v ks) (k : ∀ b o, h.get? b = some o → o.cls = .type "tuple" → h'.get? b = some o) : IsT h' v ks := by
  obtain ⟨a, o, t, n, e, ho, hc, hd, hi⟩ := p
  exact ⟨a, o, t, n, e, k _ _ ho hc, hc, hd, hi⟩
theorem kat_ints {b : Bool} {Q : Bool → Shared → Prop} : ∀ {us ws : List Value} {ks ls : List Int} (i : Nat), IntsAre us ks → IntsAre ws ls → Q (lexI ks ls) s → PySem.W.KatLex prog wo A b (decide (us.length < ws.length)) Q (us.zip ws) i s
  | [], [], ks, ls, i, hu, hw, q => by
    cases hu; cases hw
    exact PySem.W.kat_nil q
  | [], _ :: _, ks, ls, i, hu, hw, q => by
    cases hu; cases hw
    refine PySem.W.kat_nil ?_
    rw [decide_eq_true (by simp)]
    exact q
  | _ :: _, [], ks, ls, i, hu, hw, q => by
    cases hu; cases hw
    refine PySem.W.kat_nil ?_
    rw [decide_eq_false (by simp)]
    exact q
  | u :: us, w :: ws, ks, ls, i, hu, hw, q => by
    cases hu with
    | cons x t hu =>
      cases hw with
      | cons y t' hw =>
        refine PySem.W.kat_cons (SeqAt.EqAt.int_int x t y t' prog wo _ _ ?_)
        refine PySem.W.kat_go (fun e1 => ?_) (fun e1 => ?_)
        · have ex : x = y := by simpa using e1
          subst ex
          unfold lexI at q
          rw [if_pos rfl] at q
          have := kat_ints (b := b) (Q := Q) (i + 1) hu hw q
          have e0 : decide ((Value.int x t :: us).length < (Value.int x t' :: ws).length) = decide (us.length < ws.length) := decide_eq_decide.mpr (by rw [List.length_cons, List.length_cons]; omega)
          rw [e0]
          exact PySem.W.kat_yes this
        · have ex : ¬ x = y := by simpa using e1
          unfold lexI at q
          rw [if_neg ex] at q
          refine PySem.W.kat_no ?_
          generalize (b && i == 0) = c
          cases c with
          | true => exact oneLt_int q
          | false => exact PySem.W.kat_one _ _ (PyProof.Rows.lt_int (Q := PySem.W.BoolBack Q) q)
theorem tup_cmp {b : Bool} {vs : List Value} {k : Value → List Int} (hp : ∀ v ∈ vs, IsT s.heap v (k v)) : SrtO.Cmp prog wo A s (tuples' b) (fun p => p.1 ∈ vs) (SrtO.lt2 fun v u => lexI (k v) (k u)) := by
  intro p q hm hm'
  have h1 := hp _ hm
  have h2 := hp _ hm'
  show wpAny (model prog wo) A (keyLt' (tuples' b) p.1 q.1) (fun r s' => s' = s ∧ r = lexI (k p.1) (k q.1)) (fun _ _ => False) s
  generalize k p.1 = ks at h1 ⊢
  generalize k q.1 = ls at h2 ⊢
  obtain ⟨a, o, us, n, e, ho, hc, hd, hi⟩ := h1
  obtain ⟨a', o', ws, n', e', ho', hc', hd', hi'⟩ := h2
  rw [e, e']
  refine PySem.W.kat_lt ho hd ho' hd' ?_
  have := kat_ints (prog := prog) (wo := wo) (A := A) (s := s) (b := b) (Q := fun r s' => s' = s ∧ r = lexI ks ls) 0 hi hi' ⟨rfl, rfl⟩
  simpa using this
theorem firstsT : ∀ {vs : List Value} {h : Heap} {k : Value → List Int}, (∀ v ∈ vs, IsT h v (k v) ∧ k v ≠ []) → ∃ fs : List Value, PySem.W.KatTups h vs fs ∧ fs.length = vs.length ∧ ∀ f ∈ fs, ∃ x t, f = Value.int x t
  | [], _, _, _ => ⟨[], PySem.W.KatTups.nil, rfl, fun _ hm => by simp at hm⟩
  | v :: vs, h, k, hp => by
    obtain ⟨fs, h1, h2, h3⟩ := firstsT (vs := vs) fun v' hm => hp v' (List.mem_cons_of_mem _ hm)
    obtain ⟨⟨a, o, us, n, e, ho, hc, hd, hi⟩, ne⟩ := hp v (List.mem_cons_self ..)
    generalize k v = ks at hi ne
    obtain ⟨us⟩ := us
    have hi : IntsAre us ks := hi
    cases hi with
    | nil => exact absurd rfl ne
    | cons x t hi =>
      subst e
      refine ⟨.int x t :: fs, PySem.W.KatTups.cons ho hc hd rfl h1, by rw [List.length_cons, List.length_cons, h2], fun f hm => ?_⟩
      rcases List.mem_cons.mp hm with rfl | hm
      · exact ⟨x, t, rfl⟩
      · exact h3 f hm
theorem tup_sortable {a : Addr} {vs : List Value} {k : Value → List Int} (h0 : 0 < vs.length) (hp : ∀ v ∈ vs, IsT s.heap v (k v) ∧ k v ≠ []) (ha : ∀ o, s.heap.get? a = some o → o.cls ≠ .type "tuple") : SrtO.SortableO prog wo A s a vs fun v u => lexI (k v) (k u) := by
  intro h' keep
  have hp' : ∀ v ∈ vs, IsT h' v (k v) ∧ k v ≠ [] := fun v hm => ⟨(hp v hm).1.keeps fun b o e c => keep b o (fun z => by subst z; exact ha o e c) e, (hp v hm).2⟩
  obtain ⟨fs, h1, h2, h3⟩ := firstsT hp'
  refine ⟨tuples' true, fun Q E hq => ?_, tup_cmp fun v hm => (hp' v hm).1⟩
  refine PySem.W.kat_kind (T := .type "int") h1 (by omega) (fun f hm => ?_) (by rfl) ?_
  · obtain ⟨x, t, rfl⟩ := h3 f hm
    exact PySem.W.Looks.now
  · have e : (Value.type "int" != Value.type "tuple") = true := by first | decide +kernel | rfl | decide
    rw [e]
    exact hq
end
/-- sorted(xs), xs of tuples of ints: k tells their ints -/
def rSortedT (K : PySem.W.Frag) : List V → Hp → VK → Prop := fun vs H Q => ∃ (a : Addr) (ys : List V) (k : V → List Int), vs = [V.ref a] ∧ SqL K H a ys ∧ (∀ y ∈ ys, ∃ t, y = V.ref t ∧ H t = some (.tup ((k y).map V.int)) ∧ (2 ≤ ys.length → k y ≠ [])) ∧
  ∀ (zs : List V) (p : Addr), zs.Perm ys → (zs.map k).Pairwise LeT → H p = none → Q (.ref p) (upd H p (.lst zs))
theorem cr_sortedT {X : Cx} : CallR X (.builtin "sorted") (rSortedT X.K) := by
  intro pins s σ H vs us Q I r h
  obtain ⟨a, ys, k, rfl, hs, hx, q⟩ := h
  obtain ⟨its, rv, hl, hz⟩ := I.list hs
  rw [Vals.ref1 r]
  obtain ⟨e1, e2⟩ := refs_back rv fun x m => by
    obtain ⟨t, e, _⟩ := hx x m
    exact ⟨t, e⟩
  have hp : ∀ v ∈ its, IsT s.heap v (k (backV v)) ∧ (2 ≤ its.length → k (backV v) ≠ []) := fun v hv => by
    obtain ⟨t, rfl⟩ := e2 v hv
    have hm : V.ref t ∈ ys := by rw [e1]; exact List.mem_map.mpr ⟨_, hv, rfl⟩
    obtain ⟨t', e, ht, hne⟩ := hx _ hm
    cases e
    obtain ⟨_, its2, r2, o, ho, hc, n, hd⟩ := I.hok _ _ ht
    exact ⟨⟨t, o, _, n, rfl, ho, hc, hd, r2.ints⟩, fun h => hne (by rw [rv.length]; exact h)⟩
  refine SrtO.sorted_ord (lexI_swo fun u => k (backV u)) hl.isList (by rw [← rv.length]; exact hz) (fun h2 h₁ a' ha kk => ?_) fun out h1 h2 => ?_
  · refine tup_sortable (s := { s with heap := h₁ }) (by omega) (fun v hm => ⟨(hp v hm).1.keeps fun b o e _ => (kk b o e).2, (hp v hm).2 h2⟩) fun o e => ?_
    have e' : some o = some (seqObj "list" its.toArray 0) := e.symm.trans ha
    cases e'
    intro c
    exact absurd (Value.type.inj c) (by decide)
  · have h3 : ∀ u ∈ out, ∃ a, u = Value.ref a := fun u hu => e2 u (h2.perm.mem_iff.mp hu)
    obtain ⟨ep, he'⟩ := PyProof.Rows.sortedAll_at s.heap its out.toArray
    have hperm : (out.map backV).Perm ys := by rw [e1]; exact h2.perm.map backV
    have hlen : (out.map backV).length ≤ sizeLine := by rw [hperm.length_eq]; exact hz
    refine ⟨.ref _, upd H (s.heap.objs.size + 1) (.lst (out.map backV)), I.laid (t' := s.toks) (fun _ _ => PyProof.Rows.sortedAll_old) (Nat.le_succ _) ⟨hlen, out, ep, vals_back h3, he'⟩, rfl, q _ _ hperm ?_ (I.hok.fresh (Nat.le_succ _))⟩
    rw [List.map_map]
    exact List.pairwise_map.mpr h1

/-! ### sorted() of a tuple -/
section
open PySem.Calls
variable {prog : Program} {w : World} {A : Around} {E : Value → Shared → Prop} {s : Shared}
theorem collect_tupR {l : Addr} {vs : List Value} {Q : List Value → Shared → Prop} (hl : s.heap.IsTuple l vs.toArray)
    (h : Q vs { s with heap := (s.heap.push (seqObj "list" #[] 0)).update s.heap.objs.size (Obj.mapSeq (· ++ vs.toArray)) }) (hsz : vs.length ≤ sizeLine) : wpAny (model prog w) A (collect (.ref l)) Q E s := by
  obtain ⟨o, ho, hc, n, hd⟩ := id hl
  unfold collect
  refine wpAny_bind (wpAny_runValue (codeAny_builtin entry_proto_collect' ?_))
  show wpAny _ _ (do again (.builtin "list.__iadd__" ⟨[← newList [], .ref l], []⟩)) _ _ s
  refine wpAny_bind (wpAny_newList (wpAny_pure ⟨Code.quiet_builtin _ (by decide +kernel), codeAny_builtin entry_list_iadd' ?_⟩))
  show wpAny _ _ (Builtin.List.listExtendWith (.ref s.heap.objs.size) (.ref l) (.ref s.heap.objs.size)) _ _ { s with heap := s.heap.push (seqObj "list" #[] 0) }
  unfold Builtin.List.listExtendWith
  have ho2 : (s.heap.push (seqObj "list" #[] 0)).get? l = some o := Heap.get?_push_of_some _ ho
  refine wpAny_bind (wpAny_typeOf (T := "tuple") ⟨o, ho2, hc⟩ ?_)
  have ht : (Value.type "tuple" == Value.type "tuple") = true := by rfl
  rw [if_pos (by rw [ht]; simp)]
  refine wpAny_bind (listItems_at ho2 hd ?_)
  refine wpAny_bind (listItems_at (xs := #[]) (n := 0) (Heap.get?_push_size _ rfl) rfl ?_)
  rw [if_neg (by simp)]
  refine wpAny_bind (listUpdate_at (xs := #[]) (n := 0) (Heap.get?_push_size _ rfl) rfl ?_ (Nat.zero_le _) (by show (#[] ++ vs.toArray).size ≤ sizeLine + 1; simp only [Array.size_append, List.size_toArray, List.length_nil]; omega))
  refine wpAny_pure ?_
  show wpAny (model prog w) A (do
      let o ← load s.heap.objs.size
      match o.data with
      | .seq xs _ => pure xs.toList
      | _ => unsupported "internal:collect") Q E { s with heap := (s.heap.push (seqObj "list" #[] 0)).update s.heap.objs.size (Obj.mapSeq (· ++ vs.toArray)) }
  refine wpAny_bind (wpAny_load (get?_update_seq (Heap.get?_push_size _ rfl) _) ?_)
  show wpAny _ _ (pure ((#[] : Array Value) ++ vs.toArray).toList) Q E _
  rw [show ((#[] : Array Value) ++ vs.toArray).toList = vs by simp]
  exact wpAny_pure h
theorem sorted_tupR {l : Addr} {vs : List Value} {ltv : Value → Value → Bool} {Q : Value → Shared → Prop} (O : SrtO.Swo ltv) (hl : s.heap.IsTuple l vs.toArray) (hz : vs.length ≤ sizeLine)
    (hS : 2 ≤ vs.length → ∀ (h₁ : Heap) (a : Addr), h₁.get? a = some (seqObj "list" vs.toArray 0) → (∀ b o, s.heap.get? b = some o → b ≠ a ∧ h₁.get? b = some o) → SrtO.SortableO prog w A.in1.in1 { s with heap := h₁ } a vs ltv)
    (h : ∀ out : List Value, SrtO.Srtd ltv out → SrtO.Stb ltv out vs → Q (.ref (s.heap.objs.size + 1)) { s with heap := sortedAll s.heap vs out.toArray }) :
    wpAny (model prog w) A (call (.builtin "sorted") [.ref l]) Q E s := by
  refine Calls.call_function_entry kind_sorted plain_sorted entry_sorted (args_sorted1 _) ?_
  unfold Builtin.«sorted»
  refine wpAny_bind (m := checkCount "sorted" 1 1 _) (wpAny_pure ?_)
  refine wpAny_bind (collect_tupR hl ?_ hz)
  refine wpAny_bind (wpAny_newList ?_ hz)
  have hsz : ((s.heap.push (seqObj "list" #[] 0)).update s.heap.objs.size (Obj.mapSeq (· ++ vs.toArray))).objs.size = s.heap.objs.size + 1 := by
    rw [Heap.size_update, size_push']
  have hoL : (((s.heap.push (seqObj "list" #[] 0)).update s.heap.objs.size (Obj.mapSeq (· ++ vs.toArray))).push (seqObj "list" vs.toArray 0)).get? (s.heap.objs.size + 1) = some (seqObj "list" vs.toArray 0) := by
    rw [← hsz]; exact Heap.get?_push_size _ rfl
  have keep : ∀ b o, s.heap.get? b = some o → b ≠ s.heap.objs.size + 1 ∧ (((s.heap.push (seqObj "list" #[] 0)).update s.heap.objs.size (Obj.mapSeq (· ++ vs.toArray))).push (seqObj "list" vs.toArray 0)).get? b = some o := fun b o q => by
    have hlt : b < s.heap.objs.size := Heap.lt_size q
    refine ⟨Nat.ne_of_lt (Nat.lt_succ_of_lt hlt), Heap.get?_push_of_some _ ?_⟩
    rw [Heap.get?_update_ne _ _ _ _ (Nat.ne_of_lt hlt)]
    exact Heap.get?_push_of_some _ q
  show wpAny _ _ _ _ _ { s with heap := ((s.heap.push (seqObj "list" #[] 0)).update s.heap.objs.size (Obj.mapSeq (· ++ vs.toArray))).push (seqObj "list" vs.toArray 0) }
  rw [hsz]
  refine wpAny_bind (wpAny_holding (wpAny_call_entry slot_list_sort ⟨_, hoL, rfl⟩ entry_list_sort (SrtO.list_sort_ord O hoL hz (fun h2 => hS h2 _ _ hoL keep) fun out hs hb => ⟨_, rfl, ?_⟩) (args_list_sort _)))
  exact wpAny_pure ⟨_, rfl, h out hs hb⟩
end
def rSortedTI (K : PySem.W.Frag) : List V → Hp → VK → Prop := fun vs H Q => ∃ (a : Addr) (ns : List Int), vs = [V.ref a] ∧ H a = some (.tup (ns.map V.int)) ∧
  ∀ (ns' : List Int) (p : Addr), ns'.Perm ns → ns'.Pairwise (· ≤ ·) → H p = none → Q (.ref p) (upd H p (.lst (ns'.map V.int)))
theorem cr_sortedTI {X : Cx} : CallR X (.builtin "sorted") (rSortedTI X.K) := by
  intro pins s σ H vs us Q I r h
  obtain ⟨a, ns, rfl, hs, q⟩ := h
  obtain ⟨hz, its, rv, o, ho, hc, n, hd⟩ := I.hok _ _ hs
  rw [Vals.ref1 r]
  have hi := rv.ints
  refine sorted_tupR SrtO.swo_int ⟨o, ho, hc, n, hd⟩ (by rw [← rv.length]; exact hz) (fun h2 h₁ a' _ _ => SrtO.ints_sortable hi h2) fun out h1 h2 => ?_
  obtain ⟨k1, k2, k3⟩ := SrtO.ints_out hi h1 h2
  obtain ⟨ep, he2⟩ := PyProof.Rows.sortedAll_at s.heap its out.toArray
  have hlen : ((out.map SrtO.iv).map V.int).length ≤ sizeLine := by
    rw [List.length_map, k2.length_eq]
    rw [List.length_map] at hz
    exact hz
  exact ⟨.ref _, upd H (s.heap.objs.size + 1) (.lst ((out.map SrtO.iv).map V.int)), I.laid (t' := s.toks) (fun _ _ => PyProof.Rows.sortedAll_old) (Nat.le_succ _) ⟨hlen, out, ep, vals_of_ints k1, he2⟩, rfl, q _ _ k2 k3 (I.hok.fresh (Nat.le_succ _))⟩

/-! ### as data -/
def tupI : D → Option (List Int)
  | .tup ds => dInts ds
  | _ => none
def tupsI : List D → Option (List (List Int))
  | [] => some []
  | d :: ds => (tupI d).bind fun x => (tupsI ds).map fun xs => x :: xs
def tD (ns : List Int) : D := .tup (ns.map .int)
theorem dInts_inv : ∀ {ds : List D} {ns : List Int}, dInts ds = some ns → ds = ns.map D.int
  | [], ns, h => by cases h; rfl
  | d :: ds, ns, h => by
    cases d with
    | int i =>
      obtain ⟨ms, e, rfl⟩ := Option.map_eq_some_iff.mp h
      rw [List.map_cons, ← dInts_inv e]
    | _ => cases h
theorem tupI_inv {d : D} {ns : List Int} (h : tupI d = some ns) : d = tD ns := by
  unfold tupI at h
  split at h
  · unfold tD; rw [← dInts_inv h]
  · cases h
theorem tupsI_inv : ∀ {ds : List D} {ns : List (List Int)}, tupsI ds = some ns → ds = ns.map tD
  | [], ns, h => by
    unfold tupsI at h
    cases h
    rfl
  | d :: ds, ns, h => by
    unfold tupsI at h
    obtain ⟨x, e1, e2⟩ := Option.bind_eq_some_iff.mp h
    obtain ⟨xs, e3, rfl⟩ := Option.map_eq_some_iff.mp e2
    rw [List.map_cons, ← tupsI_inv e3, ← tupI_inv e1]
theorem tupI_map (ns : List Int) : tupI (tD ns) = some ns := by unfold tupI tD; exact dInts_map ns
theorem tupsI_map : ∀ ns : List (List Int), tupsI (ns.map tD) = some ns
  | [] => rfl
  | n :: ns => by unfold tupsI; rw [List.map_cons]; show (tupI (tD n)).bind _ = _; rw [tupI_map, tupsI_map ns]; rfl

theorem repL_of {ad : Nat → Addr} {H : Hp} {A : Addr → Prop} {f : V → D} : ∀ {zs : List V}, (∀ z ∈ zs, Rep ad H A z (f z)) → RepL ad H A zs (zs.map f)
  | [], _ => .nil
  | z :: zs, h => .cons (h z List.mem_cons_self) (repL_of fun y hy => h y (List.mem_cons_of_mem _ hy))
theorem repL_all {ad : Nat → Addr} {H : Hp} {A : Addr → Prop} {P : V → D → Prop} : ∀ {zs : List V} {ds : List D}, RepL ad H A zs ds → ∀ z ∈ zs, ∃ d ∈ ds, Rep ad H A z d
  | [], _, _, z, hz => absurd hz (by simp)
  | y :: zs, _, .cons r rs, z, hz => by
    rcases List.mem_cons.mp hz with rfl | hz
    · exact ⟨_, List.mem_cons_self, r⟩
    · obtain ⟨d, h1, h2⟩ := repL_all (P := P) rs z hz
      exact ⟨d, List.mem_cons_of_mem _ h1, h2⟩
/-- the ints of a tuple -/
def keyV (H : Hp) : V → List Int
  | .ref t => match H t with
    | some (.tup ws) => ws.map fun v => match v with | .int i => i | _ => 0
    | _ => []
  | _ => []
theorem keyV_rep {ad : Nat → Addr} {H : Hp} {A : Addr → Prop} {v : V} {ns : List Int} (h : Rep ad H A v (tD ns)) : keyV H v = ns ∧ ∃ t, v = .ref t ∧ H t = some (.tup (ns.map V.int)) ∧ ¬ A t := by
  unfold tD at h
  cases h with
  | tup h1 h2 h3 =>
    have e := dInts_rep h3 (dInts_map ns)
    subst e
    refine ⟨?_, _, rfl, h1, h2⟩
    unfold keyV
    simp [h1, List.map_map, Function.comp_def]
theorem keyV_all {ad : Nat → Addr} {H : Hp} {A : Addr → Prop} : ∀ {vs : List V} {ns : List (List Int)}, RepL ad H A vs (ns.map tD) → vs.map (keyV H) = ns
  | [], [], _ => rfl
  | v :: vs, n :: ns, .cons r rs => by rw [List.map_cons, (keyV_rep r).1, keyV_all rs]
def dSortedA : List D → Option (List D)
  | [.lst ds] => match dInts ds with
    | some ns => some ((sortI ns).map .int)
    | none => match tupsI ds with
      | some ns => if ns.length < 2 || ns.all (fun n => !n.isEmpty) then some ((sortT ns).map tD) else none
      | none => none
  | [.tup ds] => (dInts ds).map fun ns => (sortI ns).map .int
  | _ => none
def rSortedA (K : PySem.W.Frag) : List V → Hp → VK → Prop := fun vs H Q => (rSortedI K vs H Q ∨ rSortedTI K vs H Q) ∨ rSortedT K vs H Q
theorem cr_sortedA {X : Cx} : CallR X (.builtin "sorted") (rSortedA X.K) := (cr_sortedI.or cr_sortedTI).or cr_sortedT
theorem sortedA_ok {w : Wd} {K : PySem.W.Frag} : CallN w (rSortedA K) dSortedA := by
  intro H0 W o ρ s σ H G xs ds z Q h hg q
  unfold dSortedA at hg
  split at hg
  · split at hg
    · rename_i ns e1
      cases hg
      obtain ⟨v, rfl, hb⟩ := borL1 h
      obtain ⟨a, ys, rfl, h1, n1, r1⟩ := hb.lst (fun _ z => .inl z)
      rw [dInts_rep r1 e1] at h1
      refine .inl (.inl ⟨a, ns, rfl, SqL.of h1, fun ns' p hp hs hn => ?_⟩)
      have e : ns' = sortI ns := PySem.W.ksm_same (hp.trans (sortI_perm ns).symm) hs (sortI_sorted ns)
      subst e
      exact q p _ hn (rep_ints _)
    · split at hg
      · rename_i ns e1
        split at hg
        · rename_i hc
          cases hg
          obtain ⟨v, rfl, hb⟩ := borL1 h
          obtain ⟨a, ys, rfl, h1, n1, r1⟩ := hb.lst (fun _ z => .inl z)
          rw [tupsI_inv e1] at r1
          have hk := keyV_all r1
          have hr : ∀ y ∈ ys, ∃ n ∈ ns, Rep w.ad H (Av W o) y (tD n) := fun y hy => by
            obtain ⟨d, m, r⟩ := repL_all (P := fun _ _ => True) r1 y hy
            obtain ⟨n, hn, rfl⟩ := List.mem_map.mp m
            exact ⟨n, hn, r⟩
          refine .inr ⟨a, ys, keyV H, rfl, SqL.of h1, fun y hy => ?_, fun zs p hp hs hn => ?_⟩
          · obtain ⟨n, hn, r⟩ := hr y hy
            obtain ⟨e, t, rfl, ht, _⟩ := keyV_rep r
            refine ⟨t, rfl, by rw [e]; exact ht, fun h2 z => ?_⟩
            rw [e] at z
            subst z
            simp only [Bool.or_eq_true, decide_eq_true_eq, List.all_eq_true] at hc
            rcases hc with hc | hc
            · rw [r1.length, List.length_map] at h2; omega
            · have := hc [] hn; simp at this
          · have e : zs.map (keyV H) = sortT ns := sortT_only (by rw [← hk]; exact (hp.map _).trans (sortT_perm _).symm) hs (sortT_sorted _)
            refine q p zs hn ?_
            rw [← e, List.map_map]
            refine repL_of fun z hz => ?_
            obtain ⟨n, hn, r⟩ := hr z (hp.mem_iff.mp hz)
            show Rep w.ad H _ z (tD (keyV H z))
            rw [(keyV_rep r).1]
            exact r
        · cases hg
      · cases hg
  · obtain ⟨ns, e1, rfl⟩ := Option.map_eq_some_iff.mp hg
    obtain ⟨v, rfl, hb⟩ := borL1 h
    cases hb with
    | kept hr =>
      cases hr with
      | tup h1 h2 h3 =>
        rw [dInts_rep h3 e1] at h1
        refine .inl (.inr ⟨_, ns, rfl, h1, fun ns' p hp hs hn => ?_⟩)
        have e : ns' = sortI ns := PySem.W.ksm_same (hp.trans (sortI_perm ns).symm) hs (sortI_sorted ns)
        subst e
        exact q p _ hn (rep_ints _)
  · cases hg
end Rr

set_option Elab.async false
set_option linter.all false
set_option maxRecDepth 100000
set_option maxHeartbeats 1000000
/-! The layer of data: isinstance, starred displays, pop, insert, pairs stored at once, lists let go, arguments that are only read. -/
namespace Rr
open PySem PySem.Spec L2 PyProof.Rows

/-! ### isinstance -/
def tyN : D → Option String
  | .non => some "NoneType" | .bl _ => some "bool" | .int _ => some "int" | .str _ => some "str" | .tup _ => some "tuple" | .lst _ => some "list" | .dic _ => some "dict" | .obj _ => none
def isaT (t T : String) : Bool := t == T || (t == "bool" && T == "int")
def tyNames : List String := ["bool", "int", "str", "tuple", "list", "dict"]
theorem kit_all : (["NoneType", "bool", "int", "str", "tuple", "list", "dict"].all fun t => tyNames.all fun T => kitB t T == some (isaT t T)) = true := by decide +kernel
theorem kit_one {d : D} {t T : String} (h : tyN d = some t) (hT : T ∈ tyNames) : kitB t T = some (isaT t T) := by
  have ht : t ∈ ["NoneType", "bool", "int", "str", "tuple", "list", "dict"] := by
    cases d <;> simp only [tyN, Option.some.injEq, reduceCtorEq] at h <;> subst h <;> simp
  have := List.all_eq_true.mp kit_all t ht
  have := List.all_eq_true.mp this T hT
  simpa using this
theorem Bor.ty {ad : Nat → Addr} {H : Hp} {W A : Addr → Prop} {v : V} {d : D} {t : String} {K : PySem.W.Frag} (h : Bor ad H W A v d) (e : tyN d = some t) : TyX K H v (.type t) := by
  cases h with
  | own h1 h2 h3 => cases e; exact .base (.lst h1)
  | kept h =>
    cases h <;> (try (cases e)) <;> first
      | exact .base .non
      | exact .base (.bl _)
      | exact .base (.int _)
      | exact .base (.str _)
      | (rename_i h1 _ _; exact .base (.tup h1))
      | (rename_i h1 _ _; exact .base (.lst h1))
      | (rename_i h1 _ _ _; exact .base (.dK h1))
      | (rename_i h1 _ _ _ _; exact .base (.dK h1))
      | (rename_i h1 _ _ _ _ _; exact .base (.dK h1))
def dIsi (Ts : List String) (d : D) : Option D := (tyN d).map fun t => .bl (Ts.any (isaT t))
section
variable {X : Cx} {w : Wd} {e : Expr} {me : Rho → Mo w.S D} {pos p p1 p2 p3 : Pos} {k : Nat}
theorem bd_up {S α β : Type} {m : Mo S α} {f : α → Option β} {s s' : S} {b : β} (h : bd m (fun a => up (f a)) s = some (b, s')) : ∃ a, m s = some (a, s') ∧ f a = some b := by
  obtain ⟨a, s1, e1, e2⟩ := bd_some h
  obtain ⟨e3, rfl⟩ := up_some e2
  exact ⟨a, e1, e3⟩
theorem ve_isi {x : Str} (T : String) (he : VR X w e me) (hm : X.mg "isinstance" = none) (hx : X.mg x = none) (hv : bootBuiltins x = some (.type T) := by rfl) (hT : T ∈ tyNames := by decide) (hg : Gl X "isinstance" := by rfl) (hgx : Gl X x := by rfl)
    (hdx : (x == ("__debug__" : Str)) = false := by decide) (hnx : x ≠ "__name__" := by decide) (hs1 : starEach [e, .Name x p1] X.env = (false, eval e X.env) :: starEach [.Name x p1] X.env := by rfl) (hs2 : starEach [.Name x p1] X.env = (false, eval (.Name x p1) X.env) :: starEach [] X.env := by rfl)
    (hpl : (backTo pos (starEach [.Name x p1] X.env)).any (·.1) = false := by rfl) :
    VE X w (.Call (.Name "isinstance" p) [e, .Name x p1] [] pos) (fun ρ => bd (me ρ) fun d => up (dIsi [T] d)) :=
  (pe_callB call_isi hg hm (by rfl) (pa_cons he (pa_cons (pe_bltn hgx hx hv (v := .ty T) rfl hnx hdx) pa_nil hs2) hs1) (by decide) (by decide) hs1 hpl).imp fun σ H Q ⟨H0, W, o, ρ, s, d, s', G, e, q⟩ => by
    obtain ⟨x, e1, e2⟩ := bd_up e
    obtain ⟨t, e3, rfl⟩ := Option.map_eq_some_iff.mp e2
    refine ⟨H0, W, o, ρ, s, x, _, G, e1, fun v H1 x1 k1 r1 => ?_⟩
    refine ⟨v, .ty T, .type t, .type T, _, rfl, .ty T, r1.ty e3, kit_ty (kit_one e3 hT), ?_⟩
    have := q (.bl (isaT t T)) H1 x1 k1 (by simpa using Rep.bl (isaT t T))
    exact this
theorem ve_isi2 {x y : Str} (T S : String) (he : VR X w e me) (hm : X.mg "isinstance" = none) (hx : X.mg x = none) (hy : X.mg y = none) (hv : bootBuiltins x = some (.type T) := by rfl) (hvy : bootBuiltins y = some (.type S) := by rfl) (hT : T ∈ tyNames := by decide) (hS : S ∈ tyNames := by decide)
    (hg : Gl X "isinstance" := by rfl) (hgx : Gl X x := by rfl) (hgy : Gl X y := by rfl) (hdx : (x == ("__debug__" : Str)) = false := by decide) (hnx : x ≠ "__name__" := by decide) (hdy : (y == ("__debug__" : Str)) = false := by decide) (hny : y ≠ "__name__" := by decide)
    (hs1 : starEach [e, .Tuple [.Name x p1, .Name y p2] k p3] X.env = (false, eval e X.env) :: starEach [.Tuple [.Name x p1, .Name y p2] k p3] X.env := by rfl) (hs2 : starEach [.Tuple [.Name x p1, .Name y p2] k p3] X.env = (false, eval (.Tuple [.Name x p1, .Name y p2] k p3) X.env) :: starEach [] X.env := by rfl)
    (hs3 : starEach [.Name x p1, .Name y p2] X.env = (false, eval (.Name x p1) X.env) :: starEach [.Name y p2] X.env := by rfl) (hs4 : starEach [.Name y p2] X.env = (false, eval (.Name y p2) X.env) :: starEach [] X.env := by rfl)
    (hpl : (backTo pos (starEach [.Tuple [.Name x p1, .Name y p2] k p3] X.env)).any (·.1) = false := by rfl) :
    VE X w (.Call (.Name "isinstance" p) [e, .Tuple [.Name x p1, .Name y p2] k p3] [] pos) (fun ρ => bd (me ρ) fun d => up (dIsi [T, S] d)) :=
  (pe_callB call_isiT hg hm (by rfl) (pa_cons he (pa_cons (pe_tup (pa_cons (pe_bltn hgx hx hv (v := .ty T) rfl hnx hdx) (pa_cons (pe_bltn hgy hy hvy (v := .ty S) rfl hny hdy) pa_nil hs4) hs3)) pa_nil hs2) hs1) (by decide) (by decide) hs1 hpl).imp fun σ H Q ⟨H0, W, o, ρ, s, d, s', G, e, q⟩ => by
    obtain ⟨x, e1, e2⟩ := bd_up e
    obtain ⟨t, e3, rfl⟩ := Option.map_eq_some_iff.mp e2
    refine ⟨H0, W, o, ρ, s, x, _, G, e1, fun v H1 x1 k1 r1 => ⟨by show 2 ≤ sizeLine; decide, fun tp htp => ?_⟩⟩
    have G1 := G.ext x1 k1
    obtain ⟨x2, k2, np⟩ := fin_new G1 htp (.tup [.ty T, .ty S])
    refine ⟨v, tp, [.ty T, .ty S], .type t, [.type T, .type S], isaT t T || isaT t S, rfl, upd_same, .cons (.ty T) (.cons (.ty S) .nil), (G1.borExt x2 r1).ty e3, ?_, ?_⟩
    · refine kitAny_cons (kit_ty (kit_one e3 hT)) (fun h => ?_) (fun h => by rw [h]; rfl)
      rw [h, Bool.false_or]
      refine kitAny_cons (kit_ty (kit_one e3 hS)) (fun h => ?_) (fun h => h)
      rw [h]; exact kitAny_nil
    · exact q _ _ (x1.trans x2) k2 (by simpa using Rep.bl (isaT t T || isaT t S))

/-! ### starred displays -/
theorem ves_star {es : List Expr} {ms : Rho → Mo w.S (List D)} (he : VR X w e me) (hr : VEs X w es ms) (hs : starEach (.Starred e p :: es) X.env = (true, eval e X.env) :: starEach es X.env := by rfl) :
    VEs X w (.Starred e p :: es) (fun ρ => bd (bd (me ρ) fun d => up (seqD d)) fun xs => bd (ms ρ) fun ds => rt (xs ++ ds)) :=
  (StX.pa_star he hr hs).imp fun σ H Q ⟨H0, W, o, ρ, s, d, s', G, e, q⟩ => by
    obtain ⟨xs, s1, e1, e2⟩ := bd_some e
    obtain ⟨ds, s2, e3, e4⟩ := bd_some e2
    cases e4
    obtain ⟨x, e5, e6⟩ := bd_up e1
    refine ⟨H0, W, o, ρ, s, x, s1, G, e5, fun v H1 x1 k1 r1 => ?_⟩
    have G1 := G.ext x1 k1
    have fin : ∀ {vs : List V}, RepL w.ad H1 (Av W o) vs xs → tVs w ms σ H1 fun ys H2 => Q (vs ++ ys) H2 := fun {vs} r => ⟨H0, W, o, ρ, s1, ds, _, G1, e3, fun us H2 x2 k2 r2 => q _ H2 (x1.trans x2) k2 ((G1.repLExt x2 r).append r2)⟩
    unfold seqD at e6
    split at e6
    · cases e6
      obtain ⟨a, ys, rfl, h1, n1, r⟩ := r1.lst (fun _ z => .inl z)
      exact ⟨a, ys, rfl, .inr (SqL.of h1), fin r⟩
    · cases e6
      cases r1 with
      | kept r1 =>
        cases r1 with
        | tup h1 h2 h3 => exact ⟨_, _, rfl, .inl (SqT.of h1), fin h3⟩
    · cases e6
end

/-! ### lists let go: from now on they may be kept elsewhere -/
def relE (i : Nat) (ρ : Rho) : Rho := match ρ[i]? with | some (some (.own ds)) => ρ.set i (some (.val (.lst ds))) | _ => ρ
section
variable {w : Wd} {H0 : Base} {H H' : Hp} {W : Addr → Prop} {o : Own} {ρ : Rho} {s s' : w.S} {σ : L2.St}
theorem Gd.rel (G : Gd w H0 W o ρ s σ H) (i : Nat) : ∃ o', Gd w H0 W o' (relE i ρ) s σ H := by
  unfold relE
  split
  · rename_i ds hi
    obtain ⟨a, vs, h1, h2, h3, h4⟩ := G.own i ds hi
    have hl : i < ρ.length := (List.getElem?_eq_some_iff.mp hi).1
    have sub : ∀ b, Av W (off o i) b → Av W o b ∧ b ≠ a := fun b z => by
      rcases z with z | ⟨j, z⟩
      · exact ⟨.inl z, fun q => G.own_W h1 (by rw [← q]; exact z)⟩
      · unfold off at z
        split at z
        · cases z
        · rename_i hne
          exact ⟨.inr ⟨j, z⟩, fun q => hne (G.inj j i b z (by rw [q]; exact h1))⟩
    have rr : ∀ {v d}, Rep w.ad H (Av W o) v d → Rep w.ad H (Av W (off o i)) v d := fun {v d} q => q.mono fun b z => (sub b z).1
    have rrl : ∀ {v d}, RepL w.ad H (Av W o) v d → RepL w.ad H (Av W (off o i)) v d := fun {v d} q => q.mono fun b z => (sub b z).1
    refine ⟨off o i, ?_⟩
    exact {
      len := by rw [List.length_set]; exact G.len
      sub := G.sub
      trk := G.trk
      frm := G.frm
      lic := G.lic
      ok := G.ok
      val := fun j e h => by
        rcases set_get h with ⟨rfl, e1, _⟩ | ⟨hne, h⟩
        · cases e1
          exact ⟨_, h2, .lst h3 (fun z => (sub a z).2 rfl) (rrl h4)⟩
        · obtain ⟨u, q1, q2⟩ := G.val j e h
          exact ⟨u, q1, rr q2⟩
      own := fun j e h => by
        rcases set_get h with ⟨rfl, e1, _⟩ | ⟨hne, h⟩
        · cases e1
        · obtain ⟨b, us, q1, q2, q3, q4⟩ := G.own j e h
          exact ⟨b, us, by unfold off; rw [if_neg hne]; exact q1, q2, q3, rrl q4⟩
      inj := fun j l b q1 q2 => by
        unfold off at q1 q2
        split at q1
        · cases q1
        · split at q2
          · cases q2
          · exact G.inj j l b q1 q2
      new := fun j b q => by
        unfold off at q
        split at q
        · cases q
        · exact G.new j b q
      live := fun j b q => by
        unfold off at q
        split at q
        · cases q
        · rename_i hne
          rw [List.getElem?_set_ne (Ne.symm hne)]
          exact G.live j b q }
  · exact ⟨o, G⟩
end
section
variable {X : Cx} {w : Wd} {st : Stmt} {sts : List Stmt} {m : Ms w.S}
theorem vs_rel (i : Nat) (h : VS X w st m) : VS X w st (fun ρ => m (relE i ρ)) := h.imp fun E σ H ⟨H0, W, o, ρ, s, out, G, e, p⟩ => by
  obtain ⟨o', G'⟩ := G.rel i
  exact ⟨H0, W, o', _, s, out, G', e, p⟩
theorem vss_rel (i : Nat) (h : VSs X w sts m) : VSs X w sts (fun ρ => m (relE i ρ)) := h.imp fun E σ H ⟨H0, W, o, ρ, s, out, G, e, p⟩ => by
  obtain ⟨o', G'⟩ := G.rel i
  exact ⟨H0, W, o', _, s, out, G', e, p⟩
end

/-! ### x.pop(), x.insert(i, e) -/
section
variable {X : Cx} {w : Wd} {tg e1 e2 : Expr} {b : D → Rho → Option Rho} {sl : List Nat} {mn : Rho → Mo w.S (List D)} {x : Str} {p1 p2 p3 pos : Pos}
theorem RepL.dropLast {ad : Nat → Addr} {H : Hp} {A : Addr → Prop} {vs : List V} {ds : List D} (h : RepL ad H A vs ds) : RepL ad H A vs.dropLast ds.dropLast := by
  rw [List.dropLast_eq_take, List.dropLast_eq_take, h.length]
  exact h.take _
theorem RepL.last {ad : Nat → Addr} {H : Hp} {A : Addr → Prop} {vs : List V} {ds : List D} (h : RepL ad H A vs ds) {d : D} (e : ds.getLast? = some d) : ∃ v, vs[vs.length - 1]? = some v ∧ Rep ad H A v d := by
  rw [List.getLast?_eq_getElem?] at e
  obtain ⟨v, e1, r⟩ := h.get e
  exact ⟨v, by rw [h.length]; exact e1, r⟩
def mPop {S : Type} (i : Nat) (b : D → Rho → Option Rho) : Ms S := fun ρ s => match owned i ρ with
  | some ds => match ds.getLast? with
    | some d => (b d (ρ.set i (some (.own ds.dropLast)))).map fun ρ' => .nx ρ' s
    | none => none
  | none => none
theorem vs_popT (i : Nat) (hg : VG X w tg sl b) (hN : X.N[i]? = some x := by rfl) (hv : Vis X.env.scope x := by first | exact Or.inl rfl | exact Or.inr (Or.inl rfl) | exact Or.inr (Or.inr rfl)) (hd : (x == ("__debug__" : Str)) = false := by decide)
    (hcd : (x == ("__classdict__" : Str)) = false := by decide) (hbase : attributeBase (.Name x p1) "pop" X.env (eval (.Name x p1) X.env) = eval (.Name x p1) X.env := by rfl) (hline : (p2.endLine == p3.line) = true := by rfl)
    (hs : swapsWithSole [tg] (.Call (.Attribute (.Name x p1) "pop" p2) [] [] p3) pos.line X.env = pure false := by rfl) (hw : swappedStores [tg] (.Call (.Attribute (.Name x p1) "pop" p2) [] [] p3) X.env = pure none := by rfl)
    (h1 : (assignEach [tg] X.env).map (·.2) = [assign tg X.env] := by rfl) : VS X w (.Assign [tg] (.Call (.Attribute (.Name x p1) "pop" p2) [] [] p3) pos) (mPop i b) := by
  obtain ⟨g, p, kk⟩ := hg.ex
  refine (ps_asg (pe_bm0 PySem.F.plainAttrs_list PySem.F.slot_list_pop PySem.F.type_list_pop mt_pop (pe_var hN hv hd hcd) hbase hline) p hs hw h1).imp fun E σ H ⟨H0, W, o, ρ, s, out, G, e, pp⟩ => ?_
  unfold mPop at e
  split at e
  · rename_i ds hds
    have hi := owned_some hds
    split at e
    · rename_i d hl
      obtain ⟨ρ', e3, rfl⟩ := Option.map_eq_some_iff.mp e
      obtain ⟨a, vs, h1, h2, h3, h4⟩ := G.own i ds hi
      obtain ⟨v, hv, hr⟩ := h4.last hl
      refine ⟨.ref a, h2, .inl ⟨rfl, vs, SqL.of h3⟩, a, vs, v, rfl, rfl, h3, hv, ?_⟩
      have G1 := G.mutOwn hi h1 h4.dropLast
      have hr1 : Rep w.ad (upd H a (.lst vs.dropLast)) (Av W o) v d := hr.of fun b y eb n => ⟨by rw [upd_ne fun z => n (by rw [z]; exact .inr ⟨i, h1⟩)]; exact eb, n⟩
      exact kk G1 hr1 e3 fun o' σ' _ _ _ G' => pp o' σ' _ G'
    · cases e
  · cases e
def mPop0 {S : Type} (i : Nat) : Ms S := fun ρ s => match owned i ρ with
  | some ds => match ds.getLast? with
    | some _ => some (.nx (ρ.set i (some (.own ds.dropLast))) s)
    | none => none
  | none => none
def mIns {S : Type} (i : Nat) (mn : Rho → Mo S (List D)) : Ms S := fun ρ s => match owned i ρ with
  | some ds => if ds.length < sizeLine then match mn ρ s with
      | some ([.int k, d], s') => if 0 ≤ k && decide (k < 2 ^ 63) then some (.nx (ρ.set i (some (.own (ds.take k.toNat ++ [d] ++ ds.drop k.toNat)))) s') else none
      | _ => none
    else none
  | none => none
theorem vs_insert (i : Nat) (he : VEs X w [e1, e2] mn) (hN : X.N[i]? = some x := by rfl) (hv : Vis X.env.scope x := by first | exact Or.inl rfl | exact Or.inr (Or.inl rfl) | exact Or.inr (Or.inr rfl)) (hd : (x == ("__debug__" : Str)) = false := by decide)
    (hcd : (x == ("__classdict__" : Str)) = false := by decide)
    (hbase : attributeBase (.Name x p1) "insert" X.env (eval (.Name x p1) X.env) = eval (.Name x p1) X.env := by rfl)
    (hfew : ((backTo p3 (starEach [e1, e2] X.env)).all (fun x => !x.1) && (backToKw p3 (keywordEach [] X.env)).all (fun x => x.1.isSome)
      && decide ([e1, e2].length + ([] : List Keyword).length + (if ([] : List Keyword).isEmpty then 0 else 1) < 30)) = true := by rfl)
    (hline : (p2.endLine == p3.line) = true := by rfl) (hs1 : starEach [e1, e2] X.env = (false, eval e1 X.env) :: starEach [e2] X.env := by rfl) (hplain : (backTo p3 (starEach [e2] X.env)).any (·.1) = false := by rfl)
    (hs : swapsWith (.Call (.Attribute (.Name x p1) "insert" p2) [e1, e2] [] p3) none pos.line X.env = pure false := by rfl) :
    VS X w (.Expr (.Call (.Attribute (.Name x p1) "insert" p2) [e1, e2] [] p3) pos) (mIns i mn) :=
  (ps_expr (pe_bm PySem.F.plainAttrs_list PySem.F.slot_list_insert PySem.F.type_list_insert mt_insert (pe_var hN hv hd hcd) he hbase hfew hline hs1 hplain) hs).imp fun E σ H ⟨H0, W, o, ρ, s, out, G, e, p⟩ => by
    unfold mIns at e
    split at e
    · rename_i ds hds
      have hi := owned_some hds
      split at e
      · rename_i hlt
        split at e
        · rename_i k d s1 e1
          split at e
          · rename_i hk
            cases e
            simp only [Bool.and_eq_true, decide_eq_true_eq] at hk
            obtain ⟨a, vs, h1, h2, h3, h4⟩ := G.own i ds hi
            refine ⟨.ref a, h2, .inl ⟨rfl, vs, SqL.of h3⟩, H0, W, o, ρ, s, _, s1, G, e1, fun us H1 x1 k1 r => ?_⟩
            have G1 := G.ext x1 k1
            cases r with
            | cons r1 r2 =>
              cases r1
              cases r2 with
              | cons r2 r3 =>
                cases r3
                have h31 := x1 a _ h3 (G.own_mine h1)
                have h41 := G.repLExt x1 h4
                refine ⟨a, vs, k, _, rfl, rfl, h31, by rw [h41.length]; exact hlt, hk.1, hk.2, ?_⟩
                exact p o σ _ (G1.mutOwn hi h1 (((h41.take _).append (.cons r2 .nil)).append (h41.drop _)))
          · cases e
        · cases e
      · cases e
    · cases e
end
end Rr

set_option Elab.async false
set_option linter.all false
set_option maxRecDepth 100000
set_option maxHeartbeats 1000000
/-! The layer of data: several stored at once, arguments that are only read. -/
namespace Rr
open PySem PySem.Spec L2 PyProof.Rows

/-! ### a value, or a new list that will be the def's own -/
def RepX (ad : Nat → Addr) (H H' : Hp) (A : Addr → Prop) (v : V) : Sl → Prop
  | .val d => Rep ad H' A v d
  | .own ds => ∃ a vs, v = .ref a ∧ H a = none ∧ H' a = some (.lst vs) ∧ RepL ad H' (fun b => A b ∨ b = a) vs ds
def tX (w : Wd) (m : Rho → Mo w.S Sl) : TE := fun σ H Q => ∃ H0 W o ρ s x s', Gd w H0 W o ρ s σ H ∧ m ρ s = some (x, s') ∧ ∀ v H', Ext w H H' → w.ok s' H' → RepX w.ad H H' (Av W o) v x → Q v H'
abbrev VX (X : Cx) (w : Wd) (e : Expr) (m : Rho → Mo w.S Sl) : Prop := PE X e (tX w m)
section
variable {w : Wd} {H0 : Base} {H H' : Hp} {W : Addr → Prop} {o : Own} {ρ : Rho} {s s' : w.S} {σ : L2.St}
theorem Gd.noMine (G : Gd w H0 W o ρ s σ H) {a : Addr} (h : H a = none) : ¬ w.mine a := fun z => w.trk G.ok z h
/-- a new list that nothing is to meet -/
theorem Gd.addW (G : Gd w H0 W o ρ s σ H) (x : Ext w H H') (k : w.ok s' H') {p : Addr} (hp : H p = none) (hp2 : H' p ≠ none) : Gd w (now H' o) (Wp W p) o ρ s' σ H' := by
  have G1 := G.ext x k
  have av : ∀ a, Av (Wp W p) o a → Av W o a ∨ a = p := fun a z => by
    rcases z with (z | z) | z
    · exact .inl (.inl z)
    · exact .inr z
    · exact .inl (.inr z)
  have ne : ∀ j a, o j = some a → a ≠ p := fun j a h z => G.tracked (.inr ⟨j, h⟩) (by rw [z]; exact hp)
  have rr : ∀ {v d}, Rep w.ad H (Av W o) v d → Rep w.ad H' (Av (Wp W p) o) v d := fun {v d} q => q.of fun a y e n => ⟨x a y e (G.mineAv n), fun z => (av a z).elim n fun z => by subst z; rw [hp] at e; cases e⟩
  have rrl : ∀ {v d}, RepL w.ad H (Av W o) v d → RepL w.ad H' (Av (Wp W p) o) v d := fun {v d} q => q.of fun a y e n => ⟨x a y e (G.mineAv n), fun z => (av a z).elim n fun z => by subst z; rw [hp] at e; cases e⟩
  exact {
    len := G.len
    sub := fun a z => .inl (G.sub a z)
    trk := fun a z => by
      rcases z with z | z
      · exact G1.tracked (.inl z)
      · subst z; exact hp2
    frm := fun _ _ h _ _ => h
    lic := fun a ⟨i, h⟩ z => by
      rcases z with z | z
      · exact G.own_W h z
      · exact ne i a h z
    ok := k
    val := fun i d h => let ⟨v, h1, h2⟩ := G.val i d h; ⟨v, h1, rr h2⟩
    own := fun i ds h => let ⟨a, us, h1, h2, h3, h4⟩ := G.own i ds h; ⟨a, us, h1, h2, x a _ h3 (G.own_mine h1), rrl h4⟩
    inj := G.inj
    new := fun i a h => .inr ⟨i, h⟩
    live := G.live }
/-- what W has to bear while the rest is told -/
def addX (W : Addr → Prop) (v : V) : Sl → Addr → Prop
  | .val _ => W
  | .own _ => match v with | .ref a => Wp W a | _ => W
theorem Gd.afterX (G : Gd w H0 W o ρ s σ H) (x : Ext w H H') (k : w.ok s' H') {v : V} {l : Sl} (r : RepX w.ad H H' (Av W o) v l) : ∃ Hb, Gd w Hb (addX W v l) o ρ s' σ H' := by
  cases l with
  | val d => exact ⟨_, G.ext x k⟩
  | own ds =>
    obtain ⟨a, vs, rfl, h1, h2, h3⟩ := r
    exact ⟨_, G.addW x k h1 (by rw [h2]; exact Option.some_ne_none _)⟩
theorem Gd.setX (G : Gd w H0 W o ρ s σ H) (x : Ext w H H') (k : w.ok s' H') {v : V} {l : Sl} (r : RepX w.ad H H' (Av W o) v l) (i : Nat) (hi : i < ρ.length) :
    ∃ o', Gd w H0 W o' (ρ.set i (some l)) s' (σ.set i (some v)) H' ∧ ∀ a, Av W o' a → Av (addX W v l) o a := by
  cases l with
  | val d => exact ⟨_, (G.ext x k).setVal i r, fun a z => off_av z⟩
  | own ds =>
    obtain ⟨a, vs, rfl, h1, h2, h3⟩ := r
    refine ⟨_, G.setOwn x k h1 h2 h3 i hi, fun b z => ?_⟩
    rcases onn_av z with (z | z) | z
    · exact .inl (.inl z)
    · exact .inr z
    · exact .inl (.inr z)
theorem RepX.mono {ad : Nat → Addr} {A B : Addr → Prop} {v : V} {l : Sl} (r : RepX ad H H' A v l) (h : ∀ a, B a → A a) : RepX ad H H' B v l := by
  cases l with
  | val d => exact Rep.mono r h
  | own ds =>
    obtain ⟨a, vs, e, h1, h2, h3⟩ := r
    exact ⟨a, vs, e, h1, h2, h3.mono fun b z => z.elim (fun y => .inl (h b y)) .inr⟩
end
section
variable {X : Cx} {w : Wd} {a b c : Expr} {ma mb mc : Rho → Mo w.S Sl} {m : Rho → Mo w.S D} {mn : Rho → Mo w.S (List D)} {e : Expr}
def xv {S : Type} (m : Rho → Mo S D) : Rho → Mo S Sl := fun ρ => bd (m ρ) fun d => rt (.val d)
def xo {S : Type} (m : Rho → Mo S (List D)) : Rho → Mo S Sl := fun ρ => bd (m ρ) fun d => rt (.own d)
theorem ve_vx (h : VE X w e m) : VX X w e (xv m) := h.imp fun σ H Q ⟨H0, W, o, ρ, s, d, s', G, e, q⟩ => by
  obtain ⟨x, s1, e1, e2⟩ := bd_some e
  cases e2
  exact ⟨H0, W, o, ρ, s, x, _, G, e1, fun v H' x k r => q v H' x k r⟩
theorem vn_vx (h : VN X w e mn) : VX X w e (xo mn) := h.imp fun σ H Q ⟨H0, W, o, ρ, s, d, s', G, e, q⟩ => by
  obtain ⟨x, s1, e1, e2⟩ := bd_some e
  cases e2
  exact ⟨H0, W, o, ρ, s, x, _, G, e1, fun a vs H' x k n h' r => q _ H' x k ⟨a, vs, rfl, n, h', r⟩⟩
def mPar {S : Type} (i j : Nat) (ma mb : Rho → Mo S Sl) : Ms S := fun ρ s => if i < ρ.length && decide (j < ρ.length) then match bd (ma ρ) (fun x => bd (mb ρ) fun y => rt (x, y)) s with
  | some ((x, y), s') => some (.nx ((ρ.set i (some x)).set j (some y)) s')
  | none => none else none
theorem vs_par (i j : Nat) {x y : Str} {px py pt pos : Pos} {kt k2 pt2} (hc : X.calm = true) (hN : X.N.Nodup) (ha : VX X w a ma) (hb : VX X w b mb) (hi : X.N[i]? = some x := by rfl) (hj : X.N[j]? = some y := by rfl) (hij : i ≠ j := by decide)
    (hx : X.env.scope.names.lookup x = some .local := by rfl) (hy : X.env.scope.names.lookup y = some .local := by rfl)
    (hw : swappedStores [.Tuple [.Name x px, .Name y py] kt pt] (.Tuple [a, b] k2 pt2) X.env = pure (some [x, y]) := by rfl)
    (hs : swapsWithSole [.Tuple [.Name x px, .Name y py] kt pt] (.Tuple [a, b] k2 pt2) pos.line X.env = pure false := by rfl)
    (hs1 : starEach [a, b] X.env = (false, eval a X.env) :: starEach [b] X.env := by rfl) (hs2 : starEach [b] X.env = (false, eval b X.env) :: starEach [] X.env := by rfl) :
    VS X w (.Assign [.Tuple [.Name x px, .Name y py] kt pt] (.Tuple [a, b] k2 pt2) pos) (mPar i j ma mb) :=
  (ps_par hc hN hi hj hij hx hy (pa_cons ha (pa_cons hb pa_nil hs2) hs1) hw hs).imp fun E σ H ⟨H0, W, o, ρ, s, out, G, e, p⟩ => by
    unfold mPar at e
    split at e
    · rename_i hl
      simp only [Bool.and_eq_true, decide_eq_true_eq] at hl
      split at e
      · rename_i x1 y1 s2 e1
        cases e
        obtain ⟨x2, sa, ea, e2⟩ := bd_some e1
        obtain ⟨y2, sb, eb, e3⟩ := bd_some e2
        cases e3
        refine ⟨H0, W, o, ρ, s, x1, sa, G, ea, fun v H1 g1 k1 r1 => ?_⟩
        obtain ⟨Hb, G1⟩ := G.afterX g1 k1 r1
        refine ⟨Hb, _, o, ρ, sa, y1, _, G1, eb, fun u H2 g2 k2 r2 => ⟨v, u, rfl, ?_⟩⟩
        obtain ⟨o1, F1, h1⟩ := G.setX g1 k1 r1 i hl.1
        obtain ⟨o2, F2, _⟩ := F1.setX g2 k2 (r2.mono h1) j (by rw [List.length_set]; exact hl.2)
        exact p _ _ _ F2
      · cases e
    · cases e
def mPar3 {S : Type} (i j l : Nat) (ma mb mc : Rho → Mo S Sl) : Ms S := fun ρ s => if i < ρ.length && decide (j < ρ.length) && decide (l < ρ.length) then match bd (ma ρ) (fun x => bd (mb ρ) fun y => bd (mc ρ) fun z => rt (x, y, z)) s with
  | some ((x, y, z), s') => some (.nx (((ρ.set i (some x)).set j (some y)).set l (some z)) s')
  | none => none else none
theorem vs_par3 (i j l : Nat) {x y z : Str} {px py pz pt pos : Pos} {kt k2 pt2} (hc : X.calm = true) (hN : X.N.Nodup) (ha : VX X w a ma) (hb : VX X w b mb) (hcc : VX X w c mc) (hi : X.N[i]? = some x := by rfl) (hj : X.N[j]? = some y := by rfl) (hl : X.N[l]? = some z := by rfl)
    (hij : i ≠ j := by decide) (hil : i ≠ l := by decide) (hjl : j ≠ l := by decide)
    (hx : X.env.scope.names.lookup x = some .local := by rfl) (hy : X.env.scope.names.lookup y = some .local := by rfl) (hz : X.env.scope.names.lookup z = some .local := by rfl)
    (hw : swappedStores [.Tuple [.Name x px, .Name y py, .Name z pz] kt pt] (.Tuple [a, b, c] k2 pt2) X.env = pure (some [x, y, z]) := by rfl)
    (hs : swapsWithSole [.Tuple [.Name x px, .Name y py, .Name z pz] kt pt] (.Tuple [a, b, c] k2 pt2) pos.line X.env = pure false := by rfl)
    (hs1 : starEach [a, b, c] X.env = (false, eval a X.env) :: starEach [b, c] X.env := by rfl) (hs2 : starEach [b, c] X.env = (false, eval b X.env) :: starEach [c] X.env := by rfl) (hs3 : starEach [c] X.env = (false, eval c X.env) :: starEach [] X.env := by rfl) :
    VS X w (.Assign [.Tuple [.Name x px, .Name y py, .Name z pz] kt pt] (.Tuple [a, b, c] k2 pt2) pos) (mPar3 i j l ma mb mc) :=
  (L2.ps_par3 hc hN hi hj hl hij hil hjl hx hy hz (pa_cons ha (pa_cons hb (pa_cons hcc pa_nil hs3) hs2) hs1) hw hs).imp fun E σ H ⟨H0, W, o, ρ, s, out, G, e, p⟩ => by
    unfold mPar3 at e
    split at e
    · rename_i hl
      simp only [Bool.and_eq_true, decide_eq_true_eq] at hl
      split at e
      · rename_i x1 y1 z1 s2 e1
        cases e
        obtain ⟨x2, sa, ea, e2⟩ := bd_some e1
        obtain ⟨y2, sb, eb, e3⟩ := bd_some e2
        obtain ⟨z2, sc, ec, e4⟩ := bd_some e3
        cases e4
        refine ⟨H0, W, o, ρ, s, x1, sa, G, ea, fun v H1 g1 k1 r1 => ?_⟩
        obtain ⟨Hb, G1⟩ := G.afterX g1 k1 r1
        refine ⟨Hb, _, o, ρ, sa, y1, sb, G1, eb, fun u H2 g2 k2 r2 => ?_⟩
        obtain ⟨Hc, G2⟩ := G1.afterX g2 k2 r2
        refine ⟨Hc, _, o, ρ, sb, z1, _, G2, ec, fun t H3 g3 k3 r3 => ⟨v, u, t, rfl, ?_⟩⟩
        obtain ⟨o1, F1, h1⟩ := G.setX g1 k1 r1 i hl.1.1
        obtain ⟨o2, F2, h2⟩ := F1.setX g2 k2 (r2.mono h1) j (by rw [List.length_set]; exact hl.1.2)
        obtain ⟨o3, F3, _⟩ := F2.setX g3 k3 (r3.mono fun d q => by
          have q1 := h2 d q
          cases y1 with
          | val d1 => exact h1 d q1
          | own ds1 =>
            obtain ⟨q0, _, rfl, _⟩ := r2
            rcases q1 with (q1 | q1) | q1
            · rcases h1 d (.inl q1) with q2 | q2
              · exact .inl (.inl q2)
              · exact .inr q2
            · exact .inl (.inr q1)
            · rcases h1 d (.inr q1) with q2 | q2
              · exact .inl (.inl q2)
              · exact .inr q2) l (by rw [List.length_set, List.length_set]; exact hl.2)
        exact p _ _ _ F3
      · cases e
    · cases e
end

/-! ### arguments that are only read, at any depth: for calls that give a plain value back -/
def tB (w : Wd) (m : Rho → Mo w.S D) : TE := fun σ H Q => ∃ H0 W o ρ s d s', Gd w H0 W o ρ s σ H ∧ m ρ s = some (d, s') ∧ ∀ v H', Ext w H H' → w.ok s' H' → Rep w.ad H' W v d → Q v H'
def tBs (w : Wd) (m : Rho → Mo w.S (List D)) : TA := fun σ H Q => ∃ H0 W o ρ s ds s', Gd w H0 W o ρ s σ H ∧ m ρ s = some (ds, s') ∧ ∀ vs H', Ext w H H' → w.ok s' H' → RepL w.ad H' W vs ds → Q vs H'
abbrev VB (X : Cx) (w : Wd) (e : Expr) (m : Rho → Mo w.S D) : Prop := PE X e (tB w m)
abbrev VBs (X : Cx) (w : Wd) (es : List Expr) (m : Rho → Mo w.S (List D)) : Prop := PA X es (tBs w m)
def flatD : D → Bool
  | .non => true | .bl _ => true | .int _ => true | .str _ => true | _ => false
section
variable {X : Cx} {w : Wd} {e : Expr} {es : List Expr} {m : Rho → Mo w.S D} {ms : Rho → Mo w.S (List D)} {pos p : Pos} {x : Str} {k n : Nat} {f : Addr} {fd : FuncData} {ps : List Str} {F : List D → Mo w.S D}
theorem vr_vb (h : VR X w e m) : VB X w e m := h.imp fun σ H Q ⟨H0, W, o, ρ, s, d, s', G, e, q⟩ => ⟨H0, W, o, ρ, s, d, s', G, e, fun v H' x k r => q v H' x k (by
  cases r with
  | kept r => exact r.mono fun _ z => .inl z
  | own h1 h2 h3 => exact .lst h1 h2 (h3.mono fun _ z => .inl z))⟩
theorem vbs_nil : VBs X w [] (fun _ => rt []) := pa_nil.imp fun σ H Q ⟨H0, W, o, ρ, s, d, s', G, e, q⟩ => by
  cases e
  exact q [] H (Ext.refl H) G.ok .nil
theorem vbs_cons (he : VB X w e m) (hr : VBs X w es ms) (hs : starEach (e :: es) X.env = (false, eval e X.env) :: starEach es X.env := by rfl) :
    VBs X w (e :: es) (fun ρ => bd (m ρ) fun d => bd (ms ρ) fun ds => rt (d :: ds)) :=
  (pa_cons he hr hs).imp fun σ H Q ⟨H0, W, o, ρ, s, d, s', G, e, q⟩ => by
    obtain ⟨d1, s1, e1, e⟩ := bd_some e
    obtain ⟨d2, s2, e2, e⟩ := bd_some e
    cases e
    refine ⟨H0, W, o, ρ, s, d1, s1, G, e1, fun v H1 x1 k1 r1 => ?_⟩
    have G1 := G.ext x1 k1
    exact ⟨H0, W, o, ρ, s1, d2, _, G1, e2, fun vs H2 x2 k2 r2 => q (v :: vs) H2 (x1.trans x2) k2 (.cons (r1.of fun a y h n => ⟨x2 a y h fun z => n (G.sub a z), n⟩) r2)⟩
theorem vb_lst (h : VBs X w es ms) : VB X w (.List es pos) (fun ρ => bd (ms ρ) fun ds => bd (up (sz ds)) fun ds => rt (.lst ds)) :=
  (pe_lst h).imp fun σ H Q ⟨H0, W, o, ρ, s, d, s', G, e, q⟩ => by
    obtain ⟨d1, s1, e1, f⟩ := bd_some e
    obtain ⟨d2, s2, e2, f2⟩ := bd_some f
    obtain ⟨e3, rfl⟩ := up_some e2
    obtain ⟨rfl, hz⟩ := sz_some e3
    cases f2
    refine ⟨H0, W, o, ρ, s, d2, _, G, e1, fun vs H1 x1 k1 r1 => ⟨by rw [r1.length]; exact hz, fun p hp => ?_⟩⟩
    have G1 := G.ext x1 k1
    have x2 : Ext w H1 (upd H1 p (.lst vs)) := Ext.new hp
    refine q _ _ (x1.trans x2) (w.keep k1 fun a ha => upd_ne fun z => by subst z; exact w.trk k1 ha hp) (.lst upd_same (fun z => G1.tracked (.inl z) hp) (r1.of fun a y h n => ⟨x2 a y h fun z => n (G.sub a z), n⟩))
theorem vb_tup {x1} (h : VBs X w es ms) : VB X w (.Tuple es x1 pos) (fun ρ => bd (ms ρ) fun ds => bd (up (sz ds)) fun ds => rt (.tup ds)) :=
  (pe_tup h).imp fun σ H Q ⟨H0, W, o, ρ, s, d, s', G, e, q⟩ => by
    obtain ⟨d1, s1, e1, f⟩ := bd_some e
    obtain ⟨d2, s2, e2, f2⟩ := bd_some f
    obtain ⟨e3, rfl⟩ := up_some e2
    obtain ⟨rfl, hz⟩ := sz_some e3
    cases f2
    refine ⟨H0, W, o, ρ, s, d2, _, G, e1, fun vs H1 x1 k1 r1 => ⟨by rw [r1.length]; exact hz, fun p hp => ?_⟩⟩
    have G1 := G.ext x1 k1
    have x2 : Ext w H1 (upd H1 p (.tup vs)) := Ext.new hp
    refine q _ _ (x1.trans x2) (w.keep k1 fun a ha => upd_ne fun z => by subst z; exact w.trk k1 ha hp) (.tup upd_same (fun z => G1.tracked (.inl z) hp) (r1.of fun a y h n => ⟨x2 a y h fun z => n (G.sub a z), n⟩))
def mCallB {S : Type} (n : Nat) (F : List D → Mo S D) (ms : Rho → Mo S (List D)) : Rho → Mo S D := fun ρ => bd (mCall n F ms ρ) fun d => if flatD d then rt d else fun _ => none
theorem ve_callR (Fk : FnOk X.prog X.w X.K X.mg X.base CX0 k f fd ps (spV w n F)) (hr : Room k X.A) (hm : X.mg x = some (.ref f)) (hk : PySem.W.keepIn X.K (.ref f) = true) (hb : Binds X.K fd ps []) (ha : VBs X w (e :: es) ms)
    (hg : Gl X x := by rfl) (hdb : (x == ("__debug__" : Str)) = false := by decide) (he : starEach (e :: es) X.env = (false, eval e X.env) :: starEach es X.env := by rfl) (hpl : (backTo pos (starEach es X.env)).any (·.1) = false := by rfl) :
    VE X w (.Call (.Name x p) (e :: es) [] pos) (mCallB n F ms) :=
  (pe_call Fk hr hg hm hk hb .nil (E := E0) pass0 ha hdb he hpl).imp fun σ H Q ⟨H0, W, o, ρ, s, d, s', G, e, q⟩ => by
    obtain ⟨d1, s2, e0, e3⟩ := bd_some e
    split at e3
    · rename_i hf
      cases e3
      obtain ⟨ds, s1, e1, hl, e2⟩ := mCall_some e0
      refine ⟨H0, W, o, ρ, s, ds, s1, G, e1, fun vs H1 x1 k1 r1 => ?_⟩
      have G1 := G.ext x1 k1
      show spV w n F (vs ++ []) H1 Q E0
      rw [List.append_nil]
      refine ⟨W, ds, s1, d, _, G.sub, fun a z => G1.tracked (.inl z), k1, r1, hl, e2, fun v H2 x2 k2 r2 => q v H2 (x1.trans x2) k2 ?_⟩
      cases d <;> first | (cases hf; done) | (cases r2; constructor)
    · cases e3
end
end Rr

set_option Elab.async false
set_option linter.all false
set_option maxRecDepth 100000
set_option maxHeartbeats 1000000
/-! The layer of data: short names of readings; defs by their names. -/
namespace Rr
open PySem PySem.Spec L2 PyProof.Rows

def rN {S : Type} (i : Nat) : Rho → Mo S D := fun ρ => up (gv i ρ)
def rO {S : Type} (i : Nat) : Rho → Mo S D := fun ρ => up (go i ρ)
def rC {S : Type} (d : D) : Rho → Mo S D := fun _ => rt d
def rNil {S : Type} : Rho → Mo S (List D) := fun _ => rt []
def rCons {S : Type} (m : Rho → Mo S D) (ms : Rho → Mo S (List D)) : Rho → Mo S (List D) := fun ρ => bd (m ρ) fun d => bd (ms ρ) fun ds => rt (d :: ds)
def rStar {S : Type} (m : Rho → Mo S D) (ms : Rho → Mo S (List D)) : Rho → Mo S (List D) := fun ρ => bd (bd (m ρ) fun d => up (seqD d)) fun xs => bd (ms ρ) fun ds => rt (xs ++ ds)
def rTup {S : Type} (ms : Rho → Mo S (List D)) : Rho → Mo S D := fun ρ => bd (ms ρ) fun ds => bd (up (sz ds)) fun ds => rt (.tup ds)
def rLstB {S : Type} (ms : Rho → Mo S (List D)) : Rho → Mo S D := fun ρ => bd (ms ρ) fun ds => bd (up (sz ds)) fun ds => rt (.lst ds)
def rLst {S : Type} (ms : Rho → Mo S (List D)) : Rho → Mo S (List D) := fun ρ => bd (ms ρ) fun ds => up (sz ds)
def rNv {S : Type} (mn : Rho → Mo S (List D)) : Rho → Mo S D := fun ρ => bd (mn ρ) fun ds => rt (.lst ds)
def rSeq {S : Type} (m : Rho → Mo S D) : Rho → Mo S (List D) := fun ρ => bd (m ρ) fun d => up (seqD d)
def rCut {S : Type} (m : Rho → Mo S D) (ml mh : Rho → Mo S (Option Int)) : Rho → Mo S D := fun ρ => bd (m ρ) fun d => bd (ml ρ) fun i => bd (mh ρ) fun j => up (dCut d i j)
def rNo {S : Type} : Rho → Mo S (Option Int) := fun _ => rt none
def rPt {S : Type} (m : Rho → Mo S D) : Rho → Mo S (Option Int) := fun ρ => bd (m ρ) asI
def rNeg {S : Type} (m : Rho → Mo S D) : Rho → Mo S D := fun ρ => bd (m ρ) fun d => up (dNeg d)
def rNot {S : Type} (m : Rho → Mo S D) : Rho → Mo S D := fun ρ => bd (qB m ρ) fun b => rt (.bl (!b))
def rIsi {S : Type} (Ts : List String) (m : Rho → Mo S D) : Rho → Mo S D := fun ρ => bd (m ρ) fun d => up (dIsi Ts d)
def qTru {S : Type} (m : Rho → Mo S D) : Rho → Mo S Bool := fun ρ => bd (m ρ) fun d => up (tru d)
def qNot {S : Type} (q : Rho → Mo S Bool) : Rho → Mo S Bool := fun ρ => bd (q ρ) fun b => rt (!b)
def qYes {S : Type} : Rho → Mo S Bool := fun _ => rt true
def sEx {S : Type} (m : Rho → Mo S D) : Ms S := fun ρ s => (m ρ s).map fun p => .nx ρ p.2
def sRt {S : Type} (m : Rho → Mo S D) : Ms S := fun ρ s => (m ρ s).map fun p => .rt p.1 p.2
def sRf {S : Type} (mn : Rho → Mo S (List D)) : Ms S := fun ρ s => (mn ρ s).map fun p => .rf p.1 p.2
def sApp {S : Type} (i : Nat) (mn : Rho → Mo S (List D)) : Ms S := mApp i fun ρ => bd (mn ρ) fun ds => match ds with | [d] => rt d | _ => fun _ => none
def sRel {S : Type} (i : Nat) (m : Ms S) : Ms S := fun ρ => m (relE i ρ)
def sBrk {S : Type} : Ms S := fun ρ s => some (.bk ρ s)
def sCnt {S : Type} : Ms S := fun ρ s => some (.ct ρ s)
def sRtN {S : Type} : Ms S := fun _ s => some (.rt .non s)
def fuW : Nat := 1000000
def sWh {S : Type} (fuel : Nat) (q : Rho → Mo S Bool) (mb : Ms S) : Ms S := fun ρ s => loopW q mb fuel ρ s

/-- the def x of the module -/
structure Has (P : Program) (wo : World) (K : PySem.W.Frag) (mg : Str → Option Value) (base : Heap) (x : Str) (k : Nat) (ps : List Str) (sp : Sp) : Prop where
  ex : ∃ f fd, FnOk P wo K mg base CX0 k f fd ps sp ∧ mg x = some (.ref f) ∧ PySem.W.keepIn K (.ref f) = true ∧ Binds K fd ps []
section
variable {X : Cx} {w : Wd} {e : Expr} {es : List Expr} {ms : Rho → Mo w.S (List D)} {pos p : Pos} {x : Str} {j k n : Nat} {ps : List Str} {F : List D → Mo w.S D} {Fn : List D → Mo w.S (List D)}
theorem ve_has (Fk : Has X.prog X.w X.K X.mg X.base x j ps (spV w n F)) (hr : Room k X.A) (ha : VEs X w (e :: es) ms) (hj : j ≤ k := by decide)
    (hg : Gl X x := by rfl) (hdb : (x == ("__debug__" : Str)) = false := by decide) (he : starEach (e :: es) X.env = (false, eval e X.env) :: starEach es X.env := by rfl) (hpl : (backTo pos (starEach es X.env)).any (·.1) = false := by rfl) :
    VE X w (.Call (.Name x p) (e :: es) [] pos) (mCall n F ms) := by
  obtain ⟨f, fd, Fk, hm, hk, hb⟩ := Fk.ex
  exact ve_call Fk (hr.mono hj) hm hk hb ha hg hdb he hpl
theorem vn_has (Fk : Has X.prog X.w X.K X.mg X.base x j ps (spN w n Fn)) (hr : Room k X.A) (ha : VEs X w (e :: es) ms) (hj : j ≤ k := by decide)
    (hg : Gl X x := by rfl) (hdb : (x == ("__debug__" : Str)) = false := by decide) (he : starEach (e :: es) X.env = (false, eval e X.env) :: starEach es X.env := by rfl) (hpl : (backTo pos (starEach es X.env)).any (·.1) = false := by rfl) :
    VN X w (.Call (.Name x p) (e :: es) [] pos) (mCall n Fn ms) := by
  obtain ⟨f, fd, Fk, hm, hk, hb⟩ := Fk.ex
  exact vn_call Fk (hr.mono hj) hm hk hb ha hg hdb he hpl
theorem ve_hasR (Fk : Has X.prog X.w X.K X.mg X.base x j ps (spV w n F)) (hr : Room k X.A) (ha : VBs X w (e :: es) ms) (hj : j ≤ k := by decide)
    (hg : Gl X x := by rfl) (hdb : (x == ("__debug__" : Str)) = false := by decide) (he : starEach (e :: es) X.env = (false, eval e X.env) :: starEach es X.env := by rfl) (hpl : (backTo pos (starEach es X.env)).any (·.1) = false := by rfl) :
    VE X w (.Call (.Name x p) (e :: es) [] pos) (mCallB n F ms) := by
  obtain ⟨f, fd, Fk, hm, hk, hb⟩ := Fk.ex
  exact ve_callR Fk (hr.mono hj) hm hk hb ha hg hdb he hpl
/-- what is never asked -/
theorem has_none {P : Program} {wo : World} {K : PySem.W.Frag} {mg : Str → Option Value} {base : Heap} {x qual : Str} {st : Stmt} {f : Addr} {fd : FuncData} {N : List Str} {sp : Sp} (FF : Fun K x qual st f fd) (S : FnScope N ps (defScope st)) (hm : mg x = some (.ref f)) (hb : Binds K fd ps [])
    (h : ∀ vs H Q E, ¬ sp vs H Q E) : Has P wo K mg base x (k + 1) ps sp :=
  ⟨f, fd, FF.ok S (fun vs H Q E q => (h _ _ _ _ q).elim) fun cdv A outer s H vs Q E hr q => (h _ _ _ _ q).elim, hm, FF.kp, hb⟩
theorem Has.up {P : Program} {wo : World} {K : PySem.W.Frag} {mg : Str → Option Value} {base : Heap} {sp : Sp} (h : Has P wo K mg base x j ps sp) (hj : j ≤ k) : Has P wo K mg base x k ps sp := by
  obtain ⟨f, fd, Fk, hm, hk, hb⟩ := h.ex
  exact ⟨f, fd, Fk.mono hj, hm, hk, hb⟩
theorem spV_none {w : Wd} {n : Nat} {vs : List V} {H : Hp} {Q : VK} {E : XK} : ¬ spV w n (fun _ _ => none) vs H Q E := fun ⟨_, _, _, _, _, _, _, _, _, _, e, _⟩ => by cases e
theorem spN_none {w : Wd} {n : Nat} {vs : List V} {H : Hp} {Q : VK} {E : XK} : ¬ spN w n (fun _ _ => none) vs H Q E := fun ⟨_, _, _, _, _, _, _, _, _, _, e, _⟩ => by cases e
end
end Rr

set_option Elab.async false
set_option linter.all false
set_option maxRecDepth 100000
set_option maxHeartbeats 1000000
/-! The layer of data: powers, x[i] = e, repr, and the pen. -/
namespace Rr
open PySem PySem.Spec L2 PyProof.Rows

section
variable {X : Cx} {w : Wd} {a b e e1 e2 : Expr} {ma mb m : Rho → Mo w.S D} {m1 m2 : Rho → Mo w.S D} {ms : Rho → Mo w.S (List D)} {pos p p1 p2 p3 : Pos} {x : Str}
def dPow : D → D → Option D
  | .int i, .int j => if 0 ≤ j && decide (j ≤ 1000000) && small i then some (.int (i ^ j.toNat)) else none
  | _, _ => none
theorem pow_ok : OpD w (rI CPow fun i j => .int (i ^ j.toNat)) dPow := by
  intro H0 W o ρ s σ H G x y d e z Q hx hy hg q
  unfold dPow at hg
  split at hg
  · split at hg
    · rename_i hs
      cases hg
      simp only [Bool.and_eq_true, decide_eq_true_eq] at hs
      obtain ⟨⟨h1, h2⟩, h3⟩ := hs
      obtain ⟨h4, h5⟩ := small_of h3
      rw [hx.inv_int, hy.inv_int]
      exact ⟨_, _, rfl, rfl, ⟨h1, h2, by omega⟩, fin_ext G q (.int _)⟩
    · cases hg
  · cases hg
theorem ve_pow (ha : VR X w a ma) (hb : VR X w b mb) : VE X w (.BinOp a .Pow b pos) (b2 dPow ma mb) := ve_op op_pow pow_ok ha hb

/-! ### x[e1] = e2, x the def's own list -/
def mPut {S : Type} (i : Nat) (m2 m1 : Rho → Mo S D) : Ms S := fun ρ s => match bd (m2 ρ) (fun d => bd (m1 ρ) fun k => rt (d, k)) s with
  | some ((d, .int k), s') => match owned i ρ with
    | some ds => match ixN ds.length k with
      | some j => some (.nx (ρ.set i (some (.own (ds.set j d)))) s')
      | none => none
    | none => none
  | _ => none
theorem vs_put (i : Nat) (h2 : VE X w e2 m2) (h1 : VE X w e1 m1) (hN : X.N[i]? = some x := by rfl) (hv : Vis X.env.scope x := by first | exact Or.inl rfl | exact Or.inr (Or.inl rfl) | exact Or.inr (Or.inr rfl)) (hd : (x == ("__debug__" : Str)) = false := by decide)
    (hcd : (x == ("__classdict__" : Str)) = false := by decide)
    (ha : ∀ v, assign (.Subscript (.Name x p1) e1 p2) X.env v = (do
      let ov ← holding [v] (eval (.Name x p1) X.env)
      let iv ← holding [v, ov] (eval e1 X.env)
      standAt p2
      holding [v, ov, iv] (setItem ov iv v)
      release [v, ov, iv] []) := by intro _; rfl)
    (hs : swapsWithSole [.Subscript (.Name x p1) e1 p2] e2 pos.line X.env = pure false := by rfl) (hw : swappedStores [.Subscript (.Name x p1) e1 p2] e2 X.env = pure none := by rfl)
    (h0 : (assignEach [.Subscript (.Name x p1) e1 p2] X.env).map (·.2) = [assign (.Subscript (.Name x p1) e1 p2) X.env] := by rfl) :
    VS X w (.Assign [.Subscript (.Name x p1) e1 p2] e2 pos) (mPut i m2 m1) :=
  (ps_asg h2 (pg_sub (pe_var hN hv hd hcd) h1 set_list ha) hs hw h0).imp fun E σ H ⟨H0, W, o, ρ, s, out, G, e, pp⟩ => by
    unfold mPut at e
    split at e
    · rename_i d k s2 e1
      obtain ⟨d1, s1, ea, e2⟩ := bd_some e1
      obtain ⟨k1, s3, eb, e3⟩ := bd_some e2
      cases e3
      split at e
      · rename_i ds hds
        have hi := owned_some hds
        split at e
        · rename_i j hj
          cases e
          refine ⟨H0, W, o, ρ, s, d, s1, G, ea, fun v H1 x1 c1 r1 => ?_⟩
          have G1 := G.ext x1 c1
          obtain ⟨q, us, q1, q2, q3, q4⟩ := G1.own i ds hi
          refine ⟨.ref q, q2, H0, W, o, ρ, s1, .int k, _, G1, eb, fun u H2 x2 c2 r2 => ?_⟩
          cases r2
          have G2 := G1.ext x2 c2
          have q32 := x2 q _ q3 (G1.own_mine q1)
          refine ⟨q, us, k, j, rfl, rfl, q32, by rw [q4.length]; exact hj, ?_⟩
          exact pp _ _ _ (G2.mutOwn hi q1 ((G1.repLExt x2 q4).set (G1.repExt x2 r1) j))
        · cases e
      · cases e
    · cases e

/-! ### repr, where nothing is being shown -/
def dRepr : List D → Option D
  | [d] => match d with
    | .tup _ => if plain d && (py d).showable && decide ((py d).depth ≤ 64) && decide ((py d).shown.length ≤ sizeLine) then some (.str (py d).shown) else none
    | .lst _ => if plain d && (py d).showable && decide ((py d).depth ≤ 64) && decide ((py d).shown.length ≤ sizeLine) then some (.str (py d).shown) else none
    | _ => none
  | _ => none
def rRepr (K : PySem.W.Frag) : List V → Hp → VK → Prop := fun xs H Q => ∃ (a : Addr) (d : PyData), xs = [.ref a] ∧ Dp K H (.ref a) d ∧ d.showable = true ∧ d.hasDict = false ∧ d.depth ≤ 64 ∧ d.shown.length ≤ sizeLine ∧ Q (.str d.shown) H
theorem cr_repr {k : Nat} (hr : Room k X.A) (hg : X.A.guards = some []) : CallR X (.builtin "repr") (rRepr X.K) := by
  intro pins s σ H xs us Q I r h
  obtain ⟨a, d, rfl, hd, hs, hn, hdp, hz, q⟩ := h
  rw [Vals.ref1 r]
  obtain ⟨as, rd⟩ := Dp.reads I d _ _ hd (show RelV (V.ref a) (Value.ref a) from rfl)
  exact repr_of_reads' rd hs (PyData.noDict_hsm hn) hg (by have := hr.un; omega) (fun _ _ e => e) (fun h' u tk hk => ⟨.str d.shown, H, I.kept (t' := tk) hk, ⟨u, rfl⟩, q⟩) hz
theorem py_tup (ds : List D) : py (.tup ds) = .tuple (pyL ds) := by unfold py; rfl
theorem py_lst (ds : List D) : py (.lst ds) = .list (pyL ds) := by unfold py; rfl
theorem repr_ok {K : PySem.W.Frag} : CallD w (rRepr K) dRepr := by
  intro H0 W o ρ s σ H G xs ds z Q h hg q
  unfold dRepr at hg
  split at hg
  · obtain ⟨v, rfl, hb⟩ := borL1 h
    split at hg
    · split at hg
      · rename_i hc
        cases hg
        simp only [Bool.and_eq_true, decide_eq_true_eq] at hc
        obtain ⟨⟨⟨h1, h2⟩, h3⟩, h4⟩ := hc
        have hd := hb.dp (K := K) h1
        obtain ⟨a, xs, rfl, _⟩ := hb.tup
        exact ⟨a, _, rfl, hd, h2, PyData.hasDict_of_canLay _ (plain_can _ h1), h3, h4, fin_ext G q (.str _)⟩
      · cases hg
    · split at hg
      · rename_i hc
        cases hg
        simp only [Bool.and_eq_true, decide_eq_true_eq] at hc
        obtain ⟨⟨⟨h1, h2⟩, h3⟩, h4⟩ := hc
        have hd := hb.dp (K := K) h1
        obtain ⟨a, xs, rfl, _⟩ := hb.lst (fun _ z => .inl z)
        exact ⟨a, _, rfl, hd, h2, PyData.hasDict_of_canLay _ (plain_can _ h1), h3, h4, fin_ext G q (.str _)⟩
      · cases hg
    · cases hg
  · cases hg
end

/-! ### the pen: a list of the cells, the place and what is left -/
structure PenS where
  cells : List Int
  at_ : Nat
  rest : Int
def penOk (p c : Addr) (s : PenS) (H : Hp) : Prop := H p = some (.lst [.ref c, .int s.at_, .int s.rest]) ∧ H c = some (.lst (s.cells.map V.int))
def penW (p c : Addr) : Wd where
  S := PenS
  ad := fun _ => p
  mine := fun a => a = p ∨ a = c
  ok := penOk p c
  trk := fun {s H a} h m => by
    rcases m with rfl | rfl
    · rw [h.1]; exact Option.some_ne_none _
    · rw [h.2]; exact Option.some_ne_none _
  keep := fun {s H H'} h k => ⟨by rw [k p (.inl rfl)]; exact h.1, by rw [k c (.inr rfl)]; exact h.2⟩
def isPen (i : Nat) (ρ : Rho) : Bool := match ρ[i]? with | some (some (.val (.obj _))) => true | _ => false
theorem isPen_some {i : Nat} {ρ : Rho} (h : isPen i ρ = true) : ∃ n, ρ[i]? = some (some (.val (.obj n))) := by
  unfold isPen at h
  split at h
  · exact ⟨_, by assumption⟩
  · cases h
section
variable {X : Cx} {p c : Addr} {e e1 : Expr} {m : Rho → Mo PenS D} {ms : Rho → Mo PenS (List D)} {pos p1 p2 p3 p4 : Pos} {x : Str} {j : Nat}
abbrev mPenI (i : Nat) (k : Int) : Rho → Mo PenS D := fun ρ s => if isPen i ρ then (if k = 1 then some (.int s.at_, s) else if k = 2 then some (.int s.rest, s) else none) else none
/-- pen[1], pen[2] -/
theorem ve_penI (i : Nat) (k : Int) (hN : X.N[i]? = some x := by rfl) (hv : Vis X.env.scope x := by first | exact Or.inl rfl | exact Or.inr (Or.inl rfl) | exact Or.inr (Or.inr rfl)) (hd : (x == ("__debug__" : Str)) = false := by decide)
    (hcd : (x == ("__classdict__" : Str)) = false := by decide) : VE X (penW p c) (.Subscript (.Name x p1) (.Constant (.int k) j p2) pos) (mPenI i k) :=
  (pe_ix ix_list (pe_var hN hv hd hcd) pe_int (fun _ _ => rfl)).imp fun σ H Q ⟨H0, W, o, ρ, s, d, s', G, e, q⟩ => by
    unfold mPenI at e
    split at e
    · rename_i hp
      obtain ⟨n, hn⟩ := isPen_some hp
      obtain ⟨v, h1, h2⟩ := G.val i _ hn
      cases h2
      have hk : H p = some (.lst [.ref c, .int s.at_, .int s.rest]) := G.ok.1
      split at e
      · rename_i e1
        cases e; subst e1
        exact ⟨.ref p, h1, p, _, 1, .int s.at_, rfl, rfl, SqL.of hk, rfl, q _ _ (Ext.refl H) G.ok (.int _)⟩
      · split at e
        · rename_i e1
          cases e; subst e1
          exact ⟨.ref p, h1, p, _, 2, .int s.rest, rfl, rfl, SqL.of hk, rfl, q _ _ (Ext.refl H) G.ok (.int _)⟩
        · cases e
    · cases e
abbrev mPenLen (i : Nat) : Rho → Mo PenS D := fun ρ s => if isPen i ρ then some (.int s.cells.length, s) else none
theorem pen_cells (i : Nat) (hN : X.N[i]? = some x) (hv : Vis X.env.scope x) (hd : (x == ("__debug__" : Str)) = false) (hcd : (x == ("__classdict__" : Str)) = false) :
    PE X (.Subscript (.Name x p1) (.Constant (.int 0) j p2) pos) (fun σ H Q => ∃ H0 W o ρ s, Gd (penW p c) H0 W o ρ s σ H ∧ isPen i ρ = true ∧ Q (.ref c) H) :=
  (pe_ix ix_list (pe_var hN hv hd hcd) pe_int (fun _ _ => rfl)).imp fun σ H Q ⟨H0, W, o, ρ, s, G, hp, q⟩ => by
    obtain ⟨n, hn⟩ := isPen_some hp
    obtain ⟨v, h1, h2⟩ := G.val i _ hn
    cases h2
    exact ⟨.ref p, h1, p, _, 0, .ref c, rfl, rfl, SqL.of G.ok.1, rfl, q⟩
/-- len(pen[0]) -/
theorem ve_penLen (i : Nat) (hm : X.mg "len" = none) (hN : X.N[i]? = some x := by rfl) (hv : Vis X.env.scope x := by first | exact Or.inl rfl | exact Or.inr (Or.inl rfl) | exact Or.inr (Or.inr rfl)) (hd : (x == ("__debug__" : Str)) = false := by decide)
    (hcd : (x == ("__classdict__" : Str)) = false := by decide) (hg : Gl X "len" := by rfl) (hs : starEach [.Subscript (.Name x p1) (.Constant (.int 0) j p2) p3] X.env = (false, eval (.Subscript (.Name x p1) (.Constant (.int 0) j p2) p3) X.env) :: starEach [] X.env := by rfl)
    (hpl : (backTo pos (starEach [] X.env)).any (·.1) = false := by rfl) :
    VE X (penW p c) (.Call (.Name "len" p4) [.Subscript (.Name x p1) (.Constant (.int 0) j p2) p3] [] pos) (mPenLen i) :=
  (pe_callB call_len_seq hg hm (by rfl) (pa_cons (pen_cells (p := p) (c := c) i hN hv hd hcd) pa_nil hs) (by decide) (by decide) hs hpl).imp fun σ H Q ⟨H0, W, o, ρ, s, d, s', G, e, q⟩ => by
    unfold mPenLen at e
    split at e
    · rename_i hp
      cases e
      exact ⟨H0, W, o, ρ, s, G, hp, c, _, rfl, .inl (SqL.of G.ok.2), by rw [List.length_map]; exact q _ _ (Ext.refl H) G.ok (.int _)⟩
    · cases e
/-- pen[0][e] -/
abbrev mPenAt (i : Nat) (m : Rho → Mo PenS D) : Rho → Mo PenS D := fun ρ s => if isPen i ρ then match m ρ s with
  | some (.int k, s') => if s'.cells = s.cells then (atI s.cells k).map fun z => (.int z, s') else none
  | _ => none else none
theorem ve_penAt (i : Nat) (he : VR X (penW p c) e m) (hN : X.N[i]? = some x := by rfl) (hv : Vis X.env.scope x := by first | exact Or.inl rfl | exact Or.inr (Or.inl rfl) | exact Or.inr (Or.inr rfl)) (hd : (x == ("__debug__" : Str)) = false := by decide)
    (hcd : (x == ("__classdict__" : Str)) = false := by decide) (hs : PlainIx e := by exact fun _ _ => rfl) : VE X (penW p c) (.Subscript (.Subscript (.Name x p1) (.Constant (.int 0) j p2) p3) e pos) (mPenAt i m) :=
  (pe_ix ix_list (pen_cells (p := p) (c := c) i hN hv hd hcd) he hs).imp fun σ H Q ⟨H0, W, o, ρ, s, d, s', G, e, q⟩ => by
    unfold mPenAt at e
    split at e
    · rename_i hp
      split at e
      · rename_i k s1 e1
        split at e
        · rename_i ec
          obtain ⟨z, e2, e3⟩ := Option.map_eq_some_iff.mp e
          cases e3
          refine ⟨H0, W, o, ρ, s, G, hp, H0, W, o, ρ, s, _, _, G, e1, fun v H1 x1 k1 r1 => ?_⟩
          rw [r1.inv_int]
          have k2 := k1.2
          refine ⟨c, _, k, .int z, rfl, rfl, SqL.of k2, ?_, q _ _ x1 k1 (.int z)⟩
          rw [ec]
          unfold atI at e2 ⊢
          obtain ⟨l, e4, e5⟩ := Option.bind_eq_some_iff.mp e2
          rw [List.length_map]
          exact Option.bind_eq_some_iff.mpr ⟨l, e4, by rw [List.getElem?_map, e5]; rfl⟩
        · cases e
      · cases e
    · cases e
/-- pen[1] = e, pen[2] = e -/
def mPenSet (i : Nat) (k : Int) (m : Rho → Mo PenS D) : Ms PenS := fun ρ s => if isPen i ρ then match m ρ s with
  | some (.int z, s') => if k = 1 then (if 0 ≤ z then some (.nx ρ { s' with at_ := z.toNat }) else none) else if k = 2 then some (.nx ρ { s' with rest := z }) else none
  | _ => none else none
theorem vs_penSet (i : Nat) (k : Int) (hpc : p ≠ c) (he : VE X (penW p c) e m) (hN : X.N[i]? = some x := by rfl) (hv : Vis X.env.scope x := by first | exact Or.inl rfl | exact Or.inr (Or.inl rfl) | exact Or.inr (Or.inr rfl)) (hd : (x == ("__debug__" : Str)) = false := by decide)
    (hcd : (x == ("__classdict__" : Str)) = false := by decide)
    (ha : ∀ v, assign (.Subscript (.Name x p1) (.Constant (.int k) j p2) p3) X.env v = (do
      let ov ← holding [v] (eval (.Name x p1) X.env)
      let iv ← holding [v, ov] (eval (.Constant (.int k) j p2) X.env)
      standAt p3
      holding [v, ov, iv] (setItem ov iv v)
      release [v, ov, iv] []) := by intro _; rfl)
    (hs : swapsWithSole [.Subscript (.Name x p1) (.Constant (.int k) j p2) p3] e pos.line X.env = pure false := by rfl) (hw : swappedStores [.Subscript (.Name x p1) (.Constant (.int k) j p2) p3] e X.env = pure none := by rfl)
    (h0 : (assignEach [.Subscript (.Name x p1) (.Constant (.int k) j p2) p3] X.env).map (·.2) = [assign (.Subscript (.Name x p1) (.Constant (.int k) j p2) p3) X.env] := by rfl) :
    VS X (penW p c) (.Assign [.Subscript (.Name x p1) (.Constant (.int k) j p2) p3] e pos) (mPenSet i k m) :=
  (ps_asg he (pg_sub (pe_var hN hv hd hcd) pe_int set_list ha) hs hw h0).imp fun E σ H ⟨H0, W, o, ρ, s, out, G, e, pp⟩ => by
    unfold mPenSet at e
    split at e
    · rename_i hp
      obtain ⟨n, hn⟩ := isPen_some hp
      split at e
      · rename_i z s1 e1
        refine ⟨H0, W, o, ρ, s, _, s1, G, e1, fun v H1 x1 k1 r1 => ?_⟩
        cases r1
        have G1 := G.ext x1 k1
        obtain ⟨u, h1, h2⟩ := G1.val i _ hn
        cases h2
        have hk : H1 p = some (.lst [.ref c, .int s1.at_, .int s1.rest]) := k1.1
        have hc : H1 c = some (.lst (s1.cells.map V.int)) := k1.2
        have xx : ∀ y, Ext (penW p c) H1 (upd H1 p y) := fun y a q ea n => by rw [upd_ne fun z => n (.inl z)]; exact ea
        have hcu : ∀ y, upd H1 p y c = some (.lst (s1.cells.map V.int)) := fun y => by rw [upd_ne (Ne.symm hpc)]; exact hc
        split at e
        · rename_i e2
          subst e2
          split at e
          · rename_i hz
            cases e
            refine ⟨.ref p, h1, p, [.ref c, .int s1.at_, .int s1.rest], 1, 1, rfl, rfl, hk, rfl, ?_⟩
            refine pp _ _ _ (G1.ext (xx _) ⟨?_, hcu _⟩)
            rw [upd_same]
            show some (HO.lst [V.ref c, V.int z, V.int s1.rest]) = some (HO.lst [V.ref c, V.int (z.toNat : Int), V.int s1.rest])
            rw [Int.toNat_of_nonneg hz]
          · cases e
        · split at e
          · rename_i e2
            subst e2
            cases e
            refine ⟨.ref p, h1, p, [.ref c, .int s1.at_, .int s1.rest], 2, 2, rfl, rfl, hk, rfl, ?_⟩
            exact pp _ _ _ (G1.ext (xx _) ⟨by rw [upd_same]; rfl, hcu _⟩)
          · cases e
      · cases e
    · cases e
end
end Rr

set_option Elab.async false
set_option linter.all false
set_option maxRecDepth 100000
set_option maxHeartbeats 1000000
/-! The layer of data: the script; a def that is run at one place alone. -/
namespace Rr
open PySem PySem.Spec L2 PyProof.Rows

/-! ### the script: a list that nothing may change -/
def KLst (K : PySem.W.Frag) (a : Addr) (xs : List V) : Prop := ∃ (o : Obj) (its : Array Value) (n : Nat), K.lookup a = some o ∧ o.cls = .type "list" ∧ o.dict = none ∧ o.data = .seq its n ∧ its.size ≤ sizeLine ∧ Vals xs its.toList
def scrW (K : PySem.W.Frag) (a : Addr) (ns : List Int) (tr : Prop) : Wd where
  S := Unit
  ad := fun _ => a
  mine := fun b => tr ∧ b = a
  ok := fun _ H => (tr ∧ Rd H a (.lst (ns.map V.int))) ∨ (¬ tr ∧ KLst K a (ns.map V.int))
  trk := fun {s H b} h m => by
    obtain ⟨m1, rfl⟩ := m
    rcases h with ⟨_, h | ⟨o, h⟩⟩ | ⟨h, _⟩
    · rw [h]; exact Option.some_ne_none _
    · rw [h]; exact Option.some_ne_none _
    · exact absurd m1 h
  keep := fun {s H H'} h k => by
    rcases h with ⟨h1, h⟩ | h
    · refine .inl ⟨h1, ?_⟩
      rcases h with h | ⟨o, h⟩
      · exact .inl (by rw [k a ⟨h1, rfl⟩]; exact h)
      · exact .inr ⟨o, by rw [k a ⟨h1, rfl⟩]; exact h⟩
    · exact .inr h
theorem scr_sq {K : PySem.W.Frag} {a : Addr} {ns : List Int} {tr : Prop} {s : Unit} {H : Hp} (h : (scrW K a ns tr).ok s H) : SqL K H a (ns.map V.int) := by
  rcases h with ⟨_, h⟩ | ⟨_, h⟩
  · exact .inl h
  · exact .inr h
def mScr (ns : List Int) (i : Nat) (ml mh : Rho → Mo Unit (Option Int)) : Rho → Mo Unit D := fun ρ s => if isPen i ρ then bd (ml ρ) (fun x => bd (mh ρ) fun y => rt (.lst (cutD (ns.map .int) x y))) s else none
section
variable {X : Cx} {a : Addr} {ns : List Int} {tr : Prop} {lo hi : Option Expr} {ml mh : Rho → Mo Unit (Option Int)} {pos p1 p2 : Pos} {x : Str}
theorem ve_scr (i : Nat) (hl : VO X (scrW X.K a ns tr) lo ml) (hh : VO X (scrW X.K a ns tr) hi mh) (hN : X.N[i]? = some x := by rfl) (hv : Vis X.env.scope x := by first | exact Or.inl rfl | exact Or.inr (Or.inl rfl) | exact Or.inr (Or.inr rfl)) (hd : (x == ("__debug__" : Str)) = false := by decide)
    (hcd : (x == ("__classdict__" : Str)) = false := by decide) : VE X (scrW X.K a ns tr) (.Subscript (.Name x p1) (.Slice lo hi none p2) pos) (mScr ns i ml mh) :=
  (pe_slice sl_list (pe_var hN hv hd hcd) hl hh).imp fun σ H Q ⟨H0, W, o, ρ, s, d, s', G, e, q⟩ => by
    unfold mScr at e
    split at e
    · rename_i hp
      obtain ⟨n, hn⟩ := isPen_some hp
      obtain ⟨v, h1, h2⟩ := G.val i _ hn
      cases h2
      obtain ⟨y, s1, e1, f1⟩ := bd_some e
      obtain ⟨z, s2, e2, f2⟩ := bd_some f1
      cases f2
      refine ⟨.ref a, h1, H0, W, o, ρ, s, y, s1, G, e1, fun H1 x1 c1 => ?_⟩
      have G1 := G.ext x1 c1
      refine ⟨H0, W, o, ρ, s1, z, _, G1, e2, fun H2 x2 c2 => ?_⟩
      have G2 := G1.ext x2 c2
      refine ⟨a, _, rfl, scr_sq c2, fun p hp => ?_⟩
      obtain ⟨x4, k4, np⟩ := fin_new G2 hp (.lst (cutV (ns.map V.int) y z))
      exact q _ _ ((x1.trans x2).trans x4) k4 (.lst upd_same np (RepL.cut (rep_ints ns) y z))
    · cases e
end
end Rr

set_option Elab.async false
set_option linter.all false
set_option maxRecDepth 100000
set_option maxHeartbeats 1000000
/-! The layer of data: the law's own def, run at the one place where it is called (nothing is being shown there, so repr is known). -/
namespace Rr
open PySem PySem.Spec L2 PyProof.Rows

section
variable {P : Program} {wo : World} {K : PySem.W.Frag} {mg : Str → Option Value} {base : Heap} {A : Around}
def RunAt (P : Program) (wo : World) (K : PySem.W.Frag) (mg : Str → Option Value) (base : Heap) (A : Around) (f : Addr) (fd : FuncData) (ps : List Str) (sp : Sp) : Prop :=
  ∀ (outer : List Env) (s : Shared) (H : Hp) (args : Args) (us : List Value) (vs : List V) (Q : VK) (E : XK), Env0 P wo K mg base A outer s H → BindsTo s fd args (ps.zip us) → Vals vs us → sp vs H Q E → codeAny (model P wo) A (.call (.ref f) args) (CR CX0 outer P wo H s Q E) s
theorem run_at {x qual : Str} {st : Stmt} {f : Addr} {fd : FuncData} {N ps : List Str} {k : Nat} {sp : Sp} (FF : Fun K x qual st f fd) (S : FnScope N ps (defScope st)) (room : Room (k + 1) A) (len : ∀ vs H Q E, sp vs H Q E → vs.length = ps.length)
    (run : ∀ (cdv : Value) (outer : List Env) (s : Shared) (H : Hp) (vs : List V) (Q : VK) (E : XK), sp vs H Q E → ∃ t, PSs (cxOf CX0 P wo K mg base N qual (defScope st) f cdv A outer s H E).nox (defBody st) t ∧ t { nx := fun _ H' => Q .non H', rt := Q } (L2.start N vs) H) : RunAt P wo K mg base A f fd ps sp := by
  intro outer s H args us vs Q E env binds rel want
  obtain ⟨oc, od, kV, doc, pm, an, cdv, ct, osl, rfl, look, code⟩ := FF.ex
  have long := len _ _ _ _ want
  have here : K.In s.heap := env.mod.kin.keeps fun b o e => (env.bs b o e).1
  have free : s.heap.NoLimit := env.mod.nolimit.keeps fun b o e => (env.bs b o e).1
  refine codeAny_call_function room.depth (here _ _ look) rfl S.co S.gen rfl (PySem.W.codeRec_of here code) (binds _ _ _ _ (wpAny_newFunctionEnv_cells S.kind (fun y hy => ?_) fun env' he s1 g => ?_))
  · obtain ⟨n, v⟩ := y
    exact (S.par n (List.of_mem_zip hy).1).elim .inl fun q => .inr ⟨q, PySem.W.cellsFrom_some _ _ _ (.inl q)⟩
  · subst he
    refine ⟨free.keeps g.toInCall.keep, codeAny_func ?_⟩
    obtain ⟨t, body, told⟩ := run cdv outer s H vs Q E want
    have I : L2.Inv (cxOf CX0 P wo K mg base N qual (defScope st) f cdv A outer s H E) [] (L2.start N vs) H s1 := inv_start S room.hd env long rel g
    refine wpAny_mono (body.nox.run [] s1 (L2.start N vs) H _ I told) (fun fl s2 end_ => ?_) fun e s2 h => h
    cases fl with
    | ret u => obtain ⟨v, σ2, H2, J, rv, q⟩ := end_; exact ⟨v, H2, J.os, J.bare, J.base, J.hok, rv, q⟩
    | next => obtain ⟨σ2, H2, J, q⟩ := end_; exact ⟨V.non, H2, J.os, J.bare, J.base, J.hok, rfl, q⟩
    | brk => obtain ⟨_, _, _, q⟩ := end_; exact q.elim
    | cont => obtain ⟨_, _, _, q⟩ := end_; exact q.elim
end

section
variable {P : Program} {wo : World} {K : PySem.W.Frag} {mg mb : Str → Option Value} {fa a : Addr} {fd : FuncData} {x : Str} {sp : Sp} {s1 : Shared} {vs : List Value} {ns : List Int}
/-- from a heap of which nothing but the script may be known -/
theorem call_from {H : Hp} (inK : K.In s1.heap) (nsG : s1.heap.Ns mainGlobals mg) (nsB : s1.heap.Ns builtinsNs mb) (boot : ∀ x : Str, x ≠ "__name__" → mb x = bootBuiltins x) (lim : s1.heap.NoLimit) (gens : s1.gens = #[])
    (obj : s1.heap.get? a = some { cls := .type "list", data := .seq vs.toArray }) (F : ∀ base : Heap, K.In base → base.Ns mainGlobals mg → RunAt P wo K mg base callerA fa fd [x] sp) (binds : ∀ (s : Shared) (u : Value), BindsTo s fd ⟨[u], []⟩ [(x, u)])
    (only : L2.Only H) (hok : HOk P wo H s1.heap) (isA : ∀ b, H b ≠ none → b = a) (notK : H a ≠ none → K.lookup a = none) (want : sp [.ref a] H (fun v _ => v = .bl true) fun _ _ _ => False) :
    codeAny (model P wo) callerA (.call (.ref fa) ⟨[.ref a], []⟩) (fun r s' => r = .ok (.ret (.bool true)) ∧ OldK s1.heap s'.heap ∧ s'.os = s1.os ∧ AllBare s'.gens) s1 := by
  have noDict : ∀ {b : Addr} {o : Obj} {es : Array DictEntry} {ep : Nat}, s1.heap.get? b = some o → o.data = .dict es ep → H b = none := fun {b o es ep} e d => by
    cases q : H b with
    | none => rfl
    | some u =>
      obtain rfl := isA b (by rw [q]; exact Option.some_ne_none _)
      rw [obj] at e
      cases e
      cases (show Data.seq vs.toArray _ = Data.dict es ep from d)
  have ns2 : ∀ {b : Addr} {m : Str → Option Value}, s1.heap.Ns b m → (hidT s1.heap H).Ns b m := fun {b m} ⟨o, es, ep, e, d, r⟩ => ⟨o, es, ep, hidT_get e (noDict e d), d, r⟩
  have inK2 : K.In (hidT s1.heap H) := fun b o e => hidT_get (inK b o e) (by
    cases q : H b with
    | none => rfl
    | some u =>
      obtain rfl := isA b (by rw [q]; exact Option.some_ne_none _)
      rw [notK (by rw [q]; exact Option.some_ne_none _)] at e
      cases e)
  have env : Env0 P wo K mg (hidT s1.heap H) callerA [] s1 H :=
    ⟨rfl, ⟨inK2, ns2 nsG, ⟨mb, ns2 nsB, boot⟩, let ⟨mc, h1, h2⟩ := lim; ⟨mc, ns2 h1, h2⟩⟩, fun b o e => of_hidT e, Nat.le_of_eq (hidT_size _ _), trivial, fun b hb => absurd (show b ∈ ([] : List Addr) from hb) (by simp), hok, .of_eq gens⟩
  refine codeAny_mono (F _ inK2 (ns2 nsG) [] s1 H ⟨[.ref a], []⟩ [.ref a] [.ref a] _ _ env (binds s1 (.ref a)) (.cons rfl .nil) want) fun r s2 h => ?_
  match r, h with
  | .error e, h => exact h.elim
  | .ok .next, h => exact False.elim h
  | .ok .brk, h => exact False.elim h
  | .ok .cont, h => exact False.elim h
  | .ok (.ret u), ⟨v, H2, os, bare, un, hok2, rel, q⟩ =>
    obtain rfl : v = .bl true := q
    obtain rfl : u = Value.bool true := rel
    refine ⟨rfl, OldK.of_keep fun b o e => ?_, os, bare⟩
    rcases only b with z | ⟨ob, xs, z⟩
    · exact un.keep b o e z (by intro z; exact absurd (show b ∈ ([] : List Addr) from z) (by simp)) (by simp)
    · obtain ⟨e1, _⟩ := hok b _ z
      obtain ⟨e2, _⟩ := hok2 b _ (un.frzs b ob _ z)
      rw [e] at e1
      cases e1
      exact e2
theorem call_at (inK : K.In s1.heap) (nsG : s1.heap.Ns mainGlobals mg) (nsB : s1.heap.Ns builtinsNs mb) (boot : ∀ x : Str, x ≠ "__name__" → mb x = bootBuiltins x) (lim : s1.heap.NoLimit) (gens : s1.gens = #[])
    (obj : s1.heap.get? a = some { cls := .type "list", data := .seq vs.toArray }) (hin : IntsAre vs ns) (small : ns.length ≤ sizeLine) (F : ∀ base : Heap, K.In base → base.Ns mainGlobals mg → RunAt P wo K mg base callerA fa fd [x] sp) (binds : ∀ (s : Shared) (u : Value), BindsTo s fd ⟨[u], []⟩ [(x, u)])
    (want : ∀ H : Hp, L2.Only H → SqL K H a (ns.map V.int) → sp [.ref a] H (fun v _ => v = .bl true) fun _ _ _ => False) :
    codeAny (model P wo) callerA (.call (.ref fa) ⟨[.ref a], []⟩) (fun r s' => r = .ok (.ret (.bool true)) ∧ OldK s1.heap s'.heap ∧ s'.os = s1.os ∧ AllBare s'.gens) s1 := by
  have rv := L2.vals_ints hin
  cases q : K.lookup a with
  | some o =>
    have e := inK a o q
    rw [obj] at e
    cases e
    have none_ : ∀ {u : HO}, (fun _ : Addr => (none : Option HO)) a ≠ some u := fun z => by cases z
    exact call_from (H := fun _ => none) inK nsG nsB boot lim gens obj F binds (fun _ => .inl rfl) (fun b u z => by cases (show (none : Option HO) = some u from z)) (fun b z => absurd rfl z) (fun z => absurd rfl z)
      (want _ (fun _ => .inl rfl) (.inr ⟨_, vs.toArray, _, q, rfl, rfl, rfl, by rw [List.size_toArray, hin.length]; exact small, by simpa using rv⟩))
  | none =>
    have at_ : (fun b => if b = a then some (HO.frz { cls := .type "list", data := .seq vs.toArray } (.lst (ns.map V.int))) else none : Hp) a = some (HO.frz { cls := .type "list", data := .seq vs.toArray } (.lst (ns.map V.int))) := if_pos rfl
    have els : ∀ b, b ≠ a → (fun b => if b = a then some (HO.frz { cls := .type "list", data := .seq vs.toArray } (.lst (ns.map V.int))) else none : Hp) b = none := fun b h => if_neg h
    generalize (fun b => if b = a then some (HO.frz { cls := .type "list", data := .seq vs.toArray } (.lst (ns.map V.int))) else none : Hp) = H at at_ els
    have only : L2.Only H := fun b => by
      by_cases h : b = a
      · subst h; exact .inr ⟨_, _, at_⟩
      · exact .inl (els b h)
    refine call_from (H := H) inK nsG nsB boot lim gens obj F binds only (fun b u z => ?_) (fun b z => ?_) (fun _ => q) (want H only (.inl (.inr ⟨_, at_⟩)))
    · by_cases h : b = a
      · subst h
        rw [at_] at z
        cases z
        exact ⟨obj, by rw [List.length_map]; exact small, vs, _, rv, obj⟩
      · rw [els b h] at z; cases z
    · by_cases h : b = a
      · exact h
      · exact absurd (els b h) z
end
/-- what k_head leaves, from the law's promise at the place of its call -/
theorem walk_at {l : PySem.W.OpenLaw} {n : Nat} {q : Program} {loose : List Str} {XP : (Str → Option Value) → Heap → Prop} {YP : World → Heap → Prop} {d : DefRec} {K : Params → PySem.W.Frag} {sp : World → Sp} {x : Str}
    (hn : l.most = some n) (hn2 : n ≤ sizeLine) (hdf : d.params.defaults = []) (hY : ∀ (w : World) (h : Heap), YP w h → (K w.params).In h)
    (F : ∀ (w : World) (mg : Str → Option Value) (fa : Addr) (h : Heap), (K w.params).In h → h.Ns mainGlobals mg → mg d.name = some (.ref fa) →
      ∃ fd : FuncData, (∀ (s : Shared) (u : Value), BindsTo s fd ⟨[u], []⟩ [(x, u)]) ∧ ∀ base : Heap, (K w.params).In base → base.Ns mainGlobals mg → RunAt l.prog w (K w.params) mg base callerA fa fd [x] (sp w))
    (want : ∀ (w : World) (H : Hp) (a : Addr) (ns : List Int), ns.length ≤ n → L2.Only H → SqL (K w.params) H a (ns.map V.int) → sp w [.ref a] H (fun v _ => v = .bl true) fun _ _ _ => False) :
    PySem.W.WalkO q loose XP YP l.row.toRowW d [] (fun f vs => PySem.call f vs) := by
  refine Att.attach_call hn hdf fun w s0 s1 mg mb fa o pm cd doc a vs ns G Y ho hd hcd hmg hobj hints hlen hg => ?_
  have inK := hY w _ Y
  obtain ⟨fd, hb, hF⟩ := F w mg fa _ inK G.T.g hmg
  exact call_at inK G.T.g G.T.b G.T.builtins G.T.nolimit hg hobj hints (Nat.le_trans hlen hn2) hF hb fun H hO hS => want w H a ns hlen hO hS
end Rr

set_option Elab.async false
set_option linter.all false
set_option maxRecDepth 100000
set_option maxHeartbeats 1000000
/-! The layer of data: how the law's own def begins. -/
namespace Rr
open PySem PySem.Spec L2 PyProof.Rows

theorem pss_ex {X : Cx} {ι : Type} {sts : List Stmt} {t : ι → TS} (h : ∀ i, PSs X sts (t i)) : PSs X sts (fun D σ H => ∃ i, t i D σ H) := ⟨fun pins s σ H D I ⟨i, k⟩ => (h i).run pins s σ H D I k⟩
def spLaw (K : PySem.W.Frag) : Sp := fun vs H Q _ => ∃ (a : Addr) (ns : List Int), vs = [.ref a] ∧ SqL K H a (ns.map V.int) ∧ ns.length ≤ 63 ∧ ∀ H', Q (.bl true) H'
theorem open_ok {K : PySem.W.Frag} {H : Hp} {a : Addr} {ns cells : List Int} {Fo : List D → Mo Unit (List D)} (hS : SqL K H a (ns.map V.int)) (e : Fo [.obj 0] () = some ([.lst (cells.map .int), .int 0, .int 0], ())) {Q : VK}
    (h : ∀ p c H', p ≠ c → penOk p c ⟨cells, 0, 0⟩ H' → Q (.ref p) H') : spN (scrW K a ns (Rd H a (.lst (ns.map V.int)))) 1 Fo [.ref a] H Q E0 := by
  refine ⟨(scrW K a ns (Rd H a (.lst (ns.map V.int)))).mine, [.obj 0], (), _, (), fun _ z => z, fun b ⟨z, e⟩ => ?_, ?_, .cons (Rep.obj 0) .nil, rfl, e, fun p vs H1 _ _ hp h1 r => ?_⟩
  · subst e
    rcases z with z | ⟨o, z⟩
    · rw [z]; exact Option.some_ne_none _
    · rw [z]; exact Option.some_ne_none _
  · rcases hS with z | z
    · exact .inl ⟨z, z⟩
    · by_cases y : Rd H a (.lst (ns.map V.int))
      · exact .inl ⟨y, y⟩
      · exact .inr ⟨y, z⟩
  · cases r with
    | cons r1 r2 => cases r2 with
      | cons r3 r4 => cases r4 with
        | cons r5 r6 =>
          cases r6; cases r3; cases r5
          cases r1 with
          | lst h3 h4 h5 =>
            have e2 := dInts_rep h5 (dInts_map cells)
            subst e2
            exact h p _ H1 (fun z => h4 (.inr z.symm)) ⟨h1, h3⟩
theorem pen_gd {p c : Addr} {s : PenS} {H : Hp} {k : Nat} {σ : L2.St} (ok : penOk p c s H) (hl : σ.length = k + 2) (hσ : σ[1]? = some (some (.ref p))) :
    Gd (penW p c) ⟨H, fun _ => False⟩ (fun b => b = p ∨ b = c) (fun _ => none) (none :: some (.val (.obj 0)) :: List.replicate k none) s σ H where
  len := by rw [hl]; simp
  sub := fun _ z => z
  trk := fun b z => by
    rcases z with rfl | rfl
    · show H b ≠ none; rw [ok.1]; exact Option.some_ne_none _
    · show H b ≠ none; rw [ok.2]; exact Option.some_ne_none _
  frm := fun _ _ h _ _ => h
  lic := fun _ z => z.elim
  ok := ok
  val := fun i d h => by
    match i, h with
    | 1, h => cases h; exact ⟨_, hσ, Rep.obj 0⟩
    | i + 2, h =>
      rw [List.getElem?_cons_succ, List.getElem?_cons_succ, List.getElem?_replicate] at h
      split at h <;> cases h
  own := fun i d h => by
    match i, h with
    | i + 2, h =>
      rw [List.getElem?_cons_succ, List.getElem?_cons_succ, List.getElem?_replicate] at h
      split at h <;> cases h
  inj := fun _ _ _ h _ => nomatch h
  new := fun _ _ h => nomatch h
  live := fun _ _ h => nomatch h
theorem law_post {p c : Addr} {H0 : Base} {W : Addr → Prop} {E : Ends} {s : PenS} (h : ∀ H, E.rt (.bl true) H) : post (penW p c) H0 W E (.rt (.bl true) s) := fun v H _ _ r => by
  cases r
  exact h H
end Rr

set_option Elab.async false
set_option linter.all false
set_option maxRecDepth 100000
set_option maxHeartbeats 1000000
/-! The layer of data: readings evaluated by simp. -/
namespace Rr
open PySem PySem.Spec L2 PyProof.Rows

section
variable {S α β : Type} {ρ : Rho} {s : S} {i j k : Nat} {m ma mb mc md : Rho → Mo S D} {ms mn mi : Rho → Mo S (List D)} {q qa qb : Rho → Mo S Bool} {ml mh : Rho → Mo S (Option Int)} {s1 s2 mm : Ms S} {b : D → Rho → Option Rho} {d : D} {ds : List D}
@[simp] theorem ap_up (a : Option α) : up a s = a.map fun x => (x, s) := by cases a <;> rfl
@[simp] theorem ap_rt (a : α) : rt a s = some (a, s) := Eq.trans rfl rfl
@[simp] theorem ap_bd (x : Mo S α) (f : α → Mo S β) : bd x f s = (x s).bind fun p => f p.1 p.2 := by unfold bd; cases x s <;> rfl
@[simp] theorem ap_rN : rN i ρ s = (gv i ρ).map fun x => (x, s) := ap_up _
@[simp] theorem ap_rO : rO i ρ s = (go i ρ).map fun x => (x, s) := ap_up _
@[simp] theorem ap_rC : rC d ρ s = some (d, s) := Eq.trans rfl rfl
@[simp] theorem ap_rNil : rNil ρ s = some ([], s) := Eq.trans rfl rfl
@[simp] theorem ap_rCons : rCons m ms ρ s = (m ρ s).bind fun p => (ms ρ p.2).bind fun r => some (p.1 :: r.1, r.2) := by unfold rCons; simp
@[simp] theorem ap_rStar : rStar m ms ρ s = (m ρ s).bind fun p => (seqD p.1).bind fun xs => (ms ρ p.2).bind fun r => some (xs ++ r.1, r.2) := by
  unfold rStar
  simp only [ap_bd, ap_up, ap_rt]
  cases m ρ s with
  | none => rfl
  | some p => simp only [Option.bind_some]; cases seqD p.1 <;> rfl
@[simp] theorem ap_rTup : rTup ms ρ s = (ms ρ s).bind fun p => (sz p.1).map fun ds => (.tup ds, p.2) := by
  unfold rTup
  simp only [ap_bd, ap_up, ap_rt]
  cases ms ρ s with
  | none => rfl
  | some p => simp only [Option.bind_some]; cases sz p.1 <;> rfl
@[simp] theorem ap_rLst : rLst ms ρ s = (ms ρ s).bind fun p => (sz p.1).map fun ds => (ds, p.2) := by unfold rLst; simp
@[simp] theorem ap_rLstB : rLstB ms ρ s = (ms ρ s).bind fun p => (sz p.1).map fun ds => (.lst ds, p.2) := by
  unfold rLstB
  simp only [ap_bd, ap_up, ap_rt]
  cases ms ρ s with
  | none => rfl
  | some p => simp only [Option.bind_some]; cases sz p.1 <;> rfl
@[simp] theorem ap_rNv : rNv mn ρ s = (mn ρ s).map fun p => (.lst p.1, p.2) := by unfold rNv; simp only [ap_bd, ap_rt]; cases mn ρ s <;> rfl
@[simp] theorem ap_rSeq : rSeq m ρ s = (m ρ s).bind fun p => (seqD p.1).map fun ds => (ds, p.2) := by unfold rSeq; simp
@[simp] theorem ap_rCut : rCut m ml mh ρ s = (m ρ s).bind fun p => (ml ρ p.2).bind fun x => (mh ρ x.2).bind fun y => (dCut p.1 x.1 y.1).map fun d => (d, y.2) := by unfold rCut; simp
@[simp] theorem ap_rNo : rNo ρ s = some (none, s) := Eq.trans rfl rfl
@[simp] theorem ap_asI (x : Int) : asI (.int x) s = some (some x, s) := Eq.trans rfl rfl
@[simp] theorem ap_rPt : rPt m ρ s = (m ρ s).bind fun p => asI p.1 p.2 := by unfold rPt; simp
@[simp] theorem ap_rNeg : rNeg m ρ s = (m ρ s).bind fun p => (dNeg p.1).map fun d => (d, p.2) := by unfold rNeg; simp
@[simp] theorem ap_asB (x : Bool) : asB (.bl x) s = some (x, s) := Eq.trans rfl rfl
@[simp] theorem ap_qB : qB m ρ s = (m ρ s).bind fun p => asB p.1 p.2 := by unfold qB; simp
@[simp] theorem ap_rNot : rNot m ρ s = (qB m ρ s).bind fun p => some (.bl (!p.1), p.2) := by unfold rNot; simp
@[simp] theorem ap_rIsi {Ts : List String} : rIsi Ts m ρ s = (m ρ s).bind fun p => (dIsi Ts p.1).map fun d => (d, p.2) := by unfold rIsi; simp
@[simp] theorem ap_qTru : qTru m ρ s = (m ρ s).bind fun p => (tru p.1).map fun d => (d, p.2) := by unfold qTru; simp
@[simp] theorem ap_qNot : qNot q ρ s = (q ρ s).bind fun p => some (!p.1, p.2) := by unfold qNot; simp
@[simp] theorem ap_qYes : qYes ρ s = some (true, s) := Eq.trans rfl rfl
@[simp] theorem ap_qAnd : qAnd qa qb ρ s = (qa ρ s).bind fun p => if p.1 then qb ρ p.2 else some (false, p.2) := by
  unfold qAnd
  simp only [ap_bd]
  cases qa ρ s with
  | none => rfl
  | some p => obtain ⟨x, y⟩ := p; cases x <;> rfl
@[simp] theorem ap_qOr : qOr qa qb ρ s = (qa ρ s).bind fun p => if p.1 then some (true, p.2) else qb ρ p.2 := by
  unfold qOr
  simp only [ap_bd]
  cases qa ρ s with
  | none => rfl
  | some p => obtain ⟨x, y⟩ := p; cases x <;> rfl
@[simp] theorem ap_vAnd : vAnd ma mb ρ s = (qB ma ρ s).bind fun p => if p.1 then mb ρ p.2 else some (.bl false, p.2) := by
  unfold vAnd
  simp only [ap_bd]
  cases qB ma ρ s with
  | none => rfl
  | some p => obtain ⟨x, y⟩ := p; cases x <;> rfl
@[simp] theorem ap_vOr : vOr ma mb ρ s = (qB ma ρ s).bind fun p => if p.1 then some (.bl true, p.2) else mb ρ p.2 := by
  unfold vOr
  simp only [ap_bd]
  cases qB ma ρ s with
  | none => rfl
  | some p => obtain ⟨x, y⟩ := p; cases x <;> rfl
@[simp] theorem ap_mIf : mIf q ma mb ρ s = (q ρ s).bind fun p => if p.1 then ma ρ p.2 else mb ρ p.2 := by
  unfold mIf
  simp only [ap_bd]
  cases q ρ s with
  | none => rfl
  | some p => obtain ⟨x, y⟩ := p; cases x <;> rfl
@[simp] theorem ap_b2 {g : D → D → Option D} : b2 g ma mb ρ s = (ma ρ s).bind fun p => (mb ρ p.2).bind fun r => (g p.1 r.1).map fun d => (d, r.2) := by unfold b2; simp
@[simp] theorem ap_cb {g : List D → Option α} : cb g ms ρ s = (ms ρ s).bind fun p => (g p.1).map fun d => (d, p.2) := by unfold cb; simp
@[simp] theorem ap_ofQ : ofQ q ρ s = (q ρ s).bind fun p => some (.bl p.1, p.2) := by unfold ofQ; simp
@[simp] theorem ap_mCall {n : Nat} {F : List D → Mo S α} : mCall n F ms ρ s = (ms ρ s).bind fun p => if p.1.length = n then F p.1 p.2 else none := by
  unfold mCall
  simp only [ap_bd]
  cases ms ρ s with
  | none => rfl
  | some p => simp only [Option.bind_some]; split <;> rfl
@[simp] theorem ap_mCallB {n : Nat} {F : List D → Mo S D} : mCallB n F ms ρ s = (mCall n F ms ρ s).bind fun p => if flatD p.1 then some p else none := by
  unfold mCallB
  simp only [ap_bd]
  cases mCall n F ms ρ s with
  | none => rfl
  | some p => simp only [Option.bind_some]; split <;> rfl
@[simp] theorem ap_one : one m ρ s = (m ρ s).bind fun p => some ([p.1], p.2) := by unfold one; simp
@[simp] theorem ap_tst : tst q mn ρ s = (q ρ s).bind fun p => if p.1 then mn ρ p.2 else some ([], p.2) := by
  unfold tst
  cases h : q ρ s with
  | none => rfl
  | some p => obtain ⟨x, y⟩ := p; cases x <;> rfl
@[simp] theorem ap_item1 : item1 b q mn d ρ s = (b d ρ).bind fun ρ1 => tst q mn ρ1 s := by
  unfold item1
  cases b d ρ <;> rfl
@[simp] theorem ap_sq : sq s1 s2 ρ s = match s1 ρ s with | some (.nx ρ' s') => s2 ρ' s' | r => r := Eq.trans rfl rfl
@[simp] theorem ap_mNx : (mNx : Ms S) ρ s = some (.nx ρ s) := Eq.trans rfl rfl
@[simp] theorem ap_sIf : sIf q s1 s2 ρ s = (q ρ s).bind fun p => if p.1 then s1 ρ p.2 else s2 ρ p.2 := by
  unfold sIf
  cases h : q ρ s with
  | none => rfl
  | some p => obtain ⟨x, y⟩ := p; cases x <;> rfl
@[simp] theorem ap_mSet : mSet i m ρ s = (m ρ s).map fun p => .nx (ρ.set i (some (.val p.1))) p.2 := Eq.trans rfl rfl
@[simp] theorem ap_mOwn : mOwn i mn ρ s = if i < ρ.length then (mn ρ s).map fun p => .nx (ρ.set i (some (.own p.1))) p.2 else none := Eq.trans rfl rfl
@[simp] theorem ap_mAsg : mAsg m b ρ s = (m ρ s).bind fun p => (b p.1 ρ).map fun ρ' => .nx ρ' p.2 := by
  unfold mAsg
  cases m ρ s <;> rfl
@[simp] theorem ap_sEx : sEx m ρ s = (m ρ s).map fun p => .nx ρ p.2 := Eq.trans rfl rfl
@[simp] theorem ap_sRt : sRt m ρ s = (m ρ s).map fun p => .rt p.1 p.2 := Eq.trans rfl rfl
@[simp] theorem ap_sRf : sRf mn ρ s = (mn ρ s).map fun p => .rf p.1 p.2 := Eq.trans rfl rfl
@[simp] theorem ap_sRel : sRel i mm ρ s = mm (relE i ρ) s := Eq.trans rfl rfl
@[simp] theorem ap_mFor : mFor mi b mm ρ s = (mi ρ s).bind fun p => loopD b mm p.1 ρ p.2 := by
  unfold mFor
  cases mi ρ s <;> rfl
@[simp] theorem ap_mLc {vs : List Nat} {item : D → Rho → Mo S (List D)} : mLc mi vs item ρ s = if clean vs ρ then (mi ρ s).bind fun p => (lcG item p.1 (wipeE ρ vs) p.2).bind fun r => (sz r.1).map fun ds => (ds, r.2) else none := by
  unfold mLc
  split <;> simp
@[simp] theorem ap_mIn {vs : List Nat} {item : D → Rho → Mo S (List D)} : mIn mi vs item ρ s = if clean vs ρ then (mi ρ s).bind fun p => lcG item p.1 (wipeE ρ vs) p.2 else none := by
  unfold mIn
  split <;> simp
@[simp] theorem ap_sApp : sApp i mn ρ s = match owned i ρ with
  | some ds => if ds.length < sizeLine then (mn ρ s).bind fun p => match p.1 with | [d] => some (.nx (ρ.set i (some (.own (ds ++ [d])))) p.2) | _ => none else none
  | none => none := by
  unfold sApp mApp
  cases owned i ρ with
  | none => rfl
  | some ds =>
    simp only [ap_bd]
    split
    · cases mn ρ s with
      | none => rfl
      | some p => obtain ⟨x, y⟩ := p; match x with
        | [] => rfl
        | [d] => rfl
        | _ :: _ :: _ => rfl
    · rfl
@[simp] theorem ap_xv : xv m ρ s = (m ρ s).map fun p => (.val p.1, p.2) := by unfold xv; simp only [ap_bd, ap_rt]; cases m ρ s <;> rfl
@[simp] theorem ap_xo : xo mn ρ s = (mn ρ s).map fun p => (.own p.1, p.2) := by unfold xo; simp only [ap_bd, ap_rt]; cases mn ρ s <;> rfl
@[simp] theorem ap_mPar {ma mb : Rho → Mo S Sl} : mPar i j ma mb ρ s = if i < ρ.length && decide (j < ρ.length) then (ma ρ s).bind fun x => (mb ρ x.2).bind fun y => some (.nx ((ρ.set i (some x.1)).set j (some y.1)) y.2) else none := by
  unfold mPar
  split
  · simp only [ap_bd, ap_rt]
    cases ma ρ s with
    | none => rfl
    | some x => simp only [Option.bind_some]; cases mb ρ x.2 <;> rfl
  · rfl
@[simp] theorem ap_endV : endV mm ρ s = match mm ρ s with | some (.rt d s') => some (d, s') | some (.nx _ s') => some (.non, s') | _ => none := Eq.trans rfl rfl
@[simp] theorem ap_endN : endN mm ρ s = match mm ρ s with | some (.rf d s') => some (d, s') | _ => none := Eq.trans rfl rfl
end
@[simp] theorem seqD_tup (ds : List D) : seqD (.tup ds) = some ds := Eq.trans rfl rfl
@[simp] theorem seqD_lst (ds : List D) : seqD (.lst ds) = some ds := Eq.trans rfl rfl
@[simp] theorem dAdd_int (i j : Int) : dAdd (.int i) (.int j) = some (.int (i + j)) := Eq.trans rfl rfl
@[simp] theorem dSub_int (i j : Int) : dSub (.int i) (.int j) = some (.int (i - j)) := Eq.trans rfl rfl
@[simp] theorem dI_int (p : Int → Int → Bool) (i j : Int) : dI p (.int i) (.int j) = some (.bl (p i j)) := Eq.trans rfl rfl
@[simp] theorem dIx_tup (xs : List D) (i : Int) : dIx (.tup xs) (.int i) = atI xs i := Eq.trans rfl rfl
@[simp] theorem dIx_lst (xs : List D) (i : Int) : dIx (.lst xs) (.int i) = atI xs i := Eq.trans rfl rfl
@[simp] theorem dNeg_int (i : Int) : dNeg (.int i) = some (.int (-i)) := Eq.trans rfl rfl
@[simp] theorem dLen_tup (ds : List D) : dLen [.tup ds] = some (.int ds.length) := Eq.trans rfl rfl
@[simp] theorem dLen_lst (ds : List D) : dLen [.lst ds] = some (.int ds.length) := Eq.trans rfl rfl
@[simp] theorem enumA_tup (ds : List D) : enumA [.tup ds] = some (enumD 0 ds) := Eq.trans rfl rfl
@[simp] theorem enumA_lst (ds : List D) : enumA [.lst ds] = some (enumD 0 ds) := Eq.trans rfl rfl
@[simp] theorem bName_ap (i : Nat) (d : D) (ρ : Rho) : bName i d ρ = some (ρ.set i (some (.val d))) := Eq.trans rfl rfl
@[simp] theorem bTup_ap (bs : List D → Rho → Option Rho) (ds : List D) (ρ : Rho) : bTup bs (.tup ds) ρ = bs ds ρ := Eq.trans rfl rfl
@[simp] theorem bCons_ap (b : D → Rho → Option Rho) (bs : List D → Rho → Option Rho) (d : D) (ds : List D) (ρ : Rho) : bCons b bs (d :: ds) ρ = (b d ρ).bind (bs ds) := Eq.trans rfl rfl
@[simp] theorem bNil_ap (ρ : Rho) : bNil [] ρ = some ρ := Eq.trans rfl rfl
@[simp] theorem dEq_int (i j : Int) : dEq (.int i) (.int j) = some (.bl (decide (i = j))) := by
  simp [dEq, deq, fit, plain, py, PyData.depth, PyData.eqv]; by_cases h : i = j <;> simp [h]
@[simp] theorem dNe_int (i j : Int) : dNe (.int i) (.int j) = some (.bl (!decide (i = j))) := by
  simp [dNe, deq, fit, plain, py, PyData.depth, PyData.eqv]; by_cases h : i = j <;> simp [h]
@[simp] theorem dEq_bl (i j : Bool) : dEq (.bl i) (.bl j) = some (.bl (decide (i = j))) := by
  cases i <;> cases j <;> simp [dEq, deq, fit, plain, py, PyData.depth, PyData.eqv]
@[simp] theorem dNe_bl (i j : Bool) : dNe (.bl i) (.bl j) = some (.bl (i != j)) := by
  cases i <;> cases j <;> simp [dNe, deq, fit, plain, py, PyData.depth, PyData.eqv]
theorem ints_flat (ks : List Int) : (ks.map D.int).all flat = true := by simp [flat]
theorem inD_ints (a : Int) (ks : List Int) : inD (.int a) (ks.map .int) = decide (a ∈ ks) := by
  unfold inD inV
  induction ks with
  | nil => simp
  | cons k ks ih =>
    rw [List.map_cons, List.map_cons, List.any_cons, ih]
    simp only [toV, L2.eqV, List.mem_cons]
    by_cases h : k = a
    · subst h; simp
    · have : ¬ a = k := fun z => h z.symm
      simp [h, this]
@[simp] theorem isIn_ints (neg : Bool) (a : Int) (ks : List Int) : isIn neg (.int a) (.tup (ks.map .int)) = some (.bl (if neg then !decide (a ∈ ks) else decide (a ∈ ks))) := by
  have h := ints_flat ks
  simp only [isIn, h, inD_ints]
  simp [flat]
@[simp] theorem isIn_intsL (neg : Bool) (a : Int) (ks : List Int) : isIn neg (.int a) (.lst (ks.map .int)) = some (.bl (if neg then !decide (a ∈ ks) else decide (a ∈ ks))) := by
  have h := ints_flat ks
  simp only [isIn, h, inD_ints]
  simp [flat]
theorem cut02 (a b : D) (ds : List D) : Rr.cutD (a :: b :: ds) none (some 2) = [a, b] := by
  simp [Rr.cutD, HT.sIx]
@[simp] theorem dCut02 (a b : D) (ds : List D) : dCut (.tup (a :: b :: ds)) none (some 2) = some (.tup [a, b]) := by unfold dCut; simp [cut02]
theorem sz_small {ds : List D} (h : ds.length ≤ sizeLine) : sz ds = some ds := sz_eq h
@[simp] theorem sz_nil : sz [] = some [] := sz_eq (by decide)
@[simp] theorem sz_1 (a : D) : sz [a] = some [a] := sz_eq (by show 1 ≤ sizeLine; decide)
@[simp] theorem sz_2 (a b : D) : sz [a, b] = some [a, b] := sz_eq (by show 2 ≤ sizeLine; decide)
@[simp] theorem sz_3 (a b c : D) : sz [a, b, c] = some [a, b, c] := sz_eq (by show 3 ≤ sizeLine; decide)
@[simp] theorem sz_4 (a b c d : D) : sz [a, b, c, d] = some [a, b, c, d] := sz_eq (by show 4 ≤ sizeLine; decide)
/-- a comprehension whose items leave the world alone -/
theorem lcG_map {S : Type} {item : D → Rho → Mo S (List D)} {ρ : Rho} {s : S} {α : Type} {g : α → D} {f : α → List D} : ∀ {xs : List α}, (∀ x ∈ xs, item (g x) ρ s = some (f x, s)) → lcG item (xs.map g) ρ s = some (xs.flatMap f, s)
  | [], _ => rfl
  | x :: xs, h => by
    rw [List.map_cons]
    unfold lcG
    simp only [ap_bd, h x List.mem_cons_self, Option.bind_some, lcG_map fun y hy => h y (List.mem_cons_of_mem _ hy), ap_rt, List.flatMap_cons]
theorem atI_last {α : Type} {xs : List α} {x : α} (h : xs.getLast? = some x) : atI xs (-1) = some x := by
  have hne : xs ≠ [] := by rintro rfl; cases h
  have hl : 0 < xs.length := List.length_pos_iff.mpr hne
  rw [List.getLast?_eq_getElem?] at h
  unfold atI ixN
  rw [if_neg (by decide), if_pos (by omega)]
  simp only [Option.bind_some]
  rw [show ((-1 : Int) + (xs.length : Int)).toNat = xs.length - 1 by omega]
  exact h
theorem atI_nat {α : Type} {xs : List α} {i : Nat} {x : α} (h : xs[i]? = some x) : atI xs (i : Int) = some x := by
  have hl : i < xs.length := (List.getElem?_eq_some_iff.mp h).1
  unfold atI ixN
  rw [if_pos (by omega), if_pos (by omega)]
  simpa using h
@[simp] theorem atI_0 {α : Type} (x : α) (xs : List α) : atI (x :: xs) 0 = some x := atI_nat (i := 0) rfl
@[simp] theorem atI_1 {α : Type} (x y : α) (xs : List α) : atI (x :: y :: xs) 1 = some y := atI_nat (i := 1) rfl
@[simp] theorem atI_2 {α : Type} (x y z : α) (xs : List α) : atI (x :: y :: z :: xs) 2 = some z := atI_nat (i := 2) rfl
@[simp] theorem atI_3 {α : Type} (x y z u : α) (xs : List α) : atI (x :: y :: z :: u :: xs) 3 = some u := atI_nat (i := 3) rfl
end Rr

set_option Elab.async false
set_option linter.all false
set_option maxRecDepth 100000
set_option maxHeartbeats 1000000
/-! The layer of data: sorted(set(t)) of a tuple of ints. -/
namespace Rr
open PySem PySem.Spec L2 PyProof.Rows

/-! ### ascending lists without twins -/
def insU (n : Int) : List Int → List Int
  | [] => [n]
  | m :: ms => if n < m then n :: m :: ms else if n = m then m :: ms else m :: insU n ms
def sortU : List Int → List Int
  | [] => []
  | n :: ns => insU n (sortU ns)
theorem insU_mem {n x : Int} : ∀ {ms}, x ∈ insU n ms ↔ x = n ∨ x ∈ ms
  | [] => by simp [insU]
  | m :: ms => by
    unfold insU
    split
    · simp
    · split
      · rename_i h; subst h; simp
      · rw [List.mem_cons, insU_mem, List.mem_cons]
        constructor
        · rintro (h | h | h)
          · exact .inr (.inl h)
          · exact .inl h
          · exact .inr (.inr h)
        · rintro (h | h | h)
          · exact .inr (.inl h)
          · exact .inl h
          · exact .inr (.inr h)
theorem sortU_mem {x : Int} : ∀ {ns}, x ∈ sortU ns ↔ x ∈ ns
  | [] => by simp [sortU]
  | n :: ns => by unfold sortU; rw [insU_mem, sortU_mem, List.mem_cons]
theorem insU_asc {n : Int} : ∀ {ms : List Int}, ms.Pairwise (· < ·) → (insU n ms).Pairwise (· < ·)
  | [], _ => List.pairwise_singleton _ _
  | m :: ms, h => by
    obtain ⟨h1, h2⟩ := List.pairwise_cons.mp h
    unfold insU
    split
    · rename_i hl
      exact List.pairwise_cons.mpr ⟨fun z hz => by rcases List.mem_cons.mp hz with rfl | hz; exact hl; have := h1 z hz; omega, h⟩
    · split
      · exact h
      · refine List.pairwise_cons.mpr ⟨fun z hz => ?_, insU_asc h2⟩
        rcases insU_mem.mp hz with rfl | hz
        · omega
        · exact h1 z hz
theorem sortU_asc : ∀ ns : List Int, (sortU ns).Pairwise (· < ·)
  | [] => .nil
  | n :: ns => insU_asc (sortU_asc ns)
theorem asc_only : ∀ {xs ys : List Int}, xs.Pairwise (· < ·) → ys.Pairwise (· < ·) → (∀ z, z ∈ xs ↔ z ∈ ys) → xs = ys
  | [], [], _, _, _ => rfl
  | [], y :: ys, _, _, h => by have := (h y).mpr (by simp); cases this
  | x :: xs, [], _, _, h => by have := (h x).mp (by simp); cases this
  | x :: xs, y :: ys, h1, h2, h => by
    obtain ⟨a1, a2⟩ := List.pairwise_cons.mp h1
    obtain ⟨b1, b2⟩ := List.pairwise_cons.mp h2
    have e : x = y := by
      have m1 := (h x).mp (by simp)
      have m2 := (h y).mpr (by simp)
      rcases List.mem_cons.mp m1 with e | m1
      · exact e
      · rcases List.mem_cons.mp m2 with e | m2
        · exact e.symm
        · have := b1 x m1; have := a1 y m2; omega
    subst e
    rw [asc_only a2 b2 fun z => ?_]
    have q := h z
    simp only [List.mem_cons] at q
    constructor
    · intro hz
      rcases q.mp (.inr hz) with e | e
      · subst e; have := a1 _ hz; omega
      · exact e
    · intro hz
      rcases q.mpr (.inr hz) with e | e
      · subst e; have := b1 _ hz; omega
      · exact e
theorem sortU_id {xs : List Int} (h : xs.Pairwise (· < ·)) : sortU xs = xs := asc_only (sortU_asc xs) h fun _ => sortU_mem

/-! ### set(t) -/
def rSetT (w : World) : List V → Hp → VK → Prop := fun xs H Q => ∃ (p : Addr) (ns : List Int), xs = [.ref p] ∧ H p = some (.tup (ns.map V.int)) ∧ ns.length ≤ 1000 ∧ ∀ q c, H q = none → c ≤ ns.length → Q (.ref q) (upd H q (SetO w q (fun j => decide (j ∈ ns)) c))
theorem cr_setT {X : Cx} (hc : X.calm = true) : CallR X (.type "set") (rSetT X.w) := by
  intro pins s σ H xs us Q I r h
  obtain ⟨p, ns, rfl, hp, hl, q⟩ := h
  cases r with
  | cons r rr =>
    cases rr
    cases r
    obtain ⟨its, rv, pt, hz⟩ := I.tuple (SqT.of hp)
    have hi : IntsAre its.toArray.toList ns := ints_of_vals rv
    have hd := I.ok.hd hc
    refine call_set_tupI ns hd (show s.heap.IsTuple p its.toArray from pt) hi (by unfold scanBound; omega) fun h' tk c R1 hcn k => ?_
    have hle : s.heap.objs.size ≤ h'.objs.size := by
      obtain ⟨o, es, ep, t, ho, _⟩ := R1
      exact Nat.le_of_lt (Heap.lt_size ho)
    exact ⟨.ref _, _, I.laid (t' := tk) (fun b u e => k b u e) (Nat.le_refl _) (setO_new R1), rfl, q _ c (I.hok.fresh (Nat.le_refl _)) hcn⟩
/-- sorted(set(..)) -/
def dSortSet (d : D) : Option (List D) := match d with
  | .tup ds => match dInts ds with
    | some ns => if ns.length < 64 then some ((sortU ns).map .int) else none
    | none => none
  | _ => none
def rSortSet {S : Type} (m : Rho → Mo S D) : Rho → Mo S (List D) := fun ρ => bd (m ρ) fun d => up (dSortSet d)
section
variable {X : Cx} {w : Wd} {e : Expr} {m : Rho → Mo w.S D} {p1 p2 pos cpos : Pos}
theorem vn_sortSet (hc : X.calm = true) (hg : Gl X "sorted") (hm : X.mg "sorted" = none) (hg2 : Gl X "set") (hm2 : X.mg "set" = none) (ha : VR X w e m)
    (hs : starEach [e] X.env = (false, eval e X.env) :: starEach [] X.env := by rfl) :
    VN X w (.Call (.Name "sorted" p1) [.Call (.Name "set" p2) [e] [] cpos] [] pos) (rSortSet m) := by
  refine (pe_callB (cr_sortedSet hc) hg hm (by rfl) (pa_cons (pe_callTy (cr_setT hc) hg2 hm2 (by rfl) (pa_cons ha pa_nil hs) (by decide) (by decide) hs (by rfl)) pa_nil (by rfl)) (by decide) (by decide) (by rfl) (by rfl)).imp fun σ H Q ⟨H0, W, o, ρ, s, d, s', G, e, q⟩ => ?_
  obtain ⟨x, s1, e1, f1⟩ := bd_some e
  obtain ⟨f2, rfl⟩ := up_some f1
  refine ⟨H0, W, o, ρ, s, x, _, G, e1, fun v H1 x1 k1 r1 => ?_⟩
  unfold dSortSet at f2
  split at f2
  · rename_i ds
    split at f2
    · rename_i ns hns
      split at f2
      · rename_i hlt
        cases f2
        have G1 := G.ext x1 k1
        cases r1 with
        | kept hr =>
          cases hr with
          | tup h1 h2 h3 =>
            rw [dInts_rep h3 hns] at h1
            refine ⟨_, ns, rfl, h1, by omega, fun q1 c hq hcn => ?_⟩
            obtain ⟨x2, k2, n2⟩ := fin_new G1 hq (SetO X.w q1 (fun j => decide (j ∈ ns)) c)
            refine ⟨q1, _, c, rfl, upd_same, by omega, fun zs p hp hz hl hn => ?_⟩
            have ez : zs = sortU ns := asc_only hp (sortU_asc ns) fun z => by rw [hz z, sortU_mem, decide_eq_true_eq]
            subst ez
            obtain ⟨x3, k3, hp0, r3⟩ := new_list G (x1.trans x2) k2 hn (rep_ints (sortU ns))
            exact q p _ _ x3 k3 hp0 upd_same r3
      · cases f2
    · cases f2
  · cases f2
@[simp] theorem ap_rSortSet {S : Type} {m : Rho → Mo S D} {ρ : Rho} {s : S} : rSortSet m ρ s = (m ρ s).bind fun p => (dSortSet p.1).map fun d => (d, p.2) := by unfold rSortSet; simp
end
theorem dSortSet_ints (ns : List Int) (h : ns.length < 64) : dSortSet (tD ns) = some ((sortU ns).map .int) := by
  show (match dInts (ns.map D.int) with | some ns => _ | none => _) = _
  rw [dInts_map]
  exact if_pos h
end Rr

set_option Elab.async false
set_option linter.all false
set_option maxRecDepth 100000
set_option maxHeartbeats 1000000
/-! The layer of data: new lists by +, *, [::-1], range; extend, pop(k), index; sorted of data; dicts of ints. -/
namespace Rr
open PySem PySem.Spec L2 PyProof.Rows

/-! ### a new list by a two-place operation -/
def OpN (w : Wd) (r : R2) (g : D → D → Option (List D)) : Prop :=
  ∀ {H0 : Base} {W : Addr → Prop} {o : Own} {ρ : Rho} {s : w.S} {σ : L2.St} {H : Hp} (_ : Gd w H0 W o ρ s σ H) {x y : V} {d e : D} {z : List D} {Q : VK},
    Bor w.ad H W (Av W o) x d → Bor w.ad H W (Av W o) y e → g d e = some z → (∀ p vs, H p = none → RepL w.ad H (Av W o) vs z → Q (.ref p) (upd H p (.lst vs))) → r x y H Q
section
variable {X : Cx} {w : Wd} {a b c e : Expr} {ma mb mc m : Rho → Mo w.S D} {pos p1 p2 p3 : Pos} {r : R2} {g : D → D → Option (List D)}
def b2N {S : Type} (g : D → D → Option (List D)) (ma mb : Rho → Mo S D) : Rho → Mo S (List D) := fun ρ => bd (ma ρ) fun x => bd (mb ρ) fun y => up (g x y)
theorem vn_op {op : Operator} (hr : OpR X (binaryOp op) r) (k : OpN w r g) (ha : VR X w a ma) (hb : VR X w b mb) : VN X w (.BinOp a op b pos) (b2N g ma mb) :=
  (pe_op hr ha hb).imp fun σ H Q ⟨H0, W, o, ρ, s, d, s', G, e, q⟩ => by
    obtain ⟨x, s1, e1, f1⟩ := bd_some e
    obtain ⟨y, s2, e2, f2⟩ := bd_some f1
    obtain ⟨e3, rfl⟩ := up_some f2
    refine ⟨H0, W, o, ρ, s, x, s1, G, e1, fun v H1 x1 k1 r1 => ?_⟩
    have G1 := G.ext x1 k1
    refine ⟨H0, W, o, ρ, s1, y, _, G1, e2, fun u H2 x2 k2 r2 => ?_⟩
    have G2 := G1.ext x2 k2
    refine k G2 (G1.borExt x2 r1) r2 e3 fun p vs hp rr => ?_
    obtain ⟨x3, k3, hp0, r3⟩ := new_list G (x1.trans x2) k2 hp rr
    exact q p vs _ x3 k3 hp0 upd_same r3
/-- xs + ys, lists -/
def dCat : D → D → Option (List D)
  | .lst xs, .lst ys => sz (xs ++ ys)
  | _, _ => none
theorem cat_ok {K : PySem.W.Frag} : OpN w (rAdd K) dCat := by
  intro H0 W o ρ s σ H G x y d e z Q hx hy hg q
  unfold dCat at hg
  split at hg
  · obtain ⟨rfl, hz⟩ := sz_some hg
    obtain ⟨a, xs, rfl, h1, n1, r1⟩ := hx.lst (fun _ z => .inl z)
    obtain ⟨b, ys, rfl, h2, n2, r2⟩ := hy.lst (fun _ z => .inl z)
    have l1 := r1.length
    have l2 := r2.length
    rw [List.length_append] at hz
    exact .inr (.inr ⟨a, b, xs, ys, rfl, rfl, h1, h2, by omega, fun p hp => q p _ hp (r1.append r2)⟩)
  · cases hg
theorem vn_cat (ha : VR X w a ma) (hb : VR X w b mb) : VN X w (.BinOp a .Add b pos) (b2N dCat ma mb) := vn_op op_addD cat_ok ha hb
/-- xs * k, a list -/
def repD (xs : List D) : Nat → List D
  | 0 => []
  | n + 1 => xs ++ repD xs n
theorem repD_eq (xs : List D) : ∀ n, repD xs n = (List.replicate n xs).flatten
  | 0 => rfl
  | n + 1 => by rw [List.replicate_succ, List.flatten_cons, ← repD_eq]; rfl
theorem RepL.rep {ad : Nat → Addr} {H : Hp} {A : Addr → Prop} {vs : List V} {ds : List D} (h : RepL ad H A vs ds) : ∀ n, RepL ad H A (List.replicate n vs).flatten (repD ds n)
  | 0 => .nil
  | n + 1 => by rw [List.replicate_succ, List.flatten_cons]; exact h.append (h.rep n)
def dRep : D → D → Option (List D)
  | .lst xs, .int k => if 0 ≤ k && decide (k ≤ 1000) && decide (xs.length ≤ 1000) then some (repD xs k.toNat) else none
  | _, _ => none
theorem rep_ok : OpN w rRep dRep := by
  intro H0 W o ρ s σ H G x y d e z Q hx hy hg q
  unfold dRep at hg
  split at hg
  · split at hg
    · rename_i xs k hc
      cases hg
      simp only [Bool.and_eq_true, decide_eq_true_eq] at hc
      obtain ⟨a, vs, rfl, h1, n1, r1⟩ := hx.lst (fun _ z => .inl z)
      rw [hy.inv_int]
      have l1 := r1.length
      refine ⟨a, k, vs, rfl, rfl, h1, by omega, by omega, ?_, fun p hp => q p _ hp (r1.rep _)⟩
      exact Nat.le_trans (Nat.mul_le_mul (by omega : vs.length ≤ 1000) (by omega : k.toNat ≤ 1000)) (by decide)
    · cases hg
  · cases hg
theorem vn_rep (ha : VR X w a ma) (hb : VR X w b mb) : VN X w (.BinOp a .Mult b pos) (b2N dRep ma mb) := vn_op op_rep rep_ok ha hb
/-- (x, ..) * k, a tuple -/
def dRepT : D → D → Option D
  | .tup xs, .int k => if !xs.isEmpty && decide (2 ≤ k) && decide (k ≤ 1000) && decide (xs.length ≤ 1000) then some (.tup (repD xs k.toNat)) else none
  | _, _ => none
theorem repT_ok {K : PySem.W.Frag} : OpD w (rRepT K) dRepT := by
  intro H0 W o ρ s σ H G x y d e z Q hx hy hg q
  unfold dRepT at hg
  split at hg
  · split at hg
    · rename_i xs k hc
      cases hg
      simp only [Bool.and_eq_true, decide_eq_true_eq] at hc
      obtain ⟨a, vs, rfl, h1, n1, r1⟩ := hx.tup
      rw [hy.inv_int]
      have l1 := r1.length
      refine ⟨a, k, vs, rfl, rfl, SqT.of h1, fun z => ?_, by omega, by omega, by omega, fun p hp => ?_⟩
      · subst z
        cases xs with
        | nil => simp at hc
        | cons => simp at l1
      · obtain ⟨x1, k1, np⟩ := fin_new G hp (.tup (List.replicate k.toNat vs).flatten)
        exact q _ _ x1 k1 (.tup upd_same np (G.repLExt x1 (r1.rep _)))
    · cases hg
  · cases hg
theorem ve_repT (ha : VR X w a ma) (hb : VR X w b mb) : VE X w (.BinOp a .Mult b pos) (b2 dRepT ma mb) := ve_op op_repT repT_ok ha hb
/-- xs[::-1], a list -/
def dRev : D → Option (List D)
  | .lst xs => some xs.reverse
  | _ => none
def rRev {S : Type} (m : Rho → Mo S D) : Rho → Mo S (List D) := fun ρ => bd (m ρ) fun d => up (dRev d)
theorem vn_rev {k : Nat} (h : VR X w e m) : VN X w (.Subscript e (.Slice none none (some (.UnaryOp .USub (.Constant (.int 1) k p1) p2)) p3) pos) (rRev m) :=
  (pe_revL h).imp fun σ H Q ⟨H0, W, o, ρ, s, d, s', G, e, q⟩ => by
    obtain ⟨x, s1, e1, f1⟩ := bd_some e
    obtain ⟨f2, rfl⟩ := up_some f1
    refine ⟨H0, W, o, ρ, s, x, _, G, e1, fun v H1 x1 k1 r1 => ?_⟩
    unfold dRev at f2
    split at f2
    · cases f2
      obtain ⟨a, vs, rfl, h1, n1, r2⟩ := r1.lst (fun _ z => .inl z)
      refine ⟨a, vs, rfl, SqL.of h1, fun p hp => ?_⟩
      obtain ⟨x3, k3, hp0, r3⟩ := new_list G x1 k1 hp r2.reverse
      exact q p _ _ x3 k3 hp0 upd_same r3
    · cases f2
/-- list(range(n)) -/
def dRg1 : D → Option (List D)
  | .int n => if 0 ≤ n && decide (n ≤ 1000) then some (rngD 0 n.toNat) else none
  | _ => none
def rRg1 {S : Type} (m : Rho → Mo S D) : Rho → Mo S (List D) := fun ρ => bd (m ρ) fun d => up (dRg1 d)
theorem rgV_rep {ad : Nat → Addr} {H : Hp} {A : Addr → Prop} (n : Nat) : RepL ad H A (rgV 0 (n : Int)) (rngD 0 n) := by
  have : rgV 0 (n : Int) = ((List.range n).map fun (i : Nat) => (0 : Int) + (i : Int)).map V.int := by
    unfold rgV
    rw [List.map_map]
    simp
  rw [this]
  have e2 : rngD 0 n = ((List.range n).map fun (i : Nat) => (0 : Int) + (i : Int)).map D.int := by
    unfold rngD
    rw [List.map_map]
    rfl
  rw [e2]
  exact rep_ints _
theorem vn_listRg (hc : X.calm = true) (hg : Gl X "list") (hm : X.mg "list" = none) (hg2 : Gl X "range") (hm2 : X.mg "range" = none) (h : VR X w e m) {q1 q2 : Pos}
    (na : starEach [e] X.env = (false, eval e X.env) :: starEach [] X.env := by rfl) :
    VN X w (.Call (.Name "list" p1) [.Call (.Name "range" p2) [e] [] q1] [] q2) (rRg1 m) :=
  (pe_listRg hc hg hm (prg_1 hg2 hm2 h na) (by rfl)).imp fun σ H Q ⟨H0, W, o, ρ, s, d, s', G, e, q⟩ => by
    obtain ⟨x, s1, e1, f1⟩ := bd_some e
    obtain ⟨f2, rfl⟩ := up_some f1
    refine ⟨H0, W, o, ρ, s, x, _, G, e1, fun v H1 x1 k1 r1 => ?_⟩
    unfold dRg1 at f2
    split at f2
    · split at f2
      · rename_i n hn
        cases f2
        simp only [Bool.and_eq_true, decide_eq_true_eq] at hn
        refine ⟨n, r1.inv_int, RgOk.of_le (by omega) (by omega) (by omega) (by omega), fun p hp => ?_⟩
        obtain ⟨k, rfl⟩ := Int.eq_ofNat_of_zero_le hn.1
        obtain ⟨x3, k3, hp0, r3⟩ := new_list G x1 k1 hp (rgV_rep k)
        exact q p _ _ x3 k3 hp0 upd_same r3
      · cases f2
    · cases f2
/-- tuple(range(n)) -/
def rTRg1 {S : Type} (m : Rho → Mo S D) : Rho → Mo S D := fun ρ => bd (m ρ) fun d => up ((dRg1 d).map .tup)
theorem ve_tupRg (hc : X.calm = true) (hg : Gl X "tuple") (hm : X.mg "tuple" = none) (hg2 : Gl X "range") (hm2 : X.mg "range" = none) (h : VR X w e m) {q1 q2 : Pos}
    (na : starEach [e] X.env = (false, eval e X.env) :: starEach [] X.env := by rfl) :
    VE X w (.Call (.Name "tuple" p1) [.Call (.Name "range" p2) [e] [] q1] [] q2) (rTRg1 m) :=
  (pe_tupRg hc hg hm (prg_1 hg2 hm2 h na) (by rfl)).imp fun σ H Q ⟨H0, W, o, ρ, s, d, s', G, e, q⟩ => by
    obtain ⟨x, s1, e1, f1⟩ := bd_some e
    obtain ⟨f2, rfl⟩ := up_some f1
    refine ⟨H0, W, o, ρ, s, x, _, G, e1, fun v H1 x1 k1 r1 => ?_⟩
    obtain ⟨ds, f3, rfl⟩ := Option.map_eq_some_iff.mp f2
    unfold dRg1 at f3
    split at f3
    · split at f3
      · rename_i n hn
        cases f3
        simp only [Bool.and_eq_true, decide_eq_true_eq] at hn
        refine ⟨n, r1.inv_int, RgOk.of_le (by omega) (by omega) (by omega) (by omega), fun p hp => ?_⟩
        obtain ⟨k, rfl⟩ := Int.eq_ofNat_of_zero_le hn.1
        have G1 := G.ext x1 k1
        obtain ⟨x2, k2, np⟩ := fin_new G1 hp (.tup (rgV 0 (k : Int)))
        exact q _ _ (x1.trans x2) k2 (.tup upd_same np (rgV_rep k))
      · cases f3
    · cases f3
@[simp] theorem ap_b2N {S : Type} {g : D → D → Option (List D)} {ma mb : Rho → Mo S D} {ρ : Rho} {s : S} : b2N g ma mb ρ s = (ma ρ s).bind fun p => (mb ρ p.2).bind fun r => (g p.1 r.1).map fun d => (d, r.2) := by unfold b2N; simp
@[simp] theorem ap_rRev {S : Type} {m : Rho → Mo S D} {ρ : Rho} {s : S} : rRev m ρ s = (m ρ s).bind fun p => (dRev p.1).map fun d => (d, p.2) := by unfold rRev; simp
@[simp] theorem ap_rRg1 {S : Type} {m : Rho → Mo S D} {ρ : Rho} {s : S} : rRg1 m ρ s = (m ρ s).bind fun p => (dRg1 p.1).map fun d => (d, p.2) := by unfold rRg1; simp
@[simp] theorem ap_rTRg1 {S : Type} {m : Rho → Mo S D} {ρ : Rho} {s : S} : rTRg1 m ρ s = (m ρ s).bind fun p => (dRg1 p.1).map fun d => (.tup d, p.2) := by
  unfold rTRg1
  simp only [ap_bd, ap_up]
  cases m ρ s with
  | none => rfl
  | some p => simp only [Option.bind_some]; cases dRg1 p.1 <;> rfl
end
/-! ### x.extend(e), x.pop(k) -/
section
variable {X : Cx} {w : Wd} {e1 : Expr} {mn : Rho → Mo w.S (List D)} {x : Str} {p1 p2 p3 pos : Pos}
def mExt {S : Type} (i : Nat) (mn : Rho → Mo S (List D)) : Ms S := fun ρ s => match owned i ρ with
  | some ds => match mn ρ s with
      | some ([.lst es], s') => if ds.length + es.length ≤ sizeLine then some (.nx (ρ.set i (some (.own (ds ++ es)))) s') else none
      | _ => none
  | none => none
theorem vs_extend (i : Nat) (he : VEs X w [e1] mn) (hN : X.N[i]? = some x := by rfl) (hv : Vis X.env.scope x := by first | exact Or.inl rfl | exact Or.inr (Or.inl rfl) | exact Or.inr (Or.inr rfl)) (hd : (x == ("__debug__" : Str)) = false := by decide)
    (hcd : (x == ("__classdict__" : Str)) = false := by decide)
    (hbase : attributeBase (.Name x p1) "extend" X.env (eval (.Name x p1) X.env) = eval (.Name x p1) X.env := by rfl)
    (hfew : ((backTo p3 (starEach [e1] X.env)).all (fun x => !x.1) && (backToKw p3 (keywordEach [] X.env)).all (fun x => x.1.isSome)
      && decide ([e1].length + ([] : List Keyword).length + (if ([] : List Keyword).isEmpty then 0 else 1) < 30)) = true := by rfl)
    (hline : (p2.endLine == p3.line) = true := by rfl) (hs1 : starEach [e1] X.env = (false, eval e1 X.env) :: starEach [] X.env := by rfl) (hplain : (backTo p3 (starEach [] X.env)).any (·.1) = false := by rfl)
    (hs : swapsWith (.Call (.Attribute (.Name x p1) "extend" p2) [e1] [] p3) none pos.line X.env = pure false := by rfl) :
    VS X w (.Expr (.Call (.Attribute (.Name x p1) "extend" p2) [e1] [] p3) pos) (mExt i mn) :=
  (ps_expr (pe_bm PySem.F.plainAttrs_list PySem.F.slot_list_extend PySem.F.type_list_extend mt_extend (pe_var hN hv hd hcd) he hbase hfew hline hs1 hplain) hs).imp fun E σ H ⟨H0, W, o, ρ, s, out, G, e, p⟩ => by
    unfold mExt at e
    split at e
    · rename_i ds hds
      have hi := owned_some hds
      split at e
      · rename_i es s1 e1
        split at e
        · rename_i hz
          cases e
          obtain ⟨a, vs, h1, h2, h3, h4⟩ := G.own i ds hi
          refine ⟨.ref a, h2, .inl ⟨rfl, vs, SqL.of h3⟩, H0, W, o, ρ, s, _, s1, G, e1, fun us H1 x1 k1 r => ?_⟩
          have G1 := G.ext x1 k1
          cases r with
          | cons r1 r2 =>
            cases r2
            have h31 := x1 a _ h3 (G.own_mine h1)
            have h41 := G.repLExt x1 h4
            cases r1 with
            | lst q1 q2 q3 =>
              refine ⟨a, _, vs, _, rfl, rfl, h31, q1, by rw [h41.length, q3.length]; exact hz, ?_⟩
              exact p o σ _ (G1.mutOwn hi h1 (h41.append q3))
        · cases e
      · cases e
    · cases e
def mPopK {S : Type} (i : Nat) (mn : Rho → Mo S (List D)) : Ms S := fun ρ s => match owned i ρ with
  | some ds => match mn ρ s with
      | some ([.int k], s') => if 0 ≤ k && decide (k < ds.length) && decide (k ≤ 1000) then some (.nx (ρ.set i (some (.own (ds.eraseIdx k.toNat)))) s') else none
      | _ => none
  | none => none
theorem RepL.erase {ad : Nat → Addr} {H : Hp} {A : Addr → Prop} {vs : List V} {ds : List D} (h : RepL ad H A vs ds) : ∀ n, RepL ad H A (vs.eraseIdx n) (ds.eraseIdx n) := by
  induction ds generalizing vs with
  | nil => cases h; intro n; exact .nil
  | cons d ds ih =>
    cases h with
    | cons a b =>
      intro n
      cases n with
      | zero => exact b
      | succ n => exact .cons a (ih b n)
theorem vs_popK (i : Nat) (he : VEs X w [e1] mn) (hN : X.N[i]? = some x := by rfl) (hv : Vis X.env.scope x := by first | exact Or.inl rfl | exact Or.inr (Or.inl rfl) | exact Or.inr (Or.inr rfl)) (hd : (x == ("__debug__" : Str)) = false := by decide)
    (hcd : (x == ("__classdict__" : Str)) = false := by decide)
    (hbase : attributeBase (.Name x p1) "pop" X.env (eval (.Name x p1) X.env) = eval (.Name x p1) X.env := by rfl)
    (hfew : ((backTo p3 (starEach [e1] X.env)).all (fun x => !x.1) && (backToKw p3 (keywordEach [] X.env)).all (fun x => x.1.isSome)
      && decide ([e1].length + ([] : List Keyword).length + (if ([] : List Keyword).isEmpty then 0 else 1) < 30)) = true := by rfl)
    (hline : (p2.endLine == p3.line) = true := by rfl) (hs1 : starEach [e1] X.env = (false, eval e1 X.env) :: starEach [] X.env := by rfl) (hplain : (backTo p3 (starEach [] X.env)).any (·.1) = false := by rfl)
    (hs : swapsWith (.Call (.Attribute (.Name x p1) "pop" p2) [e1] [] p3) none pos.line X.env = pure false := by rfl) :
    VS X w (.Expr (.Call (.Attribute (.Name x p1) "pop" p2) [e1] [] p3) pos) (mPopK i mn) :=
  (ps_expr (pe_bm PySem.F.plainAttrs_list PySem.F.slot_list_pop PySem.F.type_list_pop mt_popAt (pe_var hN hv hd hcd) he hbase hfew hline hs1 hplain) hs).imp fun E σ H ⟨H0, W, o, ρ, s, out, G, e, p⟩ => by
    unfold mPopK at e
    split at e
    · rename_i ds hds
      have hi := owned_some hds
      split at e
      · rename_i k s1 e1
        split at e
        · rename_i hz
          cases e
          simp only [Bool.and_eq_true, decide_eq_true_eq] at hz
          obtain ⟨a, vs, h1, h2, h3, h4⟩ := G.own i ds hi
          refine ⟨.ref a, h2, .inl ⟨rfl, vs, SqL.of h3⟩, H0, W, o, ρ, s, _, s1, G, e1, fun us H1 x1 k1 r => ?_⟩
          have G1 := G.ext x1 k1
          cases r with
          | cons r1 r2 =>
            cases r2
            cases r1
            have h31 := x1 a _ h3 (G.own_mine h1)
            have h41 := G.repLExt x1 h4
            have hl := h41.length
            refine ⟨a, vs, k, k.toNat, vs[k.toNat]'(by omega), rfl, rfl, h31, by omega, by omega, (by unfold seqIndex?; rw [if_neg (by omega : ¬ k < 0)]; simp only; rw [if_pos (by simp only [Bool.and_eq_true, decide_eq_true_eq]; omega)]), List.getElem?_eq_getElem _, ?_⟩
            exact p o σ _ (G1.mutOwn hi h1 (h41.erase _))
        · cases e
      · cases e
    · cases e
end
end Rr

set_option Elab.async false
set_option linter.all false
set_option maxRecDepth 100000
set_option maxHeartbeats 1000000
/-! The layer of data: sorted of data, index, dicts of atoms and their repr. -/
namespace Rr
open PySem PySem.Spec L2 PyProof.Rows
open PyProof.V (PairsRead reads_dictOf)

/-! ### sorted() of a list of data that are alike -/
def leD (a b : D) : Bool := PySem.W.dataLe false py a b
def alikeD (ds : List D) : Bool := ds.all fun a => ds.all fun b => PySem.W.alike (py a) (py b)
def isPairD : D → Bool
  | .tup (_ :: _) => true
  | _ => false
def dSortedG : List D → Option (List D)
  | [.lst ds] => if plainL ds && alikeD ds && ds.all isPairD && ds.all (fun d => decide ((py d).depth ≤ 64)) && decide (ds.length ≤ sizeLine) then some (ds.mergeSort leD) else none
  | _ => none
def rSortedG (K : PySem.W.Frag) : List V → Hp → VK → Prop := fun vs H Q => ∃ (a : Addr) (bs : List (V × PyData)), vs = [V.ref a] ∧ SqL K H a (bs.map (·.1)) ∧ DpAll K H (bs.map (·.1)) (bs.map (·.2)) ∧ PySem.W.AllAlike (bs.map (·.2)) ∧ PySem.W.Sortable (bs.map (·.2)) ∧ (∀ b ∈ bs, b.2.depth ≤ 64) ∧
  ∀ p, H p = none → Q (.ref p) (upd H p (.lst ((bs.mergeSort (PySem.W.dataLe false (·.2))).map (·.1))))
theorem each_of {bs : List (V × PyData)} : ∀ {us : List Value}, Vals (bs.map (·.1)) us → PySem.W.EachIs (fun v (b : V × PyData) => RelV b.1 v) us bs := by
  induction bs with
  | nil => intro us r; cases r; exact .nil
  | cons b bs ih =>
    intro us r
    rw [List.map_cons] at r
    cases r with
    | cons r1 r2 => exact .cons r1 (ih r2)
theorem vals_of_each {bs : List (V × PyData)} : ∀ {us : List Value}, PySem.W.EachIs (fun v (b : V × PyData) => RelV b.1 v) us bs → Vals (bs.map (·.1)) us := by
  induction bs with
  | nil => intro us r; cases r; exact .nil
  | cons b bs ih =>
    intro us r
    cases r with
    | cons r1 r2 => rw [List.map_cons]; exact .cons r1 (ih r2)
theorem reads_each {X : Cx} {pins : List (Addr × Obj)} {σ : L2.St} {H : Hp} {s : Shared} (I : L2.Inv X pins σ H s) {bs : List (V × PyData)} : ∀ {us : List Value}, Vals (bs.map (·.1)) us → DpAll X.K H (bs.map (·.1)) (bs.map (·.2)) → PySem.W.EachIs (fun v (b : V × PyData) => ∃ as, Reads s.heap v b.2 as) us bs := by
  induction bs with
  | nil => intro us r _; cases r; exact .nil
  | cons b bs ih =>
    intro us r q
    rw [List.map_cons] at r
    rw [List.map_cons, List.map_cons] at q
    cases r with
    | cons r1 r2 =>
      cases q with
      | cons q1 q2 => exact .cons (Dp.reads I _ _ _ q1 r1) (ih r2 q2)
theorem cr_sortedG {X : Cx} {k : Nat} (hr : Room k X.A) : CallR X (.builtin "sorted") (rSortedG X.K) := by
  intro pins s σ H vs us Q I r h
  obtain ⟨a, bs, rfl, hs, hd, ha, hk, hdp, q⟩ := h
  obtain ⟨its, rv, hl, hz⟩ := I.list hs
  rw [Vals.ref1 r]
  rw [List.length_map] at hz
  refine PySem.W.sorted_data (bs := bs) (enc := (·.2)) (R := fun v b => RelV b.1 v) hl.isList (each_of rv) (reads_each I rv hd) ha hk hz (fun b hb => by have := hdp b hb; have := hr.un; omega) fun out h1 h2 => ?_
  obtain ⟨ep, he'⟩ := PyProof.Rows.sortedAll_at s.heap its out.toArray
  have hlen : ((bs.mergeSort (PySem.W.dataLe false (·.2))).map (·.1)).length ≤ sizeLine := by rw [List.length_map, List.length_mergeSort]; exact hz
  exact ⟨.ref _, upd H (s.heap.objs.size + 1) (.lst ((bs.mergeSort (PySem.W.dataLe false (·.2))).map (·.1))), I.laid (t' := s.toks) (fun _ _ => PyProof.Rows.sortedAll_old) (Nat.le_succ _) ⟨hlen, out, ep, vals_of_each h2, he'⟩, rfl, q _ (I.hok.fresh (Nat.le_succ _))⟩
theorem pyL_eq (ds : List D) : pyL ds = ds.map py := by
  induction ds with
  | nil => simp [pyL]
  | cons d ds ih => simp [pyL, ih]
theorem zip_l {vs : List V} {ds : List D} (h : vs.length = ds.length) : (vs.zip ds).map (·.1) = vs ∧ (vs.zip ds).map (·.2) = ds := by
  induction ds generalizing vs with
  | nil => cases vs with | nil => simp | cons => simp at h
  | cons d ds ih =>
    cases vs with
    | nil => simp at h
    | cons v vs =>
      obtain ⟨h1, h2⟩ := ih (vs := vs) (by simpa using h)
      simp only [List.zip_cons_cons, List.map_cons, h1, h2, and_self]
theorem repL_zip {ad : Nat → Addr} {H : Hp} {A : Addr → Prop} {vs : List V} {ds : List D} (h : RepL ad H A vs ds) : ∀ p ∈ vs.zip ds, Rep ad H A p.1 p.2 := by
  induction ds generalizing vs with
  | nil => cases h; intro p hp; cases hp
  | cons d ds ih =>
    cases h with
    | cons a b =>
      intro p hp
      rw [List.zip_cons_cons] at hp
      rcases List.mem_cons.mp hp with rfl | hp
      · exact a
      · exact ih b p hp
theorem repL_ofp {ad : Nat → Addr} {H : Hp} {A : Addr → Prop} : ∀ {ps : List (V × D)}, (∀ p ∈ ps, Rep ad H A p.1 p.2) → RepL ad H A (ps.map (·.1)) (ps.map (·.2))
  | [], _ => .nil
  | p :: ps, h => .cons (h p List.mem_cons_self) (repL_ofp fun q hq => h q (List.mem_cons_of_mem _ hq))
theorem sortedG_ok {w : Wd} {K : PySem.W.Frag} : CallN w (rSortedG K) dSortedG := by
  intro H0 W o ρ s σ H G xs ds z Q h hg q
  unfold dSortedG at hg
  split at hg
  · rename_i es
    split at hg
    · rename_i hc
      cases hg
      simp only [Bool.and_eq_true, decide_eq_true_eq, List.all_eq_true] at hc
      obtain ⟨⟨⟨⟨h1, h2⟩, h3⟩, h4⟩, h5⟩ := hc
      obtain ⟨v, rfl, hb⟩ := borL1 h
      obtain ⟨a, ys, rfl, e1, n1, r1⟩ := hb.lst (fun _ z => .inl z)
      have hl := r1.length
      obtain ⟨z1, z2⟩ := zip_l hl
      have m1 : ((ys.zip es).map fun t : V × D => (t.1, py t.2)).map (·.1) = ys := by rw [List.map_map]; exact z1
      have m2 : ((ys.zip es).map fun t : V × D => (t.1, py t.2)).map (·.2) = pyL es := by
        rw [List.map_map, pyL_eq]
        conv => rhs; rw [← z2]
        rw [List.map_map]
        rfl
      refine ⟨a, (ys.zip es).map fun t => (t.1, py t.2), rfl, by rw [m1]; exact SqL.of e1, by rw [m1, m2]; exact r1.dp h1, ?_, ?_, ?_, fun p hp => ?_⟩
      · rw [m2, pyL_eq]
        intro d hd d' hd'
        obtain ⟨x, hx, rfl⟩ := List.mem_map.mp hd
        obtain ⟨y, hy, rfl⟩ := List.mem_map.mp hd'
        unfold alikeD at h2
        simp only [List.all_eq_true] at h2
        exact h2 x hx y hy
      · rw [m2, pyL_eq]
        refine .inl fun d hd => ?_
        obtain ⟨x, hx, rfl⟩ := List.mem_map.mp hd
        have := h3 x hx
        unfold isPairD at this
        split at this
        · exact ⟨_, _, by rw [py_tup]; rfl⟩
        · cases this
      · intro b hb'
        obtain ⟨t, ht, rfl⟩ := List.mem_map.mp hb'
        exact h4 t.2 (by rw [← z2]; exact List.mem_map.mpr ⟨t, ht, rfl⟩)
      · have c1 : (((ys.zip es).map fun t : V × D => (t.1, py t.2)).mergeSort (PySem.W.dataLe false (·.2))) = ((ys.zip es).mergeSort fun a b => leD a.2 b.2).map fun t => (t.1, py t.2) := by
          exact (List.map_mergeSort (r := fun a b : V × D => leD a.2 b.2) (s := PySem.W.dataLe false (fun b : V × PyData => b.2)) (f := fun t : V × D => (t.1, py t.2)) (l := ys.zip es) (fun a _ b _ => rfl)).symm
        have c2 : es.mergeSort leD = ((ys.zip es).mergeSort fun a b => leD a.2 b.2).map (·.2) := by
          rw [List.map_mergeSort (r := fun a b : V × D => leD a.2 b.2) (s := leD) (f := fun t : V × D => t.2) (l := ys.zip es) (fun a _ b _ => rfl), z2]
        rw [c1, List.map_map]
        refine q p _ hp ?_
        rw [c2]
        exact repL_ofp (ps := (ys.zip es).mergeSort fun a b => leD a.2 b.2) fun t ht => repL_zip r1 t (List.mem_mergeSort.mp ht)
    · cases hg
  · cases hg
def rSortedB (K : PySem.W.Frag) : List V → Hp → VK → Prop := fun vs H Q => rSortedA K vs H Q ∨ rSortedG K vs H Q
def dSortedB (ds : List D) : Option (List D) := match dSortedA ds with
  | some zs => some zs
  | none => dSortedG ds
theorem cr_sortedB {X : Cx} {k : Nat} (hr : Room k X.A) : CallR X (.builtin "sorted") (rSortedB X.K) := cr_sortedA.or (cr_sortedG hr)
theorem sortedB_ok {w : Wd} {K : PySem.W.Frag} : CallN w (rSortedB K) dSortedB := by
  intro H0 W o ρ s σ H G xs ds z Q h hg q
  unfold dSortedB at hg
  split at hg
  · rename_i zs e
    cases hg
    exact .inl (sortedA_ok G h e q)
  · exact .inr (sortedG_ok G h hg q)

/-! ### {}, dict([(k, v)]) -/
section
variable {X : Cx} {w : Wd} {e : Expr} {m : Rho → Mo w.S D} {pos : Pos}
theorem ve_dict0 : VE X w (.Dict [] [] pos) (fun _ => rt (.dic [])) := pe_dnewK.imp fun σ H Q ⟨H0, W, o, ρ, s, d, s', G, e, q⟩ => by
  cases e
  intro p hp
  obtain ⟨x1, k1, np⟩ := fin_new G hp (.dK [])
  exact q _ _ x1 k1 (.dic (ks := []) (xs := []) (ds := []) upd_same np rfl .nil)
def rD0 {S : Type} : Rho → Mo S D := fun _ => rt (.dic [])
def dDict : List D → Option D
  | [.lst [.tup [.int k, d]]] => some (.dic [(.inl k, d)])
  | _ => none
theorem dict_ok {K : PySem.W.Frag} : CallD w (fun xs H Q => ∃ (a : Addr) (ps : List Addr) (kvs : List (Key × V)), xs = [.ref a] ∧ SqL K H a (ps.map V.ref) ∧ Paired (fun p kv => SqT K H p [kV kv.1, kv.2]) ps kvs ∧ ∀ p, H p = none → Q (.ref p) (upd H p (.dK (mergeK [] kvs)))) dDict := by
  intro H0 W o ρ s σ H G xs ds z Q h hg q
  unfold dDict at hg
  split at hg
  · rename_i k d
    cases hg
    obtain ⟨v, rfl, hb⟩ := borL1 h
    obtain ⟨a, ys, rfl, e1, n1, r1⟩ := hb.lst (fun _ z => .inl z)
    cases r1 with
    | cons r2 r3 =>
      cases r3
      cases r2 with
      | tup e2 n2 r4 =>
        cases r4 with
        | cons r5 r6 =>
          cases r5
          cases r6 with
          | cons r7 r8 =>
            cases r8
            rename_i b y
            refine ⟨a, [b], [(.inl k, y)], rfl, SqL.of e1, .cons (SqT.of e2) .nil, fun p hp => ?_⟩
            obtain ⟨x1, k1, np⟩ := fin_new G hp (.dK (mergeK [] [(.inl k, y)]))
            exact q _ _ x1 k1 (.dic (ks := [.inl k]) (xs := [y]) (ds := [d]) upd_same np rfl (.cons (G.repExt x1 r7) .nil))
  · cases hg
end

/-! ### repr of data with dicts of atoms, without lists -/
def atomQ : D → Bool
  | .non => true
  | .bl _ => true
  | .int _ => true
  | _ => false
def keyP : Key → PyData
  | .inl k => .int k
  | .inr x => .str x
mutual
def pyQ : D → PyData
  | .non => .none
  | .bl b => .bool b
  | .int i => .int i
  | .str x => .str x
  | .tup xs => .tuple (pyQL xs)
  | .lst _ => .none
  | .dic kvs => .dict (kvs.map fun kv => (keyP kv.1, py kv.2))
  | .obj _ => .none
def pyQL : List D → List PyData
  | [] => []
  | x :: xs => pyQ x :: pyQL xs
end
mutual
def plainQ : D → Bool
  | .non => true
  | .bl _ => true
  | .int _ => true
  | .str _ => true
  | .tup xs => plainQL xs
  | .lst _ => false
  | .dic kvs => kvs.all fun kv => atomQ kv.2
  | .obj _ => false
def plainQL : List D → Bool
  | [] => true
  | x :: xs => plainQ x && plainQL xs
end
section
variable {X : Cx} {pins : List (Addr × Obj)} {σ : L2.St} {H : Hp} {s : Shared} {ad : Nat → Addr} {A : Addr → Prop}
theorem pairs_q {ks : List Key} : ∀ {xs : List V} {ds : List D} {vs : List (Key × Value)}, ks.length = ds.length → RepL ad H A xs ds → (ks.zip ds).all (fun kv => atomQ kv.2) = true → KV (ks.zip xs) vs → PairsRead s.heap keyP vs ((ks.zip ds).map fun kv => (keyP kv.1, py kv.2)) [] := by
  induction ks with
  | nil =>
    intro xs ds vs _ _ _ kv
    rw [List.zip_nil_left] at kv ⊢
    cases kv
    exact .nil
  | cons k ks ih =>
    intro xs ds vs hl r ha kv
    cases ds with
    | nil => simp at hl
    | cons d ds =>
      cases r with
      | cons r1 r2 =>
        rw [List.zip_cons_cons] at kv ha ⊢
        rw [List.all_cons, Bool.and_eq_true] at ha
        cases kv with
        | @cons p q ps qs h t =>
          obtain ⟨hk, hv⟩ := h
          obtain ⟨qk, qv⟩ := q
          simp only at hk hv
          subst hk
          have rd : Reads s.heap qv (py d) [] := by
            have ha1 := ha.1
            cases r1 <;> simp only [atomQ, Bool.false_eq_true] at ha1
            · cases hv; simp only [py]; exact .none
            · cases hv; simp only [py]; exact .bool _
            · obtain ⟨t, rfl⟩ := hv; simp only [py]; exact .int _ _
          exact PairsRead.cons (as := []) (bs := []) rd (ih (by simpa using hl) r2 ha.2 t)
theorem Rep.readsQ (I : L2.Inv X pins σ H s) {v : V} {d : D} (h : Rep ad H A v d) : plainQ d = true → ∀ u, RelV v u → ∃ as, Reads s.heap u (pyQ d) as ∧ sysModules ∉ as :=
  Rep.rec (motive_1 := fun v d _ => plainQ d = true → ∀ u, RelV v u → ∃ as, Reads s.heap u (pyQ d) as ∧ sysModules ∉ as) (motive_2 := fun vs ds _ => plainQL ds = true → ∀ us, Vals vs us → ∃ as, ReadsAll s.heap us (pyQL ds) as ∧ sysModules ∉ as)
    (fun _ u r => by cases r; exact ⟨[], by simp only [pyQ]; exact .none, by simp⟩)
    (fun b _ u r => by cases r; exact ⟨[], by simp only [pyQ]; exact .bool b, by simp⟩)
    (fun i _ u r => by obtain ⟨t, rfl⟩ := r; exact ⟨[], by simp only [pyQ]; exact .int i t, by simp⟩)
    (fun x _ u r => by obtain ⟨t, rfl⟩ := r; exact ⟨[], by simp only [pyQ]; exact .str x t, by simp⟩)
    (fun {a xs ds} h1 h2 _ ih hp u r => by
      cases r
      obtain ⟨its, rv, ⟨o, ho, hc, n, hd⟩, _⟩ := I.tuple (SqT.of h1)
      obtain ⟨as, ha, hn⟩ := ih (by simpa [plainQ] using hp) its rv
      exact ⟨as, by simp only [pyQ]; exact Reads.tuple ho hc hd ha, hn⟩)
    (fun _ _ _ _ hp => by simp [plainQ] at hp)
    (fun {a ks xs ds} h1 h2 h3 rl _ hp u r => by
      cases r
      obtain ⟨_, low, vs, kv, dd⟩ := I.hok a _ h1
      have hp : (ks.zip ds).all (fun kv => atomQ kv.2) = true := by simpa [plainQ] using hp
      refine ⟨[a], ?_, ?_⟩
      · simp only [pyQ]
        refine reads_dictOf (fun k key hk => ?_) dd (pairs_q h3 rl hp kv)
        rcases keyIs_shape hk with ⟨i, t, rfl, rfl⟩ | ⟨x, t, rfl, rfl⟩
        · exact .int _ _
        · exact .str _ _
      · intro z
        simp only [List.mem_singleton] at z
        subst z
        simp at low)
    (fun _ hp => by simp [plainQ] at hp)
    (fun _ us r => by cases r; exact ⟨[], by simp only [pyQL]; exact .nil, by simp⟩)
    (fun {v vs d ds} _ _ ih1 ih2 hp us r => by
      simp only [plainQL, Bool.and_eq_true] at hp
      cases r with
      | cons r1 r2 =>
        obtain ⟨as, q1, n1⟩ := ih1 hp.1 _ r1
        obtain ⟨bs, q2, n2⟩ := ih2 hp.2 _ r2
        exact ⟨as ++ bs, by simp only [pyQL]; exact .cons q1 q2, by rw [List.mem_append]; exact fun z => z.elim n1 n2⟩) h
end
end Rr

set_option Elab.async false
set_option linter.all false
set_option maxRecDepth 100000
set_option maxHeartbeats 1000000
/-! The layer of data: repr with dicts of atoms; x.index(v). -/
namespace Rr
open PySem PySem.Spec L2 PyProof.Rows

/-! ### repr -/
def dReprQ : List D → Option D
  | [.tup xs] => if plainQ (.tup xs) && (pyQ (.tup xs)).showable && decide ((pyQ (.tup xs)).depth ≤ 64) && decide ((pyQ (.tup xs)).shown.length ≤ sizeLine) then some (.str (pyQ (.tup xs)).shown) else none
  | _ => none
def rReprQ : List V → Hp → VK → Prop := fun xs H Q => ∃ (a : Addr) (d : D) (ad : Nat → Addr) (A : Addr → Prop), xs = [.ref a] ∧ Rep ad H A (.ref a) d ∧ plainQ d = true ∧ (pyQ d).showable = true ∧ (pyQ d).depth ≤ 64 ∧ (pyQ d).shown.length ≤ sizeLine ∧ Q (.str (pyQ d).shown) H
def rReprA (K : PySem.W.Frag) : List V → Hp → VK → Prop := fun xs H Q => rRepr K xs H Q ∨ rReprQ xs H Q
section
variable {X : Cx} {w : Wd} {e e1 : Expr} {m : Rho → Mo w.S D} {ms : Rho → Mo w.S (List D)} {pos p1 p2 p3 : Pos} {k : Nat}
theorem cr_reprA (hr : Room k X.A) (hg : X.A.guards = some []) : CallR X (.builtin "repr") (rReprA X.K) := (cr_repr hr hg).or (by
  intro pins s σ H xs us Q I r h
  obtain ⟨a, d, ad, A, rfl, hd, hp, hs, hdp, hz, q⟩ := h
  rw [Vals.ref1 r]
  obtain ⟨as, rd, hn⟩ := hd.readsQ I hp _ (show RelV (V.ref a) (Value.ref a) from rfl)
  exact repr_of_reads' rd hs (fun _ => hn) hg (by have := hr.un; omega) (fun _ _ e => e) (fun h' u tk hk => ⟨.str (pyQ d).shown, H, I.kept (t' := tk) hk, ⟨u, rfl⟩, q⟩) hz)
def dReprA (ds : List D) : Option D := match dRepr ds with
  | some z => some z
  | none => dReprQ ds
theorem reprA_ok {K : PySem.W.Frag} : CallD w (rReprA K) dReprA := by
  intro H0 W o ρ s σ H G xs ds z Q h hg q
  unfold dReprA at hg
  split at hg
  · rename_i y e
    cases hg
    exact .inl (repr_ok G h e q)
  · unfold dReprQ at hg
    split at hg
    · split at hg
      · rename_i hc
        cases hg
        simp only [Bool.and_eq_true, decide_eq_true_eq] at hc
        obtain ⟨⟨⟨h1, h2⟩, h3⟩, h4⟩ := hc
        obtain ⟨v, rfl, hb⟩ := borL1 h
        cases hb with
        | kept hr =>
          obtain ⟨a, ys, rfl, _⟩ := (Bor.kept (W := W) hr).tup
          exact .inr ⟨a, _, _, _, rfl, hr, h1, h2, h3, h4, fin_ext G q (.str _)⟩
      · cases hg
    · cases hg

/-! ### xs.index(x) -/
def dIndex : D → List D → Option D
  | .lst ds, [d] => if fit d && fit (.lst ds) then ((pyL ds).findIdx? fun z => PyData.eqv z (py d)).map fun (j : Nat) => D.int (j : Int) else none
  | _, _ => none
def rIdx {S : Type} (m : Rho → Mo S D) (ms : Rho → Mo S (List D)) : Rho → Mo S D := fun ρ => bd (m ρ) fun x => bd (ms ρ) fun ys => up (dIndex x ys)
theorem ve_index (hr : Room k X.A) (ho : VR X w e m) (ha : VRs X w [e1] ms)
    (hbase : attributeBase e "index" X.env (eval e X.env) = eval e X.env := by rfl)
    (hfew : ((backTo p3 (starEach [e1] X.env)).all (fun x => !x.1) && (backToKw p3 (keywordEach [] X.env)).all (fun x => x.1.isSome)
      && decide ([e1].length + ([] : List Keyword).length + (if ([] : List Keyword).isEmpty then 0 else 1) < 30)) = true := by rfl)
    (hline : (p2.endLine == p3.line) = true := by rfl) (hs1 : starEach [e1] X.env = (false, eval e1 X.env) :: starEach [] X.env := by rfl) (hplain : (backTo p3 (starEach [] X.env)).any (·.1) = false := by rfl) :
    VE X w (.Call (.Attribute e "index" p2) [e1] [] p3) (rIdx m ms) :=
  (pe_bm PySem.F.plainAttrs_list PySem.F.slot_list_index PySem.F.type_list_index (mt_indexD (by have := hr.un; omega)) ho ha hbase hfew hline hs1 hplain).imp fun σ H Q ⟨H0, W, o, ρ, s, d, s', G, e, q⟩ => by
    obtain ⟨x, s1, e1, f1⟩ := bd_some e
    obtain ⟨ys, s2, e2, f2⟩ := bd_some f1
    obtain ⟨f3, rfl⟩ := up_some f2
    refine ⟨H0, W, o, ρ, s, x, s1, G, e1, fun v H1 x1 k1 r1 => ?_⟩
    have G1 := G.ext x1 k1
    unfold dIndex at f3
    split at f3
    · rename_i ds y
      split at f3
      · rename_i hf
        simp only [Bool.and_eq_true] at hf
        obtain ⟨j, hj, rfl⟩ := Option.map_eq_some_iff.mp f3
        obtain ⟨a, vs, rfl, h1, n1, r2⟩ := r1.lst (fun _ z => .inl z)
        refine ⟨.inl ⟨rfl, vs, SqL.of h1⟩, H0, W, o, ρ, s1, _, _, G1, e2, fun us H2 x2 k2 r3 => ?_⟩
        obtain ⟨u, rfl, rb⟩ := borL1 r3
        obtain ⟨hjl, hj2, hj3⟩ := List.findIdx?_eq_some_iff_getElem.mp hj
        have hp : plain (.lst ds) = true := fit_plain hf.2
        have b2 := G1.borExt x2 r1
        have d1 := b2.dp (K := X.K) hp
        rw [py_lst] at d1
        refine ⟨a, u, py y, pyL ds, j, (pyL ds)[j], rfl, rfl, d1, rb.dp (fit_plain hf.1), ?_, fit_shaped hf.1, List.getElem?_eq_getElem hjl, hj2, fun m z hm hz => ?_, q _ H2 (x1.trans x2) k2 (.int _)⟩
        · have := fit_shaped hf.2
          rwa [py_lst] at this
        · have hml : m < (pyL ds).length := by omega
          rw [List.getElem?_eq_getElem hml] at hz
          cases hz
          have := hj3 m hm
          simpa using this
      · cases f3
    · cases f3
@[simp] theorem ap_rIdx {S : Type} {m : Rho → Mo S D} {ms : Rho → Mo S (List D)} {ρ : Rho} {s : S} : rIdx m ms ρ s = (m ρ s).bind fun p => (ms ρ p.2).bind fun r => (dIndex p.1 r.1).map fun d => (d, r.2) := by unfold rIdx; simp
@[simp] theorem ap_rD0 {S : Type} {ρ : Rho} {s : S} : (rD0 : Rho → Mo S D) ρ s = some (.dic [], s) := Eq.trans rfl rfl
end
end Rr

set_option Elab.async false
set_option linter.all false
set_option maxRecDepth 100000
set_option maxHeartbeats 1000000
/-! The layer of data: a tuple of anything == (). -/
namespace Rr
open PySem PySem.Spec L2 PyProof.Rows

def rEqT0 (K : PySem.W.Frag) : R2 := fun x y H Q => ∃ p q xs, x = .ref p ∧ y = .ref q ∧ SqT K H p xs ∧ SqT K H q [] ∧ Q (.bl xs.isEmpty) H
section
variable {X : Cx} {w : Wd} {k : Nat}
theorem op_eqT0 (hu : X.A.units + 64 < cLine) : OpR X (compareOp .Eq) (rEqT0 X.K) := by
  intro pins s σ H x y v u Q I rx ry h
  obtain ⟨p, q, xs, rfl, rfl, hp, hq, hQ⟩ := h
  obtain ⟨its, rv, ti, _⟩ := I.tuple hp
  obtain ⟨its2, rv2, ti2, _⟩ := I.tuple hq
  have e2 : its2 = [] := by cases rv2; rfl
  subst e2
  have hv : v = .ref p := by cases v <;> first | (cases rx; done) | (cases rx; rfl)
  have hw : u = .ref q := by cases u <;> first | (cases ry; done) | (cases ry; rfl)
  subst hv hw
  have hl : s.heap.IsTuple p its.toArray := by obtain ⟨o, a, b, n, d⟩ := ti; exact ⟨o, a, b, n, d⟩
  have hl2 : s.heap.IsTuple q (#[] : Array Value) := by obtain ⟨o, a, b, n, d⟩ := ti2; exact ⟨o, a, b, n, d⟩
  have r := SeqAt.RcAt.tuples (A := X.A) (e := fun _ => true) hl hl2 (by omega) (fun j h1 h2 => absurd h2 (by simp))
  have eb : ((List.range (min its.toArray.size (#[] : Array Value).size)).all (fun _ => true) && its.toArray.size == (#[] : Array Value).size) = xs.isEmpty := by
    cases rv <;> simp
  rw [eb] at r
  exact r _ _ _ _ ⟨.bl _, H, I, rfl, hQ⟩
end
def dEqT (d e : D) : Option D := match d, e with
  | .tup xs, .tup [] => some (.bl xs.isEmpty)
  | d, e => dEq d e
section
variable {X : Cx} {w : Wd} {k : Nat}
theorem eqT_ok {K : PySem.W.Frag} : OpD w (fun x y H Q => rEqT0 K x y H Q ∨ rEqD K x y H Q) dEqT := by
  intro H0 W o ρ s σ H G x y d e z Q hx hy hg q
  unfold dEqT at hg
  split at hg
  · cases hg
    obtain ⟨a, ys, rfl, h1, n1, r1⟩ := hx.tup
    obtain ⟨b, zs, rfl, h2, n2, r2⟩ := hy.tup
    cases r2
    refine .inl ⟨a, b, ys, rfl, rfl, SqT.of h1, SqT.of h2, ?_⟩
    rename_i xs
    have : ys.isEmpty = xs.isEmpty := by cases r1 <;> rfl
    rw [this]
    exact fin_ext G q (.bl _)
  · exact .inr (eq_ok G hx hy hg q)
theorem ck_eqT (hr : Room k X.A) : CmpK X w .Eq dEqT := ⟨_, (op_eqT0 hr.units).or (op_eqD hr.units), eqT_ok⟩
end
/-! ### int(a) % b reads as a % b -/
section
variable {X : Cx} {w : Wd} {a b : Expr} {pos : Pos} {ma mb : Rho → Mo w.S D}
theorem ve_imod (ha : VR X w a (cb dInt (rCons ma rNil))) (hb : VR X w b mb) : VE X w (.BinOp a .Mod b pos) (b2 dMod ma mb) := (ve_mod ha hb).imp fun σ H Q ⟨H0, W, o, ρ, s, d, s', G, e, q⟩ => by
  refine ⟨H0, W, o, ρ, s, d, s', G, ?_, q⟩
  have e2 : (b2 dMod ma mb ρ) s = some (d, s') := e
  show (b2 dMod (cb dInt (rCons ma rNil)) mb ρ) s = some (d, s')
  rw [ap_b2] at e2 ⊢
  rw [ap_cb, ap_rCons]
  cases h : ma ρ s with
  | none => rw [h] at e2; cases e2
  | some p =>
    rw [h] at e2
    obtain ⟨x, s1⟩ := p
    cases x with
    | int i => exact e2
    | _ =>
      exfalso
      simp only [Option.bind_some] at e2
      cases h2 : mb ρ s1 with
      | none => rw [h2] at e2; cases e2
      | some r => rw [h2] at e2; obtain ⟨y, s2⟩ := r; cases y <;> cases e2
end
end Rr

set_option Elab.async false
set_option linter.all false
set_option maxRecDepth 100000
set_option maxHeartbeats 2000000
/-! The layer of data: told = [e1, e2] (two new lists); if q: ..; told[0].append(None); told[1].append(None). -/
namespace Rr
open PySem PySem.Spec L2 PyProof.Rows
section
variable {w : Wd} {H0 : Base} {W : Addr → Prop} {o : Own} {ρ : Rho} {s : w.S} {σ : L2.St} {H : Hp}
/-- a slot that nothing is known of any more -/
theorem Gd.setNone (G : Gd w H0 W o ρ s σ H) (i : Nat) (v : V) : Gd w H0 W (off o i) (ρ.set i none) s (σ.set i (some v)) H where
  len := by rw [List.length_set, List.length_set]; exact G.len
  sub := G.sub
  trk := G.trk
  frm := G.frm
  lic := G.lic
  ok := G.ok
  val := fun j e h => by
    rcases set_get h with ⟨rfl, e1, hl⟩ | ⟨hne, h⟩
    · cases e1
    · obtain ⟨u, h1, h2⟩ := G.val j e h
      exact ⟨u, by rw [List.getElem?_set_ne (Ne.symm hne)]; exact h1, h2.mono fun _ z => off_av z⟩
  own := fun j e h => by
    rcases set_get h with ⟨rfl, e1, hl⟩ | ⟨hne, h⟩
    · cases e1
    · obtain ⟨a, vs, h1, h2, h3, h4⟩ := G.own j e h
      exact ⟨a, vs, by unfold off; rw [if_neg hne]; exact h1, by rw [List.getElem?_set_ne (Ne.symm hne)]; exact h2, h3, h4.mono fun _ z => off_av z⟩
  inj := fun j k a h1 h2 => by
    unfold off at h1 h2
    split at h1
    · cases h1
    · split at h2
      · cases h2
      · exact G.inj j k a h1 h2
  new := fun j a h => by
    unfold off at h
    split at h
    · cases h
    · exact G.new j a h
  live := fun j a h => by
    unfold off at h
    split at h
    · cases h
    · rename_i hne
      rw [List.getElem?_set_ne (Ne.symm hne)]
      exact G.live j a h
end
def mTold {S : Type} (i : Nat) (ma mb : Rho → Mo S (List D)) (q : Rho → Mo S Bool) (m1 : Ms S) : Ms S := fun ρ s =>
  match bd (ma ρ) (fun x => bd (mb ρ) fun y => rt (x, y)) s with
  | some ((x, y), s1) => if i < ρ.length ∧ x.length < sizeLine ∧ y.length < sizeLine then
      match q (ρ.set i (some (.val (.lst [.lst x, .lst y])))) s1 with
      | some (true, s2) => match m1 (ρ.set i (some (.val (.lst [.lst x, .lst y])))) s2 with | some (.nx _ _) => none | r => r
      | some (false, s2) => some (.nx (ρ.set i none) s2)
      | none => none
    else none
  | none => none
section
variable {X : Cx} {w : Wd} {e1 e2 c : Expr} {sts : List Stmt} {ma mb : Rho → Mo w.S (List D)} {q : Rho → Mo w.S Bool} {m1 : Ms w.S}
theorem vss_told (i : Nat) {x : Str} {px pl pa pif p1 p2 p3 p4 p5 pe pos p1' p2' p3' p4' p5' pe' pos' : Pos} {j1 j2 j1' j2'} (hN : X.N.Nodup) (h1 : VN X w e1 ma) (h2 : VN X w e2 mb) (hq : VQ X w c q) (hb : VSs X w sts m1)
    (hi : X.N[i]? = some x := by rfl) (hx : Loc X.env.scope x := by first | exact Or.inl rfl | exact Or.inr rfl) (hv : Vis X.env.scope x := by first | exact Or.inl rfl | exact Or.inr (Or.inl rfl) | exact Or.inr (Or.inr rfl))
    (hf : X.fn x = true ∨ X.env.scope.names.lookup x = some .local := by first | exact .inl rfl | exact .inr rfl | assumption) (hd : (x == ("__debug__" : Str)) = false := by decide) (hcd : (x == ("__classdict__" : Str)) = false := by decide)
    (hs : swapsWith (.List [e1, e2] pl) (some (.Name x px)) pa.line X.env = pure false := by rfl)
    (hst1 : starEach [e1, e2] X.env = (false, eval e1 X.env) :: starEach [e2] X.env := by rfl) (hst2 : starEach [e2] X.env = (false, eval e2 X.env) :: starEach [] X.env := by rfl)
    (hbase : attributeBase (.Subscript (.Name x p1) (.Constant (.int 0) j1 p2) p3) "append" X.env (eval (.Subscript (.Name x p1) (.Constant (.int 0) j1 p2) p3) X.env) = eval (.Subscript (.Name x p1) (.Constant (.int 0) j1 p2) p3) X.env := by rfl)
    (hline : (p4.endLine == p5.line) = true := by rfl)
    (hbase' : attributeBase (.Subscript (.Name x p1') (.Constant (.int 1) j1' p2') p3') "append" X.env (eval (.Subscript (.Name x p1') (.Constant (.int 1) j1' p2') p3') X.env) = eval (.Subscript (.Name x p1') (.Constant (.int 1) j1' p2') p3') X.env := by rfl)
    (hline' : (p4'.endLine == p5'.line) = true := by rfl)
    (hsw : swapsWith (.Call (.Attribute (.Subscript (.Name x p1) (.Constant (.int 0) j1 p2) p3) "append" p4) [.Constant .none j2 pe] [] p5) none pos.line X.env = pure false := by rfl)
    (hsw' : swapsWith (.Call (.Attribute (.Subscript (.Name x p1') (.Constant (.int 1) j1' p2') p3') "append" p4') [.Constant .none j2' pe'] [] p5') none pos'.line X.env = pure false := by rfl) :
    VSs X w [.Assign [.Name x px] (.List [e1, e2] pl) pa, .If c sts [] pif, .Expr (.Call (.Attribute (.Subscript (.Name x p1) (.Constant (.int 0) j1 p2) p3) "append" p4) [.Constant .none j2 pe] [] p5) pos, .Expr (.Call (.Attribute (.Subscript (.Name x p1') (.Constant (.int 1) j1' p2') p3') "append" p4') [.Constant .none j2' pe'] [] p5') pos'] (mTold i ma mb q m1) := by
  have a1 := ps_set (pos := pa) hN hi hx (pe_lst (pos := pl) (pa_cons h1 (pa_cons h2 pa_nil hst2) hst1)) hs hf
  have a2 := ps_if (pos := pif) hq hb (pss_nil (X := X))
  have a3 := ps_expr (pos := pos) (pe_bm (apos := p4) (cpos := p5) PySem.F.plainAttrs_list PySem.F.slot_list_append PySem.F.type_list_append mt_append (pe_ix (pos := p3) ix_list (pe_var (pos := p1) hi hv hd hcd) (pe_int (i := 0) (j := j1) (pos := p2)) (fun _ _ => rfl)) (pa_cons (pe_non (j := j2) (pos := pe)) pa_nil rfl) hbase rfl hline rfl rfl) hsw
  have a4 := ps_expr (pos := pos') (pe_bm (apos := p4') (cpos := p5') PySem.F.plainAttrs_list PySem.F.slot_list_append PySem.F.type_list_append mt_append (pe_ix (pos := p3') ix_list (pe_var (pos := p1') hi hv hd hcd) (pe_int (i := 1) (j := j1') (pos := p2')) (fun _ _ => rfl)) (pa_cons (pe_non (j := j2') (pos := pe')) pa_nil rfl) hbase' rfl hline' rfl rfl) hsw'
  refine (pss_cons a1 (pss_cons a2 (pss_cons a3 (pss_one a4)))).imp fun E σ H ⟨H0, W, o, ρ, s, out, G, e, p⟩ => ?_
  unfold mTold at e
  split at e
  · rename_i x1 y1 s1 em
    split at e
    · rename_i hsz
      obtain ⟨hil, hx1, hy1⟩ := hsz
      obtain ⟨x2, u1, f1, f2⟩ := bd_some em
      obtain ⟨y2, u2, f3, f4⟩ := bd_some f2
      cases f4
      refine ⟨H0, W, o, ρ, s, x1, u1, G, f1, fun a va H1 xa ka na ha ra => ?_⟩
      have Ga := G.ext xa ka
      refine ⟨H0, W, o, ρ, u1, y1, s1, Ga, f3, fun b vb H2 xb kb nb hb2 rb => ?_⟩
      have Gb := Ga.ext xb kb
      refine ⟨by show 2 ≤ sizeLine; decide, fun pp hp => ?_⟩
      have nma : ¬ w.mine a := fun m => w.trk G.ok m na
      have nmb : ¬ w.mine b := fun m => w.trk Ga.ok m nb
      have nmp : ¬ w.mine pp := fun m => w.trk Gb.ok m hp
      have ha2 : H2 a = some (.lst va) := xb a _ ha nma
      obtain ⟨x3, k3, np⟩ := fin_new Gb hp (.lst [.ref a, .ref b])
      have ha3 := x3 a _ ha2 nma
      have hb3 := x3 b _ hb2 nmb
      have nAa : ¬ Av W o a := G.notAv na
      have nAb : ¬ Av W o b := Ga.notAv nb
      have ra3 : RepL w.ad (upd H2 pp (.lst [.ref a, .ref b])) (Av W o) va x1 := Gb.repLExt x3 (Ga.repLExt xb (ra.mono fun _ z => .inl z))
      have rb3 : RepL w.ad (upd H2 pp (.lst [.ref a, .ref b])) (Av W o) vb y1 := Gb.repLExt x3 (rb.mono fun _ z => .inl z)
      have rep : Rep w.ad (upd H2 pp (.lst [.ref a, .ref b])) (Av W o) (.ref pp) (.lst [.lst x1, .lst y1]) := .lst upd_same np (.cons (.lst ha3 nAa ra3) (.cons (.lst hb3 nAb rb3) .nil))
      have G4 := (Gb.ext x3 k3).setVal i rep
      have hσ : (σ.set i (some (V.ref pp)))[i]? = some (some (.ref pp)) := List.getElem?_set_self (by rw [← G.len]; exact hil)
      split at e
      · rename_i s2 eq
        refine ⟨H0, W, off o i, _, s1, true, s2, G4, eq, fun H4 xq kq => iteT ?_⟩
        split at e
        · cases e
        · rename_i hne
          exact ⟨H0, W, off o i, _, s2, out, G4.ext xq kq, e, post_ends (fun ρ' s' z => hne ρ' s' (by rw [e, z])) p⟩
      · rename_i s2 eq
        cases e
        refine ⟨H0, W, off o i, _, s1, false, s2, G4, eq, fun H4 xq kq => iteF ?_⟩
        have hp4 : H4 pp = some (.lst [.ref a, .ref b]) := xq pp _ upd_same nmp
        have ha4 := xq a _ ha3 nma
        have hb4 := xq b _ hb3 nmb
        have X04 : Ext w H H4 := ((xa.trans xb).trans x3).trans xq
        have hpH : H pp = none := by
          cases hh : H pp with
          | none => rfl
          | some y => rw [(xa.trans xb) pp y hh nmp] at hp; cases hp
        have hbH : H b = none := by
          cases hh : H b with
          | none => rfl
          | some y => rw [xa b y hh nmb] at nb; cases nb
        have X05 : Ext w H (upd H4 a (.lst (va ++ [.non]))) := X04.mut na
        have lva : va.length < sizeLine := by rw [ra3.length]; exact hx1
        have lvb : vb.length < sizeLine := by rw [rb3.length]; exact hy1
        refine ⟨.ref pp, hσ, pp, [.ref a, .ref b], 0, .ref a, rfl, rfl, SqL.of hp4, rfl, .inl ⟨rfl, va, SqL.of ha4⟩, a, va, .non, rfl, rfl, ha4, lva, ?_⟩
        have e5p : ∃ zs, upd H4 a (.lst (va ++ [.non])) pp = some (.lst (.ref a :: .ref b :: zs)) := by
          by_cases hh : pp = a
          · subst hh
            rw [ha4] at hp4
            cases hp4
            exact ⟨[.non], upd_same⟩
          · exact ⟨[], by rw [upd_ne hh]; exact hp4⟩
        obtain ⟨zs, e5p⟩ := e5p
        have e5b : ∃ us, upd H4 a (.lst (va ++ [.non])) b = some (.lst us) ∧ us.length < sizeLine := ⟨vb, by
          have : b ≠ a := fun z => by rw [z, ha] at nb; cases nb
          rw [upd_ne this]
          exact hb4, lvb⟩
        obtain ⟨us, e5b, lus⟩ := e5b
        refine ⟨.ref pp, hσ, pp, .ref a :: .ref b :: zs, 1, .ref b, rfl, rfl, SqL.of e5p, ?_, .inl ⟨rfl, us, SqL.of e5b⟩, b, us, .non, rfl, rfl, e5b, lus, ?_⟩
        · unfold L2.atI L2.ixN
          rw [if_pos (by decide), if_pos (by simp only [List.length_cons]; omega)]
          rfl
        · refine p _ _ _ ((G.ext (s' := s2) (X05.mut hbH) (w.keep kq fun c mc => ?_)).setNone i (.ref pp))
          rw [upd_ne (fun z => nmb (by rw [← z]; exact mc)), upd_ne (fun z => nma (by rw [← z]; exact mc))]
      · cases e
    · cases e
  · cases e
end
/-! ### the least of three -/
def dMin3 : List D → Option D
  | [.int i, .int j, .int k] => some (.int (if k < (if j < i then j else i) then k else (if j < i then j else i)))
  | _ => none
section
variable {w : Wd}
theorem nuMin2_int (i j : Int) : nuMin2 (.int i) (.int j) = some (.int (if j < i then j else i)) := by
  have h : nuLt (.int j) (.int i) = some (decide (j < i)) := rfl
  unfold nuMin2
  rw [h]
  by_cases q : j < i <;> simp [q]
theorem min3_ok : CallD w (rNuC3 nuMin3) dMin3 := by
  intro H0 W o ρ s σ H G xs ds z Q h hg q
  unfold dMin3 at hg
  split at hg
  · rename_i i j k
    cases hg
    cases h with
    | cons a1 h =>
      cases h with
      | cons a2 h =>
        cases h with
        | cons a3 h =>
          cases h
          rw [a1.inv_int, a2.inv_int, a3.inv_int]
          refine ⟨_, _, _, .int _, rfl, ?_, fin_ext G q (.int _)⟩
          unfold nuMin3
          rw [nuMin2_int, Option.bind_some, nuMin2_int]
  · cases hg
end
end Rr

set_option Elab.async false
set_option linter.all false
set_option maxRecDepth 100000
set_option maxHeartbeats 2000000
/-! The layer of data: evaluation by simp, in one word. The word `ev [..]` of the texts is laid out by asm.py, inst.sh: simp only [EV, EV2, .., ..]. -/
namespace Rr
open PySem PySem.Spec L2 PyProof.Rows
section
variable {S : Type} {r : Rho} {x : Option Sl} {d : D} {ds : List D} {i : Nat}
theorem gv_z : gv 0 (some (.val d) :: r) = some d := Eq.trans rfl rfl
theorem gv_s : gv (i + 1) (x :: r) = gv i r := Eq.trans rfl rfl
theorem go_z : go 0 (some (.own ds) :: r) = some (.lst ds) := Eq.trans rfl rfl
theorem go_s : go (i + 1) (x :: r) = go i r := Eq.trans rfl rfl
theorem ow_z : owned 0 (some (.own ds) :: r) = some ds := Eq.trans rfl rfl
theorem ow_s : owned (i + 1) (x :: r) = owned i r := Eq.trans rfl rfl
theorem st_z {y : Option Sl} : (x :: r).set 0 y = y :: r := rfl
theorem st_s {y : Option Sl} : (x :: r).set (i + 1) y = x :: r.set i y := rfl
theorem ite_t {α : Type} {a b : α} : (if true = true then a else b) = a := rfl
theorem ite_f {α : Type} {a b : α} : (if false = true then a else b) = b := rfl
theorem sm_b {α β : Type} {a : α} {f : α → Option β} : (some a).bind f = f a := rfl
theorem sm_m {α β : Type} {a : α} {f : α → β} : (some a).map f = some (f a) := rfl
end
theorem EV : type_of% (And.intro @ap_rN <| And.intro @ap_rO <| And.intro @ap_rC <| And.intro @ap_rNil <| And.intro @ap_rCons <| And.intro @ap_rStar <| And.intro @ap_rTup <| And.intro @ap_rLst <| And.intro @ap_rLstB <| And.intro @ap_rNv <| And.intro @ap_rSeq <| And.intro @ap_rCut <| And.intro @ap_rNo <| And.intro @ap_rPt <| And.intro @ap_asI <| And.intro @ap_rNeg <| And.intro @ap_asB <| And.intro @ap_qB <| And.intro @ap_rNot <| And.intro @ap_rIsi <| And.intro @ap_qTru <| And.intro @ap_qNot <| And.intro @ap_qYes <| And.intro @ap_qAnd <| And.intro @ap_qOr <| And.intro @ap_vAnd <| And.intro @ap_vOr <| And.intro @ap_mIf <| And.intro @ap_b2 <| And.intro @ap_cb <| And.intro @ap_ofQ <| And.intro @ap_mCall <| And.intro @ap_one <| And.intro @ap_tst <| And.intro @ap_item1 <| And.intro @ap_sq <| And.intro @ap_mNx <| And.intro @ap_sIf <| And.intro @ap_mSet <| And.intro @ap_mOwn <| And.intro @ap_mAsg <| And.intro @ap_sEx <| And.intro @ap_sRt <| And.intro @ap_sRf <| And.intro @ap_sApp <| And.intro @ap_xv <| And.intro @ap_xo <| And.intro @ap_mPar <| And.intro @ap_endV @ap_endN) := And.intro @ap_rN <| And.intro @ap_rO <| And.intro @ap_rC <| And.intro @ap_rNil <| And.intro @ap_rCons <| And.intro @ap_rStar <| And.intro @ap_rTup <| And.intro @ap_rLst <| And.intro @ap_rLstB <| And.intro @ap_rNv <| And.intro @ap_rSeq <| And.intro @ap_rCut <| And.intro @ap_rNo <| And.intro @ap_rPt <| And.intro @ap_asI <| And.intro @ap_rNeg <| And.intro @ap_asB <| And.intro @ap_qB <| And.intro @ap_rNot <| And.intro @ap_rIsi <| And.intro @ap_qTru <| And.intro @ap_qNot <| And.intro @ap_qYes <| And.intro @ap_qAnd <| And.intro @ap_qOr <| And.intro @ap_vAnd <| And.intro @ap_vOr <| And.intro @ap_mIf <| And.intro @ap_b2 <| And.intro @ap_cb <| And.intro @ap_ofQ <| And.intro @ap_mCall <| And.intro @ap_one <| And.intro @ap_tst <| And.intro @ap_item1 <| And.intro @ap_sq <| And.intro @ap_mNx <| And.intro @ap_sIf <| And.intro @ap_mSet <| And.intro @ap_mOwn <| And.intro @ap_mAsg <| And.intro @ap_sEx <| And.intro @ap_sRt <| And.intro @ap_sRf <| And.intro @ap_sApp <| And.intro @ap_xv <| And.intro @ap_xo <| And.intro @ap_mPar <| And.intro @ap_endV @ap_endN
theorem EV2 : type_of% (And.intro @seqD_tup <| And.intro @seqD_lst <| And.intro @dAdd_int <| And.intro @dSub_int <| And.intro @dI_int <| And.intro @dIx_tup <| And.intro @dIx_lst <| And.intro @dNeg_int <| And.intro @dLen_tup <| And.intro @dLen_lst <| And.intro @enumA_tup <| And.intro @enumA_lst <| And.intro @bName_ap <| And.intro @bTup_ap <| And.intro @bCons_ap <| And.intro @bNil_ap <| And.intro @dEq_int <| And.intro @dNe_int <| And.intro @dEq_bl <| And.intro @dNe_bl <| And.intro @isIn_ints <| And.intro @isIn_intsL <| And.intro @sz_nil <| And.intro @sz_1 <| And.intro @sz_2 <| And.intro @sz_3 <| And.intro @sz_4 <| And.intro @atI_0 <| And.intro @gv_z <| And.intro @gv_s <| And.intro @go_z <| And.intro @go_s <| And.intro @ow_z <| And.intro @ow_s <| And.intro @st_z <| And.intro @st_s <| And.intro @sm_b @sm_m) := And.intro @seqD_tup <| And.intro @seqD_lst <| And.intro @dAdd_int <| And.intro @dSub_int <| And.intro @dI_int <| And.intro @dIx_tup <| And.intro @dIx_lst <| And.intro @dNeg_int <| And.intro @dLen_tup <| And.intro @dLen_lst <| And.intro @enumA_tup <| And.intro @enumA_lst <| And.intro @bName_ap <| And.intro @bTup_ap <| And.intro @bCons_ap <| And.intro @bNil_ap <| And.intro @dEq_int <| And.intro @dNe_int <| And.intro @dEq_bl <| And.intro @dNe_bl <| And.intro @isIn_ints <| And.intro @isIn_intsL <| And.intro @sz_nil <| And.intro @sz_1 <| And.intro @sz_2 <| And.intro @sz_3 <| And.intro @sz_4 <| And.intro @atI_0 <| And.intro @gv_z <| And.intro @gv_s <| And.intro @go_z <| And.intro @go_s <| And.intro @ow_z <| And.intro @ow_s <| And.intro @st_z <| And.intro @st_s <| And.intro @sm_b @sm_m
theorem EVB : type_of% (And.intro @ap_rN <| And.intro @ap_rO <| And.intro @ap_rC <| And.intro @ap_rNil <| And.intro @ap_rCons <| And.intro @ap_rStar <| And.intro @ap_rTup <| And.intro @ap_rLst <| And.intro @ap_rLstB <| And.intro @ap_rNv <| And.intro @ap_rSeq <| And.intro @ap_rCut <| And.intro @ap_rNo <| And.intro @ap_rPt <| And.intro @ap_asI <| And.intro @ap_rNeg <| And.intro @ap_asB <| And.intro @ap_qB <| And.intro @ap_rNot <| And.intro @ap_rIsi <| And.intro @ap_qTru <| And.intro @ap_qNot <| And.intro @ap_qYes <| And.intro @ap_b2 <| And.intro @ap_cb <| And.intro @ap_ofQ <| And.intro @ap_mCall <| And.intro @ap_one <| And.intro @ap_item1 <| And.intro @ap_sq <| And.intro @ap_mNx <| And.intro @ap_mSet <| And.intro @ap_mOwn <| And.intro @ap_mAsg <| And.intro @ap_sEx <| And.intro @ap_sRt <| And.intro @ap_sRf <| And.intro @ap_sApp <| And.intro @ap_xv <| And.intro @ap_xo <| And.intro @ap_mPar <| And.intro @ap_endV @ap_endN) := And.intro @ap_rN <| And.intro @ap_rO <| And.intro @ap_rC <| And.intro @ap_rNil <| And.intro @ap_rCons <| And.intro @ap_rStar <| And.intro @ap_rTup <| And.intro @ap_rLst <| And.intro @ap_rLstB <| And.intro @ap_rNv <| And.intro @ap_rSeq <| And.intro @ap_rCut <| And.intro @ap_rNo <| And.intro @ap_rPt <| And.intro @ap_asI <| And.intro @ap_rNeg <| And.intro @ap_asB <| And.intro @ap_qB <| And.intro @ap_rNot <| And.intro @ap_rIsi <| And.intro @ap_qTru <| And.intro @ap_qNot <| And.intro @ap_qYes <| And.intro @ap_b2 <| And.intro @ap_cb <| And.intro @ap_ofQ <| And.intro @ap_mCall <| And.intro @ap_one <| And.intro @ap_item1 <| And.intro @ap_sq <| And.intro @ap_mNx <| And.intro @ap_mSet <| And.intro @ap_mOwn <| And.intro @ap_mAsg <| And.intro @ap_sEx <| And.intro @ap_sRt <| And.intro @ap_sRf <| And.intro @ap_sApp <| And.intro @ap_xv <| And.intro @ap_xo <| And.intro @ap_mPar <| And.intro @ap_endV @ap_endN
section
variable {S α β : Type} {ρ : Rho} {s : S} {m ma mb : Rho → Mo S D} {mn : Rho → Mo S (List D)} {q qa qb : Rho → Mo S Bool} {s1 s2 : Ms S}
theorem cd_qAnd : qAnd qa qb ρ s = (qa ρ s).bind fun p => cond p.1 (qb ρ p.2) (some (false, p.2)) := by
  rw [ap_qAnd]; congr 1; funext p; cases p.1 <;> rfl
theorem cd_qOr : qOr qa qb ρ s = (qa ρ s).bind fun p => cond p.1 (some (true, p.2)) (qb ρ p.2) := by
  rw [ap_qOr]; congr 1; funext p; cases p.1 <;> rfl
theorem cd_vAnd : vAnd ma mb ρ s = (qB ma ρ s).bind fun p => cond p.1 (mb ρ p.2) (some (.bl false, p.2)) := by
  rw [ap_vAnd]; congr 1; funext p; cases p.1 <;> rfl
theorem cd_vOr : vOr ma mb ρ s = (qB ma ρ s).bind fun p => cond p.1 (some (.bl true, p.2)) (mb ρ p.2) := by
  rw [ap_vOr]; congr 1; funext p; cases p.1 <;> rfl
theorem cd_mIf : mIf q ma mb ρ s = (q ρ s).bind fun p => cond p.1 (ma ρ p.2) (mb ρ p.2) := by
  rw [ap_mIf]; congr 1; funext p; cases p.1 <;> rfl
theorem cd_tst : tst q mn ρ s = (q ρ s).bind fun p => cond p.1 (mn ρ p.2) (some ([], p.2)) := by
  rw [ap_tst]; congr 1; funext p; cases p.1 <;> rfl
theorem cd_sIf : sIf q s1 s2 ρ s = (q ρ s).bind fun p => cond p.1 (s1 ρ p.2) (s2 ρ p.2) := by
  rw [ap_sIf]; congr 1; funext p; cases p.1 <;> rfl
theorem cd_some {c : Bool} {a b : α} : (cond c (some a) (some b)) = some (cond c a b) := by cases c <;> rfl
theorem cd_prod {c : Bool} {a b : α} {s : S} : (cond c (a, s) (b, s)) = (cond c a b, s) := by cases c <;> rfl
theorem cd_int {c : Bool} {a b : Int} : (cond c (D.int a) (D.int b)) = D.int (cond c a b) := by cases c <;> rfl
theorem cd_bl {c : Bool} {a b : Bool} : (cond c (D.bl a) (D.bl b)) = D.bl (cond c a b) := by cases c <;> rfl
theorem cd_blt {c : Bool} {a : Bool} : cond c a false = (c && a) := by cases c <;> rfl
theorem cd_blo {c : Bool} {a : Bool} : cond c true a = (c || a) := by cases c <;> rfl
theorem cd_nx {c : Bool} {ρ1 ρ2 : Rho} {s : S} : (cond c (Out.nx ρ1 s) (Out.nx ρ2 s)) = Out.nx (cond c ρ1 ρ2) s := by cases c <;> rfl
theorem cd_t {a b : α} : cond true a b = a := Eq.trans rfl rfl
theorem cd_f {a b : α} : cond false a b = b := Eq.trans rfl rfl
end
theorem EVK : type_of% (And.intro @cd_qAnd <| And.intro @cd_qOr <| And.intro @cd_vAnd <| And.intro @cd_vOr <| And.intro @cd_mIf <| And.intro @cd_tst <| And.intro @cd_sIf <| And.intro @cd_some <| And.intro @cd_prod <| And.intro @cd_int <| And.intro @cd_bl <| And.intro @cd_blt <| And.intro @cd_blo <| And.intro @cd_t @cd_f) := And.intro @cd_qAnd <| And.intro @cd_qOr <| And.intro @cd_vAnd <| And.intro @cd_vOr <| And.intro @cd_mIf <| And.intro @cd_tst <| And.intro @cd_sIf <| And.intro @cd_some <| And.intro @cd_prod <| And.intro @cd_int <| And.intro @cd_bl <| And.intro @cd_blt <| And.intro @cd_blo <| And.intro @cd_t @cd_f
end Rr

set_option Elab.async false
set_option linter.all false
set_option maxRecDepth 100000
set_option maxHeartbeats 2000000
/-! The layer of data: comprehensions whose items leave the world alone, evaluated by simp. -/
namespace Rr
open PySem PySem.Spec L2 PyProof.Rows
section
variable {S α β : Type}
def isOwn (i : Nat) (ρ : Rho) : Bool := match ρ[i]? with | some (some (.own _)) => true | _ => false
theorem clean_nil {ρ : Rho} : clean [] ρ = true := Eq.trans rfl rfl
theorem clean_cons {i : Nat} {vs : List Nat} {ρ : Rho} : clean (i :: vs) ρ = (!isOwn i ρ && clean vs ρ) := by
  unfold clean isOwn
  rw [List.all_cons]
  congr 1
  cases ρ[i]? with
  | none => rfl
  | some o => cases o with
    | none => rfl
    | some l => cases l <;> rfl
theorem io_n {r : Rho} : isOwn 0 (none :: r) = false := Eq.trans rfl rfl
theorem io_v {r : Rho} {d : D} : isOwn 0 (some (.val d) :: r) = false := Eq.trans rfl rfl
theorem io_o {r : Rho} {d : List D} : isOwn 0 (some (.own d) :: r) = true := Eq.trans rfl rfl
theorem io_s {r : Rho} {x : Option Sl} {i : Nat} : isOwn (i + 1) (x :: r) = isOwn i r := Eq.trans rfl rfl
theorem wipe_nil {ρ : Rho} : wipeE ρ [] = ρ := Eq.trans rfl rfl
theorem wipe_cons {ρ : Rho} {v : Nat} {vs : List Nat} : wipeE ρ (v :: vs) = (wipeE ρ vs).set v none := Eq.trans rfl rfl
/-- a comprehension's items, one by one -/
def goO (f : α → S → Option (List D × S)) : List α → S → Option (List D × S)
  | [], s => some ([], s)
  | x :: xs, s => (f x s).bind fun p => (goO f xs p.2).bind fun r => some (p.1 ++ r.1, r.2)
theorem lcG_O0 {item : D → Rho → Mo S (List D)} {ρ : Rho} {g : α → D} : ∀ {xs : List α} {s : S}, lcG item (xs.map g) ρ s = goO (fun x s => item (g x) ρ s) xs s
  | [], _ => rfl
  | x :: xs, s => by
    rw [List.map_cons]
    unfold lcG goO
    simp only [ap_bd, ap_rt]
    cases item (g x) ρ s with
    | none => rfl
    | some p => simp only [Option.bind_some, lcG_O0]
theorem goO_ext {f f' : α → S → Option (List D × S)} {xs : List α} (h : ∀ x, x ∈ xs → ∀ s, f x s = f' x s) {s : S} : goO f xs s = goO f' xs s := by
  induction xs generalizing s with
  | nil => rfl
  | cons x xs ih =>
    unfold goO
    rw [h x List.mem_cons_self s]
    cases f' x s with
    | none => rfl
    | some p => simp only [Option.bind_some, ih fun y hy => h y (List.mem_cons_of_mem _ hy)]
/-- each item is among those that are walked -/
theorem lcG_O {item : D → Rho → Mo S (List D)} {ρ : Rho} {g : α → D} {xs : List α} {s : S} : lcG item (xs.map g) ρ s = goO (fun x s => @ite _ (x ∈ xs) (Classical.propDecidable _) (item (g x) ρ s) none) xs s := by
  rw [lcG_O0]
  exact goO_ext fun x hx s => (@if_pos _ (Classical.propDecidable _) hx _ _ _).symm
theorem goO_pure0 {f : α → List D} : ∀ {xs : List α} {s : S}, goO (fun x s => some (f x, s)) xs s = some (xs.flatMap f, s)
  | [], _ => rfl
  | x :: xs, s => by
    unfold goO
    simp only [Option.bind_some, goO_pure0, List.flatMap_cons]
theorem goO_pure {f : α → List D} {xs : List α} {dec : ∀ x, Decidable (x ∈ xs)} {s : S} : goO (fun x s => @ite _ (x ∈ xs) (dec x) (some (f x, s)) none) xs s = some (xs.flatMap f, s) := by
  rw [← goO_pure0]
  exact goO_ext fun x hx s => if_pos hx
theorem goO_one {f : α → D} : ∀ {xs : List α} {s : S}, goO (fun x s => some ([f x], s)) xs s = some (xs.map f, s)
  | [], _ => rfl
  | x :: xs, s => by
    unfold goO
    simp only [Option.bind_some, goO_one, List.map_cons, List.singleton_append]
theorem goO_fil {f : α → D} {c : α → Bool} : ∀ {xs : List α} {s : S}, goO (fun x s => if c x = true then some ([f x], s) else some ([], s)) xs s = some ((xs.filter c).map f, s)
  | [], _ => rfl
  | x :: xs, s => by
    unfold goO
    cases h : c x with
    | true => rw [if_pos rfl, List.filter_cons_of_pos h]; simp only [Option.bind_some, goO_fil, List.map_cons, List.singleton_append]
    | false => rw [if_neg (by decide), List.filter_cons_of_neg (by rw [h]; decide)]; simp only [Option.bind_some, goO_fil, List.nil_append]
theorem ite_pair {c : Prop} [Decidable c] {a b : α} {s : S} : (if c then some (a, s) else some (b, s)) = some (if c then a else b, s) := by split <;> rfl
theorem ite_prod {c : Prop} [Decidable c] {a b : α} {s : S} : (if c then (a, s) else (b, s)) = (if c then a else b, s) := by split <;> rfl
theorem ite_some {c : Prop} [Decidable c] {a b : α} : (if c then some a else some b) = some (if c then a else b) := by split <;> rfl
theorem ite_int {c : Prop} [Decidable c] {a b : Int} : (if c then D.int a else D.int b) = D.int (if c then a else b) := by split <;> rfl
theorem ite_bl {c : Prop} [Decidable c] {a b : Bool} : (if c then D.bl a else D.bl b) = D.bl (if c then a else b) := by split <;> rfl
theorem flat_sing {f : α → D} : ∀ {xs : List α}, (xs.flatMap fun x => [f x]) = xs.map f
  | [] => rfl
  | x :: xs => by rw [List.flatMap_cons, flat_sing, List.map_cons]; rfl
theorem flat_cd {f : α → D} {c : α → Bool} : ∀ {xs : List α}, (xs.flatMap fun x => cond (c x) [f x] []) = (xs.filter c).map f
  | [] => rfl
  | x :: xs => by
    rw [List.flatMap_cons, flat_cd]
    cases h : c x with
    | true => rw [List.filter_cons_of_pos h]; rfl
    | false => rw [List.filter_cons_of_neg (by rw [h]; decide)]; rfl
theorem flat_if {f : α → D} {c : α → Bool} : ∀ {xs : List α}, (xs.flatMap fun x => if c x = true then [f x] else []) = (xs.filter c).map f
  | [] => rfl
  | x :: xs => by
    rw [List.flatMap_cons, flat_if]
    cases h : c x with
    | true => rw [if_pos rfl, List.filter_cons_of_pos h]; rfl
    | false => rw [if_neg (by decide), List.filter_cons_of_neg (by rw [h]; decide)]; rfl
theorem sz_map {xs : List α} {f : α → D} (h : xs.length ≤ sizeLine) : sz (xs.map f) = some (xs.map f) := sz_eq (by rw [List.length_map]; exact h)
theorem sz_fil {xs : List α} {f : α → D} {c : α → Bool} (h : xs.length ≤ sizeLine) : sz ((xs.filter c).map f) = some ((xs.filter c).map f) := sz_eq (by rw [List.length_map]; exact Nat.le_trans (List.length_filter_le _ _) h)
theorem le_size {n : Nat} (h : n ≤ 1000000) : n ≤ sizeLine := Nat.le_trans h (by decide)
theorem lt_size {n : Nat} (h : n ≤ 1000000) : n < sizeLine := Nat.lt_of_le_of_lt h (by decide)
variable {a b c d : D} {k : Nat}
theorem bg_1 : begin_ (k + 1) [a] = some (.val a) :: List.replicate k none := by unfold begin_; simp
theorem bg_2 : begin_ (k + 2) [a, b] = some (.val a) :: some (.val b) :: List.replicate k none := by unfold begin_; simp
theorem bg_3 : begin_ (k + 3) [a, b, c] = some (.val a) :: some (.val b) :: some (.val c) :: List.replicate k none := by unfold begin_; simp
theorem bg_4 : begin_ (k + 4) [a, b, c, d] = some (.val a) :: some (.val b) :: some (.val c) :: some (.val d) :: List.replicate k none := by unfold begin_; simp
/-- a loop over data that stand for xs, whose turns are steps of b -/
theorem loop_map {bnd : D → Rho → Option Rho} {mm : Ms S} {g : α → D} {ρf : β → Rho} {step : β → α → β} {P : β → Prop} {s : S} : ∀ {xs : List α} {b : β}, P b → (∀ x ∈ xs, ∀ b, P b → ∃ ρ1, bnd (g x) (ρf b) = some ρ1 ∧ mm ρ1 s = some (.nx (ρf (step b x)) s) ∧ P (step b x)) →
    loopD bnd mm (xs.map g) (ρf b) s = some (.nx (ρf (xs.foldl step b)) s) ∧ P (xs.foldl step b)
  | [], b, p, _ => ⟨rfl, p⟩
  | x :: xs, b, p, h => by
    obtain ⟨ρ1, e1, e2, p2⟩ := h x List.mem_cons_self b p
    obtain ⟨q1, q2⟩ := loop_map (xs := xs) (b := step b x) p2 fun y hy => h y (List.mem_cons_of_mem _ hy)
    refine ⟨?_, q2⟩
    rw [List.map_cons, List.foldl_cons]
    unfold loopD
    rw [e1]
    simp only [e2]
    exact q1
end
theorem EV3 : type_of% (And.intro @ap_mLc <| And.intro @ap_mIn <| And.intro @ap_mFor <| And.intro @clean_nil <| And.intro @clean_cons <| And.intro @io_n <| And.intro @io_v <| And.intro @io_o <| And.intro @io_s <| And.intro @wipe_nil <| And.intro @wipe_cons <| And.intro @lcG_O <| And.intro @goO_pure <| And.intro @flat_sing <| And.intro @flat_cd <| And.intro @sz_map <| And.intro @sz_fil <| And.intro @bg_1 <| And.intro @bg_2 <| And.intro @bg_3 @bg_4) := And.intro @ap_mLc <| And.intro @ap_mIn <| And.intro @ap_mFor <| And.intro @clean_nil <| And.intro @clean_cons <| And.intro @io_n <| And.intro @io_v <| And.intro @io_o <| And.intro @io_s <| And.intro @wipe_nil <| And.intro @wipe_cons <| And.intro @lcG_O <| And.intro @goO_pure <| And.intro @flat_sing <| And.intro @flat_cd <| And.intro @sz_map <| And.intro @sz_fil <| And.intro @bg_1 <| And.intro @bg_2 <| And.intro @bg_3 @bg_4
end Rr

set_option Elab.async false
set_option linter.all false
set_option maxRecDepth 100000
set_option maxHeartbeats 2000000
/-! The layer of data: x, y = a, b with names that are cells. -/
namespace Rr
open PySem PySem.Spec L2 PyProof.Rows
section
variable {X : Cx} {w : Wd} {a b : Expr} {ma mb : Rho → Mo w.S Sl}
theorem vs_parC (i j : Nat) {x y : Str} {px py pt pos : Pos} {kt k2 pt2} (hc : X.calm = true) (hN : X.N.Nodup) (ha : VX X w a ma) (hb : VX X w b mb) (hi : X.N[i]? = some x := by rfl) (hj : X.N[j]? = some y := by rfl)
    (hx : Loc X.env.scope x := by first | exact Or.inl rfl | exact Or.inr rfl) (hy : Loc X.env.scope y := by first | exact Or.inl rfl | exact Or.inr rfl)
    (hfx : X.fn x = true ∨ X.env.scope.names.lookup x = some .local := by first | exact .inl rfl | exact .inr rfl | assumption) (hfy : X.fn y = true ∨ X.env.scope.names.lookup y = some .local := by first | exact .inl rfl | exact .inr rfl | assumption)
    (hw : swappedStores [.Tuple [.Name x px, .Name y py] kt pt] (.Tuple [a, b] k2 pt2) X.env = pure none := by rfl)
    (hs : swapsWithSole [.Tuple [.Name x px, .Name y py] kt pt] (.Tuple [a, b] k2 pt2) pos.line X.env = pure false := by rfl)
    (h1 : (assignEach [.Tuple [.Name x px, .Name y py] kt pt] X.env).map (·.2) = [assign (.Tuple [.Name x px, .Name y py] kt pt) X.env] := by rfl)
    (e1 : (assignEach [.Name x px, .Name y py] X.env).map (·.2) = assign (.Name x px) X.env :: (assignEach [.Name y py] X.env).map (·.2) := by rfl) (e2 : (assignEach [.Name y py] X.env).map (·.2) = assign (.Name y py) X.env :: (assignEach [] X.env).map (·.2) := by rfl)
    (hn : (assignEach [.Name x px, .Name y py] X.env).length = 2 := by rfl) (hst : (assignEach [.Name x px, .Name y py] X.env).findIdx? (·.1) = none := by rfl)
    (hs1 : starEach [a, b] X.env = (false, eval a X.env) :: starEach [b] X.env := by rfl) (hs2 : starEach [b] X.env = (false, eval b X.env) :: starEach [] X.env := by rfl) :
    VS X w (.Assign [.Tuple [.Name x px, .Name y py] kt pt] (.Tuple [a, b] k2 pt2) pos) (mPar i j ma mb) :=
  (ps_asg (pe_tup (pa_cons ha (pa_cons hb pa_nil hs2) hs1)) (pg_tup hc (pgs_cons (pg_name hN hi hx hfx) (pgs_cons (pg_name hN hj hy hfy) pgs_nil e2) e1) hn hst) hs hw h1).imp fun E σ H ⟨H0, W, o, ρ, s, out, G, e, p⟩ => by
    unfold mPar at e
    split at e
    · rename_i hl
      simp only [Bool.and_eq_true, decide_eq_true_eq] at hl
      split at e
      · rename_i x1 y1 s2 e1
        cases e
        obtain ⟨x2, sa, ea, e2⟩ := bd_some e1
        obtain ⟨y2, sb, eb, e3⟩ := bd_some e2
        cases e3
        refine ⟨H0, W, o, ρ, s, x1, sa, G, ea, fun v H1 g1 k1 r1 => ?_⟩
        obtain ⟨Hb, G1⟩ := G.afterX g1 k1 r1
        refine ⟨Hb, _, o, ρ, sa, y1, _, G1, eb, fun u H2 g2 k2 r2 => ?_⟩
        obtain ⟨o1, F1, h1⟩ := G.setX g1 k1 r1 i hl.1
        obtain ⟨o2, F2, _⟩ := F1.setX g2 k2 (r2.mono h1) j (by rw [List.length_set]; exact hl.2)
        refine ⟨by show 2 ≤ sizeLine; decide, fun q hq => ?_⟩
        obtain ⟨x3, k3, np⟩ := fin_new F2 hq (.tup [v, u])
        refine ⟨q, [v, u], rfl, SqT.of upd_same, rfl, v, [u], rfl, u, [], rfl, rfl, ?_⟩
        exact p _ _ _ (F2.ext x3 k3)
      · cases e
    · cases e
end
end Rr

set_option Elab.async false
set_option linter.all false
set_option maxRecDepth 100000
set_option maxHeartbeats 2000000
/-! The layer of data: min() of a list of data that are alike. -/
namespace Rr
open PySem PySem.Spec L2 PyProof.Rows
def btD (ps : List PyData) : Nat → Nat → Bool := fun i j => PySem.W.dataLt (ps.getD i .none) (ps.getD j .none)
def isTupD : D → Bool
  | .tup _ => true
  | _ => false
def dMinG : List D → Option D
  | [.lst ds] => if plainL ds && alikeD ds && ds.all isTupD && decide (PyData.depthAll (pyL ds) ≤ 60) && decide (0 < ds.length) then ds[argBest (btD (pyL ds)) (ds.length - 1)]? else none
  | _ => none
def rMinG (K : PySem.W.Frag) : List V → Hp → VK → Prop := fun vs H Q => ∃ (a : Addr) (bs : List (V × PyData)), vs = [V.ref a] ∧ SqL K H a (bs.map (·.1)) ∧ DpAll K H (bs.map (·.1)) (bs.map (·.2)) ∧ PySem.W.AlikeAll (bs.map (·.2)) ∧ PyData.depthAll (bs.map (·.2)) ≤ 60 ∧ 0 < bs.length ∧
  ∀ v, (bs.map (·.1))[argBest (btD (bs.map (·.2))) (bs.length - 1)]? = some v → Q v H
theorem vals_get : ∀ {xs : List V} {us : List Value} {i : Nat} {u : Value}, Vals xs us → us[i]? = some u → ∃ x, xs[i]? = some x ∧ RelV x u
  | _, _, _, _, .nil, h => by simp at h
  | _, _, 0, _, .cons r rs, h => ⟨_, rfl, by have e := Option.some.inj (show some _ = some _ from h); rw [← e]; exact r⟩
  | _, _, i + 1, _, .cons r rs, h => vals_get (i := i) rs (by simpa using h)
theorem reads_all {X : Cx} {pins : List (Addr × Obj)} {σ : L2.St} {H : Hp} {s : Shared} (I : L2.Inv X pins σ H s) {bs : List (V × PyData)} : ∀ {us : List Value}, Vals (bs.map (·.1)) us → DpAll X.K H (bs.map (·.1)) (bs.map (·.2)) → ∃ as, ReadsAll s.heap us (bs.map (·.2)) as := by
  induction bs with
  | nil => intro us r _; cases r; exact ⟨_, .nil⟩
  | cons b bs ih =>
    intro us r q
    rw [List.map_cons] at r
    rw [List.map_cons, List.map_cons] at q
    cases r with
    | cons r1 r2 =>
      cases q with
      | cons q1 q2 =>
        obtain ⟨as, h1⟩ := Dp.reads I _ _ _ q1 r1
        obtain ⟨as2, h2⟩ := ih r2 q2
        exact ⟨_, .cons h1 h2⟩
theorem cr_minG {X : Cx} {k : Nat} (hr : Room k X.A) (hc : X.calm = true) : CallR X (.builtin "min") (rMinG X.K) := by
  intro pins s σ H vs us Q I r h
  obtain ⟨a, bs, rfl, hs, hd, ha, hdp, hne, q⟩ := h
  obtain ⟨its, rv, hl, hz⟩ := I.list hs
  rw [Vals.ref1 r]
  obtain ⟨as, hra⟩ := reads_all I rv hd
  have hn : its.length = bs.length := by
    have := rv.length
    rw [List.length_map] at this
    exact this.symm
  have hla := hl.isList
  refine PySem.call_min_walkH (PySem.W.iter_listW (A := X.A.in1) (I.ok.hd hc) hla fun s₂ e W st hfp hw hk => ?_)
  refine ⟨_, _, _, _, _, _, _, s.heap, _, rfl, W, st, hfp, by simp [hn, hne], hw, hk, PySem.W.cmpIn_lt (A := X.A.in1) (xs := bs.map (·.2)) (as := as) (by simpa using hra) ha (by have := hr.un; show X.A.units + 1 + _ < _; omega), fun v s' hP m => ?_⟩
  obtain ⟨h', tk, rfl, hk'⟩ := PySem.W.moved_old e rfl m
  have hP : its[argBest (btD (bs.map (·.2))) (bs.length - 1)]? = some v := by
    have : its.toArray[argBest (btD (bs.map (·.2))) (its.toArray.size - 1)]? = some v := hP
    simpa [hn] using this
  obtain ⟨x, hx, rx⟩ := vals_get rv hP
  exact ⟨x, H, I.kept (t' := tk) hk', rx, q x hx⟩
theorem minG_ok {w : Wd} {K : PySem.W.Frag} : CallD w (rMinG K) dMinG := by
  intro H0 W o ρ s σ H G xs ds z Q h hg q
  unfold dMinG at hg
  split at hg
  · rename_i es
    split at hg
    · rename_i hc
      simp only [Bool.and_eq_true, decide_eq_true_eq, List.all_eq_true] at hc
      obtain ⟨⟨⟨⟨h1, h2⟩, h3⟩, h4⟩, h5⟩ := hc
      obtain ⟨v, rfl, hb⟩ := borL1 h
      obtain ⟨a, ys, rfl, e1, n1, r1⟩ := hb.lst (fun _ z => .inl z)
      have hl := r1.length
      obtain ⟨z1, z2⟩ := zip_l hl
      have m1 : ((ys.zip es).map fun t : V × D => (t.1, py t.2)).map (·.1) = ys := by rw [List.map_map]; exact z1
      have m2 : ((ys.zip es).map fun t : V × D => (t.1, py t.2)).map (·.2) = pyL es := by
        rw [List.map_map, pyL_eq]
        conv => rhs; rw [← z2]
        rw [List.map_map]
        rfl
      have m3 : ((ys.zip es).map fun t : V × D => (t.1, py t.2)).length = es.length := by rw [List.length_map, List.length_zip, hl, Nat.min_self]
      refine ⟨a, (ys.zip es).map fun t => (t.1, py t.2), rfl, by rw [m1]; exact SqL.of e1, by rw [m1, m2]; exact r1.dp h1, ?_, by rw [m2]; exact h4, by rw [m3]; exact h5, fun v hv => ?_⟩
      · rw [m2, pyL_eq]
        refine ⟨fun x hx y hy => ?_, fun x hx => ?_⟩
        · obtain ⟨x', hx', rfl⟩ := List.mem_map.mp hx
          obtain ⟨y', hy', rfl⟩ := List.mem_map.mp hy
          unfold alikeD at h2
          simp only [List.all_eq_true] at h2
          exact h2 x' hx' y' hy'
        · obtain ⟨x', hx', rfl⟩ := List.mem_map.mp hx
          have := h3 x' hx'
          unfold isTupD at this
          split at this
          · rw [py_tup]; intro h; cases h
          · cases this
      · rw [m1, m2, m3] at hv
        have hlt : argBest (btD (pyL es)) (es.length - 1) < (ys.zip es).length := by
          have hy := (List.getElem?_eq_some_iff.mp hv).1
          rw [List.length_zip]
          omega
        have hmem := List.getElem_mem hlt
        have r := repL_zip r1 _ hmem
        have e2 : ((ys.zip es)[argBest (btD (pyL es)) (es.length - 1)]).1 = v := by
          have : ((ys.zip es).map (·.1))[argBest (btD (pyL es)) (es.length - 1)]? = some v := by rw [z1]; exact hv
          rw [List.getElem?_map, List.getElem?_eq_getElem hlt] at this
          exact Option.some.inj this
        have e3 : ((ys.zip es)[argBest (btD (pyL es)) (es.length - 1)]).2 = z := by
          have : ((ys.zip es).map (·.2))[argBest (btD (pyL es)) (es.length - 1)]? = some z := by rw [z2]; exact hg
          rw [List.getElem?_map, List.getElem?_eq_getElem hlt] at this
          exact Option.some.inj this
        rw [e2, e3] at r
        exact fin_ext G q r
    · cases hg
  · cases hg
def dMinB (ds : List D) : Option D := match dMin ds with
  | some d => some d
  | none => dMinG ds
theorem minB_ok {w : Wd} {K : PySem.W.Frag} : CallD w (fun xs H Q => (rMin K xs H Q ∨ ∃ i j, xs = [.int i, .int j] ∧ Q (.int (if j < i then j else i)) H) ∨ rMinG K xs H Q) dMinB := by
  intro H0 W o ρ s σ H G xs ds z Q h hg q
  unfold dMinB at hg
  split at hg
  · rename_i zs e
    cases hg
    exact .inl (min_ok G h e q)
  · exact .inr (minG_ok G h hg q)
theorem dMinB_of {ds : List D} {d : D} (h : dMin ds = some d) : dMinB ds = some d := by unfold dMinB; rw [h]
end Rr

set_option Elab.async false
set_option linter.all false
namespace Gr
/-! ### houses that are joined by edges -/
abbrev Ed := Int × Int
def Adj (E : List Ed) (x y : Int) : Prop := (x, y) ∈ E ∨ (y, x) ∈ E
inductive Conn (E : List Ed) : Int → Int → Prop
  | refl (x : Int) : Conn E x x
  | step {x y z : Int} : Conn E x y → Adj E y z → Conn E x z
theorem Adj.symm {E : List Ed} {x y : Int} (h : Adj E x y) : Adj E y x := h.elim .inr .inl
theorem Adj.mono {E E' : List Ed} (s : ∀ e ∈ E, e ∈ E') {x y : Int} (h : Adj E x y) : Adj E' x y := h.elim (fun q => .inl (s _ q)) (fun q => .inr (s _ q))
theorem Conn.trans {E : List Ed} {x y z : Int} (h : Conn E x y) (g : Conn E y z) : Conn E x z := by
  induction g with
  | refl => exact h
  | step _ a ih => exact .step ih a
theorem Conn.one {E : List Ed} {x y : Int} (a : Adj E x y) : Conn E x y := .step (.refl x) a
theorem Conn.symm {E : List Ed} {x y : Int} (h : Conn E x y) : Conn E y x := by
  induction h with
  | refl => exact .refl _
  | step _ a ih => exact (Conn.one a.symm).trans ih
theorem Conn.of_edge {E : List Ed} {e : Ed} (h : e ∈ E) : Conn E e.1 e.2 := .one (.inl h)
theorem Conn.map {E E' : List Ed} (s : ∀ e ∈ E, Conn E' e.1 e.2) {x y : Int} (h : Conn E x y) : Conn E' x y := by
  induction h with
  | refl => exact .refl _
  | step _ a ih => exact ih.trans (a.elim (fun q => s _ q) (fun q => (s _ q).symm))
theorem Conn.mono {E E' : List Ed} (s : ∀ e ∈ E, e ∈ E') {x y : Int} (h : Conn E x y) : Conn E' x y := h.map fun e he => .of_edge (s e he)
theorem conn_iff {E E' : List Ed} (s : ∀ e, e ∈ E ↔ e ∈ E') {x y : Int} : Conn E x y ↔ Conn E' x y := ⟨.mono fun e => (s e).mp, .mono fun e => (s e).mpr⟩
theorem conn_cons {E : List Ed} {a b x y : Int} : Conn ((a, b) :: E) x y ↔ Conn E x y ∨ (Conn E x a ∧ Conn E b y) ∨ (Conn E x b ∧ Conn E a y) := by
  constructor
  · intro h
    induction h with
    | refl => exact .inl (.refl _)
    | @step y z _ q ih =>
      have q' : Adj E y z ∨ (y = a ∧ z = b) ∨ (y = b ∧ z = a) := by
        rcases q with q | q
        · rcases List.mem_cons.mp q with e | q
          · simp only [Prod.mk.injEq] at e; exact .inr (.inl e)
          · exact .inl (.inl q)
        · rcases List.mem_cons.mp q with e | q
          · simp only [Prod.mk.injEq] at e; exact .inr (.inr ⟨e.2, e.1⟩)
          · exact .inl (.inr q)
      rcases q' with q | ⟨rfl, rfl⟩ | ⟨rfl, rfl⟩
      · rcases ih with h | ⟨h, g⟩ | ⟨h, g⟩
        · exact .inl (h.step q)
        · exact .inr (.inl ⟨h, g.step q⟩)
        · exact .inr (.inr ⟨h, g.step q⟩)
      · rcases ih with h | ⟨h, g⟩ | ⟨h, g⟩
        · exact .inr (.inl ⟨h, .refl _⟩)
        · exact .inr (.inl ⟨h, .refl _⟩)
        · exact .inl h
      · rcases ih with h | ⟨h, g⟩ | ⟨h, g⟩
        · exact .inr (.inr ⟨h, .refl _⟩)
        · exact .inl h
        · exact .inr (.inr ⟨h, .refl _⟩)
  · have m : ∀ {x y}, Conn E x y → Conn ((a, b) :: E) x y := fun h => h.mono fun _ => List.mem_cons_of_mem _
    have ab : Conn ((a, b) :: E) a b := .of_edge (e := (a, b)) List.mem_cons_self
    rintro (h | ⟨h, g⟩ | ⟨h, g⟩)
    · exact m h
    · exact (m h).trans (ab.trans (m g))
    · exact (m h).trans (ab.symm.trans (m g))
theorem conn_cons_in {E : List Ed} {a b x y : Int} (h : Conn E a b) : Conn ((a, b) :: E) x y ↔ Conn E x y := by
  rw [conn_cons]
  constructor
  · rintro (g | ⟨p, q⟩ | ⟨p, q⟩)
    · exact g
    · exact (p.trans h).trans q
    · exact (p.trans h.symm).trans q
  · exact .inl
/-- a way out of a set of houses has an edge that leaves it -/
theorem conn_leaves {E : List Ed} {P : Int → Prop} {x y : Int} (h : Conn E x y) (hx : P x) (hy : ¬ P y) : ∃ u v, P u ∧ ¬ P v ∧ Adj E u v := by
  induction h with
  | refl => exact absurd hx hy
  | @step u v _ a ih =>
    by_cases hu : P u
    · exact ⟨u, v, hu, hy, a⟩
    · exact ih hu
theorem conn_in {E : List Ed} {P : Int → Prop} (cl : ∀ u v, P u → Adj E u v → P v) {x y : Int} (h : Conn E x y) (hx : P x) : P y := by
  induction h with
  | refl => exact hx
  | step _ a ih => exact cl _ _ ih a
/-! ### how many parts there are -/
open Classical in
noncomputable def isRep (E : List Ed) (x : Nat) : Bool := decide (∀ y : Nat, y < x → ¬ Conn E (y : Int) (x : Int))
open Classical in
theorem isRep_t {E : List Ed} {x : Nat} : isRep E x = true ↔ ∀ y : Nat, y < x → ¬ Conn E (y : Int) (x : Int) := by
  unfold isRep; exact decide_eq_true_iff
noncomputable def comps (n : Nat) (E : List Ed) : Nat := ((List.range n).filter (isRep E)).length
theorem isRep_congr {E E' : List Ed} (h : ∀ x y, Conn E x y ↔ Conn E' x y) (x : Nat) : isRep E x = isRep E' x := by
  rw [Bool.eq_iff_iff, isRep_t, isRep_t]
  constructor
  · exact fun q y hy c => q y hy ((h _ _).mpr c)
  · exact fun q y hy c => q y hy ((h _ _).mp c)
theorem comps_congr {n : Nat} {E E' : List Ed} (h : ∀ x y, Conn E x y ↔ Conn E' x y) : comps n E = comps n E' := by
  unfold comps
  rw [show isRep E = isRep E' from funext (isRep_congr h)]
theorem comps_mem {n : Nat} {E E' : List Ed} (s : ∀ e, e ∈ E ↔ e ∈ E') : comps n E = comps n E' := comps_congr fun _ _ => conn_iff s
theorem filter_len_le {α : Type} {p q : α → Bool} (h : ∀ x, p x = true → q x = true) : ∀ l : List α, (l.filter p).length ≤ (l.filter q).length
  | [] => Nat.le_refl _
  | x :: l => by
    have ih := filter_len_le h l
    by_cases hp : p x = true
    · rw [List.filter_cons_of_pos hp, List.filter_cons_of_pos (h x hp)]; simpa using ih
    · rw [List.filter_cons_of_neg hp]
      by_cases hq : q x = true
      · rw [List.filter_cons_of_pos hq]; simp only [List.length_cons]; omega
      · rw [List.filter_cons_of_neg hq]; exact ih
theorem comps_mono {n : Nat} {E E' : List Ed} (h : ∀ x y, Conn E x y → Conn E' x y) : comps n E' ≤ comps n E :=
  filter_len_le (fun _ q => isRep_t.mpr fun y hy c => isRep_t.mp q y hy (h _ _ c)) _
theorem comps_le {n : Nat} {E : List Ed} : comps n E ≤ n := by
  have := List.length_filter_le (isRep E) (List.range n)
  rw [List.length_range] at this
  exact this
theorem conn_nil {x y : Int} (h : Conn [] x y) : x = y := by
  cases h with
  | refl => rfl
  | step _ a => exact a.elim (fun q => nomatch q) (fun q => nomatch q)
theorem comps_nil {n : Nat} : comps n [] = n := by
  unfold comps
  rw [List.filter_eq_self.mpr (fun x _ => isRep_t.mpr fun y hy c => by have := conn_nil c; omega), List.length_range]
theorem filter_minus {α : Type} [DecidableEq α] {p q : α → Bool} {m : α} (h : ∀ x, q x = (p x && !decide (x = m))) : ∀ l : List α, l.Nodup → m ∈ l → p m = true → (l.filter q).length + 1 = (l.filter p).length
  | [], _, hm, _ => nomatch hm
  | x :: l, nd, hm, hp => by
    obtain ⟨n1, n2⟩ := List.nodup_cons.mp nd
    by_cases e : x = m
    · subst e
      rw [List.filter_cons_of_neg (by rw [h]; simp), List.filter_cons_of_pos hp]
      have : l.filter q = l.filter p := List.filter_congr fun y hy => by
        rw [h]
        have : y ≠ x := fun q => n1 (q ▸ hy)
        simp [this]
      rw [this]; rfl
    · have ih := filter_minus h l n2 ((List.mem_cons.mp hm).resolve_left fun q => e q.symm) hp
      by_cases hx : p x = true
      · rw [List.filter_cons_of_pos (by rw [h, hx]; simp [e]), List.filter_cons_of_pos hx]; simp only [List.length_cons]; omega
      · rw [List.filter_cons_of_neg (by rw [h]; simp [hx]), List.filter_cons_of_neg hx]; exact ih
/-- the least house of a part -/
theorem least_rep {E : List Ed} (x : Nat) : ∃ r : Nat, r ≤ x ∧ Conn E (r : Int) (x : Int) ∧ isRep E r = true := by
  induction x using Nat.strongRecOn with
  | _ x ih =>
    by_cases h : isRep E x = true
    · exact ⟨x, Nat.le_refl _, .refl _, h⟩
    · have : ∃ y : Nat, y < x ∧ Conn E (y : Int) (x : Int) := by
        refine Classical.byContradiction fun q => h (isRep_t.mpr fun y hy c => q ⟨y, hy, c⟩)
      obtain ⟨y, hy, c⟩ := this
      obtain ⟨r, h1, h2, h3⟩ := ih y hy
      exact ⟨r, by omega, h2.trans c, h3⟩
theorem rep_uniq {E : List Ed} {r q : Nat} (hr : isRep E r = true) (hq : isRep E q = true) (c : Conn E (r : Int) (q : Int)) : r = q := by
  rcases Nat.lt_trichotomy r q with h | h | h
  · exact absurd c (isRep_t.mp hq r h)
  · exact h
  · exact absurd c.symm (isRep_t.mp hr q h)
theorem comps_in {n : Nat} {E : List Ed} {e : Ed} (h : Conn E e.1 e.2) : comps n (e :: E) = comps n E := comps_congr fun _ _ => conn_cons_in h
theorem comps_out {n a b : Nat} {E : List Ed} (ha : a < n) (hb : b < n) (h : ¬ Conn E (a : Int) (b : Int)) : comps n (((a : Int), (b : Int)) :: E) + 1 = comps n E := by
  obtain ⟨ra, a1, a2, a3⟩ := least_rep (E := E) a
  obtain ⟨rb, b1, b2, b3⟩ := least_rep (E := E) b
  have key : ∀ (ra rb : Nat), (∀ x y, Conn (((a : Int), (b : Int)) :: E) x y ↔ Conn E x y ∨ (Conn E x (ra : Int) ∧ Conn E (rb : Int) y) ∨ (Conn E x (rb : Int) ∧ Conn E (ra : Int) y)) → ra < rb → rb < n → isRep E ra = true → isRep E rb = true → comps n (((a : Int), (b : Int)) :: E) + 1 = comps n E := by
    intro ra rb hc lt hn h3 h4
    refine filter_minus (m := rb) (fun x => ?_) _ List.nodup_range (List.mem_range.mpr hn) h4
    rw [Bool.eq_iff_iff, Bool.and_eq_true, isRep_t]
    simp only [Bool.not_eq_true', decide_eq_false_iff_not]
    constructor
    · intro q
      refine ⟨isRep_t.mpr fun y hy c => q y hy ((hc _ _).mpr (.inl c)), fun e => ?_⟩
      subst e
      exact q ra lt ((hc _ _).mpr (.inr (.inl ⟨.refl _, .refl _⟩)))
    · rintro ⟨q, ne⟩ y hy c
      rcases (hc _ _).mp c with c | ⟨_, c⟩ | ⟨c1, c⟩
      · exact isRep_t.mp q y hy c
      · exact ne (rep_uniq h4 q c).symm
      · have e := rep_uniq h3 q c
        subst e
        exact isRep_t.mp h4 y (by omega) c1
  have ne : ra ≠ rb := fun e => h (a2.symm.trans (e ▸ b2))
  have conv : ∀ x y, Conn (((a : Int), (b : Int)) :: E) x y ↔ Conn E x y ∨ (Conn E x (ra : Int) ∧ Conn E (rb : Int) y) ∨ (Conn E x (rb : Int) ∧ Conn E (ra : Int) y) := fun x y => by
    rw [conn_cons]
    constructor
    · rintro (c | ⟨c, d⟩ | ⟨c, d⟩)
      · exact .inl c
      · exact .inr (.inl ⟨c.trans a2.symm, b2.trans d⟩)
      · exact .inr (.inr ⟨c.trans b2.symm, a2.trans d⟩)
    · rintro (c | ⟨c, d⟩ | ⟨c, d⟩)
      · exact .inl c
      · exact .inr (.inl ⟨c.trans a2, b2.symm.trans d⟩)
      · exact .inr (.inr ⟨c.trans b2, a2.symm.trans d⟩)
  rcases Nat.lt_or_ge ra rb with lt | ge
  · exact key ra rb conv lt (by omega) a3 b3
  · refine key rb ra (fun x y => ?_) (by omega) (by omega) b3 a3
    rw [conv]
    constructor
    · rintro (c | c | c)
      · exact .inl c
      · exact .inr (.inr c)
      · exact .inr (.inl c)
    · rintro (c | c | c)
      · exact .inl c
      · exact .inr (.inr c)
      · exact .inr (.inl c)
def In (n : Nat) (e : Ed) : Prop := 0 ≤ e.1 ∧ e.1 < n ∧ 0 ≤ e.2 ∧ e.2 < n
theorem comps_out' {n : Nat} {E : List Ed} {e : Ed} (hi : In n e) (h : ¬ Conn E e.1 e.2) : comps n (e :: E) + 1 = comps n E := by
  obtain ⟨h1, h2, h3, h4⟩ := hi
  obtain ⟨a, b⟩ := e
  simp only at h1 h2 h3 h4 h
  have ea : ((a.toNat : Nat) : Int) = a := by omega
  have eb : ((b.toNat : Nat) : Int) = b := by omega
  have := comps_out (n := n) (a := a.toNat) (b := b.toNat) (E := E) (by omega) (by omega) (by rw [ea, eb]; exact h)
  rw [ea, eb] at this
  exact this
/-! ### rank -/
noncomputable def rk (n : Nat) (E : List Ed) : Nat := n - comps n E
theorem rk_in {n : Nat} {E : List Ed} {e : Ed} (h : Conn E e.1 e.2) : rk n (e :: E) = rk n E := by unfold rk; rw [comps_in h]
theorem rk_out {n : Nat} {E : List Ed} {e : Ed} (hi : In n e) (h : ¬ Conn E e.1 e.2) : rk n (e :: E) = rk n E + 1 := by
  unfold rk
  have h1 := comps_out' hi h
  have h2 := comps_le (n := n) (E := E)
  omega
theorem rk_nil {n : Nat} : rk n [] = 0 := by unfold rk; rw [comps_nil]; omega
theorem rk_mem {n : Nat} {E E' : List Ed} (s : ∀ e, e ∈ E ↔ e ∈ E') : rk n E = rk n E' := by unfold rk; rw [comps_mem s]
theorem rk_congr {n : Nat} {E E' : List Ed} (h : ∀ x y, Conn E x y ↔ Conn E' x y) : rk n E = rk n E' := by unfold rk; rw [comps_congr h]
theorem rk_mono {n : Nat} {E E' : List Ed} (h : ∀ x y, Conn E x y → Conn E' x y) : rk n E ≤ rk n E' := by unfold rk; have := comps_mono (n := n) h; omega
theorem rk_cons_le {n : Nat} {E : List Ed} {e : Ed} (hi : In n e) : rk n (e :: E) ≤ rk n E + 1 := by
  by_cases h : Conn E e.1 e.2
  · rw [rk_in h]; omega
  · rw [rk_out hi h]; omega
theorem rk_append_le {n : Nat} {A : List Ed} : ∀ {B : List Ed}, (∀ e ∈ B, In n e) → rk n (B ++ A) ≤ rk n A + B.length
  | [], _ => Nat.le_refl _
  | e :: B, h => by
    have ih := rk_append_le (A := A) (B := B) fun x hx => h x (List.mem_cons_of_mem _ hx)
    have := rk_cons_le (E := B ++ A) (h e List.mem_cons_self)
    simp only [List.cons_append, List.length_cons]
    omega
theorem rk_le_length {n : Nat} {B : List Ed} (h : ∀ e ∈ B, In n e) : rk n B ≤ B.length := by
  have := rk_append_le (A := []) h
  rw [List.append_nil, rk_nil] at this
  omega
theorem comps_pos {n : Nat} {E : List Ed} (h : 1 ≤ n) : 1 ≤ comps n E := by
  unfold comps
  refine List.length_pos_iff.mpr fun q => ?_
  have : (0 : Nat) ∈ (List.range n).filter (isRep E) := List.mem_filter.mpr ⟨List.mem_range.mpr (by omega), isRep_t.mpr fun y hy => by omega⟩
  rw [q] at this
  exact nomatch this
/-- all houses are joined -/
def Joined (n : Nat) (E : List Ed) : Prop := ∀ x : Nat, x < n → Conn E 0 (x : Int)
theorem joined_conn {n : Nat} {E : List Ed} (h : Joined n E) {x y : Int} (hx : 0 ≤ x ∧ x < n) (hy : 0 ≤ y ∧ y < n) : Conn E x y := by
  have h1 := h x.toNat (by omega)
  have h2 := h y.toNat (by omega)
  rw [Int.toNat_of_nonneg hx.1] at h1
  rw [Int.toNat_of_nonneg hy.1] at h2
  exact h1.symm.trans h2
theorem joined_comps {n : Nat} {E : List Ed} (hn : 1 ≤ n) : Joined n E ↔ comps n E = 1 := by
  constructor
  · intro h
    have : (List.range n).filter (isRep E) = [0] := by
      have e : ∀ x ∈ List.range n, isRep E x = decide (x = 0) := fun x hx => by
        rw [Bool.eq_iff_iff, isRep_t, decide_eq_true_iff]
        constructor
        · intro q
          refine Classical.byContradiction fun ne => q 0 (by omega) (h x (List.mem_range.mp hx))
        · intro e y hy
          omega
      rw [List.filter_congr e]
      obtain ⟨k, rfl⟩ : ∃ k, n = k + 1 := ⟨n - 1, by omega⟩
      rw [List.range_succ_eq_map, List.filter_cons_of_pos (by decide), List.filter_eq_nil_iff.mpr]
      intro x hx
      obtain ⟨y, _, rfl⟩ := List.mem_map.mp hx
      simp
    unfold comps
    rw [this]; rfl
  · intro h x hx
    obtain ⟨r, h1, h2, h3⟩ := least_rep (E := E) x
    have hr : r ∈ (List.range n).filter (isRep E) := List.mem_filter.mpr ⟨List.mem_range.mpr (by omega), h3⟩
    have h0 : 0 ∈ (List.range n).filter (isRep E) := List.mem_filter.mpr ⟨List.mem_range.mpr (by omega), isRep_t.mpr fun y hy => by omega⟩
    unfold comps at h
    match hl : (List.range n).filter (isRep E), h, hr, h0 with
    | [z], _, hr, h0 =>
      rw [List.mem_singleton] at hr h0
      have : r = 0 := hr.trans h0.symm
      rw [this] at h2
      exact h2
theorem joined_rk {n : Nat} {E : List Ed} (hn : 1 ≤ n) : Joined n E ↔ rk n E + 1 = n := by
  rw [joined_comps hn]
  unfold rk
  have h1 := comps_le (n := n) (E := E)
  have h2 := comps_pos (n := n) (E := E) hn
  omega
theorem rk_lt {n : Nat} {E : List Ed} (hn : 1 ≤ n) : rk n E + 1 ≤ n := by
  unfold rk
  have h2 := comps_pos (n := n) (E := E) hn
  omega
/-! ### forests: no edge is joined by those before -/
def Free (n : Nat) (E : List Ed) : Prop := rk n E = E.length
theorem free_part {n : Nat} {A B E : List Ed} (hi : ∀ e ∈ B, In n e) (s : ∀ e, e ∈ E ↔ e ∈ B ++ A) (hl : E.length = B.length + A.length) (h : Free n E) (hA : ∀ e ∈ A, In n e) : Free n A := by
  unfold Free at *
  have h1 := rk_append_le (n := n) (A := A) hi
  rw [← rk_mem s] at h1
  have h2 := rk_le_length hA
  omega
end Gr

set_option Elab.async false
set_option linter.all false
namespace Gr
/-! ### roads with lengths -/
section
variable (ed : Int → Ed) (w : Int → Int)
abbrev upto (T : List Int) (t : Int) : List Int := T.filter fun x => decide (w x ≤ t)
abbrev eds (T : List Int) : List Ed := T.map ed
def Tight (R T : List Int) : Prop := ∀ r ∈ R, Conn (eds ed (upto w T (w r))) (ed r).1 (ed r).2
/-- a tree: one road fewer than houses, by which all houses are joined -/
def Tree (n : Nat) (T : List Int) : Prop := T.length + 1 = n ∧ Joined n (eds ed T)
def thr (H : Nat) (T : List Int) : Nat := ((List.range H).map fun t : Nat => (T.filter fun x => decide ((t : Int) < w x)).length).sum
def tot (T : List Int) : Int := (T.map w).sum
end
variable {ed : Int → Ed} {w : Int → Int}
theorem sum_map_add {α : Type} (f g : α → Nat) : ∀ l : List α, (l.map fun x => f x + g x).sum = (l.map f).sum + (l.map g).sum
  | [] => rfl
  | x :: l => by simp only [List.map_cons, List.sum_cons, sum_map_add f g l]; omega
theorem sum_map_le {α : Type} {f g : α → Nat} : ∀ {l : List α}, (∀ x ∈ l, f x ≤ g x) → (l.map f).sum ≤ (l.map g).sum
  | [], _ => Nat.le_refl _
  | x :: l, h => by
    have := sum_map_le (l := l) fun y hy => h y (List.mem_cons_of_mem _ hy)
    have := h x List.mem_cons_self
    simp only [List.map_cons, List.sum_cons]; omega
theorem sum_map_eq {α : Type} {f g : α → Nat} : ∀ {l : List α}, (∀ x ∈ l, f x ≤ g x) → (l.map g).sum ≤ (l.map f).sum → ∀ x ∈ l, f x = g x
  | [], _, _, _, hx => nomatch hx
  | x :: l, h, hs, y, hy => by
    have h1 := sum_map_le (l := l) fun y hy => h y (List.mem_cons_of_mem _ hy)
    have h2 := h x List.mem_cons_self
    simp only [List.map_cons, List.sum_cons] at hs
    rcases List.mem_cons.mp hy with rfl | hy
    · omega
    · exact sum_map_eq (fun y hy => h y (List.mem_cons_of_mem _ hy)) (by omega) y hy
theorem count_lt (c : Int) : ∀ H : Nat, ((List.range H).map fun t : Nat => if (t : Int) < c then 1 else 0).sum = min H c.toNat
  | 0 => by simp
  | H + 1 => by
    rw [List.range_succ, List.map_append, List.sum_append, count_lt c H]
    simp only [List.map_cons, List.map_nil, List.sum_cons, List.sum_nil]
    split <;> omega
theorem tot_thr {H : Nat} : ∀ {T : List Int}, (∀ r ∈ T, 0 ≤ w r ∧ w r ≤ H) → tot w T = (thr w H T : Int)
  | [], _ => by
    have : ∀ l : List Nat, (l.map fun _ => 0).sum = 0 := fun l => by induction l with
      | nil => rfl
      | cons x l ih => rw [List.map_cons, List.sum_cons, ih]
    unfold tot thr
    simp [this]
  | r :: T, h => by
    have ih := tot_thr (T := T) fun x hx => h x (List.mem_cons_of_mem _ hx)
    have hr := h r List.mem_cons_self
    have e : thr w H (r :: T) = thr w H T + min H (w r).toNat := by
      rw [← count_lt (w r) H]
      unfold thr
      rw [← sum_map_add]
      congr 1
      refine List.map_congr_left fun t _ => ?_
      rw [List.filter_cons]
      by_cases q : (t : Int) < w r
      · rw [if_pos (by simpa using q), if_pos q]; rfl
      · rw [if_neg (by simpa using q), if_neg q]; rfl
    unfold tot at ih ⊢
    rw [List.map_cons, List.sum_cons, ih, e]
    omega
theorem len_split {t : Int} : ∀ T : List Int, (upto w T t).length + (T.filter fun x => decide (t < w x)).length = T.length
  | [] => rfl
  | x :: T => by
    have ih := len_split (t := t) T
    unfold upto at ih ⊢
    by_cases h : w x ≤ t
    · rw [List.filter_cons_of_pos (by simpa using h), List.filter_cons_of_neg (by simp; omega)]; simp only [List.length_cons]; omega
    · rw [List.filter_cons_of_neg (by simpa using h), List.filter_cons_of_pos (by simp; omega)]; simp only [List.length_cons]; omega
theorem eds_in {n : Nat} {T : List Int} (h : ∀ r ∈ T, In n (ed r)) : ∀ e ∈ eds ed T, In n e := fun e he => by
  obtain ⟨r, hr, rfl⟩ := List.mem_map.mp he
  exact h r hr
theorem mem_upto {T : List Int} {t r : Int} : r ∈ upto w T t ↔ r ∈ T ∧ w r ≤ t := by unfold upto; rw [List.mem_filter, decide_eq_true_iff]
theorem eds_mono {A B : List Int} (s : ∀ r ∈ A, r ∈ B) : ∀ e ∈ eds ed A, e ∈ eds ed B := fun e he => by
  obtain ⟨r, hr, rfl⟩ := List.mem_map.mp he
  exact List.mem_map.mpr ⟨r, s r hr, rfl⟩
theorem conn_sub {A B : List Int} (s : ∀ r ∈ A, r ∈ B) {x y : Int} (h : Conn (eds ed A) x y) : Conn (eds ed B) x y := h.mono (eds_mono s)
theorem conn_road {A : List Int} {r : Int} (h : r ∈ A) : Conn (eds ed A) (ed r).1 (ed r).2 := .of_edge (List.mem_map.mpr ⟨r, h, rfl⟩)
theorem tree_free {n : Nat} {T : List Int} (hn : 1 ≤ n) (h : Tree ed n T) : Free n (eds ed T) := by
  have := (joined_rk hn).mp h.2
  unfold Free eds
  rw [List.length_map]
  have := h.1
  unfold eds at *
  omega
theorem free_filter {n : Nat} {T : List Int} (p : Int → Bool) (hi : ∀ r ∈ T, In n (ed r)) (h : Free n (eds ed T)) : Free n (eds ed (T.filter p)) := by
  refine free_part (B := eds ed (T.filter fun x => !p x)) (eds_in fun r hr => hi r (List.mem_filter.mp hr).1) (fun e => ?_) ?_ h (eds_in fun r hr => hi r (List.mem_filter.mp hr).1)
  · unfold eds
    rw [← List.map_append, List.mem_map, List.mem_map]
    constructor
    · rintro ⟨r, hr, rfl⟩
      refine ⟨r, ?_, rfl⟩
      rw [List.mem_append, List.mem_filter, List.mem_filter]
      cases p r <;> simp [hr]
    · rintro ⟨r, hr, rfl⟩
      rw [List.mem_append, List.mem_filter, List.mem_filter] at hr
      exact ⟨r, hr.elim (·.1) (·.1), rfl⟩
  · unfold eds
    rw [List.length_map, List.length_map, List.length_map]
    clear h hi
    induction T with
    | nil => rfl
    | cons x T ih =>
      cases hp : p x
      · rw [List.filter_cons_of_pos (p := fun x => !p x) (by simp [hp]), List.filter_cons_of_neg (p := p) (by simp [hp])]; simp only [List.length_cons]; omega
      · rw [List.filter_cons_of_neg (p := fun x => !p x) (by simp [hp]), List.filter_cons_of_pos (p := p) hp]; simp only [List.length_cons]; omega
/-- in a forest no road's houses are joined by the others -/
theorem free_cut {n : Nat} {T : List Int} (hi : ∀ r ∈ T, In n (ed r)) (h : Free n (eds ed T)) (nd : T.Nodup) {r : Int} (hr : r ∈ T) : ¬ Conn (eds ed (T.filter fun x => !decide (x = r))) (ed r).1 (ed r).2 := by
  intro c
  have f1 := free_filter (fun x => !decide (x = r)) hi h
  have e : rk n (eds ed T) = rk n (eds ed (T.filter fun x => !decide (x = r))) := by
    rw [← rk_in c]
    refine rk_mem fun e => ?_
    show e ∈ T.map ed ↔ e ∈ ed r :: (T.filter fun x => !decide (x = r)).map ed
    rw [← List.map_cons, List.mem_map, List.mem_map]
    constructor
    · rintro ⟨x, hx, rfl⟩
      refine ⟨x, ?_, rfl⟩
      by_cases q : x = r
      · rw [q]; exact List.mem_cons_self
      · exact List.mem_cons_of_mem _ (List.mem_filter.mpr ⟨hx, by simpa using q⟩)
    · rintro ⟨x, hx, rfl⟩
      rcases List.mem_cons.mp hx with q | q
      · exact ⟨r, hr, by rw [q]⟩
      · exact ⟨x, (List.mem_filter.mp q).1, rfl⟩
  unfold Free eds at *
  rw [List.length_map] at h f1
  have := filter_minus (p := fun _ => true) (q := fun x => !decide (x = r)) (m := r) (fun x => by simp) T nd hr rfl
  rw [List.filter_eq_self.mpr (fun _ _ => rfl)] at this
  omega
theorem tight_le {n : Nat} {R T T2 : List Int} (hn : 1 ≤ n) (hi : ∀ r ∈ R, In n (ed r)) (hT : Tree ed n T) (s : ∀ r ∈ T, r ∈ R) (tt : Tight ed w R T) (h2 : Tree ed n T2) (s2 : ∀ r ∈ T2, r ∈ R) (t : Int) : (T.filter fun x => decide (t < w x)).length ≤ (T2.filter fun x => decide (t < w x)).length := by
  have l1 := len_split (w := w) (t := t) T
  have l2 := len_split (w := w) (t := t) T2
  have f2 := free_filter (fun x => decide (w x ≤ t)) (fun r hr => hi r (s2 r hr)) (tree_free hn h2)
  have r1 := rk_le_length (n := n) (B := eds ed (upto w T t)) (eds_in fun r hr => hi r (s r (mem_upto.mp hr).1))
  have r2 : rk n (eds ed (upto w T2 t)) ≤ rk n (eds ed (upto w T t)) := rk_mono fun x y c => c.map fun e he => by
    obtain ⟨r, hr, rfl⟩ := List.mem_map.mp he
    obtain ⟨h1, h2⟩ := mem_upto.mp hr
    exact conn_sub (fun z hz => mem_upto.mpr ⟨(mem_upto.mp hz).1, Int.le_trans (mem_upto.mp hz).2 h2⟩) (tt r (s2 r h1))
  unfold Free at f2
  unfold eds at *
  rw [List.length_map] at f2 r1
  have h1 := hT.1
  have h2 := h2.1
  unfold upto at *
  omega
/-- the lengths are from 0 on -/
def Wts (R : List Int) (w : Int → Int) : Prop := ∀ r ∈ R, 0 ≤ w r
theorem bound_ex (w : Int → Int) : ∀ R : List Int, ∃ H : Nat, ∀ r ∈ R, w r ≤ H
  | [] => ⟨0, fun _ h => nomatch h⟩
  | r :: R => by
    obtain ⟨H, h⟩ := bound_ex w R
    refine ⟨H + (w r).toNat, fun x hx => ?_⟩
    rcases List.mem_cons.mp hx with rfl | hx
    · omega
    · have := h x hx; omega
theorem tight_tot {n : Nat} {R T T2 : List Int} (hn : 1 ≤ n) (hi : ∀ r ∈ R, In n (ed r)) (hw : Wts R w) (hT : Tree ed n T) (s : ∀ r ∈ T, r ∈ R) (tt : Tight ed w R T) (h2 : Tree ed n T2) (s2 : ∀ r ∈ T2, r ∈ R) : tot w T ≤ tot w T2 := by
  obtain ⟨H, hH⟩ := bound_ex w R
  rw [tot_thr (H := H) fun r hr => ⟨hw r (s r hr), hH r (s r hr)⟩, tot_thr (H := H) fun r hr => ⟨hw r (s2 r hr), hH r (s2 r hr)⟩]
  have := sum_map_le (l := List.range H) fun t _ => tight_le hn hi hT s tt h2 s2 (t : Int)
  unfold thr
  omega
theorem tight_of {n : Nat} {R T T2 : List Int} (hn : 1 ≤ n) (hi : ∀ r ∈ R, In n (ed r)) (hw : Wts R w) (hT : Tree ed n T) (s : ∀ r ∈ T, r ∈ R) (tt : Tight ed w R T) (h2 : Tree ed n T2) (s2 : ∀ r ∈ T2, r ∈ R) (le : tot w T2 ≤ tot w T) : Tight ed w R T2 := by
  obtain ⟨H, hH⟩ := bound_ex w R
  have key : ∀ t : Nat, t < H → (T.filter fun x => decide ((t : Int) < w x)).length = (T2.filter fun x => decide ((t : Int) < w x)).length := fun t ht => by
    refine sum_map_eq (l := List.range H) (f := fun t : Nat => (T.filter fun x => decide ((t : Int) < w x)).length) (g := fun t : Nat => (T2.filter fun x => decide ((t : Int) < w x)).length) (fun t _ => tight_le hn hi hT s tt h2 s2 (t : Int)) ?_ t (List.mem_range.mpr ht)
    rw [tot_thr (H := H) fun r hr => ⟨hw r (s r hr), hH r (s r hr)⟩, tot_thr (H := H) fun r hr => ⟨hw r (s2 r hr), hH r (s2 r hr)⟩] at le
    unfold thr at le
    omega
  intro r hr
  have w0 := hw r hr
  -- as many roads of both trees are no longer than r
  have same : (upto w T (w r)).length = (upto w T2 (w r)).length := by
    have l1 := len_split (w := w) (t := w r) T
    have l2 := len_split (w := w) (t := w r) T2
    have e1 := hT.1
    have e2 := h2.1
    have : (T.filter fun x => decide (w r < w x)).length = (T2.filter fun x => decide (w r < w x)).length := by
      by_cases q : (w r).toNat < H
      · have := key _ q
        rw [Int.toNat_of_nonneg w0] at this
        exact this
      · have z : ∀ {S : List Int}, (∀ x ∈ S, x ∈ R) → (S.filter fun x => decide (w r < w x)) = [] := fun {S} hs => List.filter_eq_nil_iff.mpr fun x hx => by
          have := hH x (hs x hx)
          simp only [decide_eq_true_eq]
          omega
        rw [z s, z s2]
    omega
  refine Classical.byContradiction fun no => ?_
  have f2 := free_filter (fun x => decide (w x ≤ w r)) (fun r hr => hi r (s2 r hr)) (tree_free hn h2)
  have f1 := free_filter (fun x => decide (w x ≤ w r)) (fun r hr => hi r (s r hr)) (tree_free hn hT)
  have o := rk_out (hi r hr) no
  have m : rk n (ed r :: eds ed (upto w T2 (w r))) ≤ rk n (eds ed (upto w T (w r))) := rk_mono fun x y c => c.map fun e he => by
    have he' : e ∈ (r :: upto w T2 (w r)).map ed := he
    obtain ⟨z, hz, rfl⟩ := List.mem_map.mp he'
    have hz' : z ∈ R ∧ w z ≤ w r := (List.mem_cons.mp hz).elim (fun q => by rw [q]; exact ⟨hr, Int.le_refl _⟩) (fun q => ⟨s2 z (mem_upto.mp q).1, (mem_upto.mp q).2⟩)
    exact conn_sub (fun z hz => mem_upto.mpr ⟨(mem_upto.mp hz).1, Int.le_trans (mem_upto.mp hz).2 hz'.2⟩) (tt z hz'.1)
  unfold Free at f1 f2
  unfold eds at *
  rw [List.length_map] at f1 f2
  unfold upto at *
  omega
/-! ### a tree that grows road by road -/
section
variable (ed : Int → Ed)
noncomputable def kr : List Int → List Int → List Int
  | F, [] => F
  | F, r :: o => @ite _ (Conn (eds ed F) (ed r).1 (ed r).2) (Classical.propDecidable _) (kr F o) (kr (F ++ [r]) o)
end
theorem kr_t {F o : List Int} {r : Int} (h : Conn (eds ed F) (ed r).1 (ed r).2) : kr ed F (r :: o) = kr ed F o := by
  exact @if_pos _ (Classical.propDecidable _) h _ _ _
theorem kr_f {F o : List Int} {r : Int} (h : ¬ Conn (eds ed F) (ed r).1 (ed r).2) : kr ed F (r :: o) = kr ed (F ++ [r]) o := by
  exact @if_neg _ (Classical.propDecidable _) h _ _ _
theorem kr_app : ∀ {p F q : List Int}, kr ed F (p ++ q) = kr ed (kr ed F p) q
  | [], _, _ => rfl
  | r :: p, F, q => by
    by_cases h : Conn (eds ed F) (ed r).1 (ed r).2
    · rw [List.cons_append, kr_t h, kr_t h, kr_app]
    · rw [List.cons_append, kr_f h, kr_f h, kr_app]
theorem kr_sub : ∀ {o F : List Int}, ∀ r ∈ F, r ∈ kr ed F o
  | [], _, r, hr => hr
  | x :: o, F, r, hr => by
    by_cases h : Conn (eds ed F) (ed x).1 (ed x).2
    · rw [kr_t h]; exact kr_sub r hr
    · rw [kr_f h]; exact kr_sub r (List.mem_append_left _ hr)
theorem kr_of : ∀ {o F : List Int}, ∀ r ∈ kr ed F o, r ∈ F ∨ r ∈ o
  | [], _, r, hr => .inl hr
  | x :: o, F, r, hr => by
    by_cases h : Conn (eds ed F) (ed x).1 (ed x).2
    · rw [kr_t h] at hr; exact (kr_of r hr).imp_right (List.mem_cons_of_mem _)
    · rw [kr_f h] at hr
      rcases kr_of r hr with q | q
      · rcases List.mem_append.mp q with q | q
        · exact .inl q
        · rw [List.mem_singleton.mp q]; exact .inr List.mem_cons_self
      · exact .inr (List.mem_cons_of_mem _ q)
theorem kr_conn : ∀ {o F : List Int}, ∀ r ∈ o, Conn (eds ed (kr ed F o)) (ed r).1 (ed r).2
  | [], _, _, h => nomatch h
  | x :: o, F, r, hr => by
    by_cases h : Conn (eds ed F) (ed x).1 (ed x).2
    · rw [kr_t h]
      rcases List.mem_cons.mp hr with rfl | hr
      · exact conn_sub kr_sub h
      · exact kr_conn r hr
    · rw [kr_f h]
      rcases List.mem_cons.mp hr with rfl | hr
      · exact conn_road (kr_sub r (List.mem_append_right _ List.mem_cons_self))
      · exact kr_conn r hr
theorem kr_conn_iff {o : List Int} {x y : Int} : Conn (eds ed (kr ed [] o)) x y ↔ Conn (eds ed o) x y := by
  constructor
  · exact conn_sub fun r hr => (kr_of r hr).resolve_left List.not_mem_nil
  · exact fun h => h.map fun e he => by
      obtain ⟨r, hr, rfl⟩ := List.mem_map.mp he
      exact kr_conn r hr
theorem free_snoc {n : Nat} {F : List Int} {r : Int} (hi : In n (ed r)) (h : Free n (eds ed F)) (no : ¬ Conn (eds ed F) (ed r).1 (ed r).2) : Free n (eds ed (F ++ [r])) := by
  have := rk_out hi no
  unfold Free eds at *
  rw [show rk n ((F ++ [r]).map ed) = rk n (ed r :: F.map ed) from rk_mem fun e => by rw [List.map_append, List.mem_append, List.mem_cons]; simp [or_comm], this, h, List.length_map, List.length_map, List.length_append]
  rfl
theorem kr_free {n : Nat} : ∀ {o F : List Int}, (∀ r ∈ o, In n (ed r)) → Free n (eds ed F) → Free n (eds ed (kr ed F o))
  | [], _, _, h => h
  | x :: o, F, hi, hf => by
    by_cases h : Conn (eds ed F) (ed x).1 (ed x).2
    · rw [kr_t h]; exact kr_free (fun r hr => hi r (List.mem_cons_of_mem _ hr)) hf
    · rw [kr_f h]; exact kr_free (fun r hr => hi r (List.mem_cons_of_mem _ hr)) (free_snoc (hi x List.mem_cons_self) hf h)
theorem kr_nodup : ∀ {o F : List Int}, F.Nodup → (kr ed F o).Nodup
  | [], _, h => h
  | x :: o, F, hf => by
    by_cases h : Conn (eds ed F) (ed x).1 (ed x).2
    · rw [kr_t h]; exact kr_nodup hf
    · rw [kr_f h]
      refine kr_nodup (List.nodup_append.mpr ⟨hf, List.nodup_cons.mpr ⟨(fun q => nomatch q), List.nodup_nil⟩, fun a ha b hb => ?_⟩)
      rw [List.mem_singleton.mp hb]
      exact fun e => h (conn_road (e ▸ ha))
theorem free_nil {n : Nat} : Free n (eds ed []) := by
  unfold Free eds
  exact rk_nil
theorem kr_tree {n : Nat} {o : List Int} (hn : 1 ≤ n) (hi : ∀ r ∈ o, In n (ed r)) (hj : Joined n (eds ed o)) : Tree ed n (kr ed [] o) := by
  have j : Joined n (eds ed (kr ed [] o)) := fun x hx => kr_conn_iff.mpr (hj x hx)
  refine ⟨?_, j⟩
  have f := kr_free (F := []) hi free_nil
  have := (joined_rk hn).mp j
  unfold Free eds at f
  rw [List.length_map] at f
  unfold eds at this
  omega
theorem kr_tight : ∀ {o F : List Int}, o.Pairwise (fun a b => w a ≤ w b) → (∀ f ∈ F, ∀ r ∈ o, w f ≤ w r) → Tight ed w o (kr ed F o)
  | [], _, _, _ => fun _ h => nomatch h
  | x :: o, F, pw, hF => fun r hr => by
    obtain ⟨p1, p2⟩ := List.pairwise_cons.mp pw
    by_cases h : Conn (eds ed F) (ed x).1 (ed x).2
    · rw [kr_t h]
      rcases List.mem_cons.mp hr with rfl | hr
      · exact conn_sub (fun z hz => mem_upto.mpr ⟨kr_sub z hz, hF z hz r List.mem_cons_self⟩) h
      · exact kr_tight p2 (fun f hf r hr => hF f hf r (List.mem_cons_of_mem _ hr)) r hr
    · rw [kr_f h]
      rcases List.mem_cons.mp hr with rfl | hr
      · exact conn_road (mem_upto.mpr ⟨kr_sub r (List.mem_append_right _ List.mem_cons_self), Int.le_refl _⟩)
      · refine kr_tight p2 (fun f hf r hr => ?_) r hr
        rcases List.mem_append.mp hf with q | q
        · exact hF f q r (List.mem_cons_of_mem _ hr)
        · rw [List.mem_singleton.mp q]; exact p1 r hr
theorem kr_new : ∀ {o F : List Int} {r : Int}, r ∈ kr ed F o → r ∉ F → ¬ Conn (eds ed F) (ed r).1 (ed r).2
  | [], _, _, h, no => absurd h no
  | x :: o, F, r, h, no => by
    by_cases c : Conn (eds ed F) (ed x).1 (ed x).2
    · rw [kr_t c] at h; exact kr_new h no
    · rw [kr_f c] at h
      by_cases e : r = x
      · rw [e]; exact c
      · refine fun q => kr_new h (fun m => ?_) (conn_sub (fun z hz => List.mem_append_left _ hz) q)
        rcases List.mem_append.mp m with m | m
        · exact no m
        · exact e (List.mem_singleton.mp m)
/-- whether a road is taken -/
theorem kr_mem {p q : List Int} {r : Int} (hp : r ∉ p) : r ∈ kr ed [] (p ++ r :: q) ↔ ¬ Conn (eds ed p) (ed r).1 (ed r).2 := by
  rw [kr_app, ← kr_conn_iff]
  constructor
  · intro h c
    exact kr_new h (fun m => hp ((kr_of r m).resolve_left (fun q => nomatch q))) c
  · intro h
    rw [kr_f h]
    exact kr_sub r (List.mem_append_right _ List.mem_cons_self)
end Gr

set_option Elab.async false
set_option linter.all false
namespace Gr
variable {ed : Int → Ed} {w : Int → Int}
theorem free_cons {n : Nat} {e : Ed} {E : List Ed} (hi : In n e) (hE : ∀ x ∈ E, In n x) : Free n (e :: E) ↔ Free n E ∧ ¬ Conn E e.1 e.2 := by
  unfold Free
  have := rk_le_length hE
  by_cases h : Conn E e.1 e.2
  · rw [rk_in h, List.length_cons]
    exact ⟨fun q => by omega, fun q => absurd h q.2⟩
  · rw [rk_out hi h, List.length_cons]
    exact ⟨fun q => ⟨by omega, h⟩, fun q => by omega⟩
theorem free_nodup {n : Nat} : ∀ {T : List Int}, (∀ r ∈ T, In n (ed r)) → Free n (eds ed T) → T.Nodup
  | [], _, _ => List.nodup_nil
  | r :: T, hi, h => by
    have hi' : ∀ x ∈ T, In n (ed x) := fun x hx => hi x (List.mem_cons_of_mem _ hx)
    obtain ⟨h1, h2⟩ := (free_cons (hi r List.mem_cons_self) (eds_in hi')).mp h
    exact List.nodup_cons.mpr ⟨fun q => h2 (conn_road q), free_nodup hi' h1⟩
theorem tree_nodup {n : Nat} {T : List Int} (hn : 1 ≤ n) (hi : ∀ r ∈ T, In n (ed r)) (h : Tree ed n T) : T.Nodup := free_nodup hi (tree_free hn h)
/-- as many roads as in a tree, all of them needed: a tree -/
theorem tree_iff_free {n : Nat} {T : List Int} (hn : 1 ≤ n) (hl : T.length + 1 = n) : Tree ed n T ↔ Free n (eds ed T) := by
  refine ⟨tree_free hn, fun h => ⟨hl, (joined_rk hn).mpr ?_⟩⟩
  unfold Free eds at h
  rw [List.length_map] at h
  unfold eds
  omega
/-! ### least trees -/
def Least (ed : Int → Ed) (w : Int → Int) (n : Nat) (R T : List Int) : Prop := Tree ed n T ∧ (∀ r ∈ T, r ∈ R) ∧ ∀ T2, Tree ed n T2 → (∀ r ∈ T2, r ∈ R) → tot w T ≤ tot w T2
theorem sorted_ex (w : Int → Int) (R : List Int) : ∃ o : List Int, (∀ r, r ∈ o ↔ r ∈ R) ∧ o.Pairwise fun a b => w a ≤ w b := by
  refine ⟨R.mergeSort fun a b => decide (w a ≤ w b), fun r => List.mem_mergeSort, ?_⟩
  have := List.pairwise_mergeSort (le := fun a b => decide (w a ≤ w b)) (fun a b c h1 h2 => by simp only [decide_eq_true_eq] at *; omega) (fun a b => by simp only [Bool.or_eq_true, decide_eq_true_eq]; omega) R
  exact this.imp fun h => of_decide_eq_true h
theorem conn_same {A B : List Int} (s : ∀ r, r ∈ A ↔ r ∈ B) {x y : Int} : Conn (eds ed A) x y ↔ Conn (eds ed B) x y := ⟨conn_sub fun r => (s r).mp, conn_sub fun r => (s r).mpr⟩
theorem tight_same {R R2 T : List Int} (s : ∀ r, r ∈ R ↔ r ∈ R2) (h : Tight ed w R T) : Tight ed w R2 T := fun r hr => h r ((s r).mpr hr)
/-- trees that grow in an order that ascends by length are least -/
theorem kr_least {n : Nat} {R o : List Int} (hn : 1 ≤ n) (hi : ∀ r ∈ R, In n (ed r)) (hw : Wts R w) (hj : Joined n (eds ed R)) (ho : ∀ r, r ∈ o ↔ r ∈ R) (pw : o.Pairwise fun a b => w a ≤ w b) : Tree ed n (kr ed [] o) ∧ (∀ r ∈ kr ed [] o, r ∈ R) ∧ Tight ed w R (kr ed [] o) := by
  have s : ∀ r ∈ kr ed [] o, r ∈ R := fun r hr => (ho r).mp ((kr_of r hr).resolve_left List.not_mem_nil)
  exact ⟨kr_tree hn (fun r hr => hi r ((ho r).mp hr)) fun x hx => (conn_same ho).mpr (hj x hx), s, tight_same ho (kr_tight pw fun f hf => nomatch hf)⟩
theorem least_iff {n : Nat} {R T : List Int} (hn : 1 ≤ n) (hi : ∀ r ∈ R, In n (ed r)) (hw : Wts R w) (hj : Joined n (eds ed R)) : Least ed w n R T ↔ Tree ed n T ∧ (∀ r ∈ T, r ∈ R) ∧ Tight ed w R T := by
  obtain ⟨o, ho, pw⟩ := sorted_ex w R
  obtain ⟨k1, k2, k3⟩ := kr_least hn hi hw hj ho pw
  constructor
  · rintro ⟨h1, h2, h3⟩
    exact ⟨h1, h2, tight_of hn hi hw k1 k2 k3 h1 h2 (h3 _ k1 k2)⟩
  · rintro ⟨h1, h2, h3⟩
    exact ⟨h1, h2, fun T2 t1 t2 => tight_tot hn hi hw h1 h2 h3 t1 t2⟩
theorem least_ex {n : Nat} {R : List Int} (hn : 1 ≤ n) (hi : ∀ r ∈ R, In n (ed r)) (hw : Wts R w) (hj : Joined n (eds ed R)) : ∃ T, Least ed w n R T := by
  obtain ⟨o, ho, pw⟩ := sorted_ex w R
  exact ⟨_, (least_iff hn hi hw hj).mpr (kr_least hn hi hw hj ho pw)⟩
theorem least_tot {n : Nat} {R T T2 : List Int} (h : Least ed w n R T) (h2 : Least ed w n R T2) : tot w T = tot w T2 := Int.le_antisymm (h.2.2 _ h2.1 h2.2.1) (h2.2.2 _ h.1 h.2.1)
/-- a road is in some least tree exactly if shorter ones do not join its houses -/
theorem used_iff {n : Nat} {R : List Int} {e : Int} (hn : 1 ≤ n) (hi : ∀ r ∈ R, In n (ed r)) (hw : Wts R w) (hj : Joined n (eds ed R)) (he : e ∈ R) : (∃ T, Least ed w n R T ∧ e ∈ T) ↔ ¬ Conn (eds ed (R.filter fun x => decide (w x < w e))) (ed e).1 (ed e).2 := by
  constructor
  · rintro ⟨T, hT, eT⟩ c
    obtain ⟨h1, h2, h3⟩ := (least_iff hn hi hw hj).mp hT
    have hiT : ∀ r ∈ T, In n (ed r) := fun r hr => hi r (h2 r hr)
    refine free_cut hiT (tree_free hn h1) (tree_nodup hn hiT h1) eT (c.map fun x hx => ?_)
    obtain ⟨z, hz, rfl⟩ := List.mem_map.mp hx
    obtain ⟨z1, z2⟩ := List.mem_filter.mp hz
    have z2 := of_decide_eq_true z2
    refine conn_sub (fun y hy => ?_) (h3 z z1)
    obtain ⟨y1, y2⟩ := mem_upto.mp hy
    exact List.mem_filter.mpr ⟨y1, by simp only [Bool.not_eq_true', decide_eq_false_iff_not]; rintro rfl; omega⟩
  · intro no
    obtain ⟨o1, a1, b1⟩ := sorted_ex w (R.filter fun x => decide (w x < w e))
    obtain ⟨o2, a2, b2⟩ := sorted_ex w (R.filter fun x => decide (w e ≤ w x))
    have m1 : ∀ r ∈ o1, w r < w e := fun r hr => of_decide_eq_true (List.mem_filter.mp ((a1 r).mp hr)).2
    have m2 : ∀ r ∈ o2, w e ≤ w r := fun r hr => of_decide_eq_true (List.mem_filter.mp ((a2 r).mp hr)).2
    have ho : ∀ r, r ∈ o1 ++ e :: o2 ↔ r ∈ R := fun r => by
      rw [List.mem_append, List.mem_cons, a1, a2, List.mem_filter, List.mem_filter, decide_eq_true_iff, decide_eq_true_iff]
      constructor
      · rintro (h | rfl | h)
        · exact h.1
        · exact he
        · exact h.1
      · intro h
        rcases Int.lt_or_le (w r) (w e) with q | q
        · exact .inl ⟨h, q⟩
        · exact .inr (.inr ⟨h, q⟩)
    have pw : (o1 ++ e :: o2).Pairwise fun a b => w a ≤ w b := List.pairwise_append.mpr ⟨b1, List.pairwise_cons.mpr ⟨m2, b2⟩, fun a ha b hb => by
      have := m1 a ha
      rcases List.mem_cons.mp hb with rfl | hb
      · omega
      · have := m2 b hb; omega⟩
    refine ⟨_, (least_iff hn hi hw hj).mpr (kr_least hn hi hw hj ho pw), (kr_mem fun q => by have := m1 e q; omega).mpr ?_⟩
    exact fun c => no ((conn_same a1).mp c)
/-- a road is in every least tree exactly if others that are no longer do not join its houses -/
theorem needed_iff {n : Nat} {R : List Int} {e : Int} (hn : 1 ≤ n) (hi : ∀ r ∈ R, In n (ed r)) (hw : Wts R w) (hj : Joined n (eds ed R)) (he : e ∈ R) : (∀ T, Least ed w n R T → e ∈ T) ↔ ¬ Conn (eds ed (R.filter fun x => decide (w x ≤ w e) && !decide (x = e))) (ed e).1 (ed e).2 := by
  constructor
  · intro all c
    obtain ⟨o1, a1, b1⟩ := sorted_ex w (R.filter fun x => decide (w x ≤ w e) && !decide (x = e))
    obtain ⟨o2, a2, b2⟩ := sorted_ex w (R.filter fun x => decide (w e < w x))
    have m1 : ∀ r ∈ o1, w r ≤ w e ∧ r ≠ e := fun r hr => by simpa using (List.mem_filter.mp ((a1 r).mp hr)).2
    have m2 : ∀ r ∈ o2, w e < w r := fun r hr => of_decide_eq_true (List.mem_filter.mp ((a2 r).mp hr)).2
    have ho : ∀ r, r ∈ o1 ++ e :: o2 ↔ r ∈ R := fun r => by
      rw [List.mem_append, List.mem_cons, a1, a2, List.mem_filter, List.mem_filter, Bool.and_eq_true, decide_eq_true_iff, decide_eq_true_iff]
      simp only [Bool.not_eq_true', decide_eq_false_iff_not]
      constructor
      · rintro (h | rfl | h)
        · exact h.1
        · exact he
        · exact h.1
      · intro h
        by_cases q : r = e
        · exact .inr (.inl q)
        · rcases Int.lt_or_le (w e) (w r) with z | z
          · exact .inr (.inr ⟨h, z⟩)
          · exact .inl ⟨h, z, q⟩
    have pw : (o1 ++ e :: o2).Pairwise fun a b => w a ≤ w b := List.pairwise_append.mpr ⟨b1, List.pairwise_cons.mpr ⟨fun r hr => by have := m2 r hr; omega, b2⟩, fun a ha b hb => by
      have := m1 a ha
      rcases List.mem_cons.mp hb with rfl | hb
      · omega
      · have := m2 b hb; omega⟩
    have hm := all _ ((least_iff hn hi hw hj).mpr (kr_least hn hi hw hj ho pw))
    exact (kr_mem fun q => (m1 e q).2 rfl).mp hm ((conn_same a1).mpr c)
  · intro no T hT
    obtain ⟨h1, h2, h3⟩ := (least_iff hn hi hw hj).mp hT
    refine Classical.byContradiction fun eT => no (conn_sub (fun z hz => ?_) (h3 e he))
    obtain ⟨z1, z2⟩ := mem_upto.mp hz
    refine List.mem_filter.mpr ⟨h2 z z1, ?_⟩
    rw [Bool.and_eq_true, decide_eq_true_iff]
    refine ⟨z2, ?_⟩
    simp only [Bool.not_eq_true', decide_eq_false_iff_not]
    rintro rfl
    exact eT z1
/-! ### houses one by one: a tree that grows from house 0 -/
structure Prim (ed : Int → Ed) (w : Int → Int) (n : Nat) (R S T : List Int) : Prop where
  nd : S.Nodup
  rg : ∀ x ∈ S, 0 ≤ x ∧ x < n
  z : (0 : Int) ∈ S
  len : T.length + 1 = S.length
  sub : ∀ r ∈ T, r ∈ R
  con : ∀ x ∈ S, Conn (eds ed T) 0 x
  low : ∀ t : Int, ∀ x ∈ S, ∀ y ∈ S, Conn (eds ed (upto w R t)) x y → Conn (eds ed (upto w T t)) x y
theorem prim0 {n : Nat} {R : List Int} (hn : 1 ≤ n) : Prim ed w n R [0] [] := by
  refine ⟨List.nodup_cons.mpr ⟨List.not_mem_nil, List.nodup_nil⟩, fun x hx => ?_, List.mem_cons_self, rfl, (fun _ h => nomatch h), fun x hx => ?_, fun t x hx y hy _ => ?_⟩
  · rw [List.mem_singleton.mp hx]; omega
  · rw [List.mem_singleton.mp hx]; exact .refl _
  · rw [List.mem_singleton.mp hx, List.mem_singleton.mp hy]; exact .refl _
theorem prim_step {n : Nat} {R S T S2 T2 : List Int} {r u v : Int} (P : Prim ed w n R S T) (hr : r ∈ R) (hu : u ∈ S) (hv : v ∉ S) (ha : ed r = (u, v) ∨ ed r = (v, u)) (hv0 : 0 ≤ v ∧ v < n) (hS : ∀ x, x ∈ S2 ↔ x ∈ S ∨ x = v) (nd : S2.Nodup) (lS : S2.length = S.length + 1) (hT : ∀ x, x ∈ T2 ↔ x ∈ T ∨ x = r) (lT : T2.length = T.length + 1)
    (best : ∀ q ∈ R, ∀ a b, a ∈ S → b ∉ S → (ed q = (a, b) ∨ ed q = (b, a)) → w r ≤ w q) : Prim ed w n R S2 T2 := by
  have uv : ∀ {A : List Int}, r ∈ A → Conn (eds ed A) u v := fun {A} h => by
    have := conn_road (ed := ed) h
    rcases ha with e | e
    · rw [e] at this; exact this
    · rw [e] at this; exact this.symm
  have up : ∀ {t : Int} {x y : Int}, Conn (eds ed (upto w T t)) x y → Conn (eds ed (upto w T2 t)) x y := fun {t x y} h => conn_sub (fun z hz => mem_upto.mpr ⟨(hT z).mpr (.inl (mem_upto.mp hz).1), (mem_upto.mp hz).2⟩) h
  have new : ∀ (t : Int), ∀ x ∈ S, Conn (eds ed (upto w R t)) x v → Conn (eds ed (upto w T2 t)) x v := fun t x hx c => by
    obtain ⟨a, b, hA, hB, ad⟩ := conn_leaves (P := (· ∈ S)) c hx hv
    have : w r ≤ t := by
      rcases ad with ad | ad
      · obtain ⟨q, hq, e⟩ := List.mem_map.mp ad
        have := best q (mem_upto.mp hq).1 a b hA hB (.inl e)
        have := (mem_upto.mp hq).2
        omega
      · obtain ⟨q, hq, e⟩ := List.mem_map.mp ad
        have := best q (mem_upto.mp hq).1 a b hA hB (.inr e)
        have := (mem_upto.mp hq).2
        omega
    have cu : Conn (eds ed (upto w R t)) x u := c.trans (uv (mem_upto.mpr ⟨hr, this⟩)).symm
    exact (up (P.low t x hx u hu cu)).trans (uv (mem_upto.mpr ⟨(hT r).mpr (.inr rfl), this⟩))
  refine ⟨nd, fun x hx => ?_, (hS 0).mpr (.inl P.z), by rw [lT, lS, P.len], fun x hx => ?_, fun x hx => ?_, fun t x hx y hy c => ?_⟩
  · rcases (hS x).mp hx with q | rfl
    · exact P.rg x q
    · exact hv0
  · rcases (hT x).mp hx with q | rfl
    · exact P.sub x q
    · exact hr
  · have cs : ∀ z ∈ S, Conn (eds ed T2) 0 z := fun z hz => conn_sub (fun y hy => (hT y).mpr (.inl hy)) (P.con z hz)
    rcases (hS x).mp hx with q | rfl
    · exact cs x q
    · exact (cs u hu).trans (uv ((hT r).mpr (.inr rfl)))
  · rcases (hS x).mp hx with hx | rfl
    · rcases (hS y).mp hy with hy | rfl
      · exact up (P.low t x hx y hy c)
      · exact new t x hx c
    · rcases (hS y).mp hy with hy | rfl
      · exact (new t y hy c.symm).symm
      · exact .refl _
theorem nodup_all : ∀ {n : Nat} {S : List Int}, S.Nodup → (∀ x ∈ S, 0 ≤ x ∧ x < n) → S.length = n → ∀ x : Int, 0 ≤ x → x < n → x ∈ S
  | 0, _, _, _, _, x, h0, h1 => by omega
  | n + 1, S, nd, rg, hl, x, h0, h1 => by
    have hm : (n : Int) ∈ S := by
      refine Classical.byContradiction fun no => ?_
      -- all below n, one too many
      have le : ∀ {n : Nat} {S : List Int}, S.Nodup → (∀ x ∈ S, 0 ≤ x ∧ x < n) → S.length ≤ n := fun {n} => by
        induction n with
        | zero =>
          intro S _ rg
          cases S with
          | nil => exact Nat.le_refl _
          | cons x S => have := rg x List.mem_cons_self; omega
        | succ n ih =>
          intro S nd rg
          by_cases h : (n : Int) ∈ S
          · have e := filter_minus (p := fun _ => true) (q := fun x => !decide (x = (n : Int))) (m := (n : Int)) (fun x => by simp) S nd h rfl
            rw [List.filter_eq_self.mpr (fun _ _ => rfl)] at e
            have := ih (S := S.filter fun x => !decide (x = (n : Int))) (nd.sublist List.filter_sublist) fun x hx => by
              obtain ⟨h1, h2⟩ := List.mem_filter.mp hx
              have := rg x h1
              simp only [Bool.not_eq_true', decide_eq_false_iff_not] at h2
              omega
            omega
          · have := ih (S := S) nd fun x hx => by
              have := rg x hx
              have : x ≠ n := fun e => h (e ▸ hx)
              omega
            omega
      have := le (n := n) nd fun x hx => by
        have := rg x hx
        have : x ≠ n := fun e => no (e ▸ hx)
        omega
      omega
    have e := filter_minus (p := fun _ => true) (q := fun x => !decide (x = (n : Int))) (m := (n : Int)) (fun x => by simp) S nd hm rfl
    rw [List.filter_eq_self.mpr (fun _ _ => rfl)] at e
    by_cases q : x = n
    · rw [q]; exact hm
    · have := nodup_all (n := n) (S := S.filter fun x => !decide (x = (n : Int))) (nd.sublist List.filter_sublist) (fun x hx => by
        obtain ⟨h1, h2⟩ := List.mem_filter.mp hx
        have := rg x h1
        simp only [Bool.not_eq_true', decide_eq_false_iff_not] at h2
        omega) (by omega) x h0 (by omega)
      exact (List.mem_filter.mp this).1
theorem prim_end {n : Nat} {R S T : List Int} (hi : ∀ r ∈ R, In n (ed r)) (P : Prim ed w n R S T) (h : S.length = n) : Tree ed n T ∧ (∀ r ∈ T, r ∈ R) ∧ Tight ed w R T := by
  have all := nodup_all P.nd P.rg h
  refine ⟨⟨by rw [P.len, h], fun x hx => P.con _ (all _ (by omega) (by omega))⟩, P.sub, fun r hr => ?_⟩
  obtain ⟨h1, h2, h3, h4⟩ := hi r hr
  exact P.low _ _ (all _ h1 h2) _ (all _ h3 h4) (conn_road (mem_upto.mpr ⟨hr, Int.le_refl _⟩))
/-- while a house is left, some road leads out -/
theorem prim_out {n : Nat} {R S T : List Int} (hj : Joined n (eds ed R)) (hi : ∀ r ∈ R, In n (ed r)) (P : Prim ed w n R S T) (h : S.length < n) : ∃ r ∈ R, ∃ a b, a ∈ S ∧ b ∉ S ∧ (ed r = (a, b) ∨ ed r = (b, a)) := by
  have : ∃ x : Nat, x < n ∧ (x : Int) ∉ S := by
    refine Classical.byContradiction fun no => ?_
    have all : ∀ x : Nat, x < n → (x : Int) ∈ S := fun x hx => Classical.byContradiction fun q => no ⟨x, hx, q⟩
    -- then S has at least n houses
    have ge : ∀ m : Nat, ∀ S : List Int, S.Nodup → (∀ x : Nat, x < m → (x : Int) ∈ S) → m ≤ S.length := fun m => by
      induction m with
      | zero => intro S _ _; omega
      | succ m ih =>
        intro S nd hs
        have hm := hs m (by omega)
        have e := filter_minus (p := fun _ => true) (q := fun x => !decide (x = (m : Int))) (m := (m : Int)) (fun x => by simp) S nd hm rfl
        rw [List.filter_eq_self.mpr (fun _ _ => rfl)] at e
        have := ih (S.filter fun x => !decide (x = (m : Int))) (nd.sublist List.filter_sublist) fun x hx => List.mem_filter.mpr ⟨hs x (by omega), by simp; omega⟩
        omega
    have := ge n S P.nd all
    omega
  obtain ⟨x, hx, no⟩ := this
  obtain ⟨a, b, h1, h2, h3⟩ := conn_leaves (P := (· ∈ S)) (hj x hx) P.z no
  rcases h3 with h3 | h3
  · obtain ⟨r, hr, e⟩ := List.mem_map.mp h3
    exact ⟨r, hr, a, b, h1, h2, .inl e⟩
  · obtain ⟨r, hr, e⟩ := List.mem_map.mp h3
    exact ⟨r, hr, a, b, h1, h2, .inr e⟩
/-! ### exchanges -/
/-- a tree with another road in the place of one -/
theorem exch_tree {n : Nat} {T T2 : List Int} {out r : Int} (hn : 1 ≤ n) (hiT : ∀ x ∈ T, In n (ed x)) (hir : In n (ed r)) (hT : Tree ed n T) (ho : out ∈ T) (h2 : ∀ x, x ∈ T2 ↔ (x ∈ T ∧ x ≠ out) ∨ x = r) (hl : T2.length + 1 = n) : Tree ed n T2 ↔ ¬ Conn (eds ed (T.filter fun x => !decide (x = out))) (ed r).1 (ed r).2 := by
  have nd := tree_nodup hn hiT hT
  have f := free_filter (fun x => !decide (x = out)) hiT (tree_free hn hT)
  have e := filter_minus (p := fun _ => true) (q := fun x => !decide (x = out)) (m := out) (fun x => by simp) T nd ho rfl
  rw [List.filter_eq_self.mpr (fun _ _ => rfl)] at e
  have m : rk n (eds ed T2) = rk n (ed r :: eds ed (T.filter fun x => !decide (x = out))) := rk_mem fun x => by
    show x ∈ T2.map ed ↔ x ∈ (r :: T.filter fun x => !decide (x = out)).map ed
    rw [List.mem_map, List.mem_map]
    constructor
    · rintro ⟨z, hz, rfl⟩
      refine ⟨z, ?_, rfl⟩
      rcases (h2 z).mp hz with q | q
      · exact List.mem_cons_of_mem _ (List.mem_filter.mpr ⟨q.1, by simpa using q.2⟩)
      · rw [q]; exact List.mem_cons_self
    · rintro ⟨z, hz, rfl⟩
      refine ⟨z, (h2 z).mpr ?_, rfl⟩
      rcases List.mem_cons.mp hz with q | q
      · exact .inr q
      · exact .inl ⟨(List.mem_filter.mp q).1, by simpa using (List.mem_filter.mp q).2⟩
  have l1 := hT.1
  unfold Free eds at f
  rw [List.length_map] at f
  rw [tree_iff_free hn hl]
  unfold Free
  rw [m]
  unfold eds
  rw [List.length_map]
  constructor
  · intro h c
    rw [rk_in c] at h
    omega
  · intro no
    rw [rk_out hir no]
    omega
/-- a tree is least exactly if no exchange makes it less -/
theorem tight_exch {n : Nat} {R T : List Int} (hn : 1 ≤ n) (hi : ∀ r ∈ R, In n (ed r)) (s : ∀ r ∈ T, r ∈ R) (hT : Tree ed n T) : Tight ed w R T ↔ ∀ out ∈ T, ∀ r ∈ R, r ∉ T → ¬ Conn (eds ed (T.filter fun x => !decide (x = out))) (ed r).1 (ed r).2 → w out ≤ w r := by
  have hiT : ∀ r ∈ T, In n (ed r) := fun r hr => hi r (s r hr)
  have nd := tree_nodup hn hiT hT
  have fr := tree_free hn hT
  constructor
  · intro tt out ho r hr hrT no
    refine Classical.byContradiction fun lt => no (conn_sub (fun z hz => ?_) (tt r hr))
    obtain ⟨z1, z2⟩ := mem_upto.mp hz
    exact List.mem_filter.mpr ⟨z1, by simp only [Bool.not_eq_true', decide_eq_false_iff_not]; rintro rfl; omega⟩
  · intro h r hr
    by_cases hrT : r ∈ T
    · exact conn_road (mem_upto.mpr ⟨hrT, Int.le_refl _⟩)
    · refine Classical.byContradiction fun no => ?_
      -- take the longer roads of the tree away, one by one
      have key : ∀ B : List Int, (∀ x ∈ B, x ∈ T ∧ w r < w x) → Conn (eds ed (B ++ upto w T (w r))) (ed r).1 (ed r).2 → False := fun B => by
        induction B with
        | nil => exact fun _ c => no c
        | cons x B ih =>
          intro hB c
          obtain ⟨xT, xw⟩ := hB x List.mem_cons_self
          have hB' : ∀ y ∈ B, y ∈ T ∧ w r < w y := fun y hy => hB y (List.mem_cons_of_mem _ hy)
          by_cases hx : x ∈ B
          · refine ih hB' (conn_sub (fun z hz => ?_) c)
            rcases List.mem_cons.mp hz with rfl | q
            · exact List.mem_append_left _ hx
            · exact q
          · have sub : ∀ z ∈ B ++ upto w T (w r), z ∈ T.filter fun y => !decide (y = x) := fun z hz => by
              refine List.mem_filter.mpr ⟨?_, by
                simp only [Bool.not_eq_true', decide_eq_false_iff_not]
                rintro rfl
                rcases List.mem_append.mp hz with q | q
                · exact hx q
                · have := (mem_upto.mp q).2; omega⟩
              rcases List.mem_append.mp hz with q | q
              · exact (hB' z q).1
              · exact (mem_upto.mp q).1
            have ct : Conn (eds ed (T.filter fun y => !decide (y = x))) (ed r).1 (ed r).2 := by
              refine Classical.byContradiction fun q => ?_
              have := h x xT r hr hrT q
              omega
            have cut := free_cut hiT fr nd xT
            have c' : Conn (((ed x).1, (ed x).2) :: eds ed (B ++ upto w T (w r))) (ed r).1 (ed r).2 := c
            rcases conn_cons.mp c' with c | ⟨c1, c2⟩ | ⟨c1, c2⟩
            · exact ih hB' c
            · exact cut (((conn_sub sub c1).symm.trans ct).trans (conn_sub sub c2).symm)
            · exact cut (((conn_sub sub c2).trans ct.symm).trans (conn_sub sub c1))
      refine key (T.filter fun x => decide (w r < w x)) (fun x hx => ⟨(List.mem_filter.mp hx).1, of_decide_eq_true (List.mem_filter.mp hx).2⟩) ?_
      obtain ⟨h1, h2, h3, h4⟩ := hi r hr
      refine conn_sub (fun z hz => ?_) (joined_conn hT.2 ⟨h1, h2⟩ ⟨h3, h4⟩)
      rw [List.mem_append, List.mem_filter, mem_upto, decide_eq_true_iff]
      rcases Int.lt_or_le (w r) (w z) with q | q
      · exact .inl ⟨hz, q⟩
      · exact .inr ⟨hz, q⟩
end Gr

set_option Elab.async false
set_option linter.all false
namespace Gr
/-! ### ascending tuples of so many of the first numbers, in their order -/
/-- the next one -/
def nxC (n : Nat) (c : List Nat) : Option (List Nat) :=
  let r := c.length
  match (List.range r).reverse.find? fun i => c.getD i 0 != i + n - r with
  | none => none
  | some i => some (c.take i ++ (List.range (r - i)).map (c.getD i 0 + 1 + ·))
theorem find_map_succ (p : Nat → Bool) : ∀ l : List Nat, (l.map Nat.succ).find? p = (l.find? fun i => p (i + 1)).map Nat.succ
  | [] => rfl
  | x :: l => by
    rw [List.map_cons, List.find?_cons, List.find?_cons]
    cases h : p (x + 1) with
    | true => simp [h]
    | false => simp [h, find_map_succ p l]
theorem nxC_nil (n : Nat) : nxC n [] = none := rfl
theorem nxC_cons (n a : Nat) (c : List Nat) : nxC n (a :: c) = match nxC n c with
    | some d => some (a :: d)
    | none => if a + (c.length + 1) ≠ n ∧ c.length + 1 ≤ n ∨ n < c.length + 1 ∧ a ≠ 0 then some ((List.range (c.length + 1)).map (a + 1 + ·)) else none := by
  have e : (List.range (a :: c).length).reverse = ((List.range c.length).reverse.map Nat.succ) ++ [0] := by
    rw [List.length_cons, List.range_succ_eq_map, List.reverse_cons, List.map_reverse]
  have hp : (fun i => (fun i => (a :: c).getD i 0 != i + n - (a :: c).length) (i + 1)) = fun i => c.getD i 0 != i + n - c.length := by
    funext i
    show ((a :: c).getD (i + 1) 0 != i + 1 + n - (a :: c).length) = _
    rw [List.getD_cons_succ, List.length_cons]
    congr 1
    omega
  unfold nxC
  simp only
  rw [e, List.find?_append, find_map_succ, hp]
  cases h : (List.range c.length).reverse.find? fun i => c.getD i 0 != i + n - c.length with
  | some i =>
    simp only [Option.map_some, Option.some_or, List.length_cons]
    rw [List.take_succ_cons, List.getD_cons_succ, Nat.succ_eq_add_one, Nat.add_sub_add_right]
    rfl
  | none =>
    simp only [Option.map_none, Option.none_or, List.find?_singleton, List.getD_cons_zero, List.length_cons, Nat.zero_add]
    by_cases q : a + (c.length + 1) ≠ n ∧ c.length + 1 ≤ n ∨ n < c.length + 1 ∧ a ≠ 0
    · rw [if_pos q]
      have : (a != n - (c.length + 1)) = true := by rw [bne_iff_ne]; omega
      rw [this]
      simp
    · rw [if_neg q]
      have : (a != n - (c.length + 1)) = false := by rw [bne_eq_false_iff_eq]; omega
      rw [this]
      simp
/-- all of length r with numbers from lo on, k of them -/
def tC : Nat → Nat → Nat → List (List Nat)
  | _, _, 0 => [[]]
  | 0, _, _ + 1 => []
  | k + 1, lo, r + 1 => (tC k (lo + 1) r).map (lo :: ·) ++ tC k (lo + 1) (r + 1)
theorem tC_zero (k lo : Nat) : tC k lo 0 = [[]] := by cases k <;> rfl
theorem tC_none : ∀ {k lo r : Nat}, k < r → tC k lo r = []
  | 0, _, r + 1, _ => rfl
  | k + 1, lo, r + 1, h => by
    show (tC k (lo + 1) r).map _ ++ tC k (lo + 1) (r + 1) = []
    rw [tC_none (by omega), tC_none (by omega)]
    rfl
def upto_ : Nat → Nat → List Nat
  | _, 0 => []
  | lo, r + 1 => lo :: upto_ (lo + 1) r
theorem upto_map : ∀ (r lo : Nat), upto_ lo r = (List.range r).map (lo + ·)
  | 0, _ => rfl
  | r + 1, lo => by
    rw [List.range_succ_eq_map, List.map_cons, List.map_map]
    show lo :: upto_ (lo + 1) r = _
    rw [upto_map r (lo + 1)]
    congr 1
    exact List.map_congr_left fun i _ => by simp only [Function.comp_def]; omega
theorem upto_len (lo r : Nat) : (upto_ lo r).length = r := by rw [upto_map]; simp
/-- all from one on -/
def wC (m : Nat) : List Nat → List (List Nat)
  | [] => [[]]
  | a :: c => (wC m c).map (a :: ·) ++ tC (m - (a + 1)) (a + 1) (c.length + 1)
theorem tC_first : ∀ {r k lo : Nat}, r ≤ k → tC k lo r = wC (lo + k) (upto_ lo r)
  | 0, k, lo, _ => by rw [tC_zero]; rfl
  | r + 1, k + 1, lo, h => by
    show (tC k (lo + 1) r).map _ ++ tC k (lo + 1) (r + 1) = (wC (lo + (k + 1)) (upto_ (lo + 1) r)).map _ ++ tC (lo + (k + 1) - (lo + 1)) (lo + 1) ((upto_ (lo + 1) r).length + 1)
    rw [tC_first (by omega), upto_len, show lo + 1 + k = lo + (k + 1) by omega, show lo + (k + 1) - (lo + 1) = k by omega]
/-- ascending numbers below m, from lo on -/
structure AscC (m : Nat) (c : List Nat) : Prop where
  asc : c.Pairwise (· < ·)
  lt : ∀ x ∈ c, x < m
theorem asc_room {m : Nat} : ∀ {c : List Nat} {a : Nat}, AscC m (a :: c) → a + (c.length + 1) ≤ m
  | [], a, h => by have := h.lt a List.mem_cons_self; simp only [List.length_nil]; omega
  | b :: c, a, h => by
    have h1 := (List.pairwise_cons.mp h.asc).1 b List.mem_cons_self
    have := asc_room (m := m) (c := c) (a := b) ⟨(List.pairwise_cons.mp h.asc).2, fun x hx => h.lt x (List.mem_cons_of_mem _ hx)⟩
    simp only [List.length_cons] at *
    omega
theorem asc_tail {m a : Nat} {c : List Nat} (h : AscC m (a :: c)) : AscC m c := ⟨(List.pairwise_cons.mp h.asc).2, fun x hx => h.lt x (List.mem_cons_of_mem _ hx)⟩
/-- the walk: one, and all from the next one on -/
theorem wC_step {m : Nat} : ∀ {c : List Nat}, AscC m c → wC m c = c :: (match nxC m c with | none => [] | some d => wC m d)
  | [], _ => rfl
  | a :: c, h => by
    have ih := wC_step (asc_tail h)
    have rm := asc_room h
    show (wC m c).map _ ++ tC (m - (a + 1)) (a + 1) (c.length + 1) = _
    rw [ih, nxC_cons]
    cases hn : nxC m c with
    | some d =>
      have ld : d.length = c.length := by
        unfold nxC at hn
        simp only at hn
        split at hn
        · cases hn
        · rename_i i hf
          have hi := List.mem_of_find?_eq_some hf
          rw [List.mem_reverse, List.mem_range] at hi
          cases hn
          simp
          omega
      simp only [List.map_cons, List.cons_append]
      show _ = (a :: c) :: ((wC m d).map (a :: ·) ++ tC (m - (a + 1)) (a + 1) (d.length + 1))
      rw [ld]
    | none =>
      simp only [List.map_cons, List.map_nil, List.cons_append, List.nil_append]
      by_cases q : a + (c.length + 1) = m
      · rw [if_neg (by omega), tC_none (by omega)]
      · rw [if_pos (by omega), tC_first (by omega), show a + 1 + (m - (a + 1)) = m by omega, upto_map]
/-- the next of an ascending one is ascending -/
theorem nxC_asc {m : Nat} : ∀ {c d : List Nat}, AscC m c → nxC m c = some d → AscC m d ∧ d.length = c.length ∧ ∀ a, (∀ x ∈ c, a < x) → ∀ x ∈ d, a < x
  | [], d, _, h => by cases h
  | b :: c, d, hc, h => by
    rw [nxC_cons] at h
    have rm := asc_room hc
    cases hn : nxC m c with
    | some e =>
      rw [hn] at h
      cases h
      obtain ⟨h1, h2, h3⟩ := nxC_asc (asc_tail hc) hn
      have hb := (List.pairwise_cons.mp hc.asc).1
      refine ⟨⟨List.pairwise_cons.mpr ⟨h3 b hb, h1.asc⟩, fun x hx => ?_⟩, by simp [h2], fun a ha x hx => ?_⟩
      · rcases List.mem_cons.mp hx with rfl | hx
        · exact hc.lt _ List.mem_cons_self
        · exact h1.lt x hx
      · rcases List.mem_cons.mp hx with rfl | hx
        · exact ha _ List.mem_cons_self
        · exact h3 a (fun y hy => ha y (List.mem_cons_of_mem _ hy)) x hx
    | none =>
      rw [hn] at h
      simp only at h
      split at h
      · rename_i q
        cases h
        refine ⟨⟨?_, fun x hx => ?_⟩, by simp, fun a ha x hx => ?_⟩
        · rw [List.pairwise_map]
          exact List.pairwise_lt_range.imp fun h => by omega
        · obtain ⟨i, hi, rfl⟩ := List.mem_map.mp hx
          have := List.mem_range.mp hi
          omega
        · obtain ⟨i, hi, rfl⟩ := List.mem_map.mp hx
          have := ha b List.mem_cons_self
          omega
      · cases h
theorem tC_mem : ∀ {k lo r : Nat} {c : List Nat}, c ∈ tC k lo r ↔ c.length = r ∧ c.Pairwise (· < ·) ∧ ∀ x ∈ c, lo ≤ x ∧ x < lo + k
  | k, lo, 0, c => by
    rw [tC_zero, List.mem_singleton]
    constructor
    · rintro rfl; exact ⟨rfl, List.Pairwise.nil, fun _ h => nomatch h⟩
    · intro h; exact List.length_eq_zero_iff.mp h.1
  | 0, lo, r + 1, c => by
    show c ∈ ([] : List (List Nat)) ↔ _
    constructor
    · exact fun h => nomatch h
    · rintro ⟨h1, _, h3⟩
      cases c with
      | nil => simp at h1
      | cons x c => have := h3 x List.mem_cons_self; omega
  | k + 1, lo, r + 1, c => by
    show c ∈ (tC k (lo + 1) r).map (lo :: ·) ++ tC k (lo + 1) (r + 1) ↔ _
    rw [List.mem_append, List.mem_map, tC_mem]
    constructor
    · rintro (⟨d, hd, rfl⟩ | ⟨h1, h2, h3⟩)
      · obtain ⟨h1, h2, h3⟩ := tC_mem.mp hd
        refine ⟨by simp [h1], List.pairwise_cons.mpr ⟨fun x hx => by have := (h3 x hx).1; omega, h2⟩, fun x hx => ?_⟩
        rcases List.mem_cons.mp hx with rfl | hx
        · omega
        · have := h3 x hx; omega
      · exact ⟨h1, h2, fun x hx => by have := h3 x hx; omega⟩
    · rintro ⟨h1, h2, h3⟩
      cases c with
      | nil => simp at h1
      | cons x c =>
        obtain ⟨q1, q2⟩ := List.pairwise_cons.mp h2
        by_cases e : x = lo
        · subst e
          exact .inl ⟨c, tC_mem.mpr ⟨by simpa using h1, q2, fun y hy => by have := q1 y hy; have := h3 y (List.mem_cons_of_mem _ hy); omega⟩, rfl⟩
        · refine .inr ⟨h1, h2, fun y hy => ?_⟩
          have hx := h3 x List.mem_cons_self
          rcases List.mem_cons.mp hy with rfl | hy'
          · omega
          · have := q1 y hy'; have := h3 y hy; omega
theorem tC_nodup : ∀ {k lo r : Nat}, (tC k lo r).Nodup
  | k, lo, 0 => by rw [tC_zero]; exact List.nodup_cons.mpr ⟨List.not_mem_nil, List.nodup_nil⟩
  | 0, lo, r + 1 => List.nodup_nil
  | k + 1, lo, r + 1 => by
    show ((tC k (lo + 1) r).map (lo :: ·) ++ tC k (lo + 1) (r + 1)).Nodup
    rw [List.nodup_append]
    refine ⟨?_, tC_nodup, fun a ha b hb => ?_⟩
    · have := tC_nodup (k := k) (lo := lo + 1) (r := r)
      unfold List.Nodup at *
      rw [List.pairwise_map]
      exact this.imp fun h e => h (by simpa using e)
    · obtain ⟨d, hd, rfl⟩ := List.mem_map.mp ha
      rintro rfl
      have := (tC_mem.mp hb).2.2 lo List.mem_cons_self
      omega
theorem tC_len : ∀ {k lo r : Nat}, (tC k lo r).length ≤ 2 ^ k
  | k, lo, 0 => by rw [tC_zero]; exact Nat.one_le_two_pow
  | 0, lo, r + 1 => Nat.zero_le _
  | k + 1, lo, r + 1 => by
    show ((tC k (lo + 1) r).map (lo :: ·) ++ tC k (lo + 1) (r + 1)).length ≤ _
    rw [List.length_append, List.length_map, Nat.pow_succ]
    have h1 := tC_len (k := k) (lo := lo + 1) (r := r)
    have h2 := tC_len (k := k) (lo := lo + 1) (r := r + 1)
    omega
end Gr

set_option Elab.async false
set_option linter.all false
set_option maxRecDepth 100000
set_option maxHeartbeats 2000000
/-! list(itertools.combinations(range(n), r)), at the library's level. -/
namespace Rr
namespace Cm
open PySem PySem.Spec
open Sem (wp)
theorem mroC : mroOf (.type "itertools.combinations") = pure [.type "itertools.combinations", .type "object"] := by rw [mroOf_type]; kernel_rfl
theorem newC : typeLookup (.type "itertools.combinations") "__new__" = pure (some (.builtin "itertools.combinations.__new__")) := by rw [typeLookup_type, builtinLookup_eq_fast]; kernel_rfl
theorem initC : Slot "itertools.combinations" "__init__" "object.__init__" :=
  .of (owner := "object") (n := "__init__") (by rw [typeLookup_type, builtinLookup_eq_fast]; kernel_rfl) (by decide +kernel) (by decide +kernel) (by decide +kernel)
    (by first | exact .inl (by decide +kernel) | exact .inr (by decide +kernel)) (by rw [isSubtype_type]; kernel_rfl)
theorem subC : isSubtype (.type "itertools.combinations") (.type "itertools.combinations") = pure true := by rw [isSubtype_type]; kernel_rfl
theorem calledC : TypeCalled "itertools.combinations" "itertools.combinations.__new__" "object.__init__" :=
  ⟨by decide +kernel, by decide +kernel, ⟨_, _, mroC⟩, madeBy_type mroC newC (by decide +kernel), by decide +kernel, subC, initC⟩
theorem tcallC (a b : Value) : checkTypeCall "itertools.combinations" ⟨[a, b], []⟩ = pure () := by kernel_rfl
theorem ncallC (a b : Value) : checkBuiltinCall "itertools.combinations.__new__" ⟨[.type "itertools.combinations", a, b], []⟩ = pure () := by kernel_rfl
theorem entryC : entryFor table "itertools.combinations.__new__" = some Builtin.«itertools.combinations.__new__» := entryFor_of_tree (by kernel_rfl)
theorem plainC : plainId "itertools.combinations.__new__" = true := by decide +kernel
theorem iterC : Slot "itertools.combinations" "__iter__" "itertools.combinations.__iter__" :=
  .of (owner := "itertools.combinations") (n := "__iter__") (by rw [typeLookup_type, builtinLookup_eq_fast]; kernel_rfl) (by decide +kernel) (by decide +kernel) (by decide +kernel)
    (by first | exact .inl (by decide +kernel) | exact .inr (by decide +kernel)) subC
theorem nextC : Slot "itertools.combinations" "__next__" "itertools.combinations.__next__" :=
  .of (owner := "itertools.combinations") (n := "__next__") (by rw [typeLookup_type, builtinLookup_eq_fast]; kernel_rfl) (by decide +kernel) (by decide +kernel) (by decide +kernel)
    (by first | exact .inl (by decide +kernel) | exact .inr (by decide +kernel)) subC
theorem entryI : entryFor table "itertools.combinations.__iter__" = some Builtin.«dict_keyiterator.__iter__» :=
  entryFor_alias (id' := "dict_keyiterator.__iter__") (by kernel_rfl) (by first | rfl | decide +kernel | (unfold String.splitOn; simp +decide [String.splitOnAux])) (by decide +kernel) (by kernel_rfl)
theorem entryN : entryFor table "itertools.combinations.__next__" = some Builtin.«itertools.combinations.__next__» := entryFor_of_tree (by kernel_rfl)
theorem noDict : typeHasDict (.type "itertools.combinations") = false := by decide +kernel
theorem noLen : typeLookup (.type "itertools.combinations") "__len__" = pure none := by rw [typeLookup_type, builtinLookup_eq_fast]; kernel_rfl
theorem noHint : typeLookup (.type "itertools.combinations") "__length_hint__" = pure none := by rw [typeLookup_type, builtinLookup_eq_fast]; kernel_rfl
theorem argsN (a : Value) : argsOk "itertools.combinations.__next__" ⟨[a], []⟩ := by
  unfold argsOk; kernel_rfl
theorem argsI (a : Value) : argsOk "itertools.combinations.__iter__" ⟨[a], []⟩ := by
  unfold argsOk; kernel_rfl
end Cm
end Rr

set_option Elab.async false
set_option linter.all false
set_option maxRecDepth 100000
set_option maxHeartbeats 4000000
namespace Rr
namespace Cm
open PySem PySem.Spec L2
open Sem (wp)
section
variable {prog : Program} {w : World} {A : Around} {E : Value → Shared → Prop} {s : Shared} {r : Addr} {a b c : Int} {t u v : Tok} {n : Nat}
/-- what a walk holds: the pool, how far it is, what it handed out last, the places -/
def recC (pool : Addr) (st : Int) (last : Value) (is : List Nat) : Obj := { cls := .type "itertools.combinations", dict := none, data := .fields (([.ref pool, rawInt st, last] ++ is.map fun (i : Nat) => rawInt i).toArray), slots := #[] }
theorem code_new {Q₁ : Value → Shared → Prop} {k : Int} {tk0 : Tok} (hh : A.handled = none) (hr : IsRange s.heap r a b c t u v) (hsmall : Builtin.Range.small a b c = true) (hn : Builtin.Range.rangeSize a b c = n) (hlen : n ≤ 2 ^ 10) (h0 : 0 ≤ k) (h1 : k ≤ 1000) (hk : k.toNat ≤ n)
    (h : ∀ (h' : Heap) (tk : Nat) (acc : Array Value), (∀ b o, s.heap.get? b = some o → h'.get? b = some o) → ItemsOf (fun i v => ∃ t, v = .int (a + i * c) t) acc n →
      Q₁ (.ref (h'.objs.size + 1)) { s with heap := (h'.push { cls := .type "tuple", data := .seq acc }).push (recC h'.objs.size 0 .none (List.range k.toNat)), toks := tk }) :
    codeAny (model prog w) A (.call (.builtin "itertools.combinations.__new__") ⟨[.type "itertools.combinations", .ref r, .int k tk0], []⟩) (wants Q₁ E) s := by
  refine codeAny_of_tree ?_
  show wpAny _ A.in1 (do checkBuiltinCall "itertools.combinations.__new__" ⟨[.type "itertools.combinations", .ref r, .int k tk0], []⟩; again (.builtin "itertools.combinations.__new__" ⟨[.type "itertools.combinations", .ref r, .int k tk0], []⟩)) _ _ s
  refine wpAny_bind (wpAny_of_eq (ncallC _ _) (wpAny_pure ⟨plainId_quiet plainC _, codeAny_builtin entryC ?_⟩))
  rw [Around.under_plainId plainC _]
  have hsub := subC
  have hd := noDict
  have hTI : s.TypeIs (.ref r) "range" := ⟨_, hr, rfl⟩
  have hh1 : A.in1.handled = none := hh
  have hn2 : ¬ ((k < -(2 ^ 63 : Int) || k ≥ 2 ^ 63) = true) := by simp; omega
  have hs2 : ("itertools." ++ "combinations" : String) = "itertools.combinations" := by decide
  wp_walk using wpAny_typeOf hTI, collect_range (A := A.in1) hh1 hr hsmall hn (by omega)
  rw [hs2]
  refine wpAny_of_eq subC ?_
  wp_walk using wpAny_typeOf hTI, collect_range (A := A.in1) hh1 hr hsmall hn (by omega)
  rw [if_neg hn2]
  refine wpAny_pure ?_
  refine wpAny_bind (collect_range (A := A.in1) hh1 hr hsmall hn (by omega) fun h' tk acc hkeep hacc => ?_)
  have t1 : ¬ (k < 0) := by omega
  have t2 : Builtin.Itertools.itTooMany k = false := by unfold Builtin.Itertools.itTooMany; simp; omega
  rw [if_neg t1, t2, if_neg Bool.false_ne_true]
  show wpAny _ _ (newTuple acc.toList >>= _) _ _ _
  refine wpAny_bind ?_
  unfold newTuple
  refine wpAny_newObj_type ?_ (by show acc.toList.toArray.size ≤ sizeLine; simp only [Array.toArray_toList]; rw [hacc.1, sizeLine_eq]; omega)
  refine wpAny_pure ?_
  show wpAny _ _ (Builtin.Itertools.itNewRecord (.type "itertools.combinations") ([.ref h'.objs.size, rawInt (if k.toNat > acc.toList.length then 2 else 0), .none] ++ (List.range k.toNat).map fun (i : Nat) => rawInt i) >>= fun v => ret v) _ _ _
  have hlen2 : acc.toList.length = n := by rw [Array.length_toList]; exact hacc.1
  rw [hlen2, if_neg (by omega)]
  refine wpAny_bind ?_
  unfold Builtin.Itertools.itNewRecord
  rw [noDict]
  simp only [Bool.not_false, if_true]
  refine wpAny_newObj_type ?_ (by
    show Array.size _ ≤ _
    rw [List.size_toArray, List.length_append, List.length_map, List.length_range, sizeLine_eq]
    simp only [List.length_cons, List.length_nil]
    omega)
  refine wpAny_pure ?_
  have e : acc.toList.toArray = acc := by simp
  rw [e]
  have hsz : (h'.push { cls := .type "tuple", data := .seq acc }).objs.size = h'.objs.size + 1 := by
    exact PyProof.Rows.size_push' h' _
  rw [hsz]
  exact h h' tk acc hkeep hacc
theorem call_new {Q : Value → Shared → Prop} {k : Int} {tk0 : Tok} (hh : A.handled = none) (hr : IsRange s.heap r a b c t u v) (hsmall : Builtin.Range.small a b c = true) (hn : Builtin.Range.rangeSize a b c = n) (hlen : n ≤ 2 ^ 10) (h0 : 0 ≤ k) (h1 : k ≤ 1000) (hk : k.toNat ≤ n)
    (h : ∀ (h' : Heap) (tk : Nat) (acc : Array Value), (∀ b o, s.heap.get? b = some o → h'.get? b = some o) → ItemsOf (fun i v => ∃ t, v = .int (a + i * c) t) acc n →
      Q (.ref (h'.objs.size + 1)) { s with heap := (h'.push { cls := .type "tuple", data := .seq acc }).push (recC h'.objs.size 0 .none (List.range k.toNat)), toks := tk }) :
    wpAny (model prog w) A (call (.type "itertools.combinations") [.ref r, .int k tk0]) Q E s := by
  refine callType_codes (Q₁ := fun obj s₁ => s₁.TypeIs obj "itertools.combinations" ∧ Q obj s₁) calledC (tcallC _ _) F.entry_object_init
    (code_new (A := A.in1) hh hr hsmall hn hlen h0 h1 hk fun h' tk acc hkeep hacc => ⟨⟨recC h'.objs.size 0 .none (List.range k.toNat), ?_, rfl⟩, h h' tk acc hkeep hacc⟩) fun obj s₁ h₁ => ?_
  · have hsz : (h'.push { cls := .type "tuple", data := .seq acc }).objs.size = h'.objs.size + 1 := PyProof.Rows.size_push' h' _
    have := Heap.get?_push_size (h'.push { cls := .type "tuple", data := .seq acc }) (o := recC h'.objs.size 0 .none (List.range k.toNat)) rfl
    rw [hsz] at this
    exact this
  · exact ⟨h₁.1, F.args_object_init_3 obj _ _, object_init_meets calledC.init.lookup calledC.made (by decide) prog w A.in1 _ s₁ ⟨h₁.1, rfl, h₁.2⟩⟩
def tupO (xs : List Value) : Obj := { cls := .type "tuple", dict := none, data := .seq xs.toArray 0, slots := #[] }
def pick_ (items : Array Value) (is : List Nat) : List Value := is.map fun i => items.getD i .none
theorem nums_ev {it pool : Addr} {st : Int} {last : Value} {is : List Nat} {Q : List Nat → Shared → Prop} (hit : s.heap.get? it = some (recC pool st last is)) (h : Q is s) : wpAny (model prog w) A (Builtin.Itertools.itNumbersFrom (.ref it) 3) Q E s := by
  unfold Builtin.Itertools.itNumbersFrom
  refine wpAny_bind (wpAny_load hit ?_)
  refine wpAny_pure ?_
  refine (congrArg (fun l => Q l s) (?_ : _ = is)).mpr h
  show ((([Value.ref pool, rawInt st, last] ++ is.map fun (i : Nat) => rawInt i).toArray.toList).drop 3).map _ = is
  simp only [List.cons_append, List.nil_append, List.drop_succ_cons, List.drop_zero, List.map_map]
  exact (List.map_congr_left fun i _ => by simp [rawInt]).trans (List.map_id _)
/-- what is handed out, laid down -/
theorem hand_ev {it pool : Addr} {last : Value} {is is2 : List Nat} {items : Array Value} {Q : Fin → Shared → Prop} (hit : s.heap.get? it = some (recC pool 1 last is)) (hp : s.heap.get? pool = some { cls := .type "tuple", data := .seq items }) (hl : is2.length ≤ 1000)
    (hQ : ∀ h', h'.get? it = some (recC pool 1 (.ref s.heap.objs.size) is) → h'.get? s.heap.objs.size = some (tupO (pick_ items is2)) → (∀ b o, b ≠ it → s.heap.get? b = some o → h'.get? b = some o) → h'.objs.size = s.heap.objs.size + 1 → Q (.done (.ret (.ref s.heap.objs.size))) { s with heap := h' }) :
    wpAny (model prog w) A (((Builtin.Itertools.itPoolItems (.ref pool) >>= fun items => newTuple (is2.map fun i => items.getD i .none)) >>= fun result => field (.ref it) 2 >>= fun before => setField (.ref it) 2 result >>= fun _ => letGo [before] [result] >>= fun _ => ret result) : Sem Fin) Q E s := by
  refine wpAny_bind (wpAny_bind ?_)
  unfold Builtin.Itertools.itPoolItems
  refine wpAny_bind (wpAny_seqItems hp rfl ?_)
  refine wpAny_pure ?_
  unfold newTuple
  refine wpAny_newObj_type ?_ (by
    show Array.size _ ≤ _
    rw [List.size_toArray, List.length_map, sizeLine_eq]
    omega)
  have hlt : it < s.heap.objs.size := Heap.lt_size hit
  have h1 : (s.heap.push { cls := .type "tuple", data := .seq (is2.map fun i => items.getD i .none).toArray }).get? it = some (recC pool 1 last is) := Heap.get?_push_of_some _ hit
  refine wpAny_bind (wpAny_field h1 rfl (x := last) rfl ?_)
  refine wpAny_bind (wpAny_setField h1 rfl (by simp) ?_)
  refine wpAny_bind (wpAny_letGo ?_)
  refine wpAny_pure (hQ _ ?_ ?_ (fun b o hb e => ?_) ?_)
  · exact Heap.get?_update_self _ h1 rfl
  · exact (Heap.get?_update_other _ _ (Nat.ne_of_lt hlt)).trans (Heap.get?_push_size _ rfl)
  · exact (Heap.get?_update_other _ _ (Ne.symm hb)).trans (Heap.get?_push_of_some _ e)
  · rw [Heap.size_update]
    exact PyProof.Rows.size_push' _ _
theorem next0 {it pool : Addr} {last : Value} {is : List Nat} {items : Array Value} {Q : Option Value → Shared → Prop} (hit : s.heap.get? it = some (recC pool 0 last is)) (hp : s.heap.get? pool = some { cls := .type "tuple", data := .seq items }) (hne : it ≠ pool) (hl : is.length ≤ 1000)
    (hQ : ∀ h', h'.get? it = some (recC pool 1 (.ref s.heap.objs.size) is) → h'.get? s.heap.objs.size = some (tupO (pick_ items is)) → (∀ b o, b ≠ it → s.heap.get? b = some o → h'.get? b = some o) → h'.objs.size = s.heap.objs.size + 1 → Q (some (.ref s.heap.objs.size)) { s with heap := h' }) :
    wpAny (model prog w) A (pyNext (.ref it)) Q E s := by
  have hT : s.TypeIs (.ref it) "itertools.combinations" := ⟨_, hit, rfl⟩
  unfold pyNext
  refine wpAny_bind (wpAny_attempt (wpAny_callSpecial?_slot (name := Str.ofString "__next__") hT nextC (wpAny_call_entry nextC hT entryN ?_ (argsN _))))
  show wpAny _ _ (field (.ref it) 0 >>= _) _ _ s
  refine wpAny_bind (wpAny_field hit rfl (x := .ref pool) rfl ?_)
  show wpAny _ _ (Builtin.Itertools.itNumbersFrom (.ref it) 3 >>= _) _ _ s
  refine wpAny_bind (nums_ev hit ?_)
  show wpAny _ _ ((field (.ref it) 1 >>= _) >>= _) _ _ s
  refine wpAny_bind (wpAny_bind (wpAny_field hit rfl (x := rawInt 0) rfl (wpAny_pure ?_)))
  show wpAny _ _ (setField (.ref it) 1 (rawInt 1) >>= _) _ _ s
  refine wpAny_bind (wpAny_setField hit rfl (by simp) ?_)
  have h1 : (s.heap.update it (Obj.mapFields (·.setIfInBounds 1 (rawInt 1)))).get? it = some (recC pool 1 last is) := Heap.get?_update_self _ hit rfl
  have h2 : (s.heap.update it (Obj.mapFields (·.setIfInBounds 1 (rawInt 1)))).get? pool = some { cls := .type "tuple", data := .seq items } := (Heap.get?_update_other _ _ hne).trans hp
  have hs : (s.heap.update it (Obj.mapFields (·.setIfInBounds 1 (rawInt 1)))).objs.size = s.heap.objs.size := Heap.size_update ..
  refine hand_ev (s := { s with heap := s.heap.update it (Obj.mapFields (·.setIfInBounds 1 (rawInt 1))) }) h1 h2 hl fun h' q1 q2 q3 q4 => ?_
  simp only [hs] at q1 q2 q4
  refine ⟨_, rfl, wpAny_pure ?_⟩
  simp only [hs]
  exact hQ h' q1 q2 (fun b o hb e => q3 b o hb ((Heap.get?_update_other _ _ (Ne.symm hb)).trans e)) q4
theorem next1 {it pool : Addr} {last : Value} {is is2 : List Nat} {items : Array Value} {Q : Option Value → Shared → Prop} (hit : s.heap.get? it = some (recC pool 1 last is)) (hp : s.heap.get? pool = some { cls := .type "tuple", data := .seq items }) (hne : it ≠ pool) (hl : is.length ≤ 1000) (hn : Gr.nxC items.size is = some is2) (hl2 : is2.length = is.length)
    (hQ : ∀ h', h'.get? it = some (recC pool 1 (.ref s.heap.objs.size) is2) → h'.get? s.heap.objs.size = some (tupO (pick_ items is2)) → (∀ b o, b ≠ it → s.heap.get? b = some o → h'.get? b = some o) → h'.objs.size = s.heap.objs.size + 1 → Q (some (.ref s.heap.objs.size)) { s with heap := h' }) :
    wpAny (model prog w) A (pyNext (.ref it)) Q E s := by
  have hT : s.TypeIs (.ref it) "itertools.combinations" := ⟨_, hit, rfl⟩
  unfold pyNext
  refine wpAny_bind (wpAny_attempt (wpAny_callSpecial?_slot (name := Str.ofString "__next__") hT nextC (wpAny_call_entry nextC hT entryN ?_ (argsN _))))
  show wpAny _ _ (field (.ref it) 0 >>= _) _ _ s
  refine wpAny_bind (wpAny_field hit rfl (x := .ref pool) rfl ?_)
  show wpAny _ _ (Builtin.Itertools.itNumbersFrom (.ref it) 3 >>= _) _ _ s
  refine wpAny_bind (nums_ev hit ?_)
  show wpAny _ _ ((field (.ref it) 1 >>= _) >>= _) _ _ s
  refine wpAny_bind (wpAny_bind (wpAny_field hit rfl (x := rawInt 1) rfl (wpAny_pure ?_)))
  show wpAny _ _ (Builtin.Itertools.itPoolItems (.ref pool) >>= _) _ _ s
  refine wpAny_bind ?_
  unfold Builtin.Itertools.itPoolItems
  refine wpAny_bind (wpAny_seqItems hp rfl ?_)
  refine wpAny_pure ?_
  split
  · rename_i nx heq
    have heq : Gr.nxC items.size is = some nx := heq
    rw [hn] at heq
    cases heq
    unfold Builtin.Itertools.itSetNumbersFrom
    refine wpAny_bind (wpAny_updateFields hit rfl ?_ (by
      simp only [Array.size_append, Array.size_extract, List.size_toArray, List.length_map]
      rw [sizeLine_eq]
      omega))
    have h1 : (s.heap.update it (Obj.mapFields fun fs => fs.extract 0 3 ++ (is2.map fun (n : Nat) => rawInt n).toArray)).get? it = some (recC pool 1 last is2) := by
      refine (Heap.get?_update_self _ hit rfl).trans ?_
      unfold recC
      congr 2
      simp [Obj.mapFields]
    have h2 : (s.heap.update it (Obj.mapFields fun fs => fs.extract 0 3 ++ (is2.map fun (n : Nat) => rawInt n).toArray)).get? pool = some { cls := .type "tuple", data := .seq items } := (Heap.get?_update_other _ _ hne).trans hp
    have hs : (s.heap.update it (Obj.mapFields fun fs => fs.extract 0 3 ++ (is2.map fun (n : Nat) => rawInt n).toArray)).objs.size = s.heap.objs.size := Heap.size_update ..
    refine hand_ev (s := { s with heap := s.heap.update it (Obj.mapFields fun fs => fs.extract 0 3 ++ (is2.map fun (n : Nat) => rawInt n).toArray) }) h1 h2 (by omega) fun h' q1 q2 q3 q4 => ?_
    simp only [hs] at q1 q2 q4
    refine ⟨_, rfl, wpAny_pure ?_⟩
    simp only [hs]
    exact hQ h' q1 q2 (fun b o hb e => q3 b o hb ((Heap.get?_update_other _ _ (Ne.symm hb)).trans e)) q4
  · rename_i heq
    have heq : Gr.nxC items.size is = none := heq
    rw [hn] at heq
    cases heq
theorem next_end {it pool : Addr} {last : Value} {is : List Nat} {items : Array Value} {Q : Option Value → Shared → Prop} (hh : A.handled = none) (hit : s.heap.get? it = some (recC pool 1 last is)) (hp : s.heap.get? pool = some { cls := .type "tuple", data := .seq items }) (hn : Gr.nxC items.size is = none)
    (hQ : ∀ h', (∀ b o, b ≠ it → s.heap.get? b = some o → h'.get? b = some o) → Q none { s with heap := h' }) :
    wpAny (model prog w) A (pyNext (.ref it)) Q E s := by
  have hT : s.TypeIs (.ref it) "itertools.combinations" := ⟨_, hit, rfl⟩
  unfold pyNext
  refine wpAny_bind (wpAny_attempt (wpAny_callSpecial?_slot (name := Str.ofString "__next__") hT nextC (wpAny_call_entry nextC hT entryN ?_ (argsN _))))
  show wpAny _ _ (field (.ref it) 0 >>= _) _ _ s
  refine wpAny_bind (wpAny_field hit rfl (x := .ref pool) rfl ?_)
  show wpAny _ _ (Builtin.Itertools.itNumbersFrom (.ref it) 3 >>= _) _ _ s
  refine wpAny_bind (nums_ev hit ?_)
  show wpAny _ _ ((field (.ref it) 1 >>= _) >>= _) _ _ s
  refine wpAny_bind (wpAny_bind (wpAny_field hit rfl (x := rawInt 1) rfl (wpAny_pure ?_)))
  show wpAny _ _ (Builtin.Itertools.itPoolItems (.ref pool) >>= _) _ _ s
  refine wpAny_bind ?_
  unfold Builtin.Itertools.itPoolItems
  refine wpAny_bind (wpAny_seqItems hp rfl ?_)
  refine wpAny_pure ?_
  split
  · rename_i nx heq
    have heq : Gr.nxC items.size is = some nx := heq
    rw [hn] at heq
    cases heq
  · refine wpAny_bind (wpAny_setField hit rfl (by simp) ?_)
    show wpAny _ _ (newExc (.type "StopIteration") [] >>= _) _ _ _
    refine wpAny_bind ?_
    simp only [newExc, newTuple]
    refine wpAny_bind (wpAny_newObj_type ?_ (by size_fits))
    refine wpAny_bind (m := firstArgMember _ _) (wpAny_of_eq (a := Value.none) (by first | rfl | (simp only [firstArgMember]; rfl)) ?_)
    refine wpAny_newObj_type ?_ (by size_fits)
    simp only [raiseNew]
    refine wpAny_bind (wpAny_handled ?_)
    rw [show A.in1.handled = none from hh]
    refine wpAny_bind (wpAny_pure (wpAny_throw ?_))
    refine wpAny_bind (wpAny_isInstance (T := "StopIteration") (b := true) ⟨_, Heap.get?_push_size _ rfl, rfl⟩ isSubtype_stop ?_)
    exact wpAny_pure (hQ _ fun b o hb e => Heap.get?_push_of_some _ (Heap.get?_push_of_some _ ((Heap.get?_update_other _ _ (Ne.symm hb)).trans e)))
end
end Cm
end Rr

set_option Elab.async false
set_option linter.all false
set_option maxRecDepth 100000
set_option maxHeartbeats 4000000
namespace Rr
namespace Cm
open PySem PySem.Spec L2
open Sem (wp)
section
variable {prog : Program} {w : World} {A : Around} {E : Value → Shared → Prop} {s0 : Shared} {H0 : Heap} {I S pool : Addr} {items : Array Value} {sz : Nat}
/-- the tuples that were handed out -/
def TupAll (items : Array Value) (I S : Addr) (sz : Nat) (h : Heap) : List Value → List (List Nat) → Prop
  | [], [] => True
  | v :: vs, d :: ds => (∃ a, v = .ref a ∧ h.get? a = some (tupO (pick_ items d)) ∧ a ≠ I ∧ a ≠ S ∧ sz ≤ a) ∧ TupAll items I S sz h vs ds
  | _, _ => False
theorem TupAll.mono {h h' : Heap} (k : ∀ b o, b ≠ I → b ≠ S → h.get? b = some o → h'.get? b = some o) : ∀ {vs : List Value} {ds : List (List Nat)}, TupAll items I S sz h vs ds → TupAll items I S sz h' vs ds
  | [], [], _ => trivial
  | v :: vs, d :: ds, ⟨⟨a, e, g, n1, n2, n3⟩, r⟩ => ⟨⟨a, e, k a _ n1 n2 g, n1, n2, n3⟩, TupAll.mono k r⟩
  | [], _ :: _, h => h.elim
  | _ :: _, [], h => h.elim
theorem TupAll.snoc {h : Heap} {v : Value} {d : List Nat} (q : ∃ a, v = .ref a ∧ h.get? a = some (tupO (pick_ items d)) ∧ a ≠ I ∧ a ≠ S ∧ sz ≤ a) : ∀ {vs : List Value} {ds : List (List Nat)}, TupAll items I S sz h vs ds → TupAll items I S sz h (vs ++ [v]) (ds ++ [d])
  | [], [], _ => ⟨q, trivial⟩
  | _ :: _, _ :: _, ⟨e, r⟩ => ⟨e, TupAll.snoc q r⟩
  | [], _ :: _, h => h.elim
  | _ :: _, [], h => h.elim
theorem TupAll.length {h : Heap} : ∀ {vs : List Value} {ds : List (List Nat)}, TupAll items I S sz h vs ds → vs.length = ds.length
  | [], [], _ => rfl
  | _ :: _, _ :: _, ⟨_, r⟩ => by simp [TupAll.length r]
  | [], _ :: _, h => h.elim
  | _ :: _, [], h => h.elim
structure Lp (H0 : Heap) (I S pool : Addr) (items : Array Value) (sz : Nat) (h : Heap) (st : Int) (last : Value) (is : List Nat) (acc : Array Value) (c : Nat) (ds : List (List Nat)) : Prop where
  keep : ∀ b o, H0.get? b = some o → h.get? b = some o
  nI : H0.get? I = none
  nS : H0.get? S = none
  iS : I ≠ S
  ip : I ≠ pool
  sp : S ≠ pool
  it : h.get? I = some (recC pool st last is)
  pl : h.get? pool = some { cls := .type "tuple", data := .seq items }
  ls : h.get? S = some { cls := .type "list", dict := none, data := .seq acc c, slots := #[] }
  tu : TupAll items I S sz h acc.toList ds
  le : sz ≤ h.objs.size
def restC (m : Nat) (c : List Nat) : List (List Nat) := match Gr.nxC m c with | none => [] | some d => Gr.wC m d
/-- one more is handed out and laid down -/
theorem Lp.push {h h' : Heap} {st : Int} {last last2 : Value} {is is2 d : List Nat} {acc : Array Value} {c : Nat} {ds : List (List Nat)} {a : Addr} (L : Lp H0 I S pool items sz h st last is acc c ds) (q1 : h'.get? I = some (recC pool 1 last2 is2)) (q2 : h'.get? a = some (tupO (pick_ items d))) (q3 : ∀ b o, b ≠ I → h.get? b = some o → h'.get? b = some o) (aI : a ≠ I) (aS : a ≠ S) (aa : sz ≤ a) (hle : h.objs.size ≤ h'.objs.size) :
    ∃ c', Lp H0 I S pool items sz (h'.update S (Obj.mapSeq (·.push (.ref a)))) 1 last2 is2 (acc.push (.ref a)) c' (ds ++ [d]) := by
  have hS := q3 S _ (Ne.symm L.iS) L.ls
  obtain ⟨c', hc⟩ : ∃ c', (h'.update S (Obj.mapSeq (·.push (.ref a)))).get? S = some { cls := .type "list", dict := none, data := .seq (acc.push (.ref a)) c', slots := #[] } := ⟨_, Heap.get?_update_self _ hS rfl⟩
  have oth : ∀ b o, b ≠ S → h'.get? b = some o → (h'.update S (Obj.mapSeq (·.push (.ref a)))).get? b = some o := fun b o hb e => (Heap.get?_update_other _ _ (Ne.symm hb)).trans e
  refine ⟨c', ⟨fun b o e => ?_, L.nI, L.nS, L.iS, L.ip, L.sp, oth I _ L.iS q1, oth pool _ (Ne.symm L.sp) (q3 pool _ (Ne.symm L.ip) L.pl), hc, ?_, by rw [Heap.size_update]; exact Nat.le_trans L.le hle⟩⟩
  · have bI : b ≠ I := fun z => by rw [z, L.nI] at e; cases e
    have bS : b ≠ S := fun z => by rw [z, L.nS] at e; cases e
    exact oth b o bS (q3 b o bI (L.keep b o e))
  · rw [Array.toList_push]
    exact TupAll.snoc ⟨a, rfl, oth a _ aS q2, aI, aS, aa⟩ (L.tu.mono fun b o n1 n2 e => oth b o n2 (q3 b o n1 e))
theorem ext_loop {R : Result → Shared → Prop} {res : Value} (hh : A.handled = none) : ∀ (ys : List (List Nat)) (h : Heap) (last : Value) (is : List Nat) (acc : Array Value) (c : Nat) (ds : List (List Nat)), Lp H0 I S pool items sz h 1 last is acc c ds → Gr.AscC items.size is → is.length ≤ 1000 → restC items.size is = ys → acc.size + ys.length ≤ 2 ^ 20 →
    (∀ h' acc' c', (∀ b o, H0.get? b = some o → h'.get? b = some o) → h'.get? S = some { cls := .type "list", dict := none, data := .seq acc' c', slots := #[] } → TupAll items I S sz h' acc'.toList (ds ++ ys) → R (.ok (.ret res)) { s0 with heap := h' }) →
    codeAny (model prog w) A (.builtin "list.extend.loop" ⟨[.ref S, .ref I, res], []⟩) R { s0 with heap := h } := fun ys => by
  induction ys with
  | nil =>
    intro h last is acc c ds L asc hl hy hz hR
    have hn : Gr.nxC items.size is = none := by
      unfold restC at hy
      cases hn : Gr.nxC items.size is with
      | none => rfl
      | some d =>
        rw [hn] at hy
        simp only at hy
        rw [Gr.wC_step (Gr.nxC_asc asc hn).1] at hy
        cases hy
    refine codeAny_builtin F.entry_extend_loop ?_
    rw [Around.under_plainId F.plain_extend_loop _]
    show wpAny _ A.in1 (pyNext (.ref I) >>= _) _ _ _
    refine wpAny_bind (next_end (A := A.in1) hh L.it L.pl hn fun h' q => ?_)
    refine wpAny_pure ?_
    refine hR h' acc c (fun b o e => q b o (fun z => by rw [z, L.nI] at e; cases e) (L.keep b o e)) (q S _ (Ne.symm L.iS) L.ls) ?_
    rw [List.append_nil]
    exact L.tu.mono fun b o n1 _ e => q b o n1 e
  | cons d ys ih =>
    intro h last is acc c ds L asc hl hy hz hR
    have hn : Gr.nxC items.size is = some d ∧ restC items.size d = ys := by
      unfold restC at hy
      cases hn : Gr.nxC items.size is with
      | none => rw [hn] at hy; cases hy
      | some e =>
        rw [hn] at hy
        simp only at hy
        rw [Gr.wC_step (Gr.nxC_asc asc hn).1] at hy
        injection hy with y1 y2
        subst y1
        exact ⟨rfl, y2⟩
    obtain ⟨asc2, l2, _⟩ := Gr.nxC_asc asc hn.1
    rw [List.length_cons] at hz
    have hS : S < h.objs.size := Heap.lt_size L.ls
    have hI : I < h.objs.size := Heap.lt_size L.it
    refine codeAny_builtin F.entry_extend_loop ?_
    rw [Around.under_plainId F.plain_extend_loop _]
    show wpAny _ A.in1 (pyNext (.ref I) >>= _) _ _ _
    refine wpAny_bind (next1 (A := A.in1) L.it L.pl L.ip hl hn.1 l2 fun h' q1 q2 q3 q4 => ?_)
    simp only at q1 q2 q3 q4
    have hS' := q3 S _ (Ne.symm L.iS) L.ls
    show wpAny _ A.in1 (updateSeq S (·.push (.ref h.objs.size)) >>= _) _ _ _
    obtain ⟨c', L'⟩ := L.push (d := d) q1 q2 q3 (Nat.ne_of_gt hI) (Nat.ne_of_gt hS) L.le (by rw [q4]; exact Nat.le_succ _)
    refine wpAny_bind ?_
    refine wpAny_updateSeq hS' rfl (wpAny_pure ⟨plainId_quiet F.plain_extend_loop _, ?_⟩) (by rw [sizeLine_eq]; omega) (by show (acc.push _).size ≤ sizeLine + 1; rw [Array.size_push, sizeLine_eq]; omega)
    refine ih _ _ d (acc.push (.ref h.objs.size)) c' (ds ++ [d]) L' asc2 (by omega) hn.2 (by rw [Array.size_push]; omega) fun h2 acc2 c2 k1 k2 k3 => ?_
    refine hR h2 acc2 c2 k1 k2 ?_
    rw [List.append_assoc] at k3
    exact k3
/-- the first turn -/
theorem ext_first {R : Result → Shared → Prop} {res : Value} (hh : A.handled = none) {h : Heap} {last : Value} {is : List Nat} {c : Nat} (L : Lp H0 I S pool items sz h 0 last is #[] c []) (asc : Gr.AscC items.size is) (hl : is.length ≤ 1000) (hz : (Gr.wC items.size is).length ≤ 2 ^ 20)
    (hR : ∀ h' acc' c', (∀ b o, H0.get? b = some o → h'.get? b = some o) → h'.get? S = some { cls := .type "list", dict := none, data := .seq acc' c', slots := #[] } → TupAll items I S sz h' acc'.toList (Gr.wC items.size is) → R (.ok (.ret res)) { s0 with heap := h' }) :
    codeAny (model prog w) A (.builtin "list.extend.loop" ⟨[.ref S, .ref I, res], []⟩) R { s0 with heap := h } := by
  have ws := Gr.wC_step asc
  have hS : S < h.objs.size := Heap.lt_size L.ls
  have hI : I < h.objs.size := Heap.lt_size L.it
  have hz : (restC items.size is).length + 1 ≤ 2 ^ 20 := by rw [ws, List.length_cons] at hz; exact hz
  refine codeAny_builtin F.entry_extend_loop ?_
  rw [Around.under_plainId F.plain_extend_loop _]
  show wpAny _ A.in1 (pyNext (.ref I) >>= _) _ _ _
  refine wpAny_bind (next0 (A := A.in1) L.it L.pl L.ip hl fun h' q1 q2 q3 q4 => ?_)
  simp only at q1 q2 q3 q4
  have hS' := q3 S _ (Ne.symm L.iS) L.ls
  show wpAny _ A.in1 (updateSeq S (·.push (.ref h.objs.size)) >>= _) _ _ _
  obtain ⟨c', L'⟩ := L.push (d := is) q1 q2 q3 (Nat.ne_of_gt hI) (Nat.ne_of_gt hS) L.le (by rw [q4]; exact Nat.le_succ _)
  refine wpAny_bind ?_
  refine wpAny_updateSeq hS' rfl (wpAny_pure ⟨plainId_quiet F.plain_extend_loop _, ?_⟩) (by rw [sizeLine_eq]; simp) (by show (Array.push _ _).size ≤ sizeLine + 1; rw [Array.size_push, sizeLine_eq]; simp)
  refine ext_loop hh (restC items.size is) _ _ is _ c' [is] L' asc hl rfl (by rw [Array.size_push]; simp only [Array.size_empty]; omega) fun h2 acc2 c2 k1 k2 k3 => ?_
  refine hR h2 acc2 c2 k1 k2 ?_
  rw [ws]
  exact k3
theorem list_ext {R : Result → Shared → Prop} (hh : A.handled = none) {h : Heap} {last : Value} {is : List Nat} {c : Nat} {res : Value} (L : Lp H0 I S pool items sz h 0 last is #[] c []) (asc : Gr.AscC items.size is) (hl : is.length ≤ 1000) (hz : (Gr.wC items.size is).length ≤ 2 ^ 20)
    (hR : ∀ h' acc' c', (∀ b o, H0.get? b = some o → h'.get? b = some o) → h'.get? S = some { cls := .type "list", dict := none, data := .seq acc' c', slots := #[] } → TupAll items I S sz h' acc'.toList (Gr.wC items.size is) → R (.ok (.ret res)) { s0 with heap := h' }) :
    wpAny (model prog w) A.in1 (Builtin.List.listExtendWith (.ref S) (.ref I) res)
      (fun fin s' => match fin with | .done f => R (.ok f) s' | .again c' => c'.quiet = true ∧ codeAny (model prog w) A c' R s') (fun e s' => R (.error e) s') { s0 with heap := h } := by
  have hT : ({ s0 with heap := h } : Shared).TypeIs (.ref I) "itertools.combinations" := ⟨_, L.it, rfl⟩
  unfold Builtin.List.listExtendWith
  refine wpAny_bind (wpAny_typeOf hT ?_)
  have h1 : Builtin.List.listSameRef (.ref S) (.ref I) = false := by simp [Builtin.List.listSameRef, Ne.symm L.iS]
  have h2 : (Value.type "itertools.combinations" == Value.type "list") = false := by decide
  have h3 : (Value.type "itertools.combinations" == Value.type "tuple") = false := by decide
  simp only [h1, h2, h3, Bool.or_false, Bool.false_eq_true, if_false]
  refine wpAny_bind (wpAny_pyIter_slot hT iterC (wpAny_call_entry iterC hT entryI ?_ (argsI _)))
  show wpAny _ _ (ret (.ref I)) _ _ _
  refine wpAny_pure ⟨_, rfl, "itertools.combinations", _, hT, nextC.lookup, ?_⟩
  refine wpAny_bind (wpAny_holding ?_)
  unfold Builtin.List.listLengthHint
  refine wpAny_bind (wpAny_specialOf hT noLen ?_)
  show wpAny _ A.in1 (specialOf (Value.ref I) (Str.ofString "__length_hint__") >>= _) _ _ _
  refine wpAny_bind (wpAny_specialOf hT noHint ?_)
  refine wpAny_pure ?_
  show wpAny _ A.in1 (rule "list.extend.makes-room" >>= fun _ => Builtin.List.listTouch (.ref S) >>= fun _ =>
    again (.builtin "list.extend.loop" ⟨[.ref S, .ref I, res], []⟩)) _ _ _
  refine wpAny_bind (wpAny_rule ?_)
  refine wpAny_bind ?_
  show wpAny _ A.in1 (updateSeq S (·.push .none) >>= fun _ => updateSeq S (·.pop)) _ _ _
  refine wpAny_bind (wpAny_updateSeq L.ls rfl ?_)
  have hS2 := Heap.get?_update_self (Obj.mapSeq (·.push Value.none)) L.ls rfl
  refine wpAny_updateSeq (hz := by seq_fits) hS2 rfl ?_
  have oth : ∀ b o, b ≠ S → h.get? b = some o → ((h.update S (Obj.mapSeq (·.push Value.none))).update S (Obj.mapSeq (·.pop))).get? b = some o :=
    fun b o hb e => (Heap.get?_update_other _ _ (Ne.symm hb)).trans ((Heap.get?_update_other _ _ (Ne.symm hb)).trans e)
  obtain ⟨c3, hS3⟩ : ∃ c3, ((h.update S (Obj.mapSeq (·.push Value.none))).update S (Obj.mapSeq (·.pop))).get? S = some { cls := .type "list", dict := none, data := .seq #[] c3, slots := #[] } := ⟨_, Heap.get?_update_self (Obj.mapSeq (·.pop)) hS2 rfl⟩
  refine wpAny_pure ⟨plainId_quiet F.plain_extend_loop _, ?_⟩
  exact ext_first (s0 := s0) (c := c3) hh ⟨fun b o e => oth b o (fun z => by rw [z, L.nS] at e; cases e) (L.keep b o e), L.nI, L.nS, L.iS, L.ip, L.sp, oth I _ L.iS L.it, oth pool _ (Ne.symm L.sp) L.pl, hS3, trivial, by rw [Heap.size_update, Heap.size_update]; exact L.le⟩ asc hl hz hR
/-- list(combinations(..)) where the walk was made -/
theorem call_list {h : Heap} {last : Value} {is : List Nat} {Q : Value → Shared → Prop} (hh : A.handled = none) (keep : ∀ b o, H0.get? b = some o → h.get? b = some o) (nI : H0.get? I = none) (ip : I ≠ pool) (hit : h.get? I = some (recC pool 0 last is)) (hpl : h.get? pool = some { cls := .type "tuple", data := .seq items }) (asc : Gr.AscC items.size is) (hl : is.length ≤ 1000) (hz : (Gr.wC items.size is).length ≤ 2 ^ 20) (hsz : sz ≤ h.objs.size)
    (hQ : ∀ h' acc' c', (∀ b o, H0.get? b = some o → h'.get? b = some o) → h'.get? h.objs.size = some { cls := .type "list", dict := none, data := .seq acc' c', slots := #[] } → TupAll items I h.objs.size sz h' acc'.toList (Gr.wC items.size is) → Q (.ref h.objs.size) { s0 with heap := h' }) :
    wpAny (model prog w) A (call (.type "list") [.ref I]) Q E { s0 with heap := h } := by
  have hI : I < h.objs.size := Heap.lt_size hit
  have hP : pool < h.objs.size := Heap.lt_size hpl
  have nS : H0.get? h.objs.size = none := by
    cases e : H0.get? h.objs.size with
    | none => rfl
    | some o => exact absurd (Heap.lt_size (keep _ _ e)) (Nat.lt_irrefl _)
  refine callType_codes (Q₁ := fun obj s₁ => obj = .ref h.objs.size ∧ s₁ = { s0 with heap := h.push { cls := .type "list", data := .seq #[] } }) F.called_list (F.typeCall_list_1 _) F.entry_list_init
    (code_list_new _ ⟨rfl, rfl⟩) fun obj s₁ h₁ => ?_
  obtain ⟨rfl, rfl⟩ := h₁
  have hS : (h.push { cls := .type "list", data := .seq #[] }).get? h.objs.size = some { cls := .type "list", data := .seq #[] } := Heap.get?_push_size _ rfl
  refine ⟨⟨_, hS, rfl⟩, F.args_list_init_2 _ _, ?_⟩
  show wpAny _ A.in1.in1 (do let old ← Builtin.List.listItems (.ref h.objs.size); Builtin.List.listUpdate (.ref h.objs.size) (fun _ => #[]); letGo old.toList.reverse; Builtin.List.listExtendWith (.ref h.objs.size) (.ref I) .none) _ _ _
  refine wpAny_bind ?_
  unfold Builtin.List.listItems
  refine wpAny_bind (wpAny_seqItems hS rfl (wpAny_pure ?_))
  show wpAny _ A.in1.in1 (updateSeq h.objs.size (fun _ => #[]) >>= fun _ => letGo (#[] : Array Value).toList.reverse >>= fun _ => Builtin.List.listExtendWith (.ref h.objs.size) (.ref I) .none) _ _ _
  refine wpAny_bind (wpAny_updateSeq hS rfl ?_)
  obtain ⟨c3, hS3⟩ : ∃ c3, ((h.push { cls := .type "list", data := .seq #[] }).update h.objs.size (Obj.mapSeq (fun _ => (#[] : Array Value)))).get? h.objs.size = some { cls := .type "list", dict := none, data := .seq #[] c3, slots := #[] } := ⟨_, Heap.get?_update_self _ hS rfl⟩
  have oth : ∀ b o, b ≠ h.objs.size → h.get? b = some o → ((h.push { cls := .type "list", data := .seq #[] }).update h.objs.size (Obj.mapSeq (fun _ => (#[] : Array Value)))).get? b = some o :=
    fun b o hb e => (Heap.get?_update_other _ _ (Ne.symm hb)).trans (Heap.get?_push_of_some _ e)
  refine wpAny_bind (wpAny_letGo ?_)
  refine list_ext (A := A.in1) (s0 := s0) (c := c3) hh ⟨fun b o e => oth b o (fun z => by rw [z, nS] at e; cases e) (keep b o e), nI, nS, Nat.ne_of_lt hI, ip, Nat.ne_of_gt hP, oth I _ (Nat.ne_of_lt hI) hit, oth pool _ (Nat.ne_of_lt hP) hpl, hS3, trivial, by rw [Heap.size_update, PyProof.Rows.size_push']; exact Nat.le_succ_of_le hsz⟩ asc hl hz fun h' acc' c' k1 k2 k3 => ?_
  exact ⟨rfl, hQ h' acc' c' k1 k2 k3⟩
end
end Cm
end Rr

set_option Elab.async false
set_option linter.all false
set_option maxRecDepth 100000
set_option maxHeartbeats 4000000
/-! list(combinations(range(n), k)) as a rule. -/
namespace Rr
open PySem PySem.Spec L2 PyProof.Rows
section
variable {P : Program} {w : World} {fs ex : List Addr} {H H' : Hp} {h h' : Heap}
/-- many new objects, laid and tracked -/
theorem un_many (k : ∀ b u, h.get? b = some u → h'.get? b = some u) (hok : HOk P w H h) (same : ∀ b, b < h.objs.size → H' b = H b) : Un fs ex H H' h h' where
  keep := fun b u q _ _ _ => k b u q
  slot := fun b u q _ _ _ => ⟨u.slots, k b u q⟩
  free := fun b u q n _ => by rw [same b (Heap.lt_size q)]; exact n
  there := fun b u q _ => ⟨u, k b u q⟩
  tups := fun b xs q => by rw [same b (ObjOk.lt (hok b _ q))]; exact q
  frzs := fun b u xs q => by rw [same b (ObjOk.lt (hok b _ q))]; exact q
  tbls := fun b ps q => ⟨#[], by rw [same b (ObjOk.lt (hok b _ q)), q]; simp⟩
theorem hok_many (k : ∀ b u, h.get? b = some u → h'.get? b = some u) (hok : HOk P w H h) (same : ∀ b, b < h.objs.size → H' b = H b) (new : ∀ b o, ¬ b < h.objs.size → H' b = some o → ObjOk P w H' h' b o) : HOk P w H' h' := fun b o e => by
  by_cases hb : b < h.objs.size
  · rw [same b hb] at e
    exact (hok b o e).stay (fun c v _ q => k c v q) (fun c q => by rw [same c (ObjOk.lt (hok c _ q))]; exact q) fun c xs q => by rw [same c (ObjOk.lt (hok c _ q))]; exact q
  · exact new b o hb e
end
/-- the new tuples, one by one -/
def CombR (H H' : Hp) : List V → List (List Nat) → Prop
  | [], [] => True
  | v :: vs, d :: ds => (∃ a, v = .ref a ∧ H a = none ∧ H' a = some (.tup (d.map fun i : Nat => V.int (i : Int)))) ∧ CombR H H' vs ds
  | _, _ => False
def tComb (ta tb : TE) : TE := fun σ H Q => ta σ H fun x H1 => ∃ n : Int, x = .int n ∧ tb σ H1 fun y H2 => ∃ k : Int, y = .int k ∧ 0 ≤ k ∧ k ≤ n ∧ n ≤ 18 ∧
  ∀ (H3 : Hp) (l : Addr) (vs : List V), (∀ b u, H2 b = some u → H3 b = some u) → H2 l = none → H3 l = some (.lst vs) → CombR H2 H3 vs (Gr.tC n.toNat 0 k.toNat) → Q (.ref l) H3

open Classical in
/-- the tuple of ints that stands at a -/
noncomputable def concT (h : Heap) (a : Addr) : List V := match h.get? a with
  | some o => (match o.data with | .seq xs _ => xs.toList.map fun v => (match v with | .int n _ => V.int n | _ => .non) | _ => [])
  | none => []
open Classical in
/-- the abstract heap behind: the list, and each tuple at its place -/
noncomputable def hpC (H : Hp) (n : Nat) (h : Heap) (S : Addr) (vs : List V) (acc : List Value) : Hp := fun b =>
  if b < n then H b else if b = S then some (.lst vs) else if Value.ref b ∈ acc then some (.tup (concT h b)) else none
/-- refs of values -/
def refV : Value → V
  | .ref a => .ref a
  | _ => .non
section
variable {items : Array Value} {I S : Addr} {z n : Nat} {h : Heap}
theorem conc_ev {a : Addr} {d : List Nat} (hi : ItemsOf (fun i v => ∃ t, v = .int ((0 : Int) + i * 1) t) items n) (hd : ∀ x ∈ d, x < n) (e : h.get? a = some (Cm.tupO (Cm.pick_ items d))) : concT h a = d.map fun i : Nat => V.int (i : Int) := by
  unfold concT
  rw [e]
  show List.map _ (Cm.pick_ items d).toArray.toList = _
  rw [List.toList_toArray]
  unfold Cm.pick_
  rw [List.map_map]
  refine List.map_congr_left fun i hm => ?_
  have hl := hd i hm
  obtain ⟨t, e⟩ := hi.2 i (items.getD i .none) (by
    rw [Array.getD_eq_getD_getElem?, Array.getElem?_eq_getElem (by rw [hi.1]; exact hl)]; rfl)
  show (match items.getD i .none with | .int n _ => V.int n | _ => .non) = _
  rw [e]
  show V.int _ = V.int _
  congr 1
  omega
theorem pick_vals {d : List Nat} (hi : ItemsOf (fun i v => ∃ t, v = .int ((0 : Int) + i * 1) t) items n) : ∀ {d : List Nat}, (∀ x ∈ d, x < n) → Vals (d.map fun i : Nat => V.int (i : Int)) (Cm.pick_ items d)
  | [], _ => .nil
  | i :: d, hd => by
    refine .cons ?_ (pick_vals (d := d) hi fun x hx => hd x (List.mem_cons_of_mem _ hx))
    have hl := hd i List.mem_cons_self
    obtain ⟨t, e⟩ := hi.2 i (items.getD i .none) (by
      rw [Array.getD_eq_getD_getElem?, Array.getElem?_eq_getElem (by rw [hi.1]; exact hl)]; rfl)
    show RelV (V.int (i : Int)) (items.getD i .none)
    rw [e]
    exact ⟨t, by congr 1; omega⟩
theorem tupAll_vals : ∀ {vs : List Value} {ds : List (List Nat)}, Cm.TupAll items I S z h vs ds → Vals (vs.map refV) vs
  | [], [], _ => .nil
  | v :: vs, d :: ds, ⟨⟨a, e, _⟩, r⟩ => by subst e; exact .cons rfl (tupAll_vals r)
  | [], _ :: _, h => h.elim
  | _ :: _, [], h => h.elim
theorem tupAll_mem : ∀ {vs : List Value} {ds : List (List Nat)} {v : Value}, Cm.TupAll items I S z h vs ds → v ∈ vs → ∃ d ∈ ds, ∃ a, v = .ref a ∧ h.get? a = some (Cm.tupO (Cm.pick_ items d)) ∧ a ≠ I ∧ a ≠ S ∧ z ≤ a
  | v :: vs, d :: ds, w, ⟨q, r⟩, hm => by
    rcases List.mem_cons.mp hm with e | hm
    · subst e; exact ⟨d, List.mem_cons_self, q⟩
    · obtain ⟨d', h1, h2⟩ := tupAll_mem r hm
      exact ⟨d', List.mem_cons_of_mem _ h1, h2⟩
  | [], [], _, _, hm => by cases hm
  | [], _ :: _, _, h, _ => h.elim
  | _ :: _, [], _, h, _ => h.elim
theorem tupAll_comb {H : Hp} {vs0 : List V} {acc : List Value} (hi : ItemsOf (fun i v => ∃ t, v = .int ((0 : Int) + i * 1) t) items n) (hz : ∀ b, z ≤ b → H b = none) : ∀ {vs : List Value} {ds : List (List Nat)}, Cm.TupAll items I S z h vs ds → (∀ v ∈ vs, v ∈ acc) → (∀ d ∈ ds, ∀ x ∈ d, x < n) → CombR H (hpC H z h S vs0 acc) (vs.map refV) ds
  | [], [], _, _, _ => trivial
  | v :: vs, d :: ds, ⟨⟨a, e, g, n1, n2, n3⟩, r⟩, hm, hd => by
    refine ⟨⟨a, by subst e; rfl, hz a n3, ?_⟩, tupAll_comb hi hz r (fun v hv => hm v (List.mem_cons_of_mem _ hv)) fun d hd' => hd d (List.mem_cons_of_mem _ hd')⟩
    unfold hpC
    rw [if_neg (Nat.not_lt.mpr n3), if_neg n2, if_pos (by subst e; exact hm _ List.mem_cons_self), conc_ev hi (hd d List.mem_cons_self) g]
  | [], _ :: _, h, _, _ => h.elim
  | _ :: _, [], h, _, _ => h.elim
end
section
variable {X : Cx} {e1 e2 : Expr} {ta tb : TE} {p1 p2 p3 pos1 pos2 pos3 : Pos}
theorem boot_list_ : bootBuiltins "list" = some (.type "list") := boot_list
theorem pe_comb (hc : X.calm = true) (g1 : Gl X "list") (m1 : X.mg "list" = none) (g2 : Gl X "range") (m2 : X.mg "range" = none) (g3 : Gl X "combinations") (m3 : X.mg "combinations" = some (.type "itertools.combinations")) (h1 : PE X e1 ta) (h2 : PE X e2 tb)
    (n1 : starEach [e1] X.env = (false, eval e1 X.env) :: starEach [] X.env := by rfl)
    (n2 : starEach [.Call (.Name "range" p3) [e1] [] pos3, e2] X.env = (false, eval (.Call (.Name "range" p3) [e1] [] pos3) X.env) :: starEach [e2] X.env := by rfl)
    (n3 : starEach [e2] X.env = (false, eval e2 X.env) :: starEach [] X.env := by rfl)
    (n4 : starEach [.Call (.Name "combinations" p2) [.Call (.Name "range" p3) [e1] [] pos3, e2] [] pos2] X.env = (false, eval (.Call (.Name "combinations" p2) [.Call (.Name "range" p3) [e1] [] pos3, e2] [] pos2) X.env) :: starEach [] X.env := by rfl)
    (n5 : (backTo pos2 (starEach [e2] X.env)).any (·.1) = false := by rfl) :
    PE X (.Call (.Name "list" p1) [.Call (.Name "combinations" p2) [.Call (.Name "range" p3) [e1] [] pos3, e2] [] pos2] [] pos1) (tComb ta tb) := by
  refine ⟨fun pins s σ H Q I h => ?_⟩
  refine Call_ (ld_blt I g1 m1 boot_list (callWith_type1 (args_cons ?_ n4) n4))
  refine Call_ (ld_glob I g3 m3 (callWith_type1 (args_cons ?_ n2) n2 n5))
  refine Call_ (ld_blt I g2 m2 boot_range (callWith_type1 (one_arg h1 I h (fun v s1 x H1 I1 r q => ?_) n1) n1))
  obtain ⟨m, rfl, q⟩ := q
  obtain ⟨t, rfl⟩ := r
  refine call_range_1 ?_
  have I1' : Inv X pins σ H1 { s1 with heap := s1.heap.push { cls := .type "range", data := .fields #[.int 0 s1.toks, .int m t, .int 1 (s1.toks + 1)] }, toks := s1.toks + 1 + 1 } := I1.kept fun b u e => Heap.get?_push_of_some _ e
  have rg := IsRange.new s1.heap 0 m 1 s1.toks t (s1.toks + 1)
  have I1p : Inv X ((s1.heap.objs.size, { cls := .type "range", data := .fields #[.int 0 s1.toks, .int m t, .int 1 (s1.toks + 1)] }) :: pins) σ H1 _ := I1'.pins_of (pins' := (s1.heap.objs.size, { cls := .type "range", data := .fields #[.int 0 s1.toks, .int m t, .int 1 (s1.toks + 1)] }) :: pins) fun p hp => by
    rcases List.mem_cons.mp hp with e | hp
    · subst e
      exact ⟨rg, I1.hok.fresh (Nat.le_refl _), Nat.ne_of_gt I1.lt, I1.nofs (Nat.le_refl _), fun v e => by cases e⟩
    · exact I1'.pin p (List.mem_append_right _ hp)
  refine one_arg h2 I1p q (fun v s2 y H2 I2p r q => ?_) n3
  obtain ⟨k, rfl, k0, kn, n18, q⟩ := q
  obtain ⟨t2, rfl⟩ := r
  have I2 : Inv X pins σ H2 s2 := I2p.pins_of fun p hp => I2p.pin p (List.mem_append_right _ (List.mem_cons_of_mem _ hp))
  have rg2 : IsRange s2.heap s1.heap.objs.size 0 m 1 s1.toks t (s1.toks + 1) := (I2p.pin _ (List.mem_append_right _ List.mem_cons_self)).1
  have hn : Builtin.Range.rangeSize 0 m 1 = m.toNat := by rw [rangeSize_nat]; omega
  refine Cm.call_new (n := m.toNat) (I2.ok.hd hc) rg2 (small_one (by omega) (by omega) (by omega) (by omega)) hn (by omega) k0 (by omega) (by omega) fun h' tk acc keep hi => ?_
  refine args_nil ?_
  have hsz : (h'.push { cls := .type "tuple", data := .seq acc }).objs.size = h'.objs.size + 1 := PyProof.Rows.size_push' h' _
  have hIt : ((h'.push { cls := .type "tuple", data := .seq acc }).push (Cm.recC h'.objs.size 0 .none (List.range k.toNat))).get? (h'.objs.size + 1) = some (Cm.recC h'.objs.size 0 .none (List.range k.toNat)) := by
    have := Heap.get?_push_size (h'.push { cls := .type "tuple", data := .seq acc }) (o := Cm.recC h'.objs.size 0 .none (List.range k.toNat)) rfl
    rw [hsz] at this
    exact this
  have hPl : ((h'.push { cls := .type "tuple", data := .seq acc }).push (Cm.recC h'.objs.size 0 .none (List.range k.toNat))).get? h'.objs.size = some { cls := .type "tuple", data := .seq acc } :=
    Heap.get?_push_of_some _ (Heap.get?_push_size h' rfl)
  have kp : ∀ b o, h'.get? b = some o → ((h'.push { cls := .type "tuple", data := .seq acc }).push (Cm.recC h'.objs.size 0 .none (List.range k.toNat))).get? b = some o := fun b o e =>
    Heap.get?_push_of_some _ (Heap.get?_push_of_some _ e)
  have I3 : Inv X pins σ H2 { s2 with heap := h', toks := tk } := I2.kept keep
  have nI : h'.get? (h'.objs.size + 1) = none := Heap.get?_none_of_le (Nat.le_succ _)
  have asc : Gr.AscC acc.size (List.range k.toNat) := ⟨List.pairwise_lt_range, fun x hx => by rw [hi.1]; have := List.mem_range.mp hx; omega⟩
  have hw : Gr.wC acc.size (List.range k.toNat) = Gr.tC m.toNat 0 k.toNat := by
    rw [Gr.tC_first (by omega), Gr.upto_map, hi.1, Nat.zero_add]
    congr 1
    exact (List.map_id _).symm.trans (List.map_congr_left fun x _ => (Nat.zero_add x).symm)
  have hlen : (Gr.tC m.toNat 0 k.toNat).length ≤ 2 ^ 18 := Nat.le_trans Gr.tC_len (Nat.pow_le_pow_right (by decide) (by omega))
  refine Cm.call_list (s0 := { s2 with toks := tk }) (H0 := h') (sz := h'.objs.size) (I3.ok.hd hc) kp nI (Nat.succ_ne_self _) hIt hPl asc (by rw [List.length_range]; omega) (by rw [hw]; omega) (by rw [PyProof.Rows.size_push', hsz]; omega) fun h2 acc2 c2 k1 k2 k3 => ?_
  rw [hw] at k3
  generalize hS : ((h'.push { cls := .type "tuple", data := .seq acc }).push (Cm.recC h'.objs.size 0 .none (List.range k.toNat))).objs.size = S at k2 k3 ⊢
  have hSz : h'.objs.size ≤ S := by rw [← hS, PyProof.Rows.size_push', hsz]; omega
  have dlt : ∀ d ∈ Gr.tC m.toNat 0 k.toNat, ∀ x ∈ d, x < m.toNat := fun d hd x hx => by have := ((Gr.tC_mem.mp hd).2.2 x hx).2; omega
  have same : ∀ b, b < h'.objs.size → hpC H2 h'.objs.size h2 S (acc2.toList.map refV) acc2.toList b = H2 b := fun b hb => by unfold hpC; rw [if_pos hb]
  have hlen2 : acc2.toList.length ≤ 2 ^ 18 := by rw [k3.length]; exact hlen
  have hok : HOk X.prog X.w (hpC H2 h'.objs.size h2 S (acc2.toList.map refV) acc2.toList) h2 := hok_many k1 I3.hok same fun b o hb e => by
    unfold hpC at e
    rw [if_neg hb] at e
    split at e
    · rename_i hbS
      cases e
      rw [hbS]
      exact ⟨by rw [List.length_map, sizeLine_eq]; omega, acc2.toList, c2, tupAll_vals k3, by rw [Array.toArray_toList]; exact k2⟩
    · split at e
      · rename_i hm
        cases e
        obtain ⟨d, hd, a, ea, g, _⟩ := tupAll_mem k3 hm
        cases ea
        have hdl : d.length ≤ 18 := by rw [(Gr.tC_mem.mp hd).1]; omega
        refine ⟨?_, Cm.pick_ acc d, ?_, ?_⟩
        · rw [conc_ev hi (dlt d hd) g, List.length_map, sizeLine_eq]; omega
        · rw [conc_ev hi (dlt d hd) g]; exact pick_vals (d := d) hi (dlt d hd)
        · exact ⟨_, g, rfl, _, rfl⟩
      · cases e
  refine ⟨.ref S, hpC H2 h'.objs.size h2 S (acc2.toList.map refV) acc2.toList, I3.un (un_many k1 I3.hok same) hok, rfl, q _ S (acc2.toList.map refV) (fun b u e => by rw [same b (ObjOk.lt (I3.hok b _ e))]; exact e) (I3.hok.fresh hSz) ?_ (tupAll_comb hi (fun b hb => I3.hok.fresh hb) k3 (fun v hv => hv) dlt)⟩
  unfold hpC
  rw [if_neg (Nat.not_lt.mpr hSz), if_pos rfl]
end
end Rr

set_option Elab.async false
set_option linter.all false
set_option maxRecDepth 100000
set_option maxHeartbeats 4000000
/-! The layer of data: list(combinations(range(n), k)). -/
namespace Rr
open PySem PySem.Spec L2 PyProof.Rows
def tD_ (c : List Nat) : D := .tup (c.map fun i : Nat => D.int (i : Int))
def dComb : D → D → Option (List D)
  | .int n, .int k => if 0 ≤ k && decide (k ≤ n) && decide (n ≤ 18) then some ((Gr.tC n.toNat 0 k.toNat).map tD_) else none
  | _, _ => none
def rComb {S : Type} (ma mb : Rho → Mo S D) : Rho → Mo S (List D) := fun ρ => bd (ma ρ) fun x => bd (mb ρ) fun y => up (dComb x y)
theorem rep_nats {ad : Nat → Addr} {H : Hp} {A : Addr → Prop} : ∀ c : List Nat, RepL ad H A (c.map fun i : Nat => V.int (i : Int)) (c.map fun i : Nat => D.int (i : Int))
  | [] => .nil
  | i :: c => .cons (.int _) (rep_nats c)
theorem combR_rep {ad : Nat → Addr} {H H' : Hp} {A : Addr → Prop} {l : Addr} {vs0 : List V} (hl : H' l = some (.lst vs0)) (hA : ∀ a, A a → H a ≠ none) : ∀ {vs : List V} {ds : List (List Nat)}, CombR H H' vs ds → RepL ad H' (fun b => A b ∨ b = l) vs (ds.map tD_)
  | [], [], _ => .nil
  | v :: vs, d :: ds, ⟨⟨a, e, h1, h2⟩, r⟩ => by
    subst e
    refine .cons ?_ (combR_rep hl hA r)
    refine .tup h2 (fun z => ?_) (rep_nats d)
    rcases z with z | z
    · exact hA a z h1
    · rw [z, hl] at h2; cases h2
  | [], _ :: _, h => h.elim
  | _ :: _, [], h => h.elim
section
variable {X : Cx} {w : Wd} {e1 e2 : Expr} {ma mb : Rho → Mo w.S D} {p1 p2 p3 pos1 pos2 pos3 : Pos}
theorem vn_comb (hc : X.calm = true) (g1 : Gl X "list") (m1 : X.mg "list" = none) (g2 : Gl X "range") (m2 : X.mg "range" = none) (g3 : Gl X "combinations") (m3 : X.mg "combinations" = some (.type "itertools.combinations")) (h1 : VR X w e1 ma) (h2 : VR X w e2 mb)
    (n1 : starEach [e1] X.env = (false, eval e1 X.env) :: starEach [] X.env := by rfl)
    (n2 : starEach [.Call (.Name "range" p3) [e1] [] pos3, e2] X.env = (false, eval (.Call (.Name "range" p3) [e1] [] pos3) X.env) :: starEach [e2] X.env := by rfl)
    (n3 : starEach [e2] X.env = (false, eval e2 X.env) :: starEach [] X.env := by rfl)
    (n4 : starEach [.Call (.Name "combinations" p2) [.Call (.Name "range" p3) [e1] [] pos3, e2] [] pos2] X.env = (false, eval (.Call (.Name "combinations" p2) [.Call (.Name "range" p3) [e1] [] pos3, e2] [] pos2) X.env) :: starEach [] X.env := by rfl)
    (n5 : (backTo pos2 (starEach [e2] X.env)).any (·.1) = false := by rfl) :
    VN X w (.Call (.Name "list" p1) [.Call (.Name "combinations" p2) [.Call (.Name "range" p3) [e1] [] pos3, e2] [] pos2] [] pos1) (rComb ma mb) :=
  (pe_comb hc g1 m1 g2 m2 g3 m3 h1 h2 n1 n2 n3 n4 n5).imp fun σ H Q ⟨H0, W, o, ρ, s, d, s', G, e, q⟩ => by
    obtain ⟨x, s1, f1, e3⟩ := bd_some e
    obtain ⟨y, s2, f2, e4⟩ := bd_some e3
    obtain ⟨e5, rfl⟩ := up_some e4
    clear e e3 e4
    refine ⟨H0, W, o, ρ, s, x, s1, G, f1, fun v H1 x1 k1 r1 => ?_⟩
    have G1 := G.ext x1 k1
    unfold dComb at e5
    split at e5
    · rename_i n k
      split at e5
      · rename_i hb
        cases e5
        simp only [Bool.and_eq_true, decide_eq_true_eq] at hb
        refine ⟨n, r1.inv_int, H0, W, o, ρ, s1, _, _, G1, f2, fun u H2 x2 k2 r2 => ⟨k, r2.inv_int, hb.1.1, hb.1.2, hb.2, fun H3 l vs kp l0 l1 cr => ?_⟩⟩
        have G2 := G1.ext x2 k2
        have x3 : Ext w H2 H3 := fun a z ha _ => kp a z ha
        have k3 : w.ok _ H3 := w.keep k2 fun a ha => by
          cases z : H2 a with
          | none => exact absurd z (w.trk k2 ha)
          | some y => exact kp a y z
        refine q l vs H3 ((x1.trans x2).trans x3) k3 ?_ l1 (combR_rep l1 (fun a ha => G2.tracked ha) cr)
        exact x1.free k1 (x2.free k2 l0)
      · cases e5
    · cases e5
end
end Rr

set_option Elab.async false
set_option linter.all false
set_option maxRecDepth 100000
set_option maxHeartbeats 4000000
namespace K04
open PySem PySem.Spec PyProof.Rows L2 Rr
abbrev P : Program := PySem.Challenge.pw_roughroads_k04_whole_ways_and_trees
def top (i : Nat) : Stmt := P.main.body.getD i (.Pass ⟨0, 0, 0, 0⟩)
abbrev s__law_open : Stmt := top 17
def n__law_open : List Str := ["script", "cells", "k", "cell"]
theorem sc__law_open : FnScope n__law_open ["script"] (defScope s__law_open) := ⟨rfl, rfl, rfl, by decide +kernel, rfl, by decide +kernel, by decide +kernel⟩
def m__law_open (ns : List Int) : Ms Unit :=
  (sq (mOwn 1 (cb dList (rCons (mScr ns 0 rNo (rPt (rC (.int 12)))) rNil)))
  (sq (mFor (cb enumA (rCons (mScr ns 0 (rPt (rC (.int 12))) (rPt (rC (.int 63)))) rNil)) (bTup (bCons (bName 2) (bCons (bName 3) bNil)))
  (mPut 1 (b2 dAdd (b2 dIx (rO 1) (b2 dMod (rN 2) (rC (.int 12)))) (rN 3)) (b2 dMod (rN 2) (rC (.int 12)))))
  (sRel 1 (sRf (rLst (rCons (rN 1) (rCons (rC (.int 0)) (rCons (rC (.int 0)) rNil))))))))
def F__law_open (ns : List Int) (ds : List D) : Mo Unit (List D) := endN (m__law_open ns) (begin_ 4 ds)
theorem ok__law_open {wo : World} {K : PySem.W.Frag} {mg : Str → Option Value} {base : Heap} {a : Addr} {ns : List Int} {tr : Prop} {f : Addr} {fd : FuncData} (FF : Fun K "_law_open" "_law_open" s__law_open f fd) (hm : mg "_law_open" = some (.ref f)) (hB : ∀ x ∈ [("enumerate" : Str), ("list" : Str)], mg x = none) : Has P wo K mg base "_law_open" 1 ["script"] (spN (scrW K a ns tr) 1 (F__law_open ns)) :=
  ⟨f, fd, def_n FF sc__law_open rfl (fun cdv A outer s H E hr => have nd := sc__law_open.nd; (vss_cons (vs_own 1 nd (vn_callTy call_list_of list_ok (by rfl) (hB "list" (by decide)) (by rfl) (vrs_cons (ve_vr (ve_scr 0 vo_none (vo_some (ve_vr ve_int)))) vrs_nil)))
      (vss_cons (vs_for PassesOwn.never rfl (vi_enum (hB "enumerate" (by decide)) (ves_cons (ve_scr 0 (vo_some (ve_vr ve_int)) (vo_some (ve_vr ve_int))) ves_nil)) (vg_tup rfl (vgs_cons (vg_name 2 nd) (vgs_cons (vg_name 3 nd) vgs_nil)))
      (vss_one (vs_put 1 (ve_add (ve_vr (ve_at (vr_name 1) (ve_vr (ve_mod (ve_vr (ve_name 2)) (ve_vr ve_int))))) (ve_vr (ve_name 3))) (ve_mod (ve_vr (ve_name 2)) (ve_vr ve_int)))))
      (vss_one (vs_rel 1 (vs_retF (vn_lst (ves_cons (ve_name 1) (ves_cons ve_int (ves_cons ve_int ves_nil)))))))))) (fun ds s r _ h => h), hm, FF.kp, (FF.binds fun _ _ _ _ _ _ us hl => match us, hl with | [_], _ => rfl)⟩
-- builtins ['enumerate', 'list']

abbrev s__law_spread : Stmt := top 18
def n__law_spread : List Str := ["cell", "at", "primes", "one", "two", "three"]
theorem sc__law_spread : FnScope n__law_spread ["cell", "at"] (defScope s__law_spread) := ⟨rfl, rfl, rfl, by decide +kernel, rfl, by decide +kernel, by decide +kernel⟩
def m__law_spread {S : Type} : Ms S :=
  (sq (sIf (qB (b2 dGe (rN 0) (b2 dPow (rC (.int 10)) (rC (.int 18))))) (sRt (rN 0))
  mNx)
  (sq (mSet 2 (rNv (rLst (rCons (rC (.int 2147483629)) (rCons (rC (.int 2147483587)) (rCons (rC (.int 2147483579)) (rCons (rC (.int 2147483563)) (rCons (rC (.int 2147483549)) (rCons (rC (.int 2147483543)) (rCons (rC (.int 2147483497)) (rCons (rC (.int 2147483489)) rNil)))))))))))
  (sq (mSet 2 (b2 dAdd (rN 2) (rNv (rLst (rCons (rC (.int 2147483477)) (rCons (rC (.int 2147483423)) (rCons (rC (.int 2147483399)) (rCons (rC (.int 2147483353)) (rCons (rC (.int 2147483323)) rNil)))))))))
  (sq (mSet 3 (b2 dMod (b2 dPow (b2 dAdd (b2 dAdd (b2 dMul (b2 dMod (rN 0) (rC (.int 1000000007))) (b2 dAdd (b2 dMul (rC (.int 2)) (rN 1)) (rC (.int 69069)))) (b2 dMul (rN 1) (rC (.int 40503)))) (rC (.int 977))) (rC (.int 3))) (b2 dIx (rN 2) (b2 dMod (rN 1) (rC (.int 13))))))
  (sq (mSet 4 (b2 dMod (b2 dPow (b2 dAdd (b2 dAdd (b2 dMul (rN 3) (b2 dAdd (rN 1) (rC (.int 3)))) (b2 dMod (rN 0) (rC (.int 65537)))) (rC (.int 5))) (rC (.int 5))) (b2 dIx (rN 2) (b2 dMod (b2 dAdd (rN 1) (rC (.int 5))) (rC (.int 13))))))
  (sq (mSet 5 (b2 dMod (b2 dPow (b2 dAdd (b2 dAdd (rN 4) (b2 dMod (rN 3) (rC (.int 1009)))) (rN 1)) (rC (.int 3))) (b2 dIx (rN 2) (b2 dMod (b2 dAdd (rN 1) (rC (.int 7))) (rC (.int 13))))))
  (sRt (b2 dAdd (b2 dMul (b2 dAdd (b2 dMul (rN 3) (rC (.int 2147483647))) (rN 4)) (rC (.int 2147483647))) (rN 5)))))))))
def F__law_spread {S : Type} (ds : List D) : Mo S D := endV (m__law_spread) (begin_ 6 ds)
theorem ok__law_spread {wo : World} {K : PySem.W.Frag} {mg : Str → Option Value} {base : Heap} {w : Wd} {f : Addr} {fd : FuncData} (FF : Fun K "_law_spread" "_law_spread" s__law_spread f fd) (hm : mg "_law_spread" = some (.ref f)) : Has P wo K mg base "_law_spread" 1 ["cell", "at"] (spV w 2 (F__law_spread)) :=
  ⟨f, fd, def_v FF sc__law_spread rfl (fun cdv A outer s H E hr => have nd := sc__law_spread.nd; (vss_cons (vs_if (vq_ck ck_ge (ve_vr (ve_name 0)) (ve_vr (ve_pow (ve_vr ve_int) (ve_vr ve_int))) (by first | exact nomark _ | rfl))
      (vss_one (vs_ret (ve_name 0))) vss_nil)
      (vss_cons (vs_set 2 nd (vn_ve (vn_lst (ves_cons ve_int (ves_cons ve_int (ves_cons ve_int (ves_cons ve_int (ves_cons ve_int (ves_cons ve_int (ves_cons ve_int (ves_cons ve_int ves_nil)))))))))))
      (vss_cons (vs_set 2 nd (ve_add (ve_vr (ve_name 2)) (vn_vr (vn_lst (ves_cons ve_int (ves_cons ve_int (ves_cons ve_int (ves_cons ve_int (ves_cons ve_int ves_nil)))))))))
      (vss_cons (vs_set 3 nd (ve_mod (ve_vr (ve_pow (ve_vr (ve_add (ve_vr (ve_add (ve_vr (ve_mul (ve_vr (ve_mod (ve_vr (ve_name 0)) (ve_vr ve_int))) (ve_vr (ve_add (ve_vr (ve_mul (ve_vr ve_int) (ve_vr (ve_name 1)))) (ve_vr ve_int))))) (ve_vr (ve_mul (ve_vr (ve_name 1)) (ve_vr ve_int))))) (ve_vr ve_int))) (ve_vr ve_int))) (ve_vr (ve_at (ve_vr (ve_name 2)) (ve_vr (ve_mod (ve_vr (ve_name 1)) (ve_vr ve_int)))))))
      (vss_cons (vs_set 4 nd (ve_mod (ve_vr (ve_pow (ve_vr (ve_add (ve_vr (ve_add (ve_vr (ve_mul (ve_vr (ve_name 3)) (ve_vr (ve_add (ve_vr (ve_name 1)) (ve_vr ve_int))))) (ve_vr (ve_mod (ve_vr (ve_name 0)) (ve_vr ve_int))))) (ve_vr ve_int))) (ve_vr ve_int))) (ve_vr (ve_at (ve_vr (ve_name 2)) (ve_vr (ve_mod (ve_vr (ve_add (ve_vr (ve_name 1)) (ve_vr ve_int))) (ve_vr ve_int)))))))
      (vss_cons (vs_set 5 nd (ve_mod (ve_vr (ve_pow (ve_vr (ve_add (ve_vr (ve_add (ve_vr (ve_name 4)) (ve_vr (ve_mod (ve_vr (ve_name 3)) (ve_vr ve_int))))) (ve_vr (ve_name 1)))) (ve_vr ve_int))) (ve_vr (ve_at (ve_vr (ve_name 2)) (ve_vr (ve_mod (ve_vr (ve_add (ve_vr (ve_name 1)) (ve_vr ve_int))) (ve_vr ve_int)))))))
      (vss_one (vs_ret (ve_add (ve_vr (ve_mul (ve_vr (ve_add (ve_vr (ve_mul (ve_vr (ve_name 3)) (ve_vr ve_int))) (ve_vr (ve_name 4)))) (ve_vr ve_int))) (ve_vr (ve_name 5)))))))))))) (fun ds s r _ h => h), hm, FF.kp, (FF.binds fun _ _ _ _ _ _ us hl => match us, hl with | [_, _], _ => rfl)⟩
-- builtins []

abbrev s__law_take : Stmt := top 19
def n__law_take : List Str := ["pen", "amount", "at", "cell", "found"]
theorem sc__law_take : FnScope n__law_take ["pen", "amount"] (defScope s__law_take) := ⟨rfl, rfl, rfl, by decide +kernel, rfl, by decide +kernel, by decide +kernel⟩
def m__law_take : Ms PenS :=
  (sq (sIf (qB (b2 dLt (mPenI 0 2) (rN 1))) (sq (mSet 2 (mPenI 0 1))
  (sq (mSet 3 (rC (.int 0)))
  (sq (sIf (qB (b2 dLt (rN 2) (mPenLen 0))) (mSet 3 (mPenAt 0 (rN 2)))
  (sIf (qB (b2 dGt (mPenLen 0) (rC (.int 0)))) (mSet 3 (b2 dMod (mPenAt 0 (b2 dMod (b2 dAdd (b2 dMul (rN 2) (rC (.int 5))) (rC (.int 3))) (mPenLen 0))) (b2 dAdd (b2 dPow (rC (.int 10)) (rC (.int 17))) (rN 2))))
  mNx))
  (sq (mPenSet 0 1 (b2 dAdd (rN 2) (rC (.int 1))))
  (mPenSet 0 2 (mCall 2 (F__law_spread) (rCons (rN 3) (rCons (rN 2) rNil))))))))
  mNx)
  (sq (mSet 4 (b2 dMod (mPenI 0 2) (rN 1)))
  (sq (mPenSet 0 2 (b2 dDiv (mPenI 0 2) (rN 1)))
  (sRt (rN 4)))))
def F__law_take (ds : List D) : Mo PenS D := endV (m__law_take) (begin_ 5 ds)
theorem ok__law_take {wo : World} {K : PySem.W.Frag} {mg : Str → Option Value} {base : Heap} {p c : Addr} (hpc : p ≠ c) {f : Addr} {fd : FuncData} (FF : Fun K "_law_take" "_law_take" s__law_take f fd) (hm : mg "_law_take" = some (.ref f)) (hB : ∀ x ∈ [("len" : Str)], mg x = none) (h__law_spread : Has P wo K mg base "_law_spread" 1 ["cell", "at"] (spV (penW p c) 2 (F__law_spread))) : Has P wo K mg base "_law_take" 2 ["pen", "amount"] (spV (penW p c) 2 (F__law_take)) :=
  ⟨f, fd, def_v FF sc__law_take rfl (fun cdv A outer s H E hr => have nd := sc__law_take.nd; (vss_cons (vs_if (vq_ck ck_lt (ve_vr (ve_penI 0 2)) (ve_vr (ve_name 1)) (by first | exact nomark _ | rfl))
      (vss_cons (vs_set 2 nd (ve_penI 0 1))
      (vss_cons (vs_set 3 nd ve_int)
      (vss_cons (vs_if (vq_ck ck_lt (ve_vr (ve_name 2)) (ve_vr (ve_penLen 0 (hB "len" (by decide)))) (by first | exact nomark _ | rfl))
      (vss_one (vs_set 3 nd (ve_penAt 0 (ve_vr (ve_name 2))))) (vss_one (vs_if (vq_ck ck_gt (ve_vr (ve_penLen 0 (hB "len" (by decide)))) (ve_vr ve_int) (by first | exact nomark _ | rfl))
      (vss_one (vs_set 3 nd (ve_mod (ve_vr (ve_penAt 0 (ve_vr (ve_mod (ve_vr (ve_add (ve_vr (ve_mul (ve_vr (ve_name 2)) (ve_vr ve_int))) (ve_vr ve_int))) (ve_vr (ve_penLen 0 (hB "len" (by decide)))))))) (ve_vr (ve_add (ve_vr (ve_pow (ve_vr ve_int) (ve_vr ve_int))) (ve_vr (ve_name 2))))))) vss_nil)))
      (vss_cons (vs_penSet 0 1 hpc (ve_add (ve_vr (ve_name 2)) (ve_vr ve_int)))
      (vss_one (vs_penSet 0 2 hpc (ve_has (h__law_spread) hr (ves_cons (ve_name 3) (ves_cons (ve_name 2) ves_nil)) (hj := by omega)))))))) vss_nil)
      (vss_cons (vs_set 4 nd (ve_mod (ve_vr (ve_penI 0 2)) (ve_vr (ve_name 1))))
      (vss_cons (vs_penSet 0 2 hpc (ve_div (ve_vr (ve_penI 0 2)) (ve_vr (ve_name 1))))
      (vss_one (vs_ret (ve_name 4))))))) (fun ds s r _ h => h), hm, FF.kp, (FF.binds fun _ _ _ _ _ _ us hl => match us, hl with | [_, _], _ => rfl)⟩
-- builtins ['len']

abbrev s__law_one_of : Stmt := top 20
def n__law_one_of : List Str := ["pen", "some"]
theorem sc__law_one_of : FnScope n__law_one_of ["pen", "some"] (defScope s__law_one_of) := ⟨rfl, rfl, rfl, by decide +kernel, rfl, by decide +kernel, by decide +kernel⟩
def m__law_one_of {S : Type} (r_law_take : List D → Mo S D) : Ms S :=
  (sRt (b2 dIx (rN 1) (mCall 2 r_law_take (rCons (rN 0) (rCons (cb dLen (rCons (rN 1) rNil)) rNil)))))
def F__law_one_of {S : Type} (r_law_take : List D → Mo S D) (ds : List D) : Mo S D := endV (m__law_one_of r_law_take) (begin_ 2 ds)
theorem ok__law_one_of {wo : World} {K : PySem.W.Frag} {mg : Str → Option Value} {base : Heap} {w : Wd} (r_law_take : List D → Mo w.S D) {f : Addr} {fd : FuncData} (FF : Fun K "_law_one_of" "_law_one_of" s__law_one_of f fd) (hm : mg "_law_one_of" = some (.ref f)) (hB : ∀ x ∈ [("len" : Str)], mg x = none) (h__law_take : Has P wo K mg base "_law_take" 4 ["pen", "amount"] (spV w 2 (r_law_take))) : Has P wo K mg base "_law_one_of" 5 ["pen", "some"] (spV w 2 (F__law_one_of r_law_take)) :=
  ⟨f, fd, def_v FF sc__law_one_of rfl (fun cdv A outer s H E hr => have nd := sc__law_one_of.nd; (vss_one (vs_ret (ve_at (ve_vr (ve_name 1)) (ve_vr (ve_has (h__law_take) hr (ves_cons (ve_name 0) (ves_cons (ve_callB call_len_seq len_ok (by rfl) (hB "len" (by decide)) (by rfl) (vrs_cons (ve_vr (ve_name 1)) vrs_nil)) ves_nil)) (hj := by omega))))))) (fun ds s r _ h => h), hm, FF.kp, (FF.binds fun _ _ _ _ _ _ us hl => match us, hl with | [_, _], _ => rfl)⟩
-- builtins ['len']

abbrev s__law_draw_road : Stmt := top 21
def n__law_draw_road : List Str := ["pen", "a", "b", "width", "low"]
theorem sc__law_draw_road : FnScope n__law_draw_road ["pen", "a", "b", "width"] (defScope s__law_draw_road) := ⟨rfl, rfl, rfl, by decide +kernel, rfl, by decide +kernel, by decide +kernel⟩
def m__law_draw_road {S : Type} (r_law_take : List D → Mo S D) : Ms S :=
  (sq (mSet 4 (mCall 2 (F__law_one_of r_law_take) (rCons (rN 0) (rCons (rNv (rLst (rCons (rC (.int 0)) (rCons (rC (.int 1)) (rCons (rC (.int 2)) (rCons (rC (.int 3)) (rCons (mCall 2 r_law_take (rCons (rN 0) (rCons (rC (.int 8)) rNil))) (rCons (mCall 2 r_law_take (rCons (rN 0) (rCons (rC (.int 100)) rNil))) rNil)))))))) rNil))))
  (sRt (rTup (rCons (rN 1) (rCons (rN 2) (rCons (rN 4) (rCons (cb dMin (rCons (rC (.int 99)) (rCons (b2 dAdd (rN 4) (mCall 2 (F__law_one_of r_law_take) (rCons (rN 0) (rCons (rNv (rLst (rCons (rC (.int 0)) (rCons (rC (.int 0)) (rCons (rC (.int 1)) (rCons (rC (.int 2)) (rCons (mCall 2 r_law_take (rCons (rN 0) (rCons (rC (.int 6)) rNil))) (rCons (mCall 2 r_law_take (rCons (rN 0) (rCons (b2 dAdd (rN 3) (rC (.int 1))) rNil))) rNil)))))))) rNil)))) rNil))) rNil)))))))
def F__law_draw_road {S : Type} (r_law_take : List D → Mo S D) (ds : List D) : Mo S D := endV (m__law_draw_road r_law_take) (begin_ 5 ds)
theorem ok__law_draw_road {wo : World} {K : PySem.W.Frag} {mg : Str → Option Value} {base : Heap} {w : Wd} (r_law_take : List D → Mo w.S D) {f : Addr} {fd : FuncData} (FF : Fun K "_law_draw_road" "_law_draw_road" s__law_draw_road f fd) (hm : mg "_law_draw_road" = some (.ref f)) (hB : ∀ x ∈ [("min" : Str)], mg x = none) (h__law_one_of : Has P wo K mg base "_law_one_of" 5 ["pen", "some"] (spV w 2 (F__law_one_of r_law_take))) (h__law_take : Has P wo K mg base "_law_take" 4 ["pen", "amount"] (spV w 2 (r_law_take))) : Has P wo K mg base "_law_draw_road" 6 ["pen", "a", "b", "width"] (spV w 4 (F__law_draw_road r_law_take)) :=
  ⟨f, fd, def_v FF sc__law_draw_road rfl (fun cdv A outer s H E hr => have nd := sc__law_draw_road.nd; (vss_cons (vs_set 4 nd (ve_has (h__law_one_of) hr (ves_cons (ve_name 0) (ves_cons (vn_ve (vn_lst (ves_cons ve_int (ves_cons ve_int (ves_cons ve_int (ves_cons ve_int (ves_cons (ve_has (h__law_take) hr (ves_cons (ve_name 0) (ves_cons ve_int ves_nil)) (hj := by omega)) (ves_cons (ve_has (h__law_take) hr (ves_cons (ve_name 0) (ves_cons ve_int ves_nil)) (hj := by omega)) ves_nil)))))))) ves_nil)) (hj := by omega)))
      (vss_one (vs_ret (ve_tup (ves_cons (ve_name 1) (ves_cons (ve_name 2) (ves_cons (ve_name 4) (ves_cons (ve_callB ((cr_min rfl).or (call_min2 rfl)) min_ok (by rfl) (hB "min" (by decide)) (by rfl) (vrs_cons (ve_vr ve_int) (vrs_cons (ve_vr (ve_add (ve_vr (ve_name 4)) (ve_vr (ve_has (h__law_one_of) hr (ves_cons (ve_name 0) (ves_cons (vn_ve (vn_lst (ves_cons ve_int (ves_cons ve_int (ves_cons ve_int (ves_cons ve_int (ves_cons (ve_has (h__law_take) hr (ves_cons (ve_name 0) (ves_cons ve_int ves_nil)) (hj := by omega)) (ves_cons (ve_has (h__law_take) hr (ves_cons (ve_name 0) (ves_cons (ve_add (ve_vr (ve_name 3)) (ve_vr ve_int)) ves_nil)) (hj := by omega)) ves_nil)))))))) ves_nil)) (hj := by omega))))) vrs_nil))) ves_nil))))))))) (fun ds s r _ h => h), hm, FF.kp, (FF.binds fun _ _ _ _ _ _ us hl => match us, hl with | [_, _, _, _], _ => rfl)⟩
-- builtins ['min']

abbrev s__law_draw_web : Stmt := top 22
def n__law_draw_web : List Str := ["pen", "houses", "most", "width", "size", "pairs", "again", "a", "names", "house", "b"]
theorem sc__law_draw_web : FnScope n__law_draw_web ["pen", "houses", "most", "width"] (defScope s__law_draw_web) := ⟨rfl, rfl, rfl, by decide +kernel, rfl, by decide +kernel, by decide +kernel⟩
def m__law_draw_web {S : Type} (r_law_take : List D → Mo S D) : Ms S :=
  (sq (mSet 4 (b2 dAdd (rC (.int 1)) (mCall 2 r_law_take (rCons (rN 0) (rCons (rN 1) rNil)))))
  (sq (mOwn 5 (mLc (cb rng2 (rCons (rC (.int 1)) (rCons (rN 4) rNil))) [9] (item1 (bName 9) qYes (one (rTup (rCons (mCall 2 r_law_take (rCons (rN 0) (rCons (rN 9) rNil))) (rCons (rN 9) rNil)))))))
  (sq (mFor (cb rng1 (rCons (b2 dMul (mCall 2 r_law_take (rCons (rN 0) (rCons (cb dMax (rCons (rC (.int 1)) (rCons (b2 dAdd (b2 dSub (rN 2) (cb dLen (rCons (rO 5) rNil))) (rC (.int 1))) rNil))) rNil))) (cb dInt (rCons (b2 dGt (rN 4) (rC (.int 1))) rNil))) rNil)) (bName 6)
  (sq (mSet 7 (mCall 2 r_law_take (rCons (rN 0) (rCons (b2 dSub (rN 4) (rC (.int 1))) rNil))))
  (mIns 5 (rCons (mCall 2 r_law_take (rCons (rN 0) (rCons (b2 dAdd (cb dLen (rCons (rO 5) rNil)) (rC (.int 1))) rNil))) (rCons (rTup (rCons (rN 7) (rCons (b2 dAdd (b2 dAdd (rN 7) (rC (.int 1))) (mCall 2 r_law_take (rCons (rN 0) (rCons (b2 dSub (b2 dSub (rN 4) (rC (.int 1))) (rN 7)) rNil)))) rNil))) rNil)))))
  (sq (mOwn 8 (rLst rNil))
  (sq (mFor (cb rng1 (rCons (rN 4) rNil)) (bName 9)
  (mIns 8 (rCons (mCall 2 r_law_take (rCons (rN 0) (rCons (b2 dAdd (rN 9) (rC (.int 1))) rNil))) (rCons (rN 9) rNil))))
  (sq (sRel 5 (mOwn 5 (mLc (rSeq (rN 5)) [7, 10] (item1 (bTup (bCons (bName 7) (bCons (bName 10) bNil))) qYes (one (rTup (rCons (cb dMin (rCons (b2 dIx (rO 8) (rN 7)) (rCons (b2 dIx (rO 8) (rN 10)) rNil))) (rCons (cb dMax (rCons (b2 dIx (rO 8) (rN 7)) (rCons (b2 dIx (rO 8) (rN 10)) rNil))) rNil))))))))
  (sRel 5 (sRt (rTup (rCons (rN 4) (rCons (cb dTuple (rCons (rNv (mLc (rSeq (rN 5)) [7, 10] (item1 (bTup (bCons (bName 7) (bCons (bName 10) bNil))) qYes (one (mCall 4 (F__law_draw_road r_law_take) (rCons (rN 0) (rCons (rN 7) (rCons (rN 10) (rCons (rN 3) rNil))))))))) rNil)) rNil)))))))))))
def F__law_draw_web {S : Type} (r_law_take : List D → Mo S D) (ds : List D) : Mo S D := endV (m__law_draw_web r_law_take) (begin_ 11 ds)
theorem ok__law_draw_web {wo : World} {K : PySem.W.Frag} {mg : Str → Option Value} {base : Heap} {w : Wd} (r_law_take : List D → Mo w.S D) {f : Addr} {fd : FuncData} (FF : Fun K "_law_draw_web" "_law_draw_web" s__law_draw_web f fd) (hm : mg "_law_draw_web" = some (.ref f)) (hB : ∀ x ∈ [("int" : Str), ("len" : Str), ("max" : Str), ("min" : Str), ("range" : Str), ("tuple" : Str)], mg x = none) (h__law_take : Has P wo K mg base "_law_take" 4 ["pen", "amount"] (spV w 2 (r_law_take))) (h__law_draw_road : Has P wo K mg base "_law_draw_road" 6 ["pen", "a", "b", "width"] (spV w 4 (F__law_draw_road r_law_take))) : Has P wo K mg base "_law_draw_web" 7 ["pen", "houses", "most", "width"] (spV w 4 (F__law_draw_web r_law_take)) :=
  ⟨f, fd, def_v FF sc__law_draw_web rfl (fun cdv A outer s H E hr => have nd := sc__law_draw_web.nd; (vss_cons (vs_set 4 nd (ve_add (ve_vr ve_int) (ve_vr (ve_has (h__law_take) hr (ves_cons (ve_name 0) (ves_cons (ve_name 1) ves_nil)) (hj := by omega)))))
      (vss_cons (vs_ownLc (own := [("house", 9)]) (i := 5) rfl nd (vi_range2 (hB "range" (by decide)) (ves_cons ve_int (ves_cons (ve_name 4) ves_nil))) (blkOk_by (own := [("house", 9)]) (N := n__law_draw_web) (sc := defScope s__law_draw_web) (by decide +kernel)) (fun _ _ _ _ _ => (vg_name 9 nd)) (fun _ _ _ _ _ => vts_nil) (fun _ _ _ _ _ => (ve_tup (ves_cons (ve_has (h__law_take) hr (ves_cons (ve_name 0) (ves_cons (ve_name 9) ves_nil)) (hj := by omega)) (ves_cons (ve_name 9) ves_nil)))))
      (vss_cons (vs_for PassesOwn.never rfl (vi_range1 (hB "range" (by decide)) (ves_cons (ve_mul (ve_vr (ve_has (h__law_take) hr (ves_cons (ve_name 0) (ves_cons (ve_callB ((cr_max rfl).or (call_max2 rfl)) max_ok (by rfl) (hB "max" (by decide)) (by rfl) (vrs_cons (ve_vr ve_int) (vrs_cons (ve_vr (ve_add (ve_vr (ve_sub (ve_vr (ve_name 2)) (ve_vr (ve_callB call_len_seq len_ok (by rfl) (hB "len" (by decide)) (by rfl) (vrs_cons (vr_name 5) vrs_nil))))) (ve_vr ve_int))) vrs_nil))) ves_nil)) (hj := by omega))) (ve_vr (ve_callTy call_int1 int_ok (by rfl) (hB "int" (by decide)) (by rfl) (vrs_cons (ve_vr (ve_ck ck_gt (ve_vr (ve_name 4)) (ve_vr ve_int) (by first | exact nomark _ | rfl))) vrs_nil)))) ves_nil)) (vg_name 6 nd)
      (vss_cons (vs_set 7 nd (ve_has (h__law_take) hr (ves_cons (ve_name 0) (ves_cons (ve_sub (ve_vr (ve_name 4)) (ve_vr ve_int)) ves_nil)) (hj := by omega)))
      (vss_one (vs_insert 5 (ves_cons (ve_has (h__law_take) hr (ves_cons (ve_name 0) (ves_cons (ve_add (ve_vr (ve_callB call_len_seq len_ok (by rfl) (hB "len" (by decide)) (by rfl) (vrs_cons (vr_name 5) vrs_nil))) (ve_vr ve_int)) ves_nil)) (hj := by omega)) (ves_cons (ve_tup (ves_cons (ve_name 7) (ves_cons (ve_add (ve_vr (ve_add (ve_vr (ve_name 7)) (ve_vr ve_int))) (ve_vr (ve_has (h__law_take) hr (ves_cons (ve_name 0) (ves_cons (ve_sub (ve_vr (ve_sub (ve_vr (ve_name 4)) (ve_vr ve_int))) (ve_vr (ve_name 7))) ves_nil)) (hj := by omega)))) ves_nil))) ves_nil))))))
      (vss_cons (vs_own 8 nd (vn_lst ves_nil))
      (vss_cons (vs_for PassesOwn.never rfl (vi_range1 (hB "range" (by decide)) (ves_cons (ve_name 4) ves_nil)) (vg_name 9 nd)
      (vss_one (vs_insert 8 (ves_cons (ve_has (h__law_take) hr (ves_cons (ve_name 0) (ves_cons (ve_add (ve_vr (ve_name 9)) (ve_vr ve_int)) ves_nil)) (hj := by omega)) (ves_cons (ve_name 9) ves_nil)))))
      (vss_cons (vs_rel 5 (vs_ownLc (own := [("a", 7), ("b", 10)]) (i := 5) rfl nd (vi_seq (ve_name 5)) (blkOk_by (own := [("a", 7), ("b", 10)]) (N := n__law_draw_web) (sc := defScope s__law_draw_web) (by decide +kernel)) (fun _ _ _ _ _ => (vg_tup rfl (vgs_cons (vg_name 7 nd) (vgs_cons (vg_name 10 nd) vgs_nil)))) (fun _ _ _ _ _ => vts_nil) (fun _ _ _ _ _ => (ve_tup (ves_cons (ve_callB ((cr_min rfl).or (call_min2 rfl)) min_ok (by rfl) (hB "min" (by decide)) (by rfl) (vrs_cons (ve_vr (ve_at (vr_name 8) (ve_vr (ve_name 7)))) (vrs_cons (ve_vr (ve_at (vr_name 8) (ve_vr (ve_name 10)))) vrs_nil))) (ves_cons (ve_callB ((cr_max rfl).or (call_max2 rfl)) max_ok (by rfl) (hB "max" (by decide)) (by rfl) (vrs_cons (ve_vr (ve_at (vr_name 8) (ve_vr (ve_name 7)))) (vrs_cons (ve_vr (ve_at (vr_name 8) (ve_vr (ve_name 10)))) vrs_nil))) ves_nil))))))
      (vss_one (vs_rel 5 (vs_ret (ve_tup (ves_cons (ve_name 4) (ves_cons (ve_callTy call_tuple_of tuple_ok (by rfl) (hB "tuple" (by decide)) (by rfl) (vrs_cons (vn_vr (vn_lc (own := [("a", 7), ("b", 10)]) rfl nd (vi_seq (ve_name 5)) (blkOk_by (own := [("a", 7), ("b", 10)]) (N := n__law_draw_web) (sc := defScope s__law_draw_web) (by decide +kernel)) (fun _ _ _ _ _ => (vg_tup rfl (vgs_cons (vg_name 7 nd) (vgs_cons (vg_name 10 nd) vgs_nil)))) (fun _ _ _ _ _ => vts_nil) (fun _ _ _ _ _ => (ve_has (h__law_draw_road) hr (ves_cons (ve_name 0) (ves_cons (ve_name 7) (ves_cons (ve_name 10) (ves_cons (ve_name 3) ves_nil)))) (hj := by omega))))) vrs_nil)) ves_nil))))))))))))) (fun ds s r _ h => h), hm, FF.kp, (FF.binds fun _ _ _ _ _ _ us hl => match us, hl with | [_, _, _, _], _ => rfl)⟩
-- builtins ['int', 'len', 'max', 'min', 'range', 'tuple']

abbrev s__law_draw_lengths : Stmt := top 23
def n__law_draw_lengths : List Str := ["pen", "web", "a", "b", "low", "high"]
theorem sc__law_draw_lengths : FnScope n__law_draw_lengths ["pen", "web"] (defScope s__law_draw_lengths) := ⟨rfl, rfl, rfl, by decide +kernel, rfl, by decide +kernel, by decide +kernel⟩
def m__law_draw_lengths {S : Type} (r_law_take : List D → Mo S D) : Ms S :=
  (sRt (cb dTuple (rCons (rNv (mLc (rSeq (b2 dIx (rN 1) (rC (.int 1)))) [2, 3, 4, 5] (item1 (bTup (bCons (bName 2) (bCons (bName 3) (bCons (bName 4) (bCons (bName 5) bNil))))) qYes (one (mCall 2 (F__law_one_of r_law_take) (rCons (rN 0) (rCons (rNv (rLst (rCons (rN 4) (rCons (rN 5) (rCons (b2 dAdd (rN 4) (mCall 2 r_law_take (rCons (rN 0) (rCons (b2 dAdd (b2 dSub (rN 5) (rN 4)) (rC (.int 1))) rNil)))) rNil))))) rNil))))))) rNil)))
def F__law_draw_lengths {S : Type} (r_law_take : List D → Mo S D) (ds : List D) : Mo S D := endV (m__law_draw_lengths r_law_take) (begin_ 6 ds)
theorem ok__law_draw_lengths {wo : World} {K : PySem.W.Frag} {mg : Str → Option Value} {base : Heap} {w : Wd} (r_law_take : List D → Mo w.S D) {f : Addr} {fd : FuncData} (FF : Fun K "_law_draw_lengths" "_law_draw_lengths" s__law_draw_lengths f fd) (hm : mg "_law_draw_lengths" = some (.ref f)) (hB : ∀ x ∈ [("tuple" : Str)], mg x = none) (h__law_one_of : Has P wo K mg base "_law_one_of" 5 ["pen", "some"] (spV w 2 (F__law_one_of r_law_take))) (h__law_take : Has P wo K mg base "_law_take" 4 ["pen", "amount"] (spV w 2 (r_law_take))) : Has P wo K mg base "_law_draw_lengths" 6 ["pen", "web"] (spV w 2 (F__law_draw_lengths r_law_take)) :=
  ⟨f, fd, def_v FF sc__law_draw_lengths rfl (fun cdv A outer s H E hr => have nd := sc__law_draw_lengths.nd; (vss_one (vs_ret (ve_callTy call_tuple_of tuple_ok (by rfl) (hB "tuple" (by decide)) (by rfl) (vrs_cons (vn_vr (vn_lc (own := [("a", 2), ("b", 3), ("low", 4), ("high", 5)]) rfl nd (vi_seq (ve_at (ve_vr (ve_name 1)) (ve_vr ve_int))) (blkOk_by (own := [("a", 2), ("b", 3), ("low", 4), ("high", 5)]) (N := n__law_draw_lengths) (sc := defScope s__law_draw_lengths) (by decide +kernel)) (fun _ _ _ _ _ => (vg_tup rfl (vgs_cons (vg_name 2 nd) (vgs_cons (vg_name 3 nd) (vgs_cons (vg_name 4 nd) (vgs_cons (vg_name 5 nd) vgs_nil)))))) (fun _ _ _ _ _ => vts_nil) (fun _ _ _ _ _ => (ve_has (h__law_one_of) hr (ves_cons (ve_name 0) (ves_cons (vn_ve (vn_lst (ves_cons (ve_name 4) (ves_cons (ve_name 5) (ves_cons (ve_add (ve_vr (ve_name 4)) (ve_vr (ve_has (h__law_take) hr (ves_cons (ve_name 0) (ves_cons (ve_add (ve_vr (ve_sub (ve_vr (ve_name 5)) (ve_vr (ve_name 4)))) (ve_vr ve_int)) ves_nil)) (hj := by omega)))) ves_nil))))) ves_nil)) (hj := by omega))))) vrs_nil))))) (fun ds s r _ h => h), hm, FF.kp, (FF.binds fun _ _ _ _ _ _ us hl => match us, hl with | [_, _], _ => rfl)⟩
-- builtins ['tuple']

abbrev s_choices : Stmt := top 13
def n_choices : List Str := ["many", "count"]
theorem sc_choices : FnScope n_choices ["many", "count"] (defScope s_choices) := ⟨rfl, rfl, rfl, by decide +kernel, rfl, by decide +kernel, by decide +kernel⟩
def m_choices {S : Type} : Ms S :=
  (sRf (rComb (rN 0) (rN 1)))
def F_choices {S : Type} (ds : List D) : Mo S (List D) := endN (m_choices) (begin_ 2 ds)
theorem ok_choices {wo : World} {K : PySem.W.Frag} {mg : Str → Option Value} {base : Heap} {w : Wd} {f : Addr} {fd : FuncData} (FF : Fun K "choices" "choices" s_choices f fd) (hm : mg "choices" = some (.ref f)) (hB : ∀ x ∈ [("list" : Str), ("range" : Str)], mg x = none) {u_combinations : Value} (h_combinations : mg "combinations" = some u_combinations) (v_combinations : u_combinations = .type "itertools.combinations") : Has P wo K mg base "choices" 1 ["many", "count"] (spN w 2 (F_choices)) :=
  ⟨f, fd, def_n FF sc_choices rfl (fun cdv A outer s H E hr => have nd := sc_choices.nd; (vss_one (vs_retF (vn_comb rfl (by rfl) (hB "list" (by decide)) (by rfl) (hB "range" (by decide)) (by rfl) (h_combinations.trans (congrArg some v_combinations)) (ve_vr (ve_name 0)) (ve_vr (ve_name 1)))))) (fun ds s r _ h => h), hm, FF.kp, (FF.binds fun _ _ _ _ _ _ us hl => match us, hl with | [_, _], _ => rfl)⟩
-- builtins ['list', 'range']

abbrev s_merged : Stmt := top 9
def n_merged : List Str := ["parts", "a", "b", "part"]
theorem sc_merged : FnScope n_merged ["parts", "a", "b"] (defScope s_merged) := ⟨rfl, rfl, rfl, by decide +kernel, rfl, by decide +kernel, by decide +kernel⟩
def m_merged {S : Type} : Ms S :=
  (sRf (mLc (rSeq (rN 0)) [3] (item1 (bName 3) qYes (one (mIf (qB (b2 dEq (rN 3) (b2 dIx (rN 0) (rN 2)))) (b2 dIx (rN 0) (rN 1)) (rN 3))))))
def F_merged {S : Type} (ds : List D) : Mo S (List D) := endN (m_merged) (begin_ 4 ds)
theorem ok_merged {wo : World} {K : PySem.W.Frag} {mg : Str → Option Value} {base : Heap} {w : Wd} {f : Addr} {fd : FuncData} (FF : Fun K "merged" "merged" s_merged f fd) (hm : mg "merged" = some (.ref f)) : Has P wo K mg base "merged" 1 ["parts", "a", "b"] (spN w 3 (F_merged)) :=
  ⟨f, fd, def_n FF sc_merged rfl (fun cdv A outer s H E hr => have nd := sc_merged.nd; (vss_one (vs_retF (vn_lc (own := [("part", 3)]) rfl nd (vi_seq (ve_name 0)) (blkOk_by (own := [("part", 3)]) (N := n_merged) (sc := defScope s_merged) (by decide +kernel)) (fun _ _ _ _ _ => (vg_name 3 nd)) (fun _ _ _ _ _ => vts_nil) (fun _ _ _ _ _ => (ve_if (vq_ck (ck_eq hr) (ve_vr (ve_name 3)) (ve_vr (ve_at (ve_vr (ve_name 0)) (ve_vr (ve_name 2)))) (by first | exact nomark _ | rfl)) (ve_at (ve_vr (ve_name 0)) (ve_vr (ve_name 1))) (ve_name 3))))))) (fun ds s r _ h => h), hm, FF.kp, (FF.binds fun _ _ _ _ _ _ us hl => match us, hl with | [_, _, _], _ => rfl)⟩
-- builtins []

abbrev s_is_joined : Stmt := top 8
def n_is_joined : List Str := ["size", "rows", "parts", "row", "part"]
theorem sc_is_joined : FnScope n_is_joined ["size", "rows"] (defScope s_is_joined) := ⟨rfl, rfl, rfl, by decide +kernel, rfl, by decide +kernel, by decide +kernel⟩
def m_is_joined {S : Type} : Ms S :=
  (sq (mSet 2 (rNv (rRg1 (rN 0))))
  (sq (mFor (rSeq (rN 1)) (bName 3)
  (mSet 2 (rNv (mCall 3 (F_merged) (rCons (rN 2) (rCons (b2 dIx (rN 3) (rC (.int 0))) (rCons (b2 dIx (rN 3) (rC (.int 1))) rNil)))))))
  (sRt (cb dAll (rCons (rNv (mLc (rSeq (rN 2)) [4] (item1 (bName 4) qYes (one (b2 dEq (rN 4) (b2 dIx (rN 2) (rC (.int 0)))))))) rNil)))))
def F_is_joined {S : Type} (ds : List D) : Mo S D := endV (m_is_joined) (begin_ 5 ds)
theorem ok_is_joined {wo : World} {K : PySem.W.Frag} {mg : Str → Option Value} {base : Heap} {w : Wd} {f : Addr} {fd : FuncData} (FF : Fun K "is_joined" "is_joined" s_is_joined f fd) (hm : mg "is_joined" = some (.ref f)) (hB : ∀ x ∈ [("all" : Str), ("list" : Str), ("range" : Str)], mg x = none) (h_merged : Has P wo K mg base "merged" 1 ["parts", "a", "b"] (spN w 3 (F_merged))) : Has P wo K mg base "is_joined" 2 ["size", "rows"] (spV w 2 (F_is_joined)) :=
  ⟨f, fd, def_v FF sc_is_joined rfl (fun cdv A outer s H E hr => have nd := sc_is_joined.nd; (vss_cons (vs_set 2 nd (vn_ve (vn_listRg rfl (by rfl) (hB "list" (by decide)) (by rfl) (hB "range" (by decide)) (ve_vr (ve_name 0)))))
      (vss_cons (vs_for PassesOwn.never rfl (vi_seq (ve_name 1)) (vg_name 3 nd)
      (vss_one (vs_set 2 nd (vn_ve (vn_has (h_merged) hr (ves_cons (ve_name 2) (ves_cons (ve_at (ve_vr (ve_name 3)) (ve_vr ve_int)) (ves_cons (ve_at (ve_vr (ve_name 3)) (ve_vr ve_int)) ves_nil))) (hj := by omega))))))
      (vss_one (vs_ret (ve_callB (cr_all rfl) all_ok (by rfl) (hB "all" (by decide)) (by rfl) (vrs_cons (vn_vr (vn_lc (own := [("part", 4)]) rfl nd (vi_seq (ve_name 2)) (blkOk_by (own := [("part", 4)]) (N := n_is_joined) (sc := defScope s_is_joined) (by decide +kernel)) (fun _ _ _ _ _ => (vg_name 4 nd)) (fun _ _ _ _ _ => vts_nil) (fun _ _ _ _ _ => (ve_ck (ck_eq hr) (ve_vr (ve_name 4)) (ve_vr (ve_at (ve_vr (ve_name 2)) (ve_vr ve_int))) (by first | exact nomark _ | rfl))))) vrs_nil))))))) (fun ds s r _ h => h), hm, FF.kp, (FF.binds fun _ _ _ _ _ _ us hl => match us, hl with | [_, _], _ => rfl)⟩
-- builtins ['all', 'list', 'range']

abbrev s_joins : Stmt := top 11
def n_joins : List Str := ["web", "roads", "road"]
theorem sc_joins : FnScope n_joins ["web", "roads"] (defScope s_joins) := ⟨rfl, rfl, rfl, by decide +kernel, rfl, by decide +kernel, by decide +kernel⟩
def m_joins {S : Type} : Ms S :=
  (sRt (mCall 2 (F_is_joined) (rCons (b2 dIx (rN 0) (rC (.int 0))) (rCons (rNv (mLc (rSeq (rN 1)) [2] (item1 (bName 2) qYes (one (b2 dIx (b2 dIx (rN 0) (rC (.int 1))) (rN 2)))))) rNil))))
def F_joins {S : Type} (ds : List D) : Mo S D := endV (m_joins) (begin_ 3 ds)
theorem ok_joins {wo : World} {K : PySem.W.Frag} {mg : Str → Option Value} {base : Heap} {w : Wd} {f : Addr} {fd : FuncData} (FF : Fun K "joins" "joins" s_joins f fd) (hm : mg "joins" = some (.ref f)) (h_is_joined : Has P wo K mg base "is_joined" 2 ["size", "rows"] (spV w 2 (F_is_joined))) : Has P wo K mg base "joins" 3 ["web", "roads"] (spV w 2 (F_joins)) :=
  ⟨f, fd, def_v FF sc_joins rfl (fun cdv A outer s H E hr => have nd := sc_joins.nd; (vss_one (vs_ret (ve_has (h_is_joined) hr (ves_cons (ve_at (ve_vr (ve_name 0)) (ve_vr ve_int)) (ves_cons (vn_ve (vn_lc (own := [("road", 2)]) rfl nd (vi_seq (ve_name 1)) (blkOk_by (own := [("road", 2)]) (N := n_joins) (sc := defScope s_joins) (by decide +kernel)) (fun _ _ _ _ _ => (vg_name 2 nd)) (fun _ _ _ _ _ => vts_nil) (fun _ _ _ _ _ => (ve_at (ve_vr (ve_at (ve_vr (ve_name 0)) (ve_vr ve_int))) (ve_vr (ve_name 2)))))) ves_nil)) (hj := by omega))))) (fun ds s r _ h => h), hm, FF.kp, (FF.binds fun _ _ _ _ _ _ us hl => match us, hl with | [_, _], _ => rfl)⟩
-- builtins []

abbrev s_trees : Stmt := top 12
def n_trees : List Str := ["web", "roads"]
theorem sc_trees : FnScope n_trees ["web"] (defScope s_trees) := ⟨rfl, rfl, rfl, by decide +kernel, rfl, by decide +kernel, by decide +kernel⟩
def m_trees {S : Type} : Ms S :=
  (sRf (mLc (rSeq (rNv (mCall 2 (F_choices) (rCons (cb dLen (rCons (b2 dIx (rN 0) (rC (.int 1))) rNil)) (rCons (b2 dSub (b2 dIx (rN 0) (rC (.int 0))) (rC (.int 1))) rNil))))) [1] (item1 (bName 1) (qB (mCall 2 (F_joins) (rCons (rN 0) (rCons (rN 1) rNil)))) (one (rN 1)))))
def F_trees {S : Type} (ds : List D) : Mo S (List D) := endN (m_trees) (begin_ 2 ds)
theorem ok_trees {wo : World} {K : PySem.W.Frag} {mg : Str → Option Value} {base : Heap} {w : Wd} {f : Addr} {fd : FuncData} (FF : Fun K "trees" "trees" s_trees f fd) (hm : mg "trees" = some (.ref f)) (hB : ∀ x ∈ [("len" : Str)], mg x = none) (h_choices : Has P wo K mg base "choices" 1 ["many", "count"] (spN w 2 (F_choices))) (h_joins : Has P wo K mg base "joins" 3 ["web", "roads"] (spV w 2 (F_joins))) : Has P wo K mg base "trees" 4 ["web"] (spN w 1 (F_trees)) :=
  ⟨f, fd, def_n FF sc_trees rfl (fun cdv A outer s H E hr => have nd := sc_trees.nd; (vss_one (vs_retF (vn_lc (own := [("roads", 1)]) rfl nd (vi_seq (vn_ve (vn_has (h_choices) hr (ves_cons (ve_callB call_len_seq len_ok (by rfl) (hB "len" (by decide)) (by rfl) (vrs_cons (ve_vr (ve_at (ve_vr (ve_name 0)) (ve_vr ve_int))) vrs_nil)) (ves_cons (ve_sub (ve_vr (ve_at (ve_vr (ve_name 0)) (ve_vr ve_int))) (ve_vr ve_int)) ves_nil)) (hj := by omega)))) (blkOk_by (own := [("roads", 1)]) (N := n_trees) (sc := defScope s_trees) (by decide +kernel)) (fun _ _ _ _ _ => (vg_name 1 nd)) (fun _ _ _ _ _ => (vts_one (vq_val (ve_has (h_joins) hr (ves_cons (ve_name 0) (ves_cons (ve_name 1) ves_nil)) (hj := by omega))))) (fun _ _ _ _ _ => (ve_name 1)))))) (fun ds s r _ h => h), hm, FF.kp, (FF.binds fun _ _ _ _ _ _ us hl => match us, hl with | [_], _ => rfl)⟩
-- builtins ['len']

abbrev s_total : Stmt := top 14
def n_total : List Str := ["lengths", "tree", "road"]
theorem sc_total : FnScope n_total ["lengths", "tree"] (defScope s_total) := ⟨rfl, rfl, rfl, by decide +kernel, rfl, by decide +kernel, by decide +kernel⟩
def m_total {S : Type} : Ms S :=
  (sRt (cb dSum (rCons (rNv (mLc (rSeq (rN 1)) [2] (item1 (bName 2) qYes (one (b2 dIx (rN 0) (rN 2)))))) rNil)))
def F_total {S : Type} (ds : List D) : Mo S D := endV (m_total) (begin_ 3 ds)
theorem ok_total {wo : World} {K : PySem.W.Frag} {mg : Str → Option Value} {base : Heap} {w : Wd} {f : Addr} {fd : FuncData} (FF : Fun K "total" "total" s_total f fd) (hm : mg "total" = some (.ref f)) (hB : ∀ x ∈ [("sum" : Str)], mg x = none) : Has P wo K mg base "total" 1 ["lengths", "tree"] (spV w 2 (F_total)) :=
  ⟨f, fd, def_v FF sc_total rfl (fun cdv A outer s H E hr => have nd := sc_total.nd; (vss_one (vs_ret (ve_callB (cr_sum rfl) sum_ok (by rfl) (hB "sum" (by decide)) (by rfl) (vrs_cons (vn_vr (vn_lc (own := [("road", 2)]) rfl nd (vi_seq (ve_name 1)) (blkOk_by (own := [("road", 2)]) (N := n_total) (sc := defScope s_total) (by decide +kernel)) (fun _ _ _ _ _ => (vg_name 2 nd)) (fun _ _ _ _ _ => vts_nil) (fun _ _ _ _ _ => (ve_at (ve_vr (ve_name 0)) (ve_vr (ve_name 2)))))) vrs_nil))))) (fun ds s r _ h => h), hm, FF.kp, (FF.binds fun _ _ _ _ _ _ us hl => match us, hl with | [_, _], _ => rfl)⟩
-- builtins ['sum']

abbrev s_least_trees : Stmt := top 15
def n_least_trees : List Str := ["web", "lengths", "every", "least", "tree"]
theorem sc_least_trees : FnScope n_least_trees ["web", "lengths"] (defScope s_least_trees) := ⟨rfl, rfl, rfl, by decide +kernel, rfl, by decide +kernel, by decide +kernel⟩
def m_least_trees {S : Type} : Ms S :=
  (sq (mSet 2 (rNv (mCall 1 (F_trees) (rCons (rN 0) rNil))))
  (sq (mSet 3 (cb dMin (rCons (rNv (mLc (rSeq (rN 2)) [4] (item1 (bName 4) qYes (one (mCall 2 (F_total) (rCons (rN 1) (rCons (rN 4) rNil))))))) rNil)))
  (sRf (mLc (rSeq (rN 2)) [4] (item1 (bName 4) (qB (b2 dEq (mCall 2 (F_total) (rCons (rN 1) (rCons (rN 4) rNil))) (rN 3))) (one (rN 4)))))))
def F_least_trees {S : Type} (ds : List D) : Mo S (List D) := endN (m_least_trees) (begin_ 5 ds)
theorem ok_least_trees {wo : World} {K : PySem.W.Frag} {mg : Str → Option Value} {base : Heap} {w : Wd} {f : Addr} {fd : FuncData} (FF : Fun K "least_trees" "least_trees" s_least_trees f fd) (hm : mg "least_trees" = some (.ref f)) (hB : ∀ x ∈ [("min" : Str)], mg x = none) (h_trees : Has P wo K mg base "trees" 4 ["web"] (spN w 1 (F_trees))) (h_total : Has P wo K mg base "total" 1 ["lengths", "tree"] (spV w 2 (F_total))) : Has P wo K mg base "least_trees" 5 ["web", "lengths"] (spN w 2 (F_least_trees)) :=
  ⟨f, fd, def_n FF sc_least_trees rfl (fun cdv A outer s H E hr => have nd := sc_least_trees.nd; (vss_cons (vs_set 2 nd (vn_ve (vn_has (h_trees) hr (ves_cons (ve_name 0) ves_nil) (hj := by omega))))
      (vss_cons (vs_set 3 nd (ve_callB ((cr_min rfl).or (call_min2 rfl)) min_ok (by rfl) (hB "min" (by decide)) (by rfl) (vrs_cons (vn_vr (vn_lc (own := [("tree", 4)]) rfl nd (vi_seq (ve_name 2)) (blkOk_by (own := [("tree", 4)]) (N := n_least_trees) (sc := defScope s_least_trees) (by decide +kernel)) (fun _ _ _ _ _ => (vg_name 4 nd)) (fun _ _ _ _ _ => vts_nil) (fun _ _ _ _ _ => (ve_has (h_total) hr (ves_cons (ve_name 1) (ves_cons (ve_name 4) ves_nil)) (hj := by omega))))) vrs_nil)))
      (vss_one (vs_retF (vn_lc (own := [("tree", 4)]) rfl nd (vi_seq (ve_name 2)) (blkOk_by (own := [("tree", 4)]) (N := n_least_trees) (sc := defScope s_least_trees) (by decide +kernel)) (fun _ _ _ _ _ => (vg_name 4 nd)) (fun _ _ _ _ _ => (vts_one (vq_ck (ck_eq hr) (ve_vr (ve_has (h_total) hr (ves_cons (ve_name 1) (ves_cons (ve_name 4) ves_nil)) (hj := by omega))) (ve_vr (ve_name 3)) (by first | exact nomark _ | rfl)))) (fun _ _ _ _ _ => (ve_name 4)))))))) (fun ds s r _ h => h), hm, FF.kp, (FF.binds fun _ _ _ _ _ _ us hl => match us, hl with | [_, _], _ => rfl)⟩
-- builtins ['min']

abbrev s_new_houses : Stmt := top 4
def n_new_houses : List Str := ["row", "houses", "a", "b", "here", "there"]
theorem sc_new_houses : FnScope n_new_houses ["row", "houses"] (defScope s_new_houses) := ⟨rfl, rfl, rfl, by decide +kernel, rfl, by decide +kernel, by decide +kernel⟩
def m_new_houses {S : Type} : Ms S :=
  (sq (mAsg (rCut (rN 0) rNo (rPt (rC (.int 2)))) (bTup (bCons (bName 2) (bCons (bName 3) bNil))))
  (sRf (mLc (rSeq (rTup (rCons (rTup (rCons (rN 2) (rCons (rN 3) rNil))) (rCons (rTup (rCons (rN 3) (rCons (rN 2) rNil))) rNil)))) [4, 5] (item1 (bTup (bCons (bName 4) (bCons (bName 5) bNil))) (qAnd (qB (b2 dEq (rN 4) (b2 dIx (rN 1) (rNeg (rC (.int 1)))))) (qB (b2 (isIn true) (rN 5) (rN 1)))) (one (rN 5))))))
def F_new_houses {S : Type} (ds : List D) : Mo S (List D) := endN (m_new_houses) (begin_ 6 ds)
theorem ok_new_houses {wo : World} {K : PySem.W.Frag} {mg : Str → Option Value} {base : Heap} {w : Wd} {f : Addr} {fd : FuncData} (FF : Fun K "new_houses" "new_houses" s_new_houses f fd) (hm : mg "new_houses" = some (.ref f)) : Has P wo K mg base "new_houses" 1 ["row", "houses"] (spN w 2 (F_new_houses)) :=
  ⟨f, fd, def_n FF sc_new_houses rfl (fun cdv A outer s H E hr => have nd := sc_new_houses.nd; (vss_cons (vs_asg (ve_slice (ve_vr (ve_name 0)) vo_none (vo_some (ve_vr ve_int))) (vg_tup rfl (vgs_cons (vg_name 2 nd) (vgs_cons (vg_name 3 nd) vgs_nil))))
      (vss_one (vs_retF (vn_lc (own := [("here", 4), ("there", 5)]) rfl nd (vi_seq (ve_tup (ves_cons (ve_tup (ves_cons (ve_name 2) (ves_cons (ve_name 3) ves_nil))) (ves_cons (ve_tup (ves_cons (ve_name 3) (ves_cons (ve_name 2) ves_nil))) ves_nil)))) (blkOk_by (own := [("here", 4), ("there", 5)]) (N := n_new_houses) (sc := defScope s_new_houses) (by decide +kernel)) (fun _ _ _ _ _ => (vg_tup rfl (vgs_cons (vg_name 4 nd) (vgs_cons (vg_name 5 nd) vgs_nil)))) (fun _ _ _ _ _ => (vts_one (vw_pt (vw_and (vq_ck (ck_eq hr) (ve_vr (ve_name 4)) (ve_vr (ve_at (ve_vr (ve_name 1)) (ve_vr (ve_neg ve_int)))) (by first | exact nomark _ | rfl)) (vw_and1 (vq_ck (ck_notin hr) (ve_vr (ve_name 5)) (ve_vr (ve_name 1)) (by first | exact nomark _ | rfl))))))) (fun _ _ _ _ _ => (ve_name 5))))))) (fun ds s r _ h => h), hm, FF.kp, (FF.binds fun _ _ _ _ _ _ us hl => match us, hl with | [_, _], _ => rfl)⟩
-- builtins []

abbrev s_ways_on : Stmt := top 3
def n_ways_on : List Str := ["web", "left_out", "houses", "end", "road", "row", "house", "rest"]
theorem sc_ways_on : FnScope n_ways_on ["web", "left_out", "houses", "end"] (defScope s_ways_on) := ⟨rfl, rfl, rfl, by decide +kernel, rfl, by decide +kernel, by decide +kernel⟩
def m_ways_on {S : Type} (rec : List D → Mo S (List D)) : Ms S :=
  (sq (sIf (qB (b2 dEq (b2 dIx (rN 2) (rNeg (rC (.int 1)))) (rN 3))) (sRf (rLst (rCons (rTup rNil) rNil)))
  mNx)
  (sRf (mLc (cb enumA (rCons (b2 dIx (rN 0) (rC (.int 1))) rNil)) [4, 5, 6, 7] (item1 (bTup (bCons (bName 4) (bCons (bName 5) bNil))) (qB (b2 dNe (rN 4) (rN 1))) (mIn (rSeq (rNv (mCall 2 (F_new_houses) (rCons (rN 5) (rCons (rN 2) rNil))))) [6, 7] (item1 (bName 6) qYes (mIn (rSeq (rNv (mCall 4 rec (rCons (rN 0) (rCons (rN 1) (rCons (rTup (rStar (rN 2) (rCons (rN 6) rNil))) (rCons (rN 3) rNil))))))) [7] (item1 (bName 7) qYes (one (rTup (rCons (rN 4) (rStar (rN 7) rNil))))))))))))
def R_ways_on {S : Type} : Nat → List D → Mo S (List D)
  | 0 => fun _ _ => none
  | k + 1 => fun ds => endN (m_ways_on (R_ways_on k)) (begin_ 8 ds)
def F_ways_on {S : Type} : List D → Mo S (List D) := R_ways_on 8
theorem okR_ways_on {wo : World} {K : PySem.W.Frag} {mg : Str → Option Value} {base : Heap} {w : Wd} {f : Addr} {fd : FuncData} (FF : Fun K "ways_on" "ways_on" s_ways_on f fd) (hm : mg "ways_on" = some (.ref f)) (hB : ∀ x ∈ [("enumerate" : Str)], mg x = none) (h_new_houses : Has P wo K mg base "new_houses" 1 ["row", "houses"] (spN w 2 (F_new_houses))) : ∀ k, Has P wo K mg base "ways_on" (k + 2) ["web", "left_out", "houses", "end"] (spN w 4 (R_ways_on k))
  | 0 => (has_none FF sc_ways_on hm (FF.binds fun _ _ _ _ _ _ us hl => match us, hl with | [_, _, _, _], _ => rfl) fun _ _ _ _ => spN_none : Has P wo K mg base "ways_on" (0 + 1) ["web", "left_out", "houses", "end"] (spN w 4 (R_ways_on 0))).up (by omega)
  | k + 1 => have ih := okR_ways_on FF hm hB h_new_houses k
    ⟨f, fd, (def_n FF sc_ways_on rfl (fun cdv A outer s H E hr => have nd := sc_ways_on.nd; (vss_cons (vs_if (vq_ck (ck_eq hr) (ve_vr (ve_at (ve_vr (ve_name 2)) (ve_vr (ve_neg ve_int)))) (ve_vr (ve_name 3)) (by first | exact nomark _ | rfl))
      (vss_one (vs_retF (vn_lst (ves_cons (ve_tup ves_nil) ves_nil)))) vss_nil)
      (vss_one (vs_retF (vn_lcN (own := [("road", 4), ("row", 5), ("house", 6), ("rest", 7)]) rfl nd (vi_enum (hB "enumerate" (by decide)) (ves_cons (ve_at (ve_vr (ve_name 0)) (ve_vr ve_int)) ves_nil)) (blkOk_by (own := [("road", 4), ("row", 5), ("house", 6), ("rest", 7)]) (N := n_ways_on) (sc := defScope s_ways_on) (by decide +kernel)) (fun _ _ _ _ _ => (clause_next (vs1 := [6, 7]) rfl rfl rfl rfl (vg_pg (vg_tup rfl (vgs_cons (vg_name 4 nd) (vgs_cons (vg_name 5 nd) vgs_nil)))) (vts_one (vq_ck (ck_ne hr) (ve_vr (ve_name 4)) (ve_vr (ve_name 1)) (by first | exact nomark _ | rfl))) (by decide) (by decide) (vi_seq (vn_ve (vn_has (h_new_houses) hr (ves_cons (ve_name 5) (ves_cons (ve_name 2) ves_nil)) (hj := by omega)))) (by intro _; rfl) (clause_next (vs1 := [7]) rfl rfl rfl rfl (vg_pg (vg_name 6 nd)) vts_nil (by decide) (by decide) (vi_seq (vn_ve (vn_has (ih) hr (ves_cons (ve_name 0) (ves_cons (ve_name 1) (ves_cons (ve_tup (ves_star (ve_vr (ve_name 2)) (ves_cons (ve_name 6) ves_nil))) (ves_cons (ve_name 3) ves_nil)))) (hj := by omega)))) (by intro _; rfl) (clause_last rfl rfl rfl rfl (vg_pg (vg_name 7 nd)) vts_nil (by decide) (ve_tup (ves_cons (ve_name 4) (ves_star (ve_vr (ve_name 7)) ves_nil)))))))))))) (fun ds s r _ h => h) : FnOk P wo K mg base CX0 (k + 2 + 1) f fd ["web", "left_out", "houses", "end"] (spN w 4 (R_ways_on (k + 1)))).mono (by omega), hm, FF.kp, (FF.binds fun _ _ _ _ _ _ us hl => match us, hl with | [_, _, _, _], _ => rfl)⟩
theorem ok_ways_on {wo : World} {K : PySem.W.Frag} {mg : Str → Option Value} {base : Heap} {w : Wd} {f : Addr} {fd : FuncData} (FF : Fun K "ways_on" "ways_on" s_ways_on f fd) (hm : mg "ways_on" = some (.ref f)) (hB : ∀ x ∈ [("enumerate" : Str)], mg x = none) (h_new_houses : Has P wo K mg base "new_houses" 1 ["row", "houses"] (spN w 2 (F_new_houses))) : Has P wo K mg base "ways_on" 10 ["web", "left_out", "houses", "end"] (spN w 4 (F_ways_on)) := okR_ways_on FF hm hB h_new_houses 8
-- builtins ['enumerate']

abbrev s_detours : Stmt := top 2
def n_detours : List Str := ["web", "road", "start", "end"]
theorem sc_detours : FnScope n_detours ["web", "road"] (defScope s_detours) := ⟨rfl, rfl, rfl, by decide +kernel, rfl, by decide +kernel, by decide +kernel⟩
def m_detours {S : Type} : Ms S :=
  (sq (mAsg (rCut (b2 dIx (b2 dIx (rN 0) (rC (.int 1))) (rN 1)) rNo (rPt (rC (.int 2)))) (bTup (bCons (bName 2) (bCons (bName 3) bNil))))
  (sRf (mCall 4 (F_ways_on) (rCons (rN 0) (rCons (rN 1) (rCons (rTup (rCons (rN 2) rNil)) (rCons (rN 3) rNil)))))))
def F_detours {S : Type} (ds : List D) : Mo S (List D) := endN (m_detours) (begin_ 4 ds)
theorem ok_detours {wo : World} {K : PySem.W.Frag} {mg : Str → Option Value} {base : Heap} {w : Wd} {f : Addr} {fd : FuncData} (FF : Fun K "detours" "detours" s_detours f fd) (hm : mg "detours" = some (.ref f)) (h_ways_on : Has P wo K mg base "ways_on" 10 ["web", "left_out", "houses", "end"] (spN w 4 (F_ways_on))) : Has P wo K mg base "detours" 11 ["web", "road"] (spN w 2 (F_detours)) :=
  ⟨f, fd, def_n FF sc_detours rfl (fun cdv A outer s H E hr => have nd := sc_detours.nd; (vss_cons (vs_asg (ve_slice (ve_vr (ve_at (ve_vr (ve_at (ve_vr (ve_name 0)) (ve_vr ve_int))) (ve_vr (ve_name 1)))) vo_none (vo_some (ve_vr ve_int))) (vg_tup rfl (vgs_cons (vg_name 2 nd) (vgs_cons (vg_name 3 nd) vgs_nil))))
      (vss_one (vs_retF (vn_has (h_ways_on) hr (ves_cons (ve_name 0) (ves_cons (ve_name 1) (ves_cons (ve_tup (ves_cons (ve_name 2) ves_nil)) (ves_cons (ve_name 3) ves_nil)))) (hj := by omega)))))) (fun ds s r _ h => h), hm, FF.kp, (FF.binds fun _ _ _ _ _ _ us hl => match us, hl with | [_, _], _ => rfl)⟩
-- builtins []

abbrev s_sides : Stmt := top 5
def n_sides : List Str := ["web", "road", "a", "b", "found", "house", "side"]
theorem sc_sides : FnScope n_sides ["web", "road"] (defScope s_sides) := ⟨rfl, rfl, rfl, by decide +kernel, rfl, by decide +kernel, by decide +kernel⟩
def m_sides {S : Type} : Ms S :=
  (sq (mAsg (rCut (b2 dIx (b2 dIx (rN 0) (rC (.int 1))) (rN 1)) rNo (rPt (rC (.int 2)))) (bTup (bCons (bName 2) (bCons (bName 3) bNil))))
  (sq (mSet 4 (rNv (rLst (rCons (rTup (rCons (rN 2) rNil)) rNil))))
  (sq (mFor (cb rng1 (rCons (b2 dIx (rN 0) (rC (.int 0))) rNil)) (bName 5)
  (sIf (qAnd (qB (b2 dNe (rN 5) (rN 2))) (qB (b2 dNe (rN 5) (rN 3)))) (mSet 4 (b2 dAdd (rN 4) (rNv (mLc (rSeq (rN 4)) [6] (item1 (bName 6) qYes (one (rTup (rStar (rN 6) (rCons (rN 5) rNil)))))))))
  mNx))
  (sRf (cb dSortedA (rCons (rNv (mLc (rSeq (rN 4)) [6] (item1 (bName 6) qYes (one (cb dTuple (rCons (rNv (cb dSortedA (rCons (rN 6) rNil))) rNil)))))) rNil))))))
def F_sides {S : Type} (ds : List D) : Mo S (List D) := endN (m_sides) (begin_ 7 ds)
theorem ok_sides {wo : World} {K : PySem.W.Frag} {mg : Str → Option Value} {base : Heap} {w : Wd} {f : Addr} {fd : FuncData} (FF : Fun K "sides" "sides" s_sides f fd) (hm : mg "sides" = some (.ref f)) (hB : ∀ x ∈ [("range" : Str), ("sorted" : Str), ("tuple" : Str)], mg x = none) : Has P wo K mg base "sides" 1 ["web", "road"] (spN w 2 (F_sides)) :=
  ⟨f, fd, def_n FF sc_sides rfl (fun cdv A outer s H E hr => have nd := sc_sides.nd; (vss_cons (vs_asg (ve_slice (ve_vr (ve_at (ve_vr (ve_at (ve_vr (ve_name 0)) (ve_vr ve_int))) (ve_vr (ve_name 1)))) vo_none (vo_some (ve_vr ve_int))) (vg_tup rfl (vgs_cons (vg_name 2 nd) (vgs_cons (vg_name 3 nd) vgs_nil))))
      (vss_cons (vs_set 4 nd (vn_ve (vn_lst (ves_cons (ve_tup (ves_cons (ve_name 2) ves_nil)) ves_nil))))
      (vss_cons (vs_for PassesOwn.never rfl (vi_range1 (hB "range" (by decide)) (ves_cons (ve_at (ve_vr (ve_name 0)) (ve_vr ve_int)) ves_nil)) (vg_name 5 nd)
      (vss_one (vs_if (vw_pt (vw_and (vq_ck (ck_ne hr) (ve_vr (ve_name 5)) (ve_vr (ve_name 2)) (by first | exact nomark _ | rfl)) (vw_and1 (vq_ck (ck_ne hr) (ve_vr (ve_name 5)) (ve_vr (ve_name 3)) (by first | exact nomark _ | rfl)))))
      (vss_one (vs_set 4 nd (ve_add (ve_vr (ve_name 4)) (vn_vr (vn_lc (own := [("side", 6)]) rfl nd (vi_seq (ve_name 4)) (blkOk_by (own := [("side", 6)]) (N := n_sides) (sc := defScope s_sides) (by decide +kernel)) (fun _ _ _ _ _ => (vg_name 6 nd)) (fun _ _ _ _ _ => vts_nil) (fun _ _ _ _ _ => (ve_tup (ves_star (ve_vr (ve_name 6)) (ves_cons (ve_name 5) ves_nil))))))))) vss_nil)))
      (vss_one (vs_retF (vn_callB cr_sortedA sortedA_ok (by rfl) (hB "sorted" (by decide)) (by rfl) (vrs_cons (vn_vr (vn_lc (own := [("side", 6)]) rfl nd (vi_seq (ve_name 4)) (blkOk_by (own := [("side", 6)]) (N := n_sides) (sc := defScope s_sides) (by decide +kernel)) (fun _ _ _ _ _ => (vg_name 6 nd)) (fun _ _ _ _ _ => vts_nil) (fun _ _ _ _ _ => (ve_callTy call_tuple_of tuple_ok (by rfl) (hB "tuple" (by decide)) (by rfl) (vrs_cons (vn_vr (vn_callB cr_sortedA sortedA_ok (by rfl) (hB "sorted" (by decide)) (by rfl) (vrs_cons (ve_vr (ve_name 6)) vrs_nil))) vrs_nil))))) vrs_nil)))))))) (fun ds s r _ h => h), hm, FF.kp, (FF.binds fun _ _ _ _ _ _ us hl => match us, hl with | [_, _], _ => rfl)⟩
-- builtins ['range', 'sorted', 'tuple']

abbrev s_crossing : Stmt := top 6
def n_crossing : List Str := ["web", "side", "road", "row"]
theorem sc_crossing : FnScope n_crossing ["web", "side"] (defScope s_crossing) := ⟨rfl, rfl, rfl, by decide +kernel, rfl, by decide +kernel, by decide +kernel⟩
def m_crossing {S : Type} : Ms S :=
  (sRf (mLc (cb enumA (rCons (b2 dIx (rN 0) (rC (.int 1))) rNil)) [2, 3] (item1 (bTup (bCons (bName 2) (bCons (bName 3) bNil))) (qB (b2 dNe (b2 (isIn false) (b2 dIx (rN 3) (rC (.int 0))) (rN 1)) (b2 (isIn false) (b2 dIx (rN 3) (rC (.int 1))) (rN 1)))) (one (rN 2)))))
def F_crossing {S : Type} (ds : List D) : Mo S (List D) := endN (m_crossing) (begin_ 4 ds)
theorem ok_crossing {wo : World} {K : PySem.W.Frag} {mg : Str → Option Value} {base : Heap} {w : Wd} {f : Addr} {fd : FuncData} (FF : Fun K "crossing" "crossing" s_crossing f fd) (hm : mg "crossing" = some (.ref f)) (hB : ∀ x ∈ [("enumerate" : Str)], mg x = none) : Has P wo K mg base "crossing" 1 ["web", "side"] (spN w 2 (F_crossing)) :=
  ⟨f, fd, def_n FF sc_crossing rfl (fun cdv A outer s H E hr => have nd := sc_crossing.nd; (vss_one (vs_retF (vn_lc (own := [("road", 2), ("row", 3)]) rfl nd (vi_enum (hB "enumerate" (by decide)) (ves_cons (ve_at (ve_vr (ve_name 0)) (ve_vr ve_int)) ves_nil)) (blkOk_by (own := [("road", 2), ("row", 3)]) (N := n_crossing) (sc := defScope s_crossing) (by decide +kernel)) (fun _ _ _ _ _ => (vg_tup rfl (vgs_cons (vg_name 2 nd) (vgs_cons (vg_name 3 nd) vgs_nil)))) (fun _ _ _ _ _ => (vts_one (vq_ck (ck_ne hr) (ve_vr (ve_ck (ck_in hr) (ve_vr (ve_at (ve_vr (ve_name 3)) (ve_vr ve_int))) (ve_vr (ve_name 1)) (by first | exact nomark _ | rfl))) (ve_vr (ve_ck (ck_in hr) (ve_vr (ve_at (ve_vr (ve_name 3)) (ve_vr ve_int))) (ve_vr (ve_name 1)) (by first | exact nomark _ | rfl))) (by first | exact nomark _ | rfl)))) (fun _ _ _ _ _ => (ve_name 2)))))) (fun ds s r _ h => h), hm, FF.kp, (FF.binds fun _ _ _ _ _ _ us hl => match us, hl with | [_, _], _ => rfl)⟩
-- builtins ['enumerate']

abbrev s__law_road_right : Stmt := top 24
def n__law_road_right : List Str := ["web", "road", "ways", "cuts", "side", "across", "alone", "way", "other"]
theorem sc__law_road_right : FnScope n__law_road_right ["web", "road"] (defScope s__law_road_right) := ⟨rfl, rfl, rfl, by decide +kernel, rfl, by decide +kernel, by decide +kernel⟩
def m__law_road_right {S : Type} : Ms S :=
  (sq (mPar 2 3 (xv (rNv (mCall 2 (F_detours) (rCons (rN 0) (rCons (rN 1) rNil))))) (xv (rNv (mCall 2 (F_sides) (rCons (rN 0) (rCons (rN 1) rNil))))))
  (sq (mFor (rSeq (rN 3)) (bName 4)
  (sq (mSet 5 (rNv (mCall 2 (F_crossing) (rCons (rN 0) (rCons (rN 4) rNil)))))
  (sq (sIf (qB (b2 (isIn true) (rN 1) (rN 5))) (sRt (rC (.bl false)))
  mNx)
  (sIf (qB (b2 dNe (rNv (mLc (rSeq (rN 2)) [7] (item1 (bName 7) (qB (b2 dEq (rNv (mLc (rSeq (rN 7)) [8] (item1 (bName 8) (qB (b2 (isIn false) (rN 8) (rN 5))) (one (rN 8))))) (rNv (rLst rNil)))) (one (rN 7))))) (rNv (rLst rNil)))) (sRt (rC (.bl false)))
  mNx))))
  (sq (mSet 6 (rNv (mLc (rSeq (rN 3)) [4] (item1 (bName 4) (qB (b2 dEq (rNv (mCall 2 (F_crossing) (rCons (rN 0) (rCons (rN 4) rNil)))) (rNv (rLst (rCons (rN 1) rNil))))) (one (rN 4))))))
  (sRt (b2 dEq (b2 dEq (rN 2) (rNv (rLst rNil))) (b2 dNe (rN 6) (rNv (rLst rNil))))))))
def F__law_road_right {S : Type} (ds : List D) : Mo S D := endV (m__law_road_right) (begin_ 9 ds)
theorem ok__law_road_right {wo : World} {K : PySem.W.Frag} {mg : Str → Option Value} {base : Heap} {w : Wd} {f : Addr} {fd : FuncData} (FF : Fun K "_law_road_right" "_law_road_right" s__law_road_right f fd) (hm : mg "_law_road_right" = some (.ref f)) (h_detours : Has P wo K mg base "detours" 11 ["web", "road"] (spN w 2 (F_detours))) (h_sides : Has P wo K mg base "sides" 1 ["web", "road"] (spN w 2 (F_sides))) (h_crossing : Has P wo K mg base "crossing" 1 ["web", "side"] (spN w 2 (F_crossing))) : Has P wo K mg base "_law_road_right" 12 ["web", "road"] (spV w 2 (F__law_road_right)) :=
  ⟨f, fd, def_v FF sc__law_road_right rfl (fun cdv A outer s H E hr => have nd := sc__law_road_right.nd; (vss_cons (vs_par 2 3 rfl nd (ve_vx (vn_ve (vn_has (h_detours) hr (ves_cons (ve_name 0) (ves_cons (ve_name 1) ves_nil)) (hj := by omega)))) (ve_vx (vn_ve (vn_has (h_sides) hr (ves_cons (ve_name 0) (ves_cons (ve_name 1) ves_nil)) (hj := by omega)))))
      (vss_cons (vs_for PassesOwn.never rfl (vi_seq (ve_name 3)) (vg_name 4 nd)
      (vss_cons (vs_set 5 nd (vn_ve (vn_has (h_crossing) hr (ves_cons (ve_name 0) (ves_cons (ve_name 4) ves_nil)) (hj := by omega))))
      (vss_cons (vs_if (vq_ck (ck_notin hr) (ve_vr (ve_name 1)) (ve_vr (ve_name 5)) (by first | exact nomark _ | rfl))
      (vss_one (vs_ret ve_bl)) vss_nil)
      (vss_one (vs_if (vq_ck (ck_ne hr) (vn_vr (vn_lc (own := [("way", 7)]) rfl nd (vi_seq (ve_name 2)) (blkOk_by (own := [("way", 7)]) (N := n__law_road_right) (sc := defScope s__law_road_right) (by decide +kernel)) (fun _ _ _ _ _ => (vg_name 7 nd)) (fun _ _ _ _ _ => (vts_one (vq_ck (ck_eq hr) (vn_vr (vn_lc (own := [("other", 8)]) rfl nd (vi_seq (ve_name 7)) (blkOk_by (own := [("other", 8)]) (N := n__law_road_right) (sc := _) (by first | decide +kernel | rfl)) (fun _ _ _ _ _ => (vg_name 8 nd)) (fun _ _ _ _ _ => (vts_one (vq_ck (ck_in hr) (ve_vr (ve_name 8)) (ve_vr (ve_name 5)) (by first | exact nomark _ | rfl)))) (fun _ _ _ _ _ => (ve_name 8)))) (vn_vr (vn_lst ves_nil)) (by first | exact nomark _ | rfl)))) (fun _ _ _ _ _ => (ve_name 7)))) (vn_vr (vn_lst ves_nil)) (by first | exact nomark _ | rfl))
      (vss_one (vs_ret ve_bl)) vss_nil)))))
      (vss_cons (vs_setLc (own := [("side", 4)]) (i := 6) rfl nd (vi_seq (ve_name 3)) (blkOk_by (own := [("side", 4)]) (N := n__law_road_right) (sc := defScope s__law_road_right) (by decide +kernel)) (fun _ _ _ _ _ => (vg_name 4 nd)) (fun _ _ _ _ _ => (vts_one (vq_ck (ck_eq hr) (vn_vr (vn_has (h_crossing) hr (ves_cons (ve_name 0) (ves_cons (ve_name 4) ves_nil)) (hj := by omega))) (vn_vr (vn_lst (ves_cons (ve_name 1) ves_nil))) (by first | exact nomark _ | rfl)))) (fun _ _ _ _ _ => (ve_name 4)))
      (vss_one (vs_ret (ve_ck (ck_eq hr) (ve_vr (ve_ck (ck_eq hr) (ve_vr (ve_name 2)) (vn_vr (vn_lst ves_nil)) (by first | exact nomark _ | rfl))) (ve_vr (ve_ck (ck_ne hr) (ve_vr (ve_name 6)) (vn_vr (vn_lst ves_nil)) (by first | exact nomark _ | rfl))) (by first | exact nomark _ | rfl)))))))) (fun ds s r _ h => h), hm, FF.kp, (FF.binds fun _ _ _ _ _ _ us hl => match us, hl with | [_, _], _ => rfl)⟩
-- builtins []

abbrev s__law_tree_right : Stmt := top 25
def n__law_tree_right : List Str := ["web", "lengths", "tree", "road", "ways", "side", "across", "way", "other"]
theorem sc__law_tree_right : FnScope n__law_tree_right ["web", "lengths", "tree"] (defScope s__law_tree_right) := ⟨rfl, rfl, rfl, by decide +kernel, rfl, by decide +kernel, by decide +kernel⟩
def m__law_tree_right {S : Type} : Ms S :=
  (sq (mFor (cb rng1 (rCons (cb dLen (rCons (b2 dIx (rN 0) (rC (.int 1))) rNil)) rNil)) (bName 3)
  (sq (sIf (qB (b2 (isIn true) (rN 3) (rN 2))) (sq (mSet 4 (rNv (mLc (rSeq (rNv (mCall 2 (F_detours) (rCons (rN 0) (rCons (rN 3) rNil))))) [7] (item1 (bName 7) (qB (b2 (isIn true) (rC (.bl false)) (rNv (mLc (rSeq (rN 7)) [8] (item1 (bName 8) qYes (one (b2 (isIn false) (rN 8) (rN 2)))))))) (one (rN 7))))))
  (sIf (qOr (qB (b2 dNe (cb dLen (rCons (rN 4) rNil)) (rC (.int 1)))) (qB (b2 dGt (cb dMax (rCons (rNv (mLc (rSeq (b2 dIx (rN 4) (rC (.int 0)))) [8] (item1 (bName 8) qYes (one (b2 dIx (rN 1) (rN 8)))))) rNil)) (b2 dIx (rN 1) (rN 3))))) (sRt (rC (.bl false)))
  mNx))
  mNx)
  (mFor (rSeq (rNv (mCall 2 (F_sides) (rCons (rN 0) (rCons (rN 3) rNil))))) (bName 5)
  (sq (mSet 6 (rNv (mCall 2 (F_crossing) (rCons (rN 0) (rCons (rN 5) rNil)))))
  (sIf (qB (b2 dNe (cb dMin (rCons (rNv (mLc (rSeq (rN 6)) [8] (item1 (bName 8) qYes (one (b2 dIx (rN 1) (rN 8)))))) rNil)) (cb dMin (rCons (rNv (mLc (rSeq (rN 6)) [8] (item1 (bName 8) (qB (b2 (isIn false) (rN 8) (rN 2))) (one (b2 dIx (rN 1) (rN 8)))))) rNil)))) (sRt (rC (.bl false)))
  mNx)))))
  (sRt (rC (.bl true))))
def F__law_tree_right {S : Type} (ds : List D) : Mo S D := endV (m__law_tree_right) (begin_ 9 ds)
theorem ok__law_tree_right {wo : World} {K : PySem.W.Frag} {mg : Str → Option Value} {base : Heap} {w : Wd} {f : Addr} {fd : FuncData} (FF : Fun K "_law_tree_right" "_law_tree_right" s__law_tree_right f fd) (hm : mg "_law_tree_right" = some (.ref f)) (hB : ∀ x ∈ [("len" : Str), ("max" : Str), ("min" : Str), ("range" : Str)], mg x = none) (h_detours : Has P wo K mg base "detours" 11 ["web", "road"] (spN w 2 (F_detours))) (h_sides : Has P wo K mg base "sides" 1 ["web", "road"] (spN w 2 (F_sides))) (h_crossing : Has P wo K mg base "crossing" 1 ["web", "side"] (spN w 2 (F_crossing))) : Has P wo K mg base "_law_tree_right" 12 ["web", "lengths", "tree"] (spV w 3 (F__law_tree_right)) :=
  ⟨f, fd, def_v FF sc__law_tree_right rfl (fun cdv A outer s H E hr => have nd := sc__law_tree_right.nd; (vss_cons (vs_for PassesOwn.never rfl (vi_range1 (hB "range" (by decide)) (ves_cons (ve_callB call_len_seq len_ok (by rfl) (hB "len" (by decide)) (by rfl) (vrs_cons (ve_vr (ve_at (ve_vr (ve_name 0)) (ve_vr ve_int))) vrs_nil)) ves_nil)) (vg_name 3 nd)
      (vss_cons (vs_if (vq_ck (ck_notin hr) (ve_vr (ve_name 3)) (ve_vr (ve_name 2)) (by first | exact nomark _ | rfl))
      (vss_cons (vs_setLc (own := [("way", 7)]) (i := 4) rfl nd (vi_seq (vn_ve (vn_has (h_detours) hr (ves_cons (ve_name 0) (ves_cons (ve_name 3) ves_nil)) (hj := by omega)))) (blkOk_by (own := [("way", 7)]) (N := n__law_tree_right) (sc := defScope s__law_tree_right) (by decide +kernel)) (fun _ _ _ _ _ => (vg_name 7 nd)) (fun _ _ _ _ _ => (vts_one (vq_ck (ck_notin hr) (ve_vr ve_bl) (vn_vr (vn_lc (own := [("other", 8)]) rfl nd (vi_seq (ve_name 7)) (blkOk_by (own := [("other", 8)]) (N := n__law_tree_right) (sc := _) (by first | decide +kernel | rfl)) (fun _ _ _ _ _ => (vg_name 8 nd)) (fun _ _ _ _ _ => vts_nil) (fun _ _ _ _ _ => (ve_ck (ck_in hr) (ve_vr (ve_name 8)) (ve_vr (ve_name 2)) (by first | exact nomark _ | rfl))))) (by first | exact nomark _ | rfl)))) (fun _ _ _ _ _ => (ve_name 7)))
      (vss_one (vs_if (vw_pt (vw_or (vq_ck (ck_ne hr) (ve_vr (ve_callB call_len_seq len_ok (by rfl) (hB "len" (by decide)) (by rfl) (vrs_cons (ve_vr (ve_name 4)) vrs_nil))) (ve_vr ve_int) (by first | exact nomark _ | rfl)) (vw_or1 (vq_ck ck_gt (ve_vr (ve_callB ((cr_max rfl).or (call_max2 rfl)) max_ok (by rfl) (hB "max" (by decide)) (by rfl) (vrs_cons (vn_vr (vn_lc (own := [("other", 8)]) rfl nd (vi_seq (ve_at (ve_vr (ve_name 4)) (ve_vr ve_int))) (blkOk_by (own := [("other", 8)]) (N := n__law_tree_right) (sc := defScope s__law_tree_right) (by decide +kernel)) (fun _ _ _ _ _ => (vg_name 8 nd)) (fun _ _ _ _ _ => vts_nil) (fun _ _ _ _ _ => (ve_at (ve_vr (ve_name 1)) (ve_vr (ve_name 8)))))) vrs_nil))) (ve_vr (ve_at (ve_vr (ve_name 1)) (ve_vr (ve_name 3)))) (by first | exact nomark _ | rfl)))))
      (vss_one (vs_ret ve_bl)) vss_nil))) vss_nil)
      (vss_one (vs_for PassesOwn.never rfl (vi_seq (vn_ve (vn_has (h_sides) hr (ves_cons (ve_name 0) (ves_cons (ve_name 3) ves_nil)) (hj := by omega)))) (vg_name 5 nd)
      (vss_cons (vs_set 6 nd (vn_ve (vn_has (h_crossing) hr (ves_cons (ve_name 0) (ves_cons (ve_name 5) ves_nil)) (hj := by omega))))
      (vss_one (vs_if (vq_ck (ck_ne hr) (ve_vr (ve_callB ((cr_min rfl).or (call_min2 rfl)) min_ok (by rfl) (hB "min" (by decide)) (by rfl) (vrs_cons (vn_vr (vn_lc (own := [("other", 8)]) rfl nd (vi_seq (ve_name 6)) (blkOk_by (own := [("other", 8)]) (N := n__law_tree_right) (sc := defScope s__law_tree_right) (by decide +kernel)) (fun _ _ _ _ _ => (vg_name 8 nd)) (fun _ _ _ _ _ => vts_nil) (fun _ _ _ _ _ => (ve_at (ve_vr (ve_name 1)) (ve_vr (ve_name 8)))))) vrs_nil))) (ve_vr (ve_callB ((cr_min rfl).or (call_min2 rfl)) min_ok (by rfl) (hB "min" (by decide)) (by rfl) (vrs_cons (vn_vr (vn_lc (own := [("other", 8)]) rfl nd (vi_seq (ve_name 6)) (blkOk_by (own := [("other", 8)]) (N := n__law_tree_right) (sc := defScope s__law_tree_right) (by decide +kernel)) (fun _ _ _ _ _ => (vg_name 8 nd)) (fun _ _ _ _ _ => (vts_one (vq_ck (ck_in hr) (ve_vr (ve_name 8)) (ve_vr (ve_name 2)) (by first | exact nomark _ | rfl)))) (fun _ _ _ _ _ => (ve_at (ve_vr (ve_name 1)) (ve_vr (ve_name 8)))))) vrs_nil))) (by first | exact nomark _ | rfl))
      (vss_one (vs_ret ve_bl)) vss_nil)))))))
      (vss_one (vs_ret ve_bl)))) (fun ds s r _ h => h), hm, FF.kp, (FF.binds fun _ _ _ _ _ _ us hl => match us, hl with | [_, _, _], _ => rfl)⟩
-- builtins ['len', 'max', 'min', 'range']

abbrev s_law : Stmt := top 26
def n_law : List Str := ["script", "pen", "turn", "web", "lengths", "some", "road", "one", "tree"]
theorem sc_law : FnScope n_law ["script"] (defScope s_law) := ⟨rfl, rfl, rfl, by decide +kernel, rfl, by decide +kernel, by decide +kernel⟩
def m_law : Ms PenS :=
  (sq (mFor (cb rng1 (rCons (rC (.int 4)) rNil)) (bName 2)
  (sq (mSet 3 (mCall 4 (F__law_draw_web F__law_take) (rCons (rN 1) (rCons (rC (.int 6)) (rCons (rC (.int 9)) (rCons (rC (.int 9)) rNil))))))
  (sq (sIf (qB (b2 (isIn false) (rC (.bl false)) (rNv (mLc (cb rng1 (rCons (cb dLen (rCons (b2 dIx (rN 3) (rC (.int 1))) rNil)) rNil)) [6] (item1 (bName 6) qYes (one (mCall 2 (F__law_road_right) (rCons (rN 3) (rCons (rN 6) rNil))))))))) (sRt (rC (.bl false)))
  mNx)
  (sq (mSet 4 (mCall 2 (F__law_draw_lengths F__law_take) (rCons (rN 1) (rCons (rN 3) rNil))))
  (sq (mSet 5 (rNv (mCall 2 (F_least_trees) (rCons (rN 3) (rCons (rN 4) rNil)))))
  (sq (sIf (qOr (qB (b2 dEq (rN 5) (rNv (rLst rNil)))) (qB (b2 dNe (rNv (mLc (rSeq (rN 5)) [7] (item1 (bName 7) (qB (b2 (isIn true) (rN 7) (rNv (mCall 1 (F_trees) (rCons (rN 3) rNil))))) (one (rN 7))))) (rNv (rLst rNil))))) (sRt (rC (.bl false)))
  mNx)
  (sIf (qB (b2 (isIn false) (rC (.bl false)) (rNv (mLc (rSeq (rCut (rN 5) rNo (rPt (rC (.int 5))))) [8] (item1 (bName 8) qYes (one (mCall 3 (F__law_tree_right) (rCons (rN 3) (rCons (rN 4) (rCons (rN 8) rNil)))))))))) (sRt (rC (.bl false)))
  mNx)))))))
  (sRt (rC (.bl true))))
theorem run_law {wo : World} {K : PySem.W.Frag} {mg : Str → Option Value} {base : Heap} {f : Addr} {fd : FuncData} (FF : Fun K "law" "law" s_law f fd) (hB : ∀ x ∈ [("len" : Str), ("range" : Str)], mg x = none) (h_open : ∀ a ns tr, Has P wo K mg base "_law_open" 1 ["script"] (spN (scrW K a ns tr) 1 (F__law_open ns))) (g__law_draw_web : ∀ {p c : Addr}, p ≠ c → Has P wo K mg base "_law_draw_web" 7 ["pen", "houses", "most", "width"] (spV (penW p c) 4 (F__law_draw_web F__law_take))) (g__law_road_right : ∀ {p c : Addr}, p ≠ c → Has P wo K mg base "_law_road_right" 12 ["web", "road"] (spV (penW p c) 2 (F__law_road_right))) (g__law_draw_lengths : ∀ {p c : Addr}, p ≠ c → Has P wo K mg base "_law_draw_lengths" 6 ["pen", "web"] (spV (penW p c) 2 (F__law_draw_lengths F__law_take))) (g_least_trees : ∀ {p c : Addr}, p ≠ c → Has P wo K mg base "least_trees" 5 ["web", "lengths"] (spN (penW p c) 2 (F_least_trees))) (g_trees : ∀ {p c : Addr}, p ≠ c → Has P wo K mg base "trees" 4 ["web"] (spN (penW p c) 1 (F_trees))) (g__law_tree_right : ∀ {p c : Addr}, p ≠ c → Has P wo K mg base "_law_tree_right" 12 ["web", "lengths", "tree"] (spV (penW p c) 3 (F__law_tree_right)))
    (math : ∀ ns : List Int, ns.length ≤ 63 → ∃ cells : List Int, F__law_open ns [.obj 0] () = some ([.lst (cells.map .int), .int 0, .int 0], ()) ∧ ∃ s, m_law (none :: some (.val (.obj 0)) :: List.replicate 7 none) ⟨cells, 0, 0⟩ = some (.rt (.bl true) s)) : RunAt P wo K mg base callerA f fd ["script"] (spLaw K) := by
  refine run_at (k := 60) FF sc_law ⟨rfl, by decide, by decide⟩ (fun vs H Q E ⟨a, ns, e, _⟩ => by rw [e]; rfl) fun cdv outer s H vs Q E want => ?_
  obtain ⟨a, ns, rfl, hS, hlen, q⟩ := want
  obtain ⟨cells, e1, s9, e2⟩ := math ns hlen
  have hr : Room 59 (callerA.deeper (PyProof.Rows.envOfC "law" (defScope s_law) s.heap.objs.size f cdv)) := Room.deeper ⟨rfl, by decide, by decide⟩ _
  obtain ⟨fo, fdo, Fo, mo, ko, bo⟩ := (h_open a ns (Rd H a (.lst (ns.map V.int)))).ex
  have nd := sc_law.nd
  refine ⟨_, pss_cons (ps_set (i := 1) nd rfl (by first | exact Or.inl rfl | exact Or.inr rfl) (pe_call Fo (hr.mono (by decide)) (by rfl) mo ko bo .nil (E := E0) pass0 (pa_cons (pe_var (i := 0) rfl (by first | exact Or.inl rfl | exact Or.inr (Or.inl rfl) | exact Or.inr (Or.inr rfl)) (by decide) (by decide)) pa_nil)))
    (pss_ex (t := fun (pc : {pc : Addr × Addr // pc.1 ≠ pc.2}) => tS (penW pc.1.1 pc.1.2) m_law) fun pc => (have h__law_draw_web := g__law_draw_web pc.2; have h__law_road_right := g__law_road_right pc.2; have h__law_draw_lengths := g__law_draw_lengths pc.2; have h_least_trees := g_least_trees pc.2; have h_trees := g_trees pc.2; have h__law_tree_right := g__law_tree_right pc.2; (vss_cons (vs_for PassesOwn.never rfl (vi_range1 (hB "range" (by decide)) (ves_cons ve_int ves_nil)) (vg_name 2 nd)
      (vss_cons (vs_set 3 nd (ve_has (h__law_draw_web) hr (ves_cons (ve_name 1) (ves_cons ve_int (ves_cons ve_int (ves_cons ve_int ves_nil)))) (hj := by omega)))
      (vss_cons (vs_if (vq_ck (ck_in hr) (ve_vr ve_bl) (vn_vr (vn_lc (own := [("road", 6)]) rfl nd (vi_range1 (hB "range" (by decide)) (ves_cons (ve_callB call_len_seq len_ok (by rfl) (hB "len" (by decide)) (by rfl) (vrs_cons (ve_vr (ve_at (ve_vr (ve_name 3)) (ve_vr ve_int))) vrs_nil)) ves_nil)) (blkOk_by (own := [("road", 6)]) (N := n_law) (sc := defScope s_law) (by decide +kernel)) (fun _ _ _ _ _ => (vg_name 6 nd)) (fun _ _ _ _ _ => vts_nil) (fun _ _ _ _ _ => (ve_has (h__law_road_right) hr (ves_cons (ve_name 3) (ves_cons (ve_name 6) ves_nil)) (hj := by omega))))) (by first | exact nomark _ | rfl))
      (vss_one (vs_ret ve_bl)) vss_nil)
      (vss_cons (vs_set 4 nd (ve_has (h__law_draw_lengths) hr (ves_cons (ve_name 1) (ves_cons (ve_name 3) ves_nil)) (hj := by omega)))
      (vss_cons (vs_set 5 nd (vn_ve (vn_has (h_least_trees) hr (ves_cons (ve_name 3) (ves_cons (ve_name 4) ves_nil)) (hj := by omega))))
      (vss_cons (vs_if (vw_pt (vw_or (vq_ck (ck_eq hr) (ve_vr (ve_name 5)) (vn_vr (vn_lst ves_nil)) (by first | exact nomark _ | rfl)) (vw_or1 (vq_ck (ck_ne hr) (vn_vr (vn_lc (own := [("one", 7)]) rfl nd (vi_seq (ve_name 5)) (blkOk_by (own := [("one", 7)]) (N := n_law) (sc := defScope s_law) (by decide +kernel)) (fun _ _ _ _ _ => (vg_name 7 nd)) (fun _ _ _ _ _ => (vts_one (vq_ck (ck_notin hr) (ve_vr (ve_name 7)) (vn_vr (vn_has (h_trees) hr (ves_cons (ve_name 3) ves_nil) (hj := by omega))) (by first | exact nomark _ | rfl)))) (fun _ _ _ _ _ => (ve_name 7)))) (vn_vr (vn_lst ves_nil)) (by first | exact nomark _ | rfl)))))
      (vss_one (vs_ret ve_bl)) vss_nil)
      (vss_one (vs_if (vq_ck (ck_in hr) (ve_vr ve_bl) (vn_vr (vn_lc (own := [("tree", 8)]) rfl nd (vi_seq (ve_slice (ve_vr (ve_name 5)) vo_none (vo_some (ve_vr ve_int)))) (blkOk_by (own := [("tree", 8)]) (N := n_law) (sc := defScope s_law) (by decide +kernel)) (fun _ _ _ _ _ => (vg_name 8 nd)) (fun _ _ _ _ _ => vts_nil) (fun _ _ _ _ _ => (ve_has (h__law_tree_right) hr (ves_cons (ve_name 3) (ves_cons (ve_name 4) (ves_cons (ve_name 8) ves_nil))) (hj := by omega))))) (by first | exact nomark _ | rfl))
      (vss_one (vs_ret ve_bl)) vss_nil))))))))
      (vss_one (vs_ret ve_bl))))), ?_⟩
  refine ⟨.ref a, rfl, ?_⟩
  show spN (scrW K a ns (Rd H a (.lst (ns.map V.int)))) 1 (F__law_open ns) [V.ref a] H (fun x H1 => gName 1 x (L2.start n_law [V.ref a]) H1 _) E0
  refine open_ok hS e1 fun p c H1 hne ok => ?_
  exact ⟨⟨(p, c), hne⟩, ⟨H1, fun _ => False⟩, _, _, _, ⟨cells, 0, 0⟩, _, pen_gd (k := 7) ok rfl rfl, e2, law_post fun H2 => q H2⟩
-- builtins ['len', 'range']

theorem all_mk (math : ∀ ns : List Int, ns.length ≤ 63 → ∃ cells : List Int, F__law_open ns [.obj 0] () = some ([.lst (cells.map .int), .int 0, .int 0], ()) ∧ ∃ s, m_law (none :: some (.val (.obj 0)) :: List.replicate 7 none) ⟨cells, 0, 0⟩ = some (.rt (.bl true) s))
    {w : World} {K : PySem.W.Frag} {h : Heap} {mg : Str → Option Value} {fa : Addr} (X : K.In h) (G : h.Ns mainGlobals mg) (hfa : mg "law" = some (.ref fa)) {f__law_open : Addr} {f__law_spread : Addr} {f__law_take : Addr} {f__law_one_of : Addr} {f__law_draw_road : Addr} {f__law_draw_web : Addr} {f__law_draw_lengths : Addr} {f_choices : Addr} {f_merged : Addr} {f_is_joined : Addr} {f_joins : Addr} {f_trees : Addr} {f_total : Addr} {f_least_trees : Addr} {f_new_houses : Addr} {f_ways_on : Addr} {f_detours : Addr} {f_sides : Addr} {f_crossing : Addr} {f__law_road_right : Addr} {f__law_tree_right : Addr} {f_law : Addr} {od__law_open an__law_open : Option Addr} {sl__law_open : Array (Option Value)} {oc__law_open kV__law_open dc__law_open pm__law_open cd__law_open ct__law_open : Value} {od__law_spread an__law_spread : Option Addr} {sl__law_spread : Array (Option Value)} {oc__law_spread kV__law_spread dc__law_spread pm__law_spread cd__law_spread ct__law_spread : Value} {od__law_take an__law_take : Option Addr} {sl__law_take : Array (Option Value)} {oc__law_take kV__law_take dc__law_take pm__law_take cd__law_take ct__law_take : Value} {od__law_one_of an__law_one_of : Option Addr} {sl__law_one_of : Array (Option Value)} {oc__law_one_of kV__law_one_of dc__law_one_of pm__law_one_of cd__law_one_of ct__law_one_of : Value} {od__law_draw_road an__law_draw_road : Option Addr} {sl__law_draw_road : Array (Option Value)} {oc__law_draw_road kV__law_draw_road dc__law_draw_road pm__law_draw_road cd__law_draw_road ct__law_draw_road : Value} {od__law_draw_web an__law_draw_web : Option Addr} {sl__law_draw_web : Array (Option Value)} {oc__law_draw_web kV__law_draw_web dc__law_draw_web pm__law_draw_web cd__law_draw_web ct__law_draw_web : Value} {od__law_draw_lengths an__law_draw_lengths : Option Addr} {sl__law_draw_lengths : Array (Option Value)} {oc__law_draw_lengths kV__law_draw_lengths dc__law_draw_lengths pm__law_draw_lengths cd__law_draw_lengths ct__law_draw_lengths : Value} {od_choices an_choices : Option Addr} {sl_choices : Array (Option Value)} {oc_choices kV_choices dc_choices pm_choices cd_choices ct_choices : Value} {od_merged an_merged : Option Addr} {sl_merged : Array (Option Value)} {oc_merged kV_merged dc_merged pm_merged cd_merged ct_merged : Value} {od_is_joined an_is_joined : Option Addr} {sl_is_joined : Array (Option Value)} {oc_is_joined kV_is_joined dc_is_joined pm_is_joined cd_is_joined ct_is_joined : Value} {od_joins an_joins : Option Addr} {sl_joins : Array (Option Value)} {oc_joins kV_joins dc_joins pm_joins cd_joins ct_joins : Value} {od_trees an_trees : Option Addr} {sl_trees : Array (Option Value)} {oc_trees kV_trees dc_trees pm_trees cd_trees ct_trees : Value} {od_total an_total : Option Addr} {sl_total : Array (Option Value)} {oc_total kV_total dc_total pm_total cd_total ct_total : Value} {od_least_trees an_least_trees : Option Addr} {sl_least_trees : Array (Option Value)} {oc_least_trees kV_least_trees dc_least_trees pm_least_trees cd_least_trees ct_least_trees : Value} {od_new_houses an_new_houses : Option Addr} {sl_new_houses : Array (Option Value)} {oc_new_houses kV_new_houses dc_new_houses pm_new_houses cd_new_houses ct_new_houses : Value} {od_ways_on an_ways_on : Option Addr} {sl_ways_on : Array (Option Value)} {oc_ways_on kV_ways_on dc_ways_on pm_ways_on cd_ways_on ct_ways_on : Value} {od_detours an_detours : Option Addr} {sl_detours : Array (Option Value)} {oc_detours kV_detours dc_detours pm_detours cd_detours ct_detours : Value} {od_sides an_sides : Option Addr} {sl_sides : Array (Option Value)} {oc_sides kV_sides dc_sides pm_sides cd_sides ct_sides : Value} {od_crossing an_crossing : Option Addr} {sl_crossing : Array (Option Value)} {oc_crossing kV_crossing dc_crossing pm_crossing cd_crossing ct_crossing : Value} {od__law_road_right an__law_road_right : Option Addr} {sl__law_road_right : Array (Option Value)} {oc__law_road_right kV__law_road_right dc__law_road_right pm__law_road_right cd__law_road_right ct__law_road_right : Value} {od__law_tree_right an__law_tree_right : Option Addr} {sl__law_tree_right : Array (Option Value)} {oc__law_tree_right kV__law_tree_right dc__law_tree_right pm__law_tree_right cd__law_tree_right ct__law_tree_right : Value} {od_law an_law : Option Addr} {sl_law : Array (Option Value)} {oc_law kV_law dc_law pm_law cd_law ct_law : Value} {u_combinations : Value}
    (a__law_open : PySem.W.nsIn K mainGlobals "_law_open" = some (some (.ref f__law_open)))
    (l__law_open : K.lookup f__law_open = some ⟨oc__law_open, od__law_open, .func (PySem.W.fnOf "_law_open" "_law_open" (defArgs s__law_open) (defBody s__law_open) (defScope s__law_open) .none kV__law_open dc__law_open pm__law_open an__law_open cd__law_open ct__law_open), sl__law_open⟩)
    (c__law_open : PySem.W.codeIn K cd__law_open "_law_open" = true)
    (k__law_open : PySem.W.keepIn K (.ref f__law_open) = true)
    (a__law_spread : PySem.W.nsIn K mainGlobals "_law_spread" = some (some (.ref f__law_spread)))
    (l__law_spread : K.lookup f__law_spread = some ⟨oc__law_spread, od__law_spread, .func (PySem.W.fnOf "_law_spread" "_law_spread" (defArgs s__law_spread) (defBody s__law_spread) (defScope s__law_spread) .none kV__law_spread dc__law_spread pm__law_spread an__law_spread cd__law_spread ct__law_spread), sl__law_spread⟩)
    (c__law_spread : PySem.W.codeIn K cd__law_spread "_law_spread" = true)
    (k__law_spread : PySem.W.keepIn K (.ref f__law_spread) = true)
    (a__law_take : PySem.W.nsIn K mainGlobals "_law_take" = some (some (.ref f__law_take)))
    (l__law_take : K.lookup f__law_take = some ⟨oc__law_take, od__law_take, .func (PySem.W.fnOf "_law_take" "_law_take" (defArgs s__law_take) (defBody s__law_take) (defScope s__law_take) .none kV__law_take dc__law_take pm__law_take an__law_take cd__law_take ct__law_take), sl__law_take⟩)
    (c__law_take : PySem.W.codeIn K cd__law_take "_law_take" = true)
    (k__law_take : PySem.W.keepIn K (.ref f__law_take) = true)
    (a__law_one_of : PySem.W.nsIn K mainGlobals "_law_one_of" = some (some (.ref f__law_one_of)))
    (l__law_one_of : K.lookup f__law_one_of = some ⟨oc__law_one_of, od__law_one_of, .func (PySem.W.fnOf "_law_one_of" "_law_one_of" (defArgs s__law_one_of) (defBody s__law_one_of) (defScope s__law_one_of) .none kV__law_one_of dc__law_one_of pm__law_one_of an__law_one_of cd__law_one_of ct__law_one_of), sl__law_one_of⟩)
    (c__law_one_of : PySem.W.codeIn K cd__law_one_of "_law_one_of" = true)
    (k__law_one_of : PySem.W.keepIn K (.ref f__law_one_of) = true)
    (a__law_draw_road : PySem.W.nsIn K mainGlobals "_law_draw_road" = some (some (.ref f__law_draw_road)))
    (l__law_draw_road : K.lookup f__law_draw_road = some ⟨oc__law_draw_road, od__law_draw_road, .func (PySem.W.fnOf "_law_draw_road" "_law_draw_road" (defArgs s__law_draw_road) (defBody s__law_draw_road) (defScope s__law_draw_road) .none kV__law_draw_road dc__law_draw_road pm__law_draw_road an__law_draw_road cd__law_draw_road ct__law_draw_road), sl__law_draw_road⟩)
    (c__law_draw_road : PySem.W.codeIn K cd__law_draw_road "_law_draw_road" = true)
    (k__law_draw_road : PySem.W.keepIn K (.ref f__law_draw_road) = true)
    (a__law_draw_web : PySem.W.nsIn K mainGlobals "_law_draw_web" = some (some (.ref f__law_draw_web)))
    (l__law_draw_web : K.lookup f__law_draw_web = some ⟨oc__law_draw_web, od__law_draw_web, .func (PySem.W.fnOf "_law_draw_web" "_law_draw_web" (defArgs s__law_draw_web) (defBody s__law_draw_web) (defScope s__law_draw_web) .none kV__law_draw_web dc__law_draw_web pm__law_draw_web an__law_draw_web cd__law_draw_web ct__law_draw_web), sl__law_draw_web⟩)
    (c__law_draw_web : PySem.W.codeIn K cd__law_draw_web "_law_draw_web" = true)
    (k__law_draw_web : PySem.W.keepIn K (.ref f__law_draw_web) = true)
    (a__law_draw_lengths : PySem.W.nsIn K mainGlobals "_law_draw_lengths" = some (some (.ref f__law_draw_lengths)))
    (l__law_draw_lengths : K.lookup f__law_draw_lengths = some ⟨oc__law_draw_lengths, od__law_draw_lengths, .func (PySem.W.fnOf "_law_draw_lengths" "_law_draw_lengths" (defArgs s__law_draw_lengths) (defBody s__law_draw_lengths) (defScope s__law_draw_lengths) .none kV__law_draw_lengths dc__law_draw_lengths pm__law_draw_lengths an__law_draw_lengths cd__law_draw_lengths ct__law_draw_lengths), sl__law_draw_lengths⟩)
    (c__law_draw_lengths : PySem.W.codeIn K cd__law_draw_lengths "_law_draw_lengths" = true)
    (k__law_draw_lengths : PySem.W.keepIn K (.ref f__law_draw_lengths) = true)
    (a_choices : PySem.W.nsIn K mainGlobals "choices" = some (some (.ref f_choices)))
    (l_choices : K.lookup f_choices = some ⟨oc_choices, od_choices, .func (PySem.W.fnOf "choices" "choices" (defArgs s_choices) (defBody s_choices) (defScope s_choices) .none kV_choices dc_choices pm_choices an_choices cd_choices ct_choices), sl_choices⟩)
    (c_choices : PySem.W.codeIn K cd_choices "choices" = true)
    (k_choices : PySem.W.keepIn K (.ref f_choices) = true)
    (a_merged : PySem.W.nsIn K mainGlobals "merged" = some (some (.ref f_merged)))
    (l_merged : K.lookup f_merged = some ⟨oc_merged, od_merged, .func (PySem.W.fnOf "merged" "merged" (defArgs s_merged) (defBody s_merged) (defScope s_merged) .none kV_merged dc_merged pm_merged an_merged cd_merged ct_merged), sl_merged⟩)
    (c_merged : PySem.W.codeIn K cd_merged "merged" = true)
    (k_merged : PySem.W.keepIn K (.ref f_merged) = true)
    (a_is_joined : PySem.W.nsIn K mainGlobals "is_joined" = some (some (.ref f_is_joined)))
    (l_is_joined : K.lookup f_is_joined = some ⟨oc_is_joined, od_is_joined, .func (PySem.W.fnOf "is_joined" "is_joined" (defArgs s_is_joined) (defBody s_is_joined) (defScope s_is_joined) .none kV_is_joined dc_is_joined pm_is_joined an_is_joined cd_is_joined ct_is_joined), sl_is_joined⟩)
    (c_is_joined : PySem.W.codeIn K cd_is_joined "is_joined" = true)
    (k_is_joined : PySem.W.keepIn K (.ref f_is_joined) = true)
    (a_joins : PySem.W.nsIn K mainGlobals "joins" = some (some (.ref f_joins)))
    (l_joins : K.lookup f_joins = some ⟨oc_joins, od_joins, .func (PySem.W.fnOf "joins" "joins" (defArgs s_joins) (defBody s_joins) (defScope s_joins) .none kV_joins dc_joins pm_joins an_joins cd_joins ct_joins), sl_joins⟩)
    (c_joins : PySem.W.codeIn K cd_joins "joins" = true)
    (k_joins : PySem.W.keepIn K (.ref f_joins) = true)
    (a_trees : PySem.W.nsIn K mainGlobals "trees" = some (some (.ref f_trees)))
    (l_trees : K.lookup f_trees = some ⟨oc_trees, od_trees, .func (PySem.W.fnOf "trees" "trees" (defArgs s_trees) (defBody s_trees) (defScope s_trees) .none kV_trees dc_trees pm_trees an_trees cd_trees ct_trees), sl_trees⟩)
    (c_trees : PySem.W.codeIn K cd_trees "trees" = true)
    (k_trees : PySem.W.keepIn K (.ref f_trees) = true)
    (a_total : PySem.W.nsIn K mainGlobals "total" = some (some (.ref f_total)))
    (l_total : K.lookup f_total = some ⟨oc_total, od_total, .func (PySem.W.fnOf "total" "total" (defArgs s_total) (defBody s_total) (defScope s_total) .none kV_total dc_total pm_total an_total cd_total ct_total), sl_total⟩)
    (c_total : PySem.W.codeIn K cd_total "total" = true)
    (k_total : PySem.W.keepIn K (.ref f_total) = true)
    (a_least_trees : PySem.W.nsIn K mainGlobals "least_trees" = some (some (.ref f_least_trees)))
    (l_least_trees : K.lookup f_least_trees = some ⟨oc_least_trees, od_least_trees, .func (PySem.W.fnOf "least_trees" "least_trees" (defArgs s_least_trees) (defBody s_least_trees) (defScope s_least_trees) .none kV_least_trees dc_least_trees pm_least_trees an_least_trees cd_least_trees ct_least_trees), sl_least_trees⟩)
    (c_least_trees : PySem.W.codeIn K cd_least_trees "least_trees" = true)
    (k_least_trees : PySem.W.keepIn K (.ref f_least_trees) = true)
    (a_new_houses : PySem.W.nsIn K mainGlobals "new_houses" = some (some (.ref f_new_houses)))
    (l_new_houses : K.lookup f_new_houses = some ⟨oc_new_houses, od_new_houses, .func (PySem.W.fnOf "new_houses" "new_houses" (defArgs s_new_houses) (defBody s_new_houses) (defScope s_new_houses) .none kV_new_houses dc_new_houses pm_new_houses an_new_houses cd_new_houses ct_new_houses), sl_new_houses⟩)
    (c_new_houses : PySem.W.codeIn K cd_new_houses "new_houses" = true)
    (k_new_houses : PySem.W.keepIn K (.ref f_new_houses) = true)
    (a_ways_on : PySem.W.nsIn K mainGlobals "ways_on" = some (some (.ref f_ways_on)))
    (l_ways_on : K.lookup f_ways_on = some ⟨oc_ways_on, od_ways_on, .func (PySem.W.fnOf "ways_on" "ways_on" (defArgs s_ways_on) (defBody s_ways_on) (defScope s_ways_on) .none kV_ways_on dc_ways_on pm_ways_on an_ways_on cd_ways_on ct_ways_on), sl_ways_on⟩)
    (c_ways_on : PySem.W.codeIn K cd_ways_on "ways_on" = true)
    (k_ways_on : PySem.W.keepIn K (.ref f_ways_on) = true)
    (a_detours : PySem.W.nsIn K mainGlobals "detours" = some (some (.ref f_detours)))
    (l_detours : K.lookup f_detours = some ⟨oc_detours, od_detours, .func (PySem.W.fnOf "detours" "detours" (defArgs s_detours) (defBody s_detours) (defScope s_detours) .none kV_detours dc_detours pm_detours an_detours cd_detours ct_detours), sl_detours⟩)
    (c_detours : PySem.W.codeIn K cd_detours "detours" = true)
    (k_detours : PySem.W.keepIn K (.ref f_detours) = true)
    (a_sides : PySem.W.nsIn K mainGlobals "sides" = some (some (.ref f_sides)))
    (l_sides : K.lookup f_sides = some ⟨oc_sides, od_sides, .func (PySem.W.fnOf "sides" "sides" (defArgs s_sides) (defBody s_sides) (defScope s_sides) .none kV_sides dc_sides pm_sides an_sides cd_sides ct_sides), sl_sides⟩)
    (c_sides : PySem.W.codeIn K cd_sides "sides" = true)
    (k_sides : PySem.W.keepIn K (.ref f_sides) = true)
    (a_crossing : PySem.W.nsIn K mainGlobals "crossing" = some (some (.ref f_crossing)))
    (l_crossing : K.lookup f_crossing = some ⟨oc_crossing, od_crossing, .func (PySem.W.fnOf "crossing" "crossing" (defArgs s_crossing) (defBody s_crossing) (defScope s_crossing) .none kV_crossing dc_crossing pm_crossing an_crossing cd_crossing ct_crossing), sl_crossing⟩)
    (c_crossing : PySem.W.codeIn K cd_crossing "crossing" = true)
    (k_crossing : PySem.W.keepIn K (.ref f_crossing) = true)
    (a__law_road_right : PySem.W.nsIn K mainGlobals "_law_road_right" = some (some (.ref f__law_road_right)))
    (l__law_road_right : K.lookup f__law_road_right = some ⟨oc__law_road_right, od__law_road_right, .func (PySem.W.fnOf "_law_road_right" "_law_road_right" (defArgs s__law_road_right) (defBody s__law_road_right) (defScope s__law_road_right) .none kV__law_road_right dc__law_road_right pm__law_road_right an__law_road_right cd__law_road_right ct__law_road_right), sl__law_road_right⟩)
    (c__law_road_right : PySem.W.codeIn K cd__law_road_right "_law_road_right" = true)
    (k__law_road_right : PySem.W.keepIn K (.ref f__law_road_right) = true)
    (a__law_tree_right : PySem.W.nsIn K mainGlobals "_law_tree_right" = some (some (.ref f__law_tree_right)))
    (l__law_tree_right : K.lookup f__law_tree_right = some ⟨oc__law_tree_right, od__law_tree_right, .func (PySem.W.fnOf "_law_tree_right" "_law_tree_right" (defArgs s__law_tree_right) (defBody s__law_tree_right) (defScope s__law_tree_right) .none kV__law_tree_right dc__law_tree_right pm__law_tree_right an__law_tree_right cd__law_tree_right ct__law_tree_right), sl__law_tree_right⟩)
    (c__law_tree_right : PySem.W.codeIn K cd__law_tree_right "_law_tree_right" = true)
    (k__law_tree_right : PySem.W.keepIn K (.ref f__law_tree_right) = true)
    (a_law : PySem.W.nsIn K mainGlobals "law" = some (some (.ref f_law)))
    (l_law : K.lookup f_law = some ⟨oc_law, od_law, .func (PySem.W.fnOf "law" "law" (defArgs s_law) (defBody s_law) (defScope s_law) .none kV_law dc_law pm_law an_law cd_law ct_law), sl_law⟩)
    (c_law : PySem.W.codeIn K cd_law "law" = true)
    (k_law : PySem.W.keepIn K (.ref f_law) = true)
    (z_all : PySem.W.nsIn K mainGlobals "all" = some none)
    (z_enumerate : PySem.W.nsIn K mainGlobals "enumerate" = some none)
    (z_int : PySem.W.nsIn K mainGlobals "int" = some none)
    (z_len : PySem.W.nsIn K mainGlobals "len" = some none)
    (z_list : PySem.W.nsIn K mainGlobals "list" = some none)
    (z_max : PySem.W.nsIn K mainGlobals "max" = some none)
    (z_min : PySem.W.nsIn K mainGlobals "min" = some none)
    (z_range : PySem.W.nsIn K mainGlobals "range" = some none)
    (z_sorted : PySem.W.nsIn K mainGlobals "sorted" = some none)
    (z_sum : PySem.W.nsIn K mainGlobals "sum" = some none)
    (z_tuple : PySem.W.nsIn K mainGlobals "tuple" = some none)
    (a_combinations : PySem.W.nsIn K mainGlobals "combinations" = some (some u_combinations))
    (v_combinations : u_combinations = .type "itertools.combinations")
    : ∃ fd : FuncData, (∀ (s : Shared) (v : Value), BindsTo s fd ⟨[v], []⟩ [("script", v)]) ∧ ∀ base : Heap, K.In base → base.Ns mainGlobals mg → RunAt P w K mg base callerA fa fd ["script"] (spLaw K) := by
  have e := hfa.symm.trans (PySem.W.mg_of X G a_law)
  cases e
  have hBall : ∀ x ∈ [("all" : Str), ("enumerate" : Str), ("int" : Str), ("len" : Str), ("list" : Str), ("max" : Str), ("min" : Str), ("range" : Str), ("sorted" : Str), ("sum" : Str), ("tuple" : Str)], mg x = none := List.forall_mem_cons.mpr ⟨PySem.W.mg_none_of X G z_all, List.forall_mem_cons.mpr ⟨PySem.W.mg_none_of X G z_enumerate, List.forall_mem_cons.mpr ⟨PySem.W.mg_none_of X G z_int, List.forall_mem_cons.mpr ⟨PySem.W.mg_none_of X G z_len, List.forall_mem_cons.mpr ⟨PySem.W.mg_none_of X G z_list, List.forall_mem_cons.mpr ⟨PySem.W.mg_none_of X G z_max, List.forall_mem_cons.mpr ⟨PySem.W.mg_none_of X G z_min, List.forall_mem_cons.mpr ⟨PySem.W.mg_none_of X G z_range, List.forall_mem_cons.mpr ⟨PySem.W.mg_none_of X G z_sorted, List.forall_mem_cons.mpr ⟨PySem.W.mg_none_of X G z_sum, List.forall_mem_cons.mpr ⟨PySem.W.mg_none_of X G z_tuple, fun _ h => (nomatch h)⟩⟩⟩⟩⟩⟩⟩⟩⟩⟩⟩
  have F__law_open_ := fun_mk (st := s__law_open) l__law_open c__law_open k__law_open
  have F__law_spread_ := fun_mk (st := s__law_spread) l__law_spread c__law_spread k__law_spread
  have F__law_take_ := fun_mk (st := s__law_take) l__law_take c__law_take k__law_take
  have F__law_one_of_ := fun_mk (st := s__law_one_of) l__law_one_of c__law_one_of k__law_one_of
  have F__law_draw_road_ := fun_mk (st := s__law_draw_road) l__law_draw_road c__law_draw_road k__law_draw_road
  have F__law_draw_web_ := fun_mk (st := s__law_draw_web) l__law_draw_web c__law_draw_web k__law_draw_web
  have F__law_draw_lengths_ := fun_mk (st := s__law_draw_lengths) l__law_draw_lengths c__law_draw_lengths k__law_draw_lengths
  have F_choices_ := fun_mk (st := s_choices) l_choices c_choices k_choices
  have F_merged_ := fun_mk (st := s_merged) l_merged c_merged k_merged
  have F_is_joined_ := fun_mk (st := s_is_joined) l_is_joined c_is_joined k_is_joined
  have F_joins_ := fun_mk (st := s_joins) l_joins c_joins k_joins
  have F_trees_ := fun_mk (st := s_trees) l_trees c_trees k_trees
  have F_total_ := fun_mk (st := s_total) l_total c_total k_total
  have F_least_trees_ := fun_mk (st := s_least_trees) l_least_trees c_least_trees k_least_trees
  have F_new_houses_ := fun_mk (st := s_new_houses) l_new_houses c_new_houses k_new_houses
  have F_ways_on_ := fun_mk (st := s_ways_on) l_ways_on c_ways_on k_ways_on
  have F_detours_ := fun_mk (st := s_detours) l_detours c_detours k_detours
  have F_sides_ := fun_mk (st := s_sides) l_sides c_sides k_sides
  have F_crossing_ := fun_mk (st := s_crossing) l_crossing c_crossing k_crossing
  have F__law_road_right_ := fun_mk (st := s__law_road_right) l__law_road_right c__law_road_right k__law_road_right
  have F__law_tree_right_ := fun_mk (st := s__law_tree_right) l__law_tree_right c__law_tree_right k__law_tree_right
  have F_law_ := fun_mk (st := s_law) l_law c_law k_law
  refine ⟨PySem.W.fnOf "law" "law" (defArgs s_law) (defBody s_law) (defScope s_law) .none kV_law dc_law pm_law an_law cd_law ct_law, fun s v => .of_eq rfl, fun base _ _ => ?_⟩
  have h_open : ∀ a ns tr, Has P w K mg base "_law_open" 1 ["script"] (spN (scrW K a ns tr) 1 (F__law_open ns)) := fun a ns tr => ok__law_open F__law_open_ (PySem.W.mg_of X G a__law_open) (fun x hx => hBall x ((by decide : ∀ x ∈ [("enumerate" : Str), ("list" : Str)], x ∈ [("all" : Str), ("enumerate" : Str), ("int" : Str), ("len" : Str), ("list" : Str), ("max" : Str), ("min" : Str), ("range" : Str), ("sorted" : Str), ("sum" : Str), ("tuple" : Str)]) x hx))
  have g__law_spread : ∀ {p c : Addr}, p ≠ c → Has P w K mg base "_law_spread" 1 ["cell", "at"] (spV (penW p c) 2 (F__law_spread)) := fun {p c} hpc => ok__law_spread (w := penW p c) F__law_spread_ (PySem.W.mg_of X G a__law_spread)
  have g__law_take : ∀ {p c : Addr}, p ≠ c → Has P w K mg base "_law_take" 4 ["pen", "amount"] (spV (penW p c) 2 (F__law_take)) := fun {p c} hpc => (ok__law_take hpc F__law_take_ (PySem.W.mg_of X G a__law_take) (fun x hx => hBall x ((by decide : ∀ x ∈ [("len" : Str)], x ∈ [("all" : Str), ("enumerate" : Str), ("int" : Str), ("len" : Str), ("list" : Str), ("max" : Str), ("min" : Str), ("range" : Str), ("sorted" : Str), ("sum" : Str), ("tuple" : Str)]) x hx)) (g__law_spread hpc)).up (by decide)
  have g__law_one_of : ∀ {p c : Addr}, p ≠ c → Has P w K mg base "_law_one_of" 5 ["pen", "some"] (spV (penW p c) 2 (F__law_one_of F__law_take)) := fun {p c} hpc => ok__law_one_of (w := penW p c) F__law_take F__law_one_of_ (PySem.W.mg_of X G a__law_one_of) (fun x hx => hBall x ((by decide : ∀ x ∈ [("len" : Str)], x ∈ [("all" : Str), ("enumerate" : Str), ("int" : Str), ("len" : Str), ("list" : Str), ("max" : Str), ("min" : Str), ("range" : Str), ("sorted" : Str), ("sum" : Str), ("tuple" : Str)]) x hx)) (g__law_take hpc)
  have g__law_draw_road : ∀ {p c : Addr}, p ≠ c → Has P w K mg base "_law_draw_road" 6 ["pen", "a", "b", "width"] (spV (penW p c) 4 (F__law_draw_road F__law_take)) := fun {p c} hpc => ok__law_draw_road (w := penW p c) F__law_take F__law_draw_road_ (PySem.W.mg_of X G a__law_draw_road) (fun x hx => hBall x ((by decide : ∀ x ∈ [("min" : Str)], x ∈ [("all" : Str), ("enumerate" : Str), ("int" : Str), ("len" : Str), ("list" : Str), ("max" : Str), ("min" : Str), ("range" : Str), ("sorted" : Str), ("sum" : Str), ("tuple" : Str)]) x hx)) (g__law_one_of hpc) (g__law_take hpc)
  have g__law_draw_web : ∀ {p c : Addr}, p ≠ c → Has P w K mg base "_law_draw_web" 7 ["pen", "houses", "most", "width"] (spV (penW p c) 4 (F__law_draw_web F__law_take)) := fun {p c} hpc => ok__law_draw_web (w := penW p c) F__law_take F__law_draw_web_ (PySem.W.mg_of X G a__law_draw_web) (fun x hx => hBall x ((by decide : ∀ x ∈ [("int" : Str), ("len" : Str), ("max" : Str), ("min" : Str), ("range" : Str), ("tuple" : Str)], x ∈ [("all" : Str), ("enumerate" : Str), ("int" : Str), ("len" : Str), ("list" : Str), ("max" : Str), ("min" : Str), ("range" : Str), ("sorted" : Str), ("sum" : Str), ("tuple" : Str)]) x hx)) (g__law_take hpc) (g__law_draw_road hpc)
  have g__law_draw_lengths : ∀ {p c : Addr}, p ≠ c → Has P w K mg base "_law_draw_lengths" 6 ["pen", "web"] (spV (penW p c) 2 (F__law_draw_lengths F__law_take)) := fun {p c} hpc => ok__law_draw_lengths (w := penW p c) F__law_take F__law_draw_lengths_ (PySem.W.mg_of X G a__law_draw_lengths) (fun x hx => hBall x ((by decide : ∀ x ∈ [("tuple" : Str)], x ∈ [("all" : Str), ("enumerate" : Str), ("int" : Str), ("len" : Str), ("list" : Str), ("max" : Str), ("min" : Str), ("range" : Str), ("sorted" : Str), ("sum" : Str), ("tuple" : Str)]) x hx)) (g__law_one_of hpc) (g__law_take hpc)
  have g_choices : ∀ {p c : Addr}, p ≠ c → Has P w K mg base "choices" 1 ["many", "count"] (spN (penW p c) 2 (F_choices)) := fun {p c} hpc => ok_choices (w := penW p c) F_choices_ (PySem.W.mg_of X G a_choices) (fun x hx => hBall x ((by decide : ∀ x ∈ [("list" : Str), ("range" : Str)], x ∈ [("all" : Str), ("enumerate" : Str), ("int" : Str), ("len" : Str), ("list" : Str), ("max" : Str), ("min" : Str), ("range" : Str), ("sorted" : Str), ("sum" : Str), ("tuple" : Str)]) x hx)) (PySem.W.mg_of X G a_combinations) v_combinations
  have g_merged : ∀ {p c : Addr}, p ≠ c → Has P w K mg base "merged" 1 ["parts", "a", "b"] (spN (penW p c) 3 (F_merged)) := fun {p c} hpc => ok_merged (w := penW p c) F_merged_ (PySem.W.mg_of X G a_merged)
  have g_is_joined : ∀ {p c : Addr}, p ≠ c → Has P w K mg base "is_joined" 2 ["size", "rows"] (spV (penW p c) 2 (F_is_joined)) := fun {p c} hpc => ok_is_joined (w := penW p c) F_is_joined_ (PySem.W.mg_of X G a_is_joined) (fun x hx => hBall x ((by decide : ∀ x ∈ [("all" : Str), ("list" : Str), ("range" : Str)], x ∈ [("all" : Str), ("enumerate" : Str), ("int" : Str), ("len" : Str), ("list" : Str), ("max" : Str), ("min" : Str), ("range" : Str), ("sorted" : Str), ("sum" : Str), ("tuple" : Str)]) x hx)) (g_merged hpc)
  have g_joins : ∀ {p c : Addr}, p ≠ c → Has P w K mg base "joins" 3 ["web", "roads"] (spV (penW p c) 2 (F_joins)) := fun {p c} hpc => ok_joins (w := penW p c) F_joins_ (PySem.W.mg_of X G a_joins) (g_is_joined hpc)
  have g_trees : ∀ {p c : Addr}, p ≠ c → Has P w K mg base "trees" 4 ["web"] (spN (penW p c) 1 (F_trees)) := fun {p c} hpc => ok_trees (w := penW p c) F_trees_ (PySem.W.mg_of X G a_trees) (fun x hx => hBall x ((by decide : ∀ x ∈ [("len" : Str)], x ∈ [("all" : Str), ("enumerate" : Str), ("int" : Str), ("len" : Str), ("list" : Str), ("max" : Str), ("min" : Str), ("range" : Str), ("sorted" : Str), ("sum" : Str), ("tuple" : Str)]) x hx)) (g_choices hpc) (g_joins hpc)
  have g_total : ∀ {p c : Addr}, p ≠ c → Has P w K mg base "total" 1 ["lengths", "tree"] (spV (penW p c) 2 (F_total)) := fun {p c} hpc => ok_total (w := penW p c) F_total_ (PySem.W.mg_of X G a_total) (fun x hx => hBall x ((by decide : ∀ x ∈ [("sum" : Str)], x ∈ [("all" : Str), ("enumerate" : Str), ("int" : Str), ("len" : Str), ("list" : Str), ("max" : Str), ("min" : Str), ("range" : Str), ("sorted" : Str), ("sum" : Str), ("tuple" : Str)]) x hx))
  have g_least_trees : ∀ {p c : Addr}, p ≠ c → Has P w K mg base "least_trees" 5 ["web", "lengths"] (spN (penW p c) 2 (F_least_trees)) := fun {p c} hpc => ok_least_trees (w := penW p c) F_least_trees_ (PySem.W.mg_of X G a_least_trees) (fun x hx => hBall x ((by decide : ∀ x ∈ [("min" : Str)], x ∈ [("all" : Str), ("enumerate" : Str), ("int" : Str), ("len" : Str), ("list" : Str), ("max" : Str), ("min" : Str), ("range" : Str), ("sorted" : Str), ("sum" : Str), ("tuple" : Str)]) x hx)) (g_trees hpc) (g_total hpc)
  have g_new_houses : ∀ {p c : Addr}, p ≠ c → Has P w K mg base "new_houses" 1 ["row", "houses"] (spN (penW p c) 2 (F_new_houses)) := fun {p c} hpc => ok_new_houses (w := penW p c) F_new_houses_ (PySem.W.mg_of X G a_new_houses)
  have g_ways_on : ∀ {p c : Addr}, p ≠ c → Has P w K mg base "ways_on" 10 ["web", "left_out", "houses", "end"] (spN (penW p c) 4 (F_ways_on)) := fun {p c} hpc => ok_ways_on (w := penW p c) F_ways_on_ (PySem.W.mg_of X G a_ways_on) (fun x hx => hBall x ((by decide : ∀ x ∈ [("enumerate" : Str)], x ∈ [("all" : Str), ("enumerate" : Str), ("int" : Str), ("len" : Str), ("list" : Str), ("max" : Str), ("min" : Str), ("range" : Str), ("sorted" : Str), ("sum" : Str), ("tuple" : Str)]) x hx)) (g_new_houses hpc)
  have g_detours : ∀ {p c : Addr}, p ≠ c → Has P w K mg base "detours" 11 ["web", "road"] (spN (penW p c) 2 (F_detours)) := fun {p c} hpc => ok_detours (w := penW p c) F_detours_ (PySem.W.mg_of X G a_detours) (g_ways_on hpc)
  have g_sides : ∀ {p c : Addr}, p ≠ c → Has P w K mg base "sides" 1 ["web", "road"] (spN (penW p c) 2 (F_sides)) := fun {p c} hpc => ok_sides (w := penW p c) F_sides_ (PySem.W.mg_of X G a_sides) (fun x hx => hBall x ((by decide : ∀ x ∈ [("range" : Str), ("sorted" : Str), ("tuple" : Str)], x ∈ [("all" : Str), ("enumerate" : Str), ("int" : Str), ("len" : Str), ("list" : Str), ("max" : Str), ("min" : Str), ("range" : Str), ("sorted" : Str), ("sum" : Str), ("tuple" : Str)]) x hx))
  have g_crossing : ∀ {p c : Addr}, p ≠ c → Has P w K mg base "crossing" 1 ["web", "side"] (spN (penW p c) 2 (F_crossing)) := fun {p c} hpc => ok_crossing (w := penW p c) F_crossing_ (PySem.W.mg_of X G a_crossing) (fun x hx => hBall x ((by decide : ∀ x ∈ [("enumerate" : Str)], x ∈ [("all" : Str), ("enumerate" : Str), ("int" : Str), ("len" : Str), ("list" : Str), ("max" : Str), ("min" : Str), ("range" : Str), ("sorted" : Str), ("sum" : Str), ("tuple" : Str)]) x hx))
  have g__law_road_right : ∀ {p c : Addr}, p ≠ c → Has P w K mg base "_law_road_right" 12 ["web", "road"] (spV (penW p c) 2 (F__law_road_right)) := fun {p c} hpc => ok__law_road_right (w := penW p c) F__law_road_right_ (PySem.W.mg_of X G a__law_road_right) (g_detours hpc) (g_sides hpc) (g_crossing hpc)
  have g__law_tree_right : ∀ {p c : Addr}, p ≠ c → Has P w K mg base "_law_tree_right" 12 ["web", "lengths", "tree"] (spV (penW p c) 3 (F__law_tree_right)) := fun {p c} hpc => ok__law_tree_right (w := penW p c) F__law_tree_right_ (PySem.W.mg_of X G a__law_tree_right) (fun x hx => hBall x ((by decide : ∀ x ∈ [("len" : Str), ("max" : Str), ("min" : Str), ("range" : Str)], x ∈ [("all" : Str), ("enumerate" : Str), ("int" : Str), ("len" : Str), ("list" : Str), ("max" : Str), ("min" : Str), ("range" : Str), ("sorted" : Str), ("sum" : Str), ("tuple" : Str)]) x hx)) (g_detours hpc) (g_sides hpc) (g_crossing hpc)
  exact run_law F_law_ (fun x hx => hBall x ((by decide : ∀ x ∈ [("len" : Str), ("range" : Str)], x ∈ [("all" : Str), ("enumerate" : Str), ("int" : Str), ("len" : Str), ("list" : Str), ("max" : Str), ("min" : Str), ("range" : Str), ("sorted" : Str), ("sum" : Str), ("tuple" : Str)]) x hx)) h_open g__law_draw_web g__law_road_right g__law_draw_lengths g_least_trees g_trees g__law_tree_right math
end K04

set_option Elab.async false
set_option linter.all false
set_option maxRecDepth 100000
set_option maxHeartbeats 1000000
namespace K04
open PySem PySem.Spec L2 Rr
section
variable {S : Type} {s s1 : S}
theorem run2 {m1 m2 : Ms S} {ρ0 ρ1 : Rho} {o : Option (Out S)} (h1 : m1 ρ0 s = some (.nx ρ1 s)) (h2 : m2 ρ1 s = o) : sq m1 m2 ρ0 s = o := by
  rw [ap_sq, h1]
  exact h2
theorem run2s {m1 m2 : Ms S} {ρ0 ρ1 : Rho} {o : Option (Out S)} (h1 : m1 ρ0 s = some (.nx ρ1 s1)) (h2 : m2 ρ1 s1 = o) : sq m1 m2 ρ0 s = o := by
  rw [ap_sq, h1]
  exact h2
end
section
variable {S : Type} {s : S}
theorem loopD_inv {α : Type} {b : D → Rho → Option Rho} {mb : Ms S} (ρf : α → Rho) (f : α → D → α) (P : Nat → α → Prop) : ∀ {ds : List D} {a : α},
    (∀ a d r, d ∈ ds → P (r + 1) a → ∃ ρ1, b d (ρf a) = some ρ1 ∧ mb ρ1 s = some (.nx (ρf (f a d)) s) ∧ P r (f a d)) → P ds.length a → loopD b mb ds (ρf a) s = some (.nx (ρf (ds.foldl f a)) s) ∧ P 0 (ds.foldl f a)
  | [], a, _, p => ⟨rfl, p⟩
  | d :: ds, a, h, p => by
    obtain ⟨ρ1, e1, e2, p2⟩ := h a d ds.length List.mem_cons_self p
    obtain ⟨e3, p3⟩ := loopD_inv ρf f P (ds := ds) (a := f a d) (fun a' d' r hd => h a' d' r (List.mem_cons_of_mem _ hd)) p2
    refine ⟨?_, p3⟩
    unfold loopD
    rw [e1]
    simp only [e2, e3]
    rfl
end
abbrev Row := Int × Int × Int × Int
def rowD (r : Row) : D := .tup [.int r.1, .int r.2.1, .int r.2.2.1, .int r.2.2.2]
def webD (n : Int) (rs : List Row) : D := .tup [.int n, .tup (rs.map rowD)]
@[simp] theorem web0 (n : Int) (rs : List Row) : dIx (webD n rs) (.int 0) = some (.int n) := rfl
@[simp] theorem web1 (n : Int) (rs : List Row) : dIx (webD n rs) (.int 1) = some (.tup (rs.map rowD)) := rfl
@[simp] theorem row0 (r : Row) : dIx (rowD r) (.int 0) = some (.int r.1) := rfl
@[simp] theorem row1 (r : Row) : dIx (rowD r) (.int 1) = some (.int r.2.1) := rfl
@[simp] theorem row02 (r : Row) : dCut (rowD r) none (some 2) = some (.tup [.int r.1, .int r.2.1]) := dCut02 _ _ _
@[simp] theorem seqD_tD (ks : List Int) : seqD (tD ks) = some (ks.map .int) := rfl
@[simp] theorem isIn_tD (neg : Bool) (a : Int) (ks : List Int) : isIn neg (.int a) (tD ks) = some (.bl (if neg then !decide (a ∈ ks) else decide (a ∈ ks))) := isIn_ints neg a ks
@[simp] theorem fold_tD (ks : List Int) : D.tup (ks.map .int) = tD ks := rfl
@[simp] theorem fold_tD0 : D.tup [] = tD [] := rfl
@[simp] theorem fold_cons (a : Int) (ks : List Int) : D.tup (.int a :: ks.map .int) = tD (a :: ks) := rfl
@[simp] theorem fold_snoc (a : Int) (ks : List Int) : D.tup (ks.map .int ++ [.int a]) = tD (ks ++ [a]) := by unfold tD; rw [List.map_append]; rfl
theorem flat_one {α β : Type} (f : α → β) (xs : List α) : (xs.flatMap fun x => [f x]) = xs.map f := by induction xs with | nil => rfl | cons x xs ih => rw [List.flatMap_cons, ih]; rfl
theorem tD_last {hs : List Int} {x : Int} (h : hs.getLast? = some x) : dIx (tD hs) (.int (-1)) = some (.int x) := atI_last (by rw [List.getLast?_map, h]; rfl)
def nxt (r : Row) (x : Int) : Option Int := if r.1 = x then some r.2.1 else if r.2.1 = x then some r.1 else none
def newH (r : Row) (x : Int) (hs : List Int) : List Int := match nxt r x with | some t => if t ∈ hs then [] else [t] | none => []
section
variable {S : Type} {s : S}
theorem new_houses_ev {r : Row} {hs : List Int} {x : Int} (hx : hs.getLast? = some x) (hr : r.1 ≠ r.2.1) : F_new_houses [rowD r, tD hs] s = some ((newH r x hs).map .int, s) := by
  have hl := tD_last hx
  obtain ⟨a, b, lo, hi⟩ := r
  unfold F_new_houses m_new_houses
  simp [begin_, gv, clean, wipeE, lcG, hl]
  have hr : a ≠ b := hr
  by_cases h1 : a = x
  · subst h1
    have h2 : ¬ b = a := fun z => hr z.symm
    by_cases h3 : b ∈ hs <;> simp [newH, nxt, h2, h3]
  · by_cases h2 : b = x
    · subst h2
      by_cases h3 : a ∈ hs <;> simp [newH, nxt, h1, h3]
    · simp [newH, nxt, h1, h2]
/-- the ways of the program: from the houses hs on, to e, without the road r0; k bounds their length -/
def ways (rs : List Row) (r0 e : Int) : Nat → List Int → List (List Int)
  | 0, _ => []
  | k + 1, hs => match hs.getLast? with
    | none => []
    | some x => if x = e then [[]] else rs.zipIdx.flatMap fun p => if (p.2 : Int) = r0 then [] else (newH p.1 x hs).flatMap fun t => (ways rs r0 e k (hs ++ [t])).map ((p.2 : Int) :: ·)
theorem enum_zip (rs : List Row) : ∀ k, enumD k (rs.map rowD) = (rs.zipIdx k).map fun p => .tup [.int (p.2 : Int), rowD p.1] := by
  induction rs with
  | nil => intro k; rfl
  | cons r rs ih => intro k; rw [List.map_cons, List.zipIdx_cons, List.map_cons]; unfold enumD; rw [ih]
theorem ways_len {rs : List Row} {r0 e : Int} : ∀ {k hs w}, w ∈ ways rs r0 e k hs → w.length < k
  | 0, hs, w, h => by unfold ways at h; cases h
  | k + 1, hs, w, h => by
    unfold ways at h
    split at h
    · cases h
    · split at h
      · simp at h; subst h; simp
      · simp only [List.mem_flatMap] at h
        obtain ⟨p, _, h⟩ := h
        split at h
        · cases h
        · simp only [List.mem_flatMap, List.mem_map] at h
          obtain ⟨t, _, w', h, rfl⟩ := h
          have := ways_len h
          simp; omega
structure GoodR (n : Int) (r : Row) : Prop where
  a0 : 0 ≤ r.1
  ab : r.1 < r.2.1
  bn : r.2.1 < n
  lo : 0 ≤ r.2.2.1
  hi : r.2.2.1 ≤ r.2.2.2
  top : r.2.2.2 ≤ 99
structure Good (n : Int) (rs : List Row) : Prop where
  n1 : 1 ≤ n
  n6 : n ≤ 6
  few : rs.length ≤ 10
  row : ∀ r ∈ rs, GoodR n r
structure Hs (n : Int) (hs : List Int) : Prop where
  nd : hs.Nodup
  rg : ∀ h ∈ hs, 0 ≤ h ∧ h < n
theorem nodup_len : ∀ {xs ys : List Int}, xs.Nodup → (∀ x ∈ xs, x ∈ ys) → xs.length ≤ ys.length
  | [], _, _, _ => Nat.zero_le _
  | x :: xs, ys, h, q => by
    obtain ⟨h1, h2⟩ := List.nodup_cons.mp h
    have m := q x List.mem_cons_self
    have := nodup_len (ys := ys.erase x) h2 fun y hy => (List.mem_erase_of_ne (fun z : y = x => h1 (by rw [← z]; exact hy))).mpr (q y (List.mem_cons_of_mem _ hy))
    rw [List.length_erase_of_mem m] at this
    have := List.length_pos_of_mem m
    rw [List.length_cons]
    omega
theorem Hs.len {n : Int} {hs : List Int} (h : Hs n hs) (h6 : n ≤ 6) : hs.length ≤ 6 := by
  have sub : ∀ x ∈ hs, x ∈ [(0 : Int), 1, 2, 3, 4, 5] := fun x hx => by
    obtain ⟨h1, h2⟩ := h.rg x hx
    simp only [List.mem_cons, List.not_mem_nil, or_false]
    omega
  have := nodup_len h.nd sub
  simpa using this
theorem newH_mem {r : Row} {x t : Int} {hs : List Int} (h : t ∈ newH r x hs) : t ∉ hs ∧ nxt r x = some t := by
  unfold newH at h
  split at h
  · rename_i t' e
    split at h
    · cases h
    · rename_i n
      simp at h; subst h; exact ⟨n, e⟩
  · cases h
theorem newH_len {r : Row} {x : Int} {hs : List Int} : (newH r x hs).length ≤ 1 := by
  unfold newH
  split
  · split <;> simp
  · simp
theorem nxt_rg {n : Int} {r : Row} {x t : Int} (g : GoodR n r) (h : nxt r x = some t) : 0 ≤ t ∧ t < n := by
  have := g.a0; have := g.ab; have := g.bn
  unfold nxt at h
  split at h
  · cases h; omega
  · split at h
    · cases h; omega
    · cases h
theorem Hs.snoc {n : Int} {hs : List Int} (h : Hs n hs) {t : Int} (h1 : t ∉ hs) (h2 : 0 ≤ t ∧ t < n) : Hs n (hs ++ [t]) := by
  refine ⟨?_, fun y hy => ?_⟩
  · rw [List.nodup_append]
    exact ⟨h.nd, by simp, fun a ha b hb => by simp at hb; subst hb; exact fun z => h1 (z ▸ ha)⟩
  · rcases List.mem_append.mp hy with hy | hy
    · exact h.rg y hy
    · simp at hy; subst hy; exact h2
theorem zip_mem {rs : List Row} {p : Row × Nat} (h : p ∈ rs.zipIdx) : p.1 ∈ rs ∧ rs[p.2]? = some p.1 := by
  have := List.mem_zipIdx_iff_getElem?.mp h
  exact ⟨List.mem_of_getElem? this, this⟩
theorem flat_len {α β : Type} {f : α → List β} {b : Nat} : ∀ {xs : List α}, (∀ x ∈ xs, (f x).length ≤ b) → (xs.flatMap f).length ≤ xs.length * b
  | [], _ => by simp
  | x :: xs, h => by
    rw [List.flatMap_cons, List.length_append, List.length_cons, Nat.add_mul]
    have h1 := h x List.mem_cons_self
    have h2 := flat_len (f := f) fun y hy => h y (List.mem_cons_of_mem x hy)
    omega
/-- how many there are at most -/
theorem ways_few {n : Int} {rs : List Row} {r0 e : Int} (g : Good n rs) : ∀ {k j hs}, Hs n hs → 6 ≤ hs.length + j → (ways rs r0 e k hs).length ≤ 10 ^ j
  | 0, j, hs, _, _ => by unfold ways; simp
  | k + 1, j, hs, h, hj => by
    unfold ways
    split
    · simp
    · split
      · simp; exact Nat.pow_pos (by decide)
      · cases j with
        | zero =>
          refine Nat.le_trans (flat_len (b := 0) fun p hp => ?_) (by simp)
          split
          · simp
          · refine Nat.le_trans (flat_len (b := 0) fun t ht => ?_) (by simp)
            obtain ⟨h1, h2⟩ := newH_mem ht
            have := (h.snoc h1 (nxt_rg (g.row _ (zip_mem hp).1) h2)).len g.n6
            rw [List.length_append] at this
            simp at this
            omega
        | succ j =>
          refine Nat.le_trans (flat_len (b := 10 ^ j) fun p hp => ?_) ?_
          · split
            · simp
            · refine Nat.le_trans (flat_len (b := 10 ^ j) fun t ht => ?_) ?_
              · rw [List.length_map]
                obtain ⟨h1, h2⟩ := newH_mem ht
                exact ways_few g (h.snoc h1 (nxt_rg (g.row _ (zip_mem hp).1) h2)) (by rw [List.length_append]; simp; omega)
              · have := newH_len (r := p.1) (x := ‹_›) (hs := hs)
                exact Nat.le_trans (Nat.mul_le_mul_right _ this) (by omega)
          · rw [List.length_zipIdx, Nat.pow_succ, Nat.mul_comm]
            exact Nat.mul_le_mul_left _ g.few

theorem ways_on_ev {n : Int} {rs : List Row} {r0 e : Int} (g : Good n rs) : ∀ {k hs}, Hs n hs → hs ≠ [] → k ≤ 8 → 8 ≤ k + hs.length → R_ways_on k [webD n rs, .int r0, tD hs, .int e] s = some ((ways rs r0 e k hs).map tD, s)
  | 0, hs, h, _, _, hk => by have := h.len g.n6; omega
  | k + 1, hs, h, hne, h8, hk => by
    obtain ⟨x, hx⟩ : ∃ x, hs.getLast? = some x := ⟨_, List.getLast?_eq_getLast hne⟩
    have hl := tD_last hx
    have hsz : ∀ t : Int, sz (hs.map D.int ++ [.int t]) = some ((hs ++ [t]).map .int) := fun t => by
      rw [sz_eq, List.map_append]; rfl
      have := h.len g.n6
      rw [List.length_append, List.length_map]
      simp only [List.length_singleton]
      exact Nat.le_trans (by omega : hs.length + 1 ≤ 7) (by decide)
    show endN (m_ways_on (R_ways_on k)) (begin_ 8 [webD n rs, .int r0, tD hs, .int e]) s = _
    unfold m_ways_on
    by_cases hxe : x = e
    · subst hxe
      simp [begin_, gv, hl, ways, hx]
    · have item : ∀ p ∈ rs.zipIdx, item1 (bTup (bCons (bName 4) (bCons (bName 5) bNil))) (qB (b2 dNe (rN 4) (rN 1))) (mIn (rSeq (rNv (mCall 2 (F_new_houses) (rCons (rN 5) (rCons (rN 2) rNil))))) [6, 7] (item1 (bName 6) qYes (mIn (rSeq (rNv (mCall 4 (R_ways_on k) (rCons (rN 0) (rCons (rN 1) (rCons (rTup (rStar (rN 2) (rCons (rN 6) rNil))) (rCons (rN 3) rNil))))))) [7] (item1 (bName 7) qYes (one (rTup (rCons (rN 4) (rStar (rN 7) rNil)))))))) (.tup [.int (p.2 : Int), rowD p.1]) [some (.val (webD n rs)), some (.val (.int r0)), some (.val (tD hs)), some (.val (.int e)), none, none, none, none] s =
          some (((if (p.2 : Int) = r0 then [] else (newH p.1 x hs).flatMap fun t => (ways rs r0 e k (hs ++ [t])).map ((p.2 : Int) :: ·)) : List (List Int)).map tD, s) := fun p hp => by
        have gr := g.row _ (zip_mem hp).1
        have nh := new_houses_ev (s := s) hx (show p.1.1 ≠ p.1.2.1 by have := gr.ab; omega)
        by_cases hr0 : (p.2 : Int) = r0
        · simp [gv, hr0]
        · have inner : ∀ t ∈ newH p.1 x hs, item1 (bName 6) qYes (mIn (rSeq (rNv (mCall 4 (R_ways_on k) (rCons (rN 0) (rCons (rN 1) (rCons (rTup (rStar (rN 2) (rCons (rN 6) rNil))) (rCons (rN 3) rNil))))))) [7] (item1 (bName 7) qYes (one (rTup (rCons (rN 4) (rStar (rN 7) rNil)))))) (.int t) [some (.val (webD n rs)), some (.val (.int r0)), some (.val (tD hs)), some (.val (.int e)), some (.val (.int (p.2 : Int))), some (.val (rowD p.1)), none, none] s =
              some (((ways rs r0 e k (hs ++ [t])).map ((p.2 : Int) :: ·)).map tD, s) := fun t ht => by
            obtain ⟨h1, h2⟩ := newH_mem ht
            have ih := ways_on_ev (r0 := r0) (e := e) g (k := k) (h.snoc h1 (nxt_rg gr h2)) (by simp) (by omega) (by rw [List.length_append]; simp; omega)
            have last : ∀ w ∈ ways rs r0 e k (hs ++ [t]), item1 (bName 7) qYes (one (rTup (rCons (rN 4) (rStar (rN 7) rNil)))) (tD w) [some (.val (webD n rs)), some (.val (.int r0)), some (.val (tD hs)), some (.val (.int e)), some (.val (.int (p.2 : Int))), some (.val (rowD p.1)), some (.val (.int t)), none] s = some ([tD ((p.2 : Int) :: w)], s) := fun w hw => by
              have hz : sz (D.int (p.2 : Int) :: w.map .int) = some ((((p.2 : Int) :: w)).map .int) := by
                refine sz_eq ?_
                have hw2 := ways_len hw
                rw [List.length_cons, List.length_map]
                exact Nat.le_trans (by omega : w.length + 1 ≤ 9) (by decide)
              simp [gv, hz]
            simp [gv, hsz, ih, clean, wipeE]
            rw [lcG_map last, flat_one]
            rfl
          simp [gv, hr0, nh, clean, wipeE]
          rw [lcG_map inner]
          simp [List.map_flatMap]
      have few : (ways rs r0 e (k + 1) hs).length ≤ sizeLine := by
        refine Nat.le_trans (ways_few g (j := 5) h ?_) (by decide)
        have := List.length_pos_iff.mpr hne
        omega
      have e2 : ways rs r0 e (k + 1) hs = rs.zipIdx.flatMap fun p => if (p.2 : Int) = r0 then [] else (newH p.1 x hs).flatMap fun t => (ways rs r0 e k (hs ++ [t])).map ((p.2 : Int) :: ·) := by
        rw [ways, hx]
        simp [hxe]
      simp [begin_, gv, hl, hxe, clean, wipeE, enum_zip]
      rw [lcG_map item, ← List.map_flatMap, ← e2]
      simp [sz_eq (ds := (ways rs r0 e (k + 1) hs).map tD) (by rw [List.length_map]; exact few)]

theorem getRow {rs : List Row} {i : Nat} {r : Row} (h : rs[i]? = some r) : atI (rs.map rowD) (i : Int) = some (rowD r) := Rr.atI_nat (by rw [List.getElem?_map, h]; rfl)
theorem hs1 {n : Int} {r : Row} (g : GoodR n r) : Hs n [r.1] := ⟨by simp, fun h hh => by simp at hh; subst hh; have := g.a0; have := g.ab; have := g.bn; omega⟩
theorem detours_ev {n : Int} {rs : List Row} (g : Good n rs) {i : Nat} {r : Row} (h : rs[i]? = some r) : F_detours [webD n rs, .int (i : Int)] s = some ((ways rs i r.2.1 8 [r.1]).map tD, s) := by
  have gr := g.row r (List.mem_of_getElem? h)
  have e := ways_on_ev (s := s) (r0 := (i : Int)) (e := r.2.1) g (k := 8) (hs1 gr) (by simp) (by omega) (by simp)
  have e2 : F_ways_on (S := S) = R_ways_on 8 := rfl
  have f1 : D.tup [.int r.1] = tD [r.1] := rfl
  unfold F_detours m_detours
  simp [begin_, gv, getRow h, f1, e2, e]
/-! ### sides -/
def sideS (a b : Int) (f : List (List Int)) (h : Int) : List (List Int) := if h ≠ a ∧ h ≠ b then f ++ f.map (· ++ [h]) else f
def sideL (n a b : Int) : List (List Int) := (((List.range n.toNat).map fun (i : Nat) => (i : Int))).foldl (sideS a b) [[a]]
def sidesP (n a b : Int) : List (List Int) := sortT ((sideL n a b).map sortI)
theorem rngD_eq (n : Nat) : rngD 0 n = ((List.range n).map fun (i : Nat) => (i : Int)).map D.int := by
  unfold rngD
  rw [List.map_map]
  congr 1
  funext i
  simp
theorem dInts_tD (ks : List Int) : dInts (ks.map D.int) = some ks := dInts_map ks
@[simp] theorem sorted_tD (ks : List Int) : dSortedA [tD ks] = some ((sortI ks).map .int) := by
  show (dInts (ks.map D.int)).map _ = _
  rw [dInts_map]; rfl
theorem sorted_tDs {ks : List (List Int)} (h : ∀ k ∈ ks, k ≠ []) : dSortedA [.lst (ks.map tD)] = some ((sortT ks).map tD) := by
  show (match dInts (ks.map tD) with | some ns => _ | none => _) = _
  cases ks with
  | nil => rfl
  | cons k ks =>
    have e : dInts ((k :: ks).map tD) = none := rfl
    rw [e, tupsI_map]
    have : ((k :: ks).length < 2 || (k :: ks).all fun n => !n.isEmpty) = true := by
      rw [Bool.or_eq_true]
      refine .inr (List.all_eq_true.mpr fun x hx => ?_)
      have := h x hx
      cases x with
      | nil => exact absurd rfl this
      | cons => rfl
    simp only [this, if_true]
def crossB (p : Row × Nat) (ks : List Int) : Bool := decide (p.1.1 ∈ ks) != decide (p.1.2.1 ∈ ks)
def crossI (rs : List Row) (ks : List Int) : List Int := rs.zipIdx.flatMap fun p => if crossB p ks then [(p.2 : Int)] else []
theorem cross_few {n : Int} {rs : List Row} (g : Good n rs) (ks : List Int) : (crossI rs ks).length ≤ 10 := by
  refine Nat.le_trans (flat_len (b := 1) fun p hp => by split <;> simp) ?_
  rw [List.length_zipIdx, Nat.mul_one]
  exact g.few
theorem crossing_ev {n : Int} {rs : List Row} (g : Good n rs) {ks : List Int} : F_crossing [webD n rs, tD ks] s = some ((crossI rs ks).map .int, s) := by
  have item : ∀ p ∈ rs.zipIdx, item1 (bTup (bCons (bName 2) (bCons (bName 3) bNil))) (qB (b2 dNe (b2 (isIn false) (b2 dIx (rN 3) (rC (.int 0))) (rN 1)) (b2 (isIn false) (b2 dIx (rN 3) (rC (.int 1))) (rN 1)))) (one (rN 2)) (.tup [.int (p.2 : Int), rowD p.1]) [some (.val (webD n rs)), some (.val (tD ks)), none, none] s =
      some (((if crossB p ks then [(p.2 : Int)] else []) : List Int).map .int, s) := fun p hp => by
    unfold crossB
    by_cases h1 : p.1.1 ∈ ks <;> by_cases h2 : p.1.2.1 ∈ ks <;> simp [gv, h1, h2]
  have few : sz ((crossI rs ks).map .int) = some ((crossI rs ks).map .int) := sz_eq (by rw [List.length_map]; exact Nat.le_trans (cross_few g ks) (by decide))
  unfold F_crossing m_crossing
  simp only [begin_, ap_endN, ap_sRf, ap_mLc]
  simp [clean, wipeE, gv, enum_zip]
  rw [lcG_map item, ← List.map_flatMap]
  have e3 : (rs.zipIdx.flatMap fun p => if crossB p ks then [(p.2 : Int)] else []) = crossI rs ks := rfl
  rw [e3]
  simp [few]
theorem rngD_rows (rs : List Row) : rngD 0 rs.length = rs.zipIdx.map fun p => .int (p.2 : Int) := by
  unfold rngD
  apply List.ext_getElem?
  intro i
  rw [List.getElem?_map, List.getElem?_map, List.getElem?_zipIdx]
  by_cases h : i < rs.length
  · rw [List.getElem?_range h, List.getElem?_eq_getElem h]
    simp
  · rw [List.getElem?_eq_none (by rw [List.length_range]; omega), List.getElem?_eq_none (by omega)]
    rfl
theorem rng1_int {j : Int} (h : 0 ≤ j) (h2 : j ≤ 1000) : rng1 [.int j] = some (rngD 0 j.toNat) := by
  have hb : big j = true := by unfold big; simp only [Bool.and_eq_true, decide_eq_true_eq]; omega
  show (if big j then some (rngD 0 j.toNat) else none) = _
  rw [if_pos hb]
theorem rng1_rows {n : Int} {rs : List Row} (g : Good n rs) : rng1 [.int (rs.length : Int)] = some (rs.zipIdx.map fun p => .int (p.2 : Int)) := by
  have := g.few
  rw [rng1_int (by omega) (by omega), Int.toNat_natCast, rngD_rows]
end
end K04

set_option Elab.async false
set_option linter.all false
set_option maxRecDepth 100000
set_option maxHeartbeats 1000000
namespace K04
open PySem PySem.Spec L2 Rr
section
variable {S : Type} {s : S}
def prms : List Int := [2147483629, 2147483587, 2147483579, 2147483563, 2147483549, 2147483543, 2147483497, 2147483489, 2147483477, 2147483423, 2147483399, 2147483353, 2147483323]
theorem prm_all : ((List.range 13).all fun j => match prms[j]? with | some p => decide (0 < p) && decide (p < 2147483648) | none => false) = true := by decide +kernel
theorem prm_at (x : Int) : ∃ p, atI (prms.map D.int) (x % 13) = some (.int p) ∧ 0 < p ∧ p < 2147483648 := by
  have h1 : 0 ≤ x % 13 := Int.emod_nonneg _ (by decide)
  have h2 : x % 13 < 13 := Int.emod_lt_of_pos _ (by decide)
  obtain ⟨j, hj⟩ := Int.eq_ofNat_of_zero_le h1
  rw [hj] at h2 ⊢
  have h := List.all_eq_true.mp prm_all j (List.mem_range.mpr (by omega))
  split at h
  · rename_i p e
    simp only [Bool.and_eq_true, decide_eq_true_eq] at h
    exact ⟨p, Rr.atI_nat (by rw [List.getElem?_map, e]; rfl), h⟩
  · cases h
theorem endV_rt {mm : Ms S} {ρ : Rho} {d : D} {s2 : S} (h : mm ρ s = some (.rt d s2)) : endV mm ρ s = some (d, s2) := by rw [ap_endV, h]
theorem dMod_pos {i j : Int} (h : 0 < j) : dMod (.int i) (.int j) = some (.int (i % j)) := by show (if 0 < j then _ else none) = _; rw [if_pos h]
theorem dMul_l {i j : Int} (h : small i = true) : dMul (.int i) (.int j) = some (.int (i * j)) := by show (if small i || small j then _ else none) = _; rw [h]; rfl
theorem dMul_r {i j : Int} (h : small j = true) : dMul (.int i) (.int j) = some (.int (i * j)) := by show (if small i || small j then _ else none) = _; rw [h, Bool.or_true]; rfl
theorem dPow_s {i : Int} {k : Nat} (h : small i = true) (hk : k ≤ 1000) : dPow (.int i) (.int (k : Int)) = some (.int (i ^ k)) := by
  show (if 0 ≤ (k : Int) && decide ((k : Int) ≤ 1000000) && small i then _ else none) = _
  rw [h, if_pos (by simp; omega), Int.toNat_natCast]
theorem small_i {i : Int} (h1 : -18446744073709551616 < i) (h2 : i < 18446744073709551616) : small i = true := by
  unfold small
  simp only [Bool.and_eq_true, decide_eq_true_eq]
  exact ⟨h1, h2⟩
theorem st3 {cell a c1 d2 y1 d4 e1 m13 one p1 : Int} {pl : List D} (w1 : dMod (.int cell) (.int 1000000007) = some (.int c1)) (w2 : dMul (.int 2) (.int a) = some (.int d2)) (w3 : dMul (.int c1) (.int (d2 + 69069)) = some (.int y1)) (w4 : dMul (.int a) (.int 40503) = some (.int d4))
    (w5 : dPow (.int (y1 + d4 + 977)) (.int 3) = some (.int e1)) (w6 : dMod (.int a) (.int 13) = some (.int m13)) (q1 : atI pl m13 = some (.int p1)) (w7 : dMod (.int e1) (.int p1) = some (.int one)) :
    (mSet 3 (b2 dMod (b2 dPow (b2 dAdd (b2 dAdd (b2 dMul (b2 dMod (rN 0) (rC (.int 1000000007))) (b2 dAdd (b2 dMul (rC (.int 2)) (rN 1)) (rC (.int 69069)))) (b2 dMul (rN 1) (rC (.int 40503)))) (rC (.int 977))) (rC (.int 3))) (b2 dIx (rN 2) (b2 dMod (rN 1) (rC (.int 13))))) : Ms S) [some (.val (.int cell)), some (.val (.int a)), some (.val (.lst pl)), none, none, none] s = some (.nx [some (.val (.int cell)), some (.val (.int a)), some (.val (.lst pl)), some (.val (.int one)), none, none] s) := by
  have g0 : gv 0 [some (.val (.int cell)), some (.val (.int a)), some (.val (.lst pl)), none, none, none] = some (.int cell) := rfl
  have g1 : gv 1 [some (.val (.int cell)), some (.val (.int a)), some (.val (.lst pl)), none, none, none] = some (.int a) := rfl
  have g2 : gv 2 [some (.val (.int cell)), some (.val (.int a)), some (.val (.lst pl)), none, none, none] = some (.lst pl) := rfl
  simp only [ap_mSet, ap_b2, ap_rN, ap_rC, g0, g1, g2, Option.map_some, Option.bind_some, w1, dAdd_int, w2, w3, w4, w5, w6, dIx_lst, q1, w7]
  rfl
theorem st3a {cell a c1 d2 y1 d4 : Int} {pl : List D} (w1 : dMod (.int cell) (.int 1000000007) = some (.int c1)) (w2 : dMul (.int 2) (.int a) = some (.int d2)) (w3 : dMul (.int c1) (.int (d2 + 69069)) = some (.int y1)) (w4 : dMul (.int a) (.int 40503) = some (.int d4)) :
    (mSet 3 (b2 dAdd (b2 dAdd (b2 dMul (b2 dMod (rN 0) (rC (.int 1000000007))) (b2 dAdd (b2 dMul (rC (.int 2)) (rN 1)) (rC (.int 69069)))) (b2 dMul (rN 1) (rC (.int 40503)))) (rC (.int 977))) : Ms S) [some (.val (.int cell)), some (.val (.int a)), some (.val (.lst pl)), none, none, none] s = some (.nx [some (.val (.int cell)), some (.val (.int a)), some (.val (.lst pl)), some (.val (.int (y1 + d4 + 977))), none, none] s) := by
  have g0 : gv 0 [some (.val (.int cell)), some (.val (.int a)), some (.val (.lst pl)), none, none, none] = some (.int cell) := rfl
  have g1 : gv 1 [some (.val (.int cell)), some (.val (.int a)), some (.val (.lst pl)), none, none, none] = some (.int a) := rfl
  simp only [ap_mSet, ap_b2, ap_rN, ap_rC, g0, g1, Option.map_some, Option.bind_some, w1, dAdd_int, w2, w3, w4]
  rfl
theorem st3b {cell a u e1 m13 one p1 : Int} {pl : List D} (w5 : dPow (.int u) (.int 3) = some (.int e1)) (w6 : dMod (.int a) (.int 13) = some (.int m13)) (q1 : atI pl m13 = some (.int p1)) (w7 : dMod (.int e1) (.int p1) = some (.int one)) :
    (mSet 3 (b2 dMod (b2 dPow (rN 3) (rC (.int 3))) (b2 dIx (rN 2) (b2 dMod (rN 1) (rC (.int 13))))) : Ms S) [some (.val (.int cell)), some (.val (.int a)), some (.val (.lst pl)), some (.val (.int u)), none, none] s = some (.nx [some (.val (.int cell)), some (.val (.int a)), some (.val (.lst pl)), some (.val (.int one)), none, none] s) := by
  have g3 : gv 3 [some (.val (.int cell)), some (.val (.int a)), some (.val (.lst pl)), some (.val (.int u)), none, none] = some (.int u) := rfl
  have g1 : gv 1 [some (.val (.int cell)), some (.val (.int a)), some (.val (.lst pl)), some (.val (.int u)), none, none] = some (.int a) := rfl
  have g2 : gv 2 [some (.val (.int cell)), some (.val (.int a)), some (.val (.lst pl)), some (.val (.int u)), none, none] = some (.lst pl) := rfl
  simp only [ap_mSet, ap_b2, ap_rN, ap_rC, g1, g2, g3, Option.map_some, Option.bind_some, w5, w6, dIx_lst, q1, w7]
  rfl
theorem spread_ev (cell : Int) {a : Nat} (h : a < 2147483648) : ∃ r, F__law_spread [.int cell, .int (a : Int)] s = some (.int r, s) := by
  have b0 : begin_ 6 [D.int cell, .int (a : Int)] = [some (.val (.int cell)), some (.val (.int (a : Int))), none, none, none, none] := rfl
  have t18 : dPow (.int 10) (.int 18) = some (.int 1000000000000000000) := by have := dPow_s (i := 10) (k := 18) rfl (by decide); simpa using this
  unfold F__law_spread m__law_spread
  rw [b0]
  by_cases hc : (1000000000000000000 : Int) ≤ cell
  · refine ⟨cell, ?_⟩
    simp [gv, t18, hc]
  · have e8 : sz [D.int 2147483629, .int 2147483587, .int 2147483579, .int 2147483563, .int 2147483549, .int 2147483543, .int 2147483497, .int 2147483489] = some [D.int 2147483629, .int 2147483587, .int 2147483579, .int 2147483563, .int 2147483549, .int 2147483543, .int 2147483497, .int 2147483489] := sz_eq (by show 8 ≤ sizeLine; decide)
    have e5 : sz [D.int 2147483477, .int 2147483423, .int 2147483399, .int 2147483353, .int 2147483323] = some [D.int 2147483477, .int 2147483423, .int 2147483399, .int 2147483353, .int 2147483323] := sz_eq (by show 5 ≤ sizeLine; decide)
    have e13 : dAdd (.lst [D.int 2147483629, .int 2147483587, .int 2147483579, .int 2147483563, .int 2147483549, .int 2147483543, .int 2147483497, .int 2147483489]) (.lst [D.int 2147483477, .int 2147483423, .int 2147483399, .int 2147483353, .int 2147483323]) = some (.lst (prms.map .int)) := by
      show (sz (prms.map D.int)).map D.lst = _
      rw [sz_eq (by show 13 ≤ sizeLine; decide)]
      rfl
    obtain ⟨p1, q1, p1a, p1b⟩ := prm_at (a : Int)
    obtain ⟨p2, q2, p2a, p2b⟩ := prm_at ((a : Int) + 5)
    obtain ⟨p3, q3, p3a, p3b⟩ := prm_at ((a : Int) + 7)
    -- one
    have c1a : 0 ≤ cell % 1000000007 := Int.emod_nonneg _ (by decide)
    have c1b : cell % 1000000007 < 1000000007 := Int.emod_lt_of_pos _ (by decide)
    have m1 := Int.mul_le_mul (show cell % 1000000007 ≤ 1000000007 by omega) (show 2 * (a : Int) + 69069 ≤ 4295036365 by omega) (by omega) (by decide)
    have m1b := Int.mul_nonneg c1a (show 0 ≤ 2 * (a : Int) + 69069 by omega)
    have w1 : dMod (.int cell) (.int 1000000007) = some (.int (cell % 1000000007)) := dMod_pos (by decide)
    have w2 : dMul (.int 2) (.int (a : Int)) = some (.int (2 * a)) := dMul_l rfl
    have w3 : dMul (.int (cell % 1000000007)) (.int (2 * (a : Int) + 69069)) = some (.int (cell % 1000000007 * (2 * a + 69069))) := dMul_l (small_i (by omega) (by omega))
    have w4 : dMul (.int (a : Int)) (.int 40503) = some (.int (a * 40503)) := dMul_r rfl
    generalize hx1 : cell % 1000000007 * (2 * (a : Int) + 69069) = y1 at *
    have w5 : dPow (.int (y1 + (a : Int) * 40503 + 977)) (.int 3) = some (.int ((y1 + (a : Int) * 40503 + 977) ^ 3)) := dPow_s (k := 3) (small_i (by omega) (by omega)) (by decide)
    have w6 : dMod (.int (a : Int)) (.int 13) = some (.int (a % 13)) := dMod_pos (by decide)
    have w7 : ∀ z, dMod (.int z) (.int p1) = some (.int (z % p1)) := fun z => dMod_pos p1a
    have o1 : 0 ≤ (y1 + (a : Int) * 40503 + 977) ^ 3 % p1 := Int.emod_nonneg _ (by omega)
    have o2 : (y1 + (a : Int) * 40503 + 977) ^ 3 % p1 < p1 := Int.emod_lt_of_pos _ p1a
    generalize hone : (y1 + (a : Int) * 40503 + 977) ^ 3 % p1 = one at *
    -- two
    have m2 := Int.mul_le_mul (show one ≤ 2147483648 by omega) (show (a : Int) + 3 ≤ 2147483651 by omega) (by omega) (by decide)
    have m2b := Int.mul_nonneg o1 (show 0 ≤ (a : Int) + 3 by omega)
    have c2a : 0 ≤ cell % 65537 := Int.emod_nonneg _ (by decide)
    have c2b : cell % 65537 < 65537 := Int.emod_lt_of_pos _ (by decide)
    have v1 : dMul (.int one) (.int ((a : Int) + 3)) = some (.int (one * (a + 3))) := dMul_l (small_i (by omega) (by omega))
    have v2 : dMod (.int cell) (.int 65537) = some (.int (cell % 65537)) := dMod_pos (by decide)
    generalize hy2 : one * ((a : Int) + 3) = y2 at *
    have v3 : dPow (.int (y2 + cell % 65537 + 5)) (.int 5) = some (.int ((y2 + cell % 65537 + 5) ^ 5)) := dPow_s (k := 5) (small_i (by omega) (by omega)) (by decide)
    have v4 : dMod (.int ((a : Int) + 5)) (.int 13) = some (.int ((a + 5) % 13)) := dMod_pos (by decide)
    have v5 : ∀ z, dMod (.int z) (.int p2) = some (.int (z % p2)) := fun z => dMod_pos p2a
    have t1 : 0 ≤ (y2 + cell % 65537 + 5) ^ 5 % p2 := Int.emod_nonneg _ (by omega)
    have t2 : (y2 + cell % 65537 + 5) ^ 5 % p2 < p2 := Int.emod_lt_of_pos _ p2a
    generalize htwo : (y2 + cell % 65537 + 5) ^ 5 % p2 = two at *
    -- three
    have u1 : dMod (.int one) (.int 1009) = some (.int (one % 1009)) := dMod_pos (by decide)
    have d1 : 0 ≤ one % 1009 := Int.emod_nonneg _ (by decide)
    have d2 : one % 1009 < 1009 := Int.emod_lt_of_pos _ (by decide)
    have u2 : dPow (.int (two + one % 1009 + (a : Int))) (.int 3) = some (.int ((two + one % 1009 + (a : Int)) ^ 3)) := dPow_s (k := 3) (small_i (by omega) (by omega)) (by decide)
    have u3 : dMod (.int ((a : Int) + 7)) (.int 13) = some (.int ((a + 7) % 13)) := dMod_pos (by decide)
    have u4 : ∀ z, dMod (.int z) (.int p3) = some (.int (z % p3)) := fun z => dMod_pos p3a
    generalize hthree : (two + one % 1009 + (a : Int)) ^ 3 % p3 = three at *
    have r1 : dMul (.int one) (.int 2147483647) = some (.int (one * 2147483647)) := dMul_r rfl
    have r2 : ∀ z, dMul (.int z) (.int 2147483647) = some (.int (z * 2147483647)) := fun z => dMul_r rfl
    refine ⟨(one * 2147483647 + two) * 2147483647 + three, ?_⟩
    refine endV_rt (run2 (ρ1 := [some (.val (.int cell)), some (.val (.int (a : Int))), none, none, none, none]) (by simp [gv, t18, hc]) ?_)
    refine run2 (ρ1 := [some (.val (.int cell)), some (.val (.int (a : Int))), some (.val (.lst [D.int 2147483629, .int 2147483587, .int 2147483579, .int 2147483563, .int 2147483549, .int 2147483543, .int 2147483497, .int 2147483489])), none, none, none]) (by simp [e8]) ?_
    refine run2 (ρ1 := [some (.val (.int cell)), some (.val (.int (a : Int))), some (.val (.lst (prms.map .int))), none, none, none]) (by simp [gv, e5, e13]) ?_
    generalize prms.map D.int = pl at q1 q2 q3
    refine run2 (ρ1 := [some (.val (.int cell)), some (.val (.int (a : Int))), some (.val (.lst pl)), some (.val (.int one)), none, none]) (st3 w1 w2 w3 w4 w5 w6 q1 (by rw [w7, hone])) ?_
    refine run2 (ρ1 := [some (.val (.int cell)), some (.val (.int (a : Int))), some (.val (.lst pl)), some (.val (.int one)), some (.val (.int two)), none]) (by simp [gv, v1, v2, v3, v4, v5, q2, htwo]) ?_
    refine run2 (ρ1 := [some (.val (.int cell)), some (.val (.int (a : Int))), some (.val (.lst pl)), some (.val (.int one)), some (.val (.int two)), some (.val (.int three))]) (by simp [gv, u1, u2, u3, u4, q3, hthree]) ?_
    simp [gv, r1, r2]
end
def tkR (n : Int) (a2 a3 a4 : Option Sl) : Rho := [some (.val (.obj 0)), some (.val (.int n)), a2, a3, a4]
theorem tk_pen (n : Int) (a2 a3 a4 : Option Sl) : isPen 0 (tkR n a2 a3 a4) = true := rfl
theorem penI1 {n : Int} {a2 a3 a4 : Option Sl} {st : PenS} : mPenI 0 1 (tkR n a2 a3 a4) st = some (.int st.at_, st) := rfl
theorem penI2 {n : Int} {a2 a3 a4 : Option Sl} {st : PenS} : mPenI 0 2 (tkR n a2 a3 a4) st = some (.int st.rest, st) := rfl
theorem penL {n : Int} {a2 a3 a4 : Option Sl} {st : PenS} : mPenLen 0 (tkR n a2 a3 a4) st = some (.int st.cells.length, st) := rfl
theorem penAt_ev {n : Int} {a2 a3 a4 : Option Sl} {st : PenS} {m : Rho → Mo PenS D} {k : Nat} (h : m (tkR n a2 a3 a4) st = some (.int (k : Int), st)) (hk : k < st.cells.length) : ∃ z, mPenAt 0 m (tkR n a2 a3 a4) st = some (.int z, st) := by
  unfold mPenAt
  rw [tk_pen, if_pos rfl, h]
  simp only [if_true]
  rw [Rr.atI_nat (List.getElem?_eq_getElem hk)]
  exact ⟨_, rfl⟩
theorem penSet1 {n : Int} {a2 a3 a4 : Option Sl} {st st2 : PenS} {m : Rho → Mo PenS D} {z : Int} (h : m (tkR n a2 a3 a4) st = some (.int z, st2)) (hz : 0 ≤ z) : mPenSet 0 1 m (tkR n a2 a3 a4) st = some (.nx (tkR n a2 a3 a4) { st2 with at_ := z.toNat }) := by
  unfold mPenSet
  rw [tk_pen, if_pos rfl, h]
  simp only [if_true, if_pos hz]
theorem penSet2 {n : Int} {a2 a3 a4 : Option Sl} {st st2 : PenS} {m : Rho → Mo PenS D} {z : Int} (h : m (tkR n a2 a3 a4) st = some (.int z, st2)) : mPenSet 0 2 m (tkR n a2 a3 a4) st = some (.nx (tkR n a2 a3 a4) { st2 with rest := z }) := by
  unfold mPenSet
  rw [tk_pen, if_pos rfl, h]
  simp
/-- the cell that is next -/
def cellS : Ms PenS := sIf (qB (b2 dLt (rN 2) (mPenLen 0))) (mSet 3 (mPenAt 0 (rN 2)))
  (sIf (qB (b2 dGt (mPenLen 0) (rC (.int 0)))) (mSet 3 (b2 dMod (mPenAt 0 (b2 dMod (b2 dAdd (b2 dMul (rN 2) (rC (.int 5))) (rC (.int 3))) (mPenLen 0))) (b2 dAdd (b2 dPow (rC (.int 10)) (rC (.int 17))) (rN 2))))
  mNx)
theorem cell_ix {n : Int} {a3 a4 : Option Sl} {st : PenS} {at_ k L : Int} (hL : (st.cells.length : Int) = L) (w1 : dMul (.int at_) (.int 5) = some (.int k)) (w2 : dMod (.int (k + 3)) (.int L) = some (.int ((k + 3) % L))) :
    (b2 dMod (b2 dAdd (b2 dMul (rN 2) (rC (.int 5))) (rC (.int 3))) (mPenLen 0)) (tkR n (some (.val (.int at_))) a3 a4) st = some (.int ((k + 3) % L), st) := by
  have g2 : gv 2 (tkR n (some (.val (.int at_))) a3 a4) = some (.int at_) := rfl
  simp only [ap_b2, ap_rN, ap_rC, g2, Option.map_some, Option.bind_some, w1, dAdd_int, penL, hL, w2]
theorem cell_md {n : Int} {a3 a4 : Option Sl} {st : PenS} {at_ t : Int} (w3 : dPow (.int 10) (.int 17) = some (.int t)) : (b2 dAdd (b2 dPow (rC (.int 10)) (rC (.int 17))) (rN 2)) (tkR n (some (.val (.int at_))) a3 a4) st = some (.int (t + at_), st) := by
  have g2 : gv 2 (tkR n (some (.val (.int at_))) a3 a4) = some (.int at_) := rfl
  simp only [ap_b2, ap_rN, ap_rC, g2, Option.map_some, Option.bind_some, w3, dAdd_int]
theorem cell_1 {n A z : Int} {a4 : Option Sl} {st : PenS} (h1 : A < st.cells.length) (e : mPenAt 0 (rN 2) (tkR n (some (.val (.int A))) (some (.val (.int 0))) a4) st = some (.int z, st)) : cellS (tkR n (some (.val (.int A))) (some (.val (.int 0))) a4) st = some (.nx (tkR n (some (.val (.int A))) (some (.val (.int z))) a4) st) := by
  have g2 : gv 2 (tkR n (some (.val (.int A))) (some (.val (.int 0))) a4) = some (.int A) := rfl
  unfold cellS
  rw [ap_sIf, ap_qB, ap_b2, ap_rN, g2]
  simp only [Option.map_some, Option.bind_some, penL, dI_int, h1, decide_true, ap_asB, if_true, ap_mSet, e]
  rfl
theorem cell_2 {n A z T y : Int} {a4 : Option Sl} {st : PenS} {m1 m2 : Rho → Mo PenS D} (h1 : ¬ A < st.cells.length) (h2 : (0 : Int) < st.cells.length) (e : mPenAt 0 m1 (tkR n (some (.val (.int A))) (some (.val (.int 0))) a4) st = some (.int z, st)) (cm : m2 (tkR n (some (.val (.int A))) (some (.val (.int 0))) a4) st = some (.int T, st)) (dm : dMod (.int z) (.int T) = some (.int y)) :
    (sIf (qB (b2 dLt (rN 2) (mPenLen 0))) (mSet 3 (mPenAt 0 (rN 2))) (sIf (qB (b2 dGt (mPenLen 0) (rC (.int 0)))) (mSet 3 (b2 dMod (mPenAt 0 m1) m2)) mNx)) (tkR n (some (.val (.int A))) (some (.val (.int 0))) a4) st = some (.nx (tkR n (some (.val (.int A))) (some (.val (.int y))) a4) st) := by
  have g2 : gv 2 (tkR n (some (.val (.int A))) (some (.val (.int 0))) a4) = some (.int A) := rfl
  rw [ap_sIf, ap_qB, ap_b2, ap_rN, g2]
  simp only [Option.map_some, Option.bind_some, penL, dI_int, h1, decide_false, ap_asB, Bool.false_eq_true, if_false]
  rw [ap_sIf, ap_qB, ap_b2, penL]
  simp only [Option.bind_some, ap_rC, dI_int, h2, decide_true, Option.map_some, ap_asB, if_true]
  rw [ap_mSet, ap_b2, e, Option.bind_some, cm, Option.bind_some, dm]
  rfl
theorem cell_3 {n A : Int} {a4 : Option Sl} {st : PenS} (h1 : ¬ A < st.cells.length) (h2 : ¬ (0 : Int) < st.cells.length) : cellS (tkR n (some (.val (.int A))) (some (.val (.int 0))) a4) st = some (.nx (tkR n (some (.val (.int A))) (some (.val (.int 0))) a4) st) := by
  have g2 : gv 2 (tkR n (some (.val (.int A))) (some (.val (.int 0))) a4) = some (.int A) := rfl
  unfold cellS
  rw [ap_sIf, ap_qB, ap_b2, ap_rN, g2]
  simp only [Option.map_some, Option.bind_some, penL, dI_int, h1, decide_false, ap_asB, Bool.false_eq_true, if_false]
  rw [ap_sIf, ap_qB, ap_b2, penL]
  simp only [Option.bind_some, ap_rC, dI_int, h2, decide_false, Option.map_some, ap_asB, Bool.false_eq_true, if_false]
  rfl
theorem t17 : dPow (.int 10) (.int 17) = some (.int 100000000000000000) := by have := dPow_s (i := 10) (k := 17) rfl (by decide); simpa using this
theorem cell_ev {n A : Int} {a4 : Option Sl} {st : PenS} (hA : (st.at_ : Int) = A) (h : A < 2147483648) : ∃ z, cellS (tkR n (some (.val (.int A))) (some (.val (.int 0))) a4) st = some (.nx (tkR n (some (.val (.int A))) (some (.val (.int z))) a4) st) := by
  have h9 : 0 ≤ A := by omega
  by_cases h1 : A < st.cells.length
  · obtain ⟨z, e⟩ := penAt_ev (m := rN 2) (n := n) (a2 := some (.val (.int A))) (a3 := some (.val (.int 0))) (a4 := a4) (st := st) (k := st.at_) (by rw [hA]; exact ap_rN) (by omega)
    exact ⟨z, cell_1 h1 e⟩
  · by_cases h2 : (0 : Int) < st.cells.length
    · have i1 : 0 ≤ (A * 5 + 3) % (st.cells.length : Int) := Int.emod_nonneg _ (by omega)
      have i2 : (A * 5 + 3) % (st.cells.length : Int) < st.cells.length := Int.emod_lt_of_pos _ h2
      have ci := cell_ix (n := n) (a3 := some (.val (.int 0))) (a4 := a4) (st := st) (at_ := A) rfl (dMul_r rfl) (dMod_pos h2)
      obtain ⟨j, hj⟩ := Int.eq_ofNat_of_zero_le i1
      rw [hj] at ci i2
      obtain ⟨z, e⟩ := penAt_ev ci (by omega)
      have cm := cell_md (n := n) (a3 := some (.val (.int 0))) (a4 := a4) (st := st) (at_ := A) t17
      exact ⟨_, cell_2 h1 h2 e cm (dMod_pos (by omega))⟩
    · exact ⟨0, cell_3 h1 h2⟩
theorem tk_tail {n : Int} {a2 a3 : Option Sl} {u : PenS} (h0 : 0 < n) (hn : n < 1073741824) : sq (mSet 4 (b2 dMod (mPenI 0 2) (rN 1))) (sq (mPenSet 0 2 (b2 dDiv (mPenI 0 2) (rN 1))) (sRt (rN 4))) (tkR n a2 a3 none) u = some (.rt (.int (u.rest % n)) { u with rest := u.rest / n }) := by
  have g1 : ∀ x, gv 1 (tkR n a2 a3 x) = some (.int n) := fun _ => rfl
  have g4 : ∀ d, gv 4 (tkR n a2 a3 (some (.val d))) = some d := fun _ => rfl
  have dm : dMod (.int u.rest) (.int n) = some (.int (u.rest % n)) := dMod_pos h0
  have dd : dDiv (.int u.rest) (.int n) = some (.int (u.rest / n)) := by show (if 0 < n ∧ n < 1073741824 then _ else none) = _; rw [if_pos ⟨h0, hn⟩]
  refine run2s (ρ1 := tkR n a2 a3 (some (.val (.int (u.rest % n))))) (s1 := u) ?_ (run2s (penSet2 (z := u.rest / n) (st2 := u) ?_) ?_)
  · rw [ap_mSet, ap_b2, penI2, Option.bind_some, ap_rN, g1]
    simp only [Option.map_some, Option.bind_some, dm]
    rfl
  · rw [ap_b2, penI2, Option.bind_some, ap_rN, g1]
    simp only [Option.map_some, Option.bind_some, dd]
  · rw [ap_sRt, ap_rN, g4]
    rfl
theorem tk_cell {n A z r : Int} {st : PenS} (h9 : 0 ≤ A) (hA : (st.at_ : Int) = A) (hr : st.rest < n) (ec : cellS (tkR n (some (.val (.int A))) (some (.val (.int 0))) none) st = some (.nx (tkR n (some (.val (.int A))) (some (.val (.int z))) none) st))
    (es : F__law_spread [.int z, .int A] ({ st with at_ := (A + 1).toNat } : PenS) = some (.int r, { st with at_ := (A + 1).toNat })) :
    (sIf (qB (b2 dLt (mPenI 0 2) (rN 1))) (sq (mSet 2 (mPenI 0 1)) (sq (mSet 3 (rC (.int 0))) (sq cellS (sq (mPenSet 0 1 (b2 dAdd (rN 2) (rC (.int 1)))) (mPenSet 0 2 (mCall 2 (F__law_spread) (rCons (rN 3) (rCons (rN 2) rNil)))))))) mNx) (tkR n none none none) st = some (.nx (tkR n (some (.val (.int A))) (some (.val (.int z))) none) { st with at_ := (A + 1).toNat, rest := r }) := by
  have g1 : gv 1 (tkR n none none none) = some (.int n) := rfl
  have g2 : gv 2 (tkR n (some (.val (.int A))) (some (.val (.int z))) none) = some (.int A) := rfl
  have g3 : gv 3 (tkR n (some (.val (.int A))) (some (.val (.int z))) none) = some (.int z) := rfl
  have q : (qB (b2 dLt (mPenI 0 2) (rN 1))) (tkR n none none none) st = some (decide (st.rest < n), st) := by
    rw [ap_qB, ap_b2, penI2, Option.bind_some, ap_rN, g1]
    simp only [Option.map_some, Option.bind_some, dI_int, ap_asB]
  rw [ap_sIf, q, Option.bind_some]
  simp only [hr, decide_true, if_true]
  refine run2s (ρ1 := tkR n (some (.val (.int A))) none none) (s1 := st) (by rw [ap_mSet, penI1, hA]; rfl) ?_
  refine run2s (ρ1 := tkR n (some (.val (.int A))) (some (.val (.int 0))) none) (s1 := st) (by rw [ap_mSet, ap_rC]; rfl) ?_
  refine run2s ec ?_
  refine run2s (penSet1 (z := A + 1) (st2 := st) (by rw [ap_b2, ap_rN, g2]; simp only [Option.map_some, Option.bind_some, ap_rC, dAdd_int]) (by omega)) ?_
  refine (penSet2 (z := r) (st2 := { st with at_ := (A + 1).toNat }) ?_)
  have ea : (rCons (rN 3) (rCons (rN 2) rNil)) (tkR n (some (.val (.int A))) (some (.val (.int z))) none) ({ st with at_ := (A + 1).toNat } : PenS) = some ([.int z, .int A], { st with at_ := (A + 1).toNat }) := by
    rw [ap_rCons, ap_rN, g3, Option.map_some, Option.bind_some, ap_rCons, ap_rN, g2]
    rfl
  rw [ap_mCall, ea, Option.bind_some]
  exact es
theorem take_ev {n : Int} {st : PenS} (h0 : 0 < n) (hn : n < 1073741824) (h : st.at_ < 2147483648) : ∃ r st2, F__law_take [.obj 0, .int n] st = some (.int r, st2) ∧ 0 ≤ r ∧ r < n ∧ st2.cells = st.cells ∧ st2.at_ ≤ st.at_ + 1 := by
  have i1 : ∀ z : Int, 0 ≤ z % n := fun z => Int.emod_nonneg _ (by omega)
  have i2 : ∀ z : Int, z % n < n := fun z => Int.emod_lt_of_pos _ h0
  by_cases hr : st.rest < n
  · obtain ⟨A, hA⟩ : ∃ A : Int, (st.at_ : Int) = A := ⟨_, rfl⟩
    obtain ⟨z, ec⟩ := cell_ev (n := n) (a4 := none) (st := st) hA (by omega)
    obtain ⟨r, es⟩ := spread_ev (s := ({ st with at_ := (A + 1).toNat } : PenS)) z (a := st.at_) h
    rw [hA] at es
    exact ⟨_, _, endV_rt (ρ := begin_ 5 [D.obj 0, .int n]) (run2s (tk_cell (by omega) hA hr ec es) (tk_tail h0 hn)), i1 _, i2 _, rfl, by show (A + 1).toNat ≤ st.at_ + 1; omega⟩
  · refine ⟨_, _, endV_rt (ρ := begin_ 5 [D.obj 0, .int n]) (run2s (s1 := st) (ρ1 := tkR n none none none) ?_ (tk_tail h0 hn)), i1 _, i2 _, rfl, by simp⟩
    have g1 : gv 1 (tkR n none none none) = some (.int n) := rfl
    have q : (qB (b2 dLt (mPenI 0 2) (rN 1))) (tkR n none none none) st = some (decide (st.rest < n), st) := by
      rw [ap_qB, ap_b2, penI2, Option.bind_some, ap_rN, g1]
      simp only [Option.map_some, Option.bind_some, dI_int, ap_asB]
    show sIf _ _ _ (tkR n none none none) st = _
    rw [ap_sIf, q, Option.bind_some]
    simp only [hr, decide_false, Bool.false_eq_true, if_false]
    rfl
def Adv (k : Nat) (st st2 : PenS) : Prop := st2.cells = st.cells ∧ st2.at_ ≤ st.at_ + k
theorem Adv.trans {j k : Nat} {a b c : PenS} (h1 : Adv j a b) (h2 : Adv k b c) : Adv (j + k) a c := ⟨h2.1.trans h1.1, by have := h1.2; have := h2.2; omega⟩
theorem Adv.refl (a : PenS) : Adv 0 a a := ⟨rfl, by omega⟩
theorem Adv.le {j k : Nat} {a b : PenS} (h : Adv j a b) (hk : j ≤ k) : Adv k a b := ⟨h.1, by have := h.2; omega⟩
/-- _law_take(pen, e) -/
theorem take_call {ρ : Rho} {m : Rho → Mo PenS D} {n : Int} {st st1 : PenS} (h0 : gv 0 ρ = some (.obj 0)) (hm : m ρ st = some (.int n, st1)) (hn : 0 < n) (hn2 : n < 1073741824) (ha : st1.at_ < 2147483648) :
    ∃ r st2, (mCall 2 F__law_take (rCons (rN 0) (rCons m rNil))) ρ st = some (.int r, st2) ∧ 0 ≤ r ∧ r < n ∧ Adv 1 st1 st2 := by
  obtain ⟨r, st2, e, h1, h2, h3, h4⟩ := take_ev (st := st1) hn hn2 ha
  refine ⟨r, st2, ?_, h1, h2, h3, h4⟩
  have : (rCons (rN 0) (rCons m rNil)) ρ st = some ([.obj 0, .int n], st1) := by
    rw [ap_rCons, ap_rN, h0, Option.map_some, Option.bind_some, ap_rCons, hm]
    rfl
  rw [ap_mCall, this, Option.bind_some]
  exact e
theorem one_of_ev {ds : List D} {L : Int} {st : PenS} (hL : (ds.length : Int) = L) (h0 : 0 < L) (h1 : L < 1073741824) (ha : st.at_ < 2147483648) : ∃ d st2, F__law_one_of F__law_take [.obj 0, .lst ds] st = some (d, st2) ∧ d ∈ ds ∧ Adv 1 st st2 := by
  have g0 : gv 0 (begin_ 2 [D.obj 0, .lst ds]) = some (.obj 0) := rfl
  have g1 : gv 1 (begin_ 2 [D.obj 0, .lst ds]) = some (.lst ds) := rfl
  obtain ⟨r, st2, e, r1, r2, adv⟩ := take_call (ρ := begin_ 2 [D.obj 0, .lst ds]) (m := cb dLen (rCons (rN 1) rNil)) (n := L) (st := st) (st1 := st) g0 (by
    have : (rCons (rN 1) rNil) (begin_ 2 [D.obj 0, .lst ds]) st = some ([.lst ds], st) := by rw [ap_rCons, ap_rN, g1]; rfl
    rw [ap_cb, this, Option.bind_some, dLen_lst, hL]
    rfl) h0 h1 ha
  obtain ⟨j, hj⟩ := Int.eq_ofNat_of_zero_le r1
  have hlt : j < ds.length := by omega
  refine ⟨ds[j], st2, ?_, List.getElem_mem hlt, adv⟩
  unfold F__law_one_of m__law_one_of
  refine endV_rt ?_
  rw [ap_sRt, ap_b2, ap_rN, g1, Option.map_some, Option.bind_some, e, Option.bind_some, dIx_lst, hj, Rr.atI_nat (List.getElem?_eq_getElem hlt)]
  rfl
/-- _law_one_of(pen, [..]) -/
theorem one_call {ρ : Rho} {mn : Rho → Mo PenS (List D)} {ds : List D} {st st1 : PenS} (h0 : gv 0 ρ = some (.obj 0)) (hm : mn ρ st = some (ds, st1)) (h1 : 0 < ds.length) (h2 : ds.length < 1073741824) (ha : st1.at_ < 2147483648) :
    ∃ d st2, (mCall 2 (F__law_one_of F__law_take) (rCons (rN 0) (rCons (rNv mn) rNil))) ρ st = some (d, st2) ∧ d ∈ ds ∧ Adv 1 st1 st2 := by
  obtain ⟨d, st2, e, h3, h4⟩ := one_of_ev (ds := ds) (st := st1) rfl (by omega) (by omega) ha
  refine ⟨d, st2, ?_, h3, h4⟩
  have : (rCons (rN 0) (rCons (rNv mn) rNil)) ρ st = some ([.obj 0, .lst ds], st1) := by
    rw [ap_rCons, ap_rN, h0, Option.map_some, Option.bind_some, ap_rCons, ap_rNv, hm]
    rfl
  rw [ap_mCall, this, Option.bind_some]
  exact e
theorem dMin2 (i j : Int) : dMin [.int i, .int j] = some (.int (if j < i then j else i)) := rfl
end K04

set_option Elab.async false
set_option linter.all false
set_option maxRecDepth 100000
set_option maxHeartbeats 1000000
namespace K04
open PySem PySem.Spec L2 Rr
def far : Nat := 2147483000
/-- a comprehension whose items draw -/
theorem lcG_st {item : D → Rho → Mo PenS (List D)} {ρ : Rho} {α : Type} {g : α → D} {R : α → D → Prop} {k : Nat} : ∀ {xs : List α} {st : PenS}, (∀ x ∈ xs, ∀ u : PenS, u.at_ ≤ far → ∃ y u2, item (g x) ρ u = some ([y], u2) ∧ R x y ∧ Adv k u u2) → st.at_ + k * xs.length ≤ far →
    ∃ ys st2, lcG item (xs.map g) ρ st = some (ys, st2) ∧ ys.length = xs.length ∧ ((∀ y ∈ ys, ∃ x ∈ xs, R x y) ∧ Adv (k * xs.length) st st2)
  | [], st, _, _ => ⟨[], st, rfl, rfl, ⟨fun _ h => (nomatch h), (Adv.refl st).le (by omega)⟩⟩
  | x :: xs, st, h, hb => by
    rw [List.length_cons, Nat.mul_add, Nat.mul_one] at hb
    obtain ⟨y, s1, e1, r1, a1⟩ := h x List.mem_cons_self st (by omega)
    obtain ⟨ys, s2, e2, l2, r2, a2⟩ := lcG_st (st := s1) (fun z hz => h z (List.mem_cons_of_mem _ hz)) (by have := a1.2; omega)
    refine ⟨y :: ys, s2, ?_, by rw [List.length_cons, l2, List.length_cons], ⟨fun z hz => ?_, (a1.trans a2).le (by rw [List.length_cons, Nat.mul_add]; omega)⟩⟩
    · rw [List.map_cons]
      unfold lcG
      simp only [ap_bd, e1, Option.bind_some, e2, ap_rt]
      rfl
    · rcases List.mem_cons.mp hz with rfl | hz
      · exact ⟨x, List.mem_cons_self, r1⟩
      · obtain ⟨q, h1, h2⟩ := r2 z hz
        exact ⟨q, List.mem_cons_of_mem _ h1, h2⟩
/-- a loop whose turns draw -/
theorem loopD_st {α : Type} {b : D → Rho → Option Rho} {mb : Ms PenS} (ρf : α → Rho) (P : Nat → α → Prop) {k : Nat} : ∀ {ds : List D} {a : α} {st : PenS}, (∀ a d r (u : PenS), d ∈ ds → P (r + 1) a → u.at_ ≤ far → ∃ a2 ρ1 u2, b d (ρf a) = some ρ1 ∧ mb ρ1 u = some (.nx (ρf a2) u2) ∧ P r a2 ∧ Adv k u u2) → P ds.length a → st.at_ + k * ds.length ≤ far →
    ∃ a2 st2, loopD b mb ds (ρf a) st = some (.nx (ρf a2) st2) ∧ P 0 a2 ∧ Adv (k * ds.length) st st2
  | [], a, st, _, p, _ => ⟨a, st, rfl, p, (Adv.refl st).le (by omega)⟩
  | d :: ds, a, st, h, p, hb => by
    rw [List.length_cons, Nat.mul_add, Nat.mul_one] at hb
    obtain ⟨a1, ρ1, s1, e1, e2, p1, ad1⟩ := h a d ds.length st List.mem_cons_self p (by omega)
    obtain ⟨a2, s2, e3, p2, ad2⟩ := loopD_st ρf P (st := s1) (fun a d r u hd => h a d r u (List.mem_cons_of_mem _ hd)) p1 (by have := ad1.2; omega)
    refine ⟨a2, s2, ?_, p2, (ad1.trans ad2).le (by rw [List.length_cons, Nat.mul_add]; omega)⟩
    unfold loopD
    rw [e1]
    simp only [e2, e3]
theorem ins_m {α : Type} {ps : List α} {k : Nat} {q p : α} (h : p ∈ ps.take k ++ [q] ++ ps.drop k) : p ∈ ps ∨ p = q := by
  rcases List.mem_append.mp h with h | h
  · rcases List.mem_append.mp h with h | h
    · exact .inl (List.mem_of_mem_take h)
    · simp at h; exact .inr h
  · exact .inl (List.mem_of_mem_drop h)
theorem rngD_cons (lo : Int) (m : Nat) : rngD lo (m + 1) = .int lo :: rngD (lo + 1) m := by
  unfold rngD
  rw [List.range_succ_eq_map, List.map_cons, List.map_map]
  congr 1
  · simp
  · congr 1
    funext i
    simp only [Function.comp]
    congr 1
    omega
structure Nm (k : Int) (ns : List Int) : Prop where
  len : (ns.length : Int) = k
  nd : ns.Nodup
  rg : ∀ x ∈ ns, 0 ≤ x ∧ x < k
theorem Nm.ins {k : Int} {ns : List Int} (h : Nm k ns) (j : Nat) : Nm (k + 1) (ns.take j ++ [k] ++ ns.drop j) := by
  have pm : (ns.take j ++ [k] ++ ns.drop j).Perm (k :: ns) := by
    have : (ns.take j ++ [k] ++ ns.drop j).Perm ([k] ++ ns.take j ++ ns.drop j) := List.Perm.append_right _ List.perm_append_comm
    refine this.trans ?_
    rw [List.append_assoc, List.take_append_drop]
    exact .refl _
  refine ⟨?_, pm.nodup_iff.mpr (List.nodup_cons.mpr ⟨fun z => by have := (h.rg k z).2; omega, h.nd⟩), fun x hx => ?_⟩
  · rw [pm.length_eq, List.length_cons]
    have := h.len
    omega
  · rcases List.mem_cons.mp (pm.mem_iff.mp hx) with rfl | hx
    · have := h.len; omega
    · have := h.rg x hx; omega
theorem rows_of {n : Int} {ys : List D} (h : ∀ y ∈ ys, ∃ r, y = rowD r ∧ GoodR n r) : ∃ rs : List Row, ys = rs.map rowD ∧ ∀ r ∈ rs, GoodR n r := by
  induction ys with
  | nil => exact ⟨[], rfl, fun r h => (nomatch h)⟩
  | cons y ys ih =>
    obtain ⟨r, rfl, g⟩ := h y List.mem_cons_self
    obtain ⟨rs, rfl, gs⟩ := ih fun z hz => h z (List.mem_cons_of_mem _ hz)
    refine ⟨r :: rs, rfl, fun q hq => ?_⟩
    rcases List.mem_cons.mp hq with rfl | hq
    · exact g
    · exact gs q hq
theorem atI_get {ns : List Int} {n x : Int} (hl : (ns.length : Int) = n) (h : 0 ≤ x ∧ x < n) : atI (ns.map D.int) x = some (.int (ns.getD x.toNat 0)) := by
  obtain ⟨j, rfl⟩ := Int.eq_ofNat_of_zero_le h.1
  have lt : j < ns.length := by omega
  refine Rr.atI_nat ?_
  rw [List.getElem?_map, Int.toNat_natCast, List.getElem?_eq_getElem lt]
  simp [List.getD, List.getElem?_eq_getElem lt]
theorem dMin_eq (x y : Int) : dMin [.int x, .int y] = some (.int (min x y)) := by
  rw [dMin2]
  congr 2
  split <;> omega
theorem dMax_eq (x y : Int) : dMax [.int x, .int y] = some (.int (max x y)) := by
  show some (D.int (if y > x then y else x)) = _
  congr 2
  split <;> omega
theorem rng2_int {n : Int} (h1 : 1 ≤ n) (h6 : n ≤ 6) : rng2 [.int 1, .int n] = some (rngD 1 (n - 1).toNat) := by
  have hb : big n = true := by unfold big; simp only [Bool.and_eq_true, decide_eq_true_eq]; omega
  have hc : (big 1 && big n) = true := by rw [hb]; rfl
  show (if (big 1 && big n) = true then some (rngD 1 (n - 1).toNat) else none) = _
  rw [if_pos hc]
theorem rngD_map (lo : Int) (m : Nat) : rngD lo m = ((List.range m).map fun (i : Nat) => lo + (i : Int)).map D.int := by
  unfold rngD
  rw [List.map_map]
  rfl
theorem rngD_len (lo : Int) (m : Nat) : (rngD lo m).length = m := by unfold rngD; rw [List.length_map, List.length_range]
end K04

set_option Elab.async false
set_option linter.all false
set_option maxRecDepth 100000
set_option maxHeartbeats 1000000
namespace K04
open PySem PySem.Spec L2 Rr
/-! ### ways, from house to house -/
inductive Go (rs : List Row) (al : Int → Prop) : List Int → List Int → List Int → Prop
  | nil (hs : List Int) : Go rs al hs [] hs
  | cons {hs : List Int} {i : Nat} {r : Row} {x t : Int} {w hs2 : List Int} : rs[i]? = some r → al (i : Int) → hs.getLast? = some x → nxt r x = some t → t ∉ hs → Go rs al (hs ++ [t]) w hs2 → Go rs al hs ((i : Int) :: w) hs2
section
variable {rs : List Row} {al al2 : Int → Prop} {hs hs2 w : List Int}
theorem Go.snoc (h : Go rs al hs w hs2) {i : Nat} {r : Row} {x t : Int} (h1 : rs[i]? = some r) (h2 : al (i : Int)) (h3 : hs2.getLast? = some x) (h4 : nxt r x = some t) (h5 : t ∉ hs2) : Go rs al hs (w ++ [(i : Int)]) (hs2 ++ [t]) := by
  induction h with
  | nil hs => exact .cons h1 h2 h3 h4 h5 (.nil _)
  | cons a1 a2 a3 a4 a5 _ ih => exact .cons a1 a2 a3 a4 a5 (ih h3 h5)
theorem Go.imp (h : Go rs al hs w hs2) (q : ∀ z ∈ w, al z → al2 z) : Go rs al2 hs w hs2 := by
  induction h with
  | nil hs => exact .nil _
  | cons a1 a2 a3 a4 a5 _ ih => exact .cons a1 (q _ List.mem_cons_self a2) a3 a4 a5 (ih fun z hz => q z (List.mem_cons_of_mem _ hz))
theorem Go.all (h : Go rs al hs w hs2) : ∀ z ∈ w, al z ∧ ∃ (i : Nat) (r : Row), z = (i : Int) ∧ rs[i]? = some r := by
  induction h with
  | nil hs => intro z hz; cases hz
  | cons a1 a2 a3 a4 a5 _ ih =>
    intro z hz
    rcases List.mem_cons.mp hz with rfl | hz
    · exact ⟨a2, _, _, rfl, a1⟩
    · exact ih z hz
theorem Go.pre (h : Go rs al hs w hs2) : ∃ e, hs2 = hs ++ e ∧ e.length = w.length := by
  induction h with
  | nil hs => exact ⟨[], by simp, rfl⟩
  | cons a1 a2 a3 a4 a5 _ ih =>
    obtain ⟨e, h1, h2⟩ := ih
    exact ⟨_ :: e, by rw [h1, List.append_assoc]; rfl, by rw [List.length_cons, List.length_cons, h2]⟩
theorem Go.last (h : Go rs al hs w hs2) : w = [] ∨ ∃ y, hs2.getLast? = some y ∧ y ∉ hs := by
  induction h with
  | nil hs => exact .inl rfl
  | @cons hs i r x t w hs2 a1 a2 a3 a4 a5 q ih =>
    refine .inr ?_
    rcases ih with rfl | ⟨y, h1, h2⟩
    · cases q
      exact ⟨t, by simp, a5⟩
    · exact ⟨y, h1, fun z => h2 (List.mem_append.mpr (.inl z))⟩
theorem Go.hsok {n : Int} (g : Good n rs) (h : Go rs al hs w hs2) : Hs n hs → Hs n hs2 := by
  induction h with
  | nil hs => exact id
  | cons a1 a2 a3 a4 a5 _ ih => exact fun q => ih (q.snoc a5 (nxt_rg (g.row _ (List.mem_of_getElem? a1)) a4))
theorem Go.few {n : Int} (g : Good n rs) (h : Go rs al hs w hs2) (h0 : Hs n hs) : hs.length + w.length ≤ 6 := by
  obtain ⟨e, h1, h2⟩ := h.pre
  have := (h.hsok g h0).len g.n6
  rw [h1, List.length_append] at this
  omega
theorem ways_of_go {r0 e : Int} (h : Go rs al hs w hs2) (hr : ¬ al r0) : ∀ {k : Nat}, w.length < k → hs2.getLast? = some e → w ∈ ways rs r0 e k hs := by
  induction h with
  | nil hs =>
    intro k hk he
    cases k with
    | zero => omega
    | succ k => rw [show ways rs r0 e (k+1) hs = [[]] by rw [ways, he]; simp]; simp
  | @cons hs i r x t w hs2 a1 a2 a3 a4 a5 q ih =>
    intro k hk he
    cases k with
    | zero => omega
    | succ k =>
      rw [List.length_cons] at hk
      have m := ih (k := k) (by omega) he
      have hx : x ∈ hs := List.mem_of_getLast? a3
      have hne : x ≠ e := fun z => by
        obtain h | ⟨y, h1, h2⟩ := (Go.cons a1 a2 a3 a4 a5 q : Go rs al hs ((i : Int) :: w) hs2).last
        · cases h
        · rw [h1] at he; cases he; exact h2 (z ▸ hx)
      rw [ways, a3]
      simp only [hne, if_false]
      refine List.mem_flatMap.mpr ⟨(r, i), List.mem_zipIdx_iff_getElem?.mpr a1, ?_⟩
      have : ¬ (i : Int) = r0 := fun z => hr (z ▸ a2)
      simp only [this, if_false]
      refine List.mem_flatMap.mpr ⟨t, ?_, List.mem_map.mpr ⟨w, m, rfl⟩⟩
      unfold newH
      rw [a4]
      simp [a5]
theorem go_of_ways {r0 e : Int} : ∀ {k : Nat} {hs w : List Int}, w ∈ ways rs r0 e k hs → ∃ hs2, Go rs (fun z => z ≠ r0) hs w hs2 ∧ hs2.getLast? = some e
  | 0, hs, w, h => by unfold ways at h; cases h
  | k + 1, hs, w, h => by
    unfold ways at h
    split at h
    · cases h
    · rename_i x hx
      split at h
      · rename_i hxe
        simp at h; subst h; subst hxe
        exact ⟨hs, .nil _, hx⟩
      · obtain ⟨p, hp, h⟩ := List.mem_flatMap.mp h
        split at h
        · cases h
        · rename_i h0
          obtain ⟨t, ht, h⟩ := List.mem_flatMap.mp h
          obtain ⟨w', hw, rfl⟩ := List.mem_map.mp h
          obtain ⟨hs2, q1, q2⟩ := go_of_ways hw
          obtain ⟨n1, n2⟩ := newH_mem ht
          exact ⟨hs2, .cons (zip_mem hp).2 h0 hx n2 n1 q1, q2⟩
end
/-! ### sides, all -/
def pick (n : Nat) (bs : List Bool) : List Int := ((List.range n).filter fun h => bs.getD h false).map fun (h : Nat) => (h : Int)
def b2s : List Bool := [true, false]
def sideOk (n a b : Int) (k : List Int) : Bool := decide (k.Pairwise (· < ·)) && (k.all fun h => decide (0 ≤ h) && decide (h < n)) && decide (a ∈ k) && !decide (b ∈ k) && decide (k.length ≤ 6)
def sdOk (n a b : Nat) : Bool := let S := sidesP (n : Int) (a : Int) (b : Int); (S.all fun k => sideOk n a b k) && decide (S.length ≤ 64) &&
  b2s.all fun p0 => b2s.all fun p1 => b2s.all fun p2 => b2s.all fun p3 => b2s.all fun p4 => b2s.all fun p5 => let k := pick n [p0, p1, p2, p3, p4, p5]; !(decide ((a : Int) ∈ k) && !decide ((b : Int) ∈ k)) || decide (k ∈ S)
theorem sd_all : ((List.range 7).all fun n => (List.range 7).all fun a => (List.range 7).all fun b => !(decide (1 ≤ n) && decide (a < b) && decide (b < n)) || sdOk n a b) = true := by decide +kernel
theorem sd_ok {n a b : Int} (h1 : 1 ≤ n) (h6 : n ≤ 6) (ha : 0 ≤ a) (hab : a < b) (hb : b < n) : (∀ k ∈ sidesP n a b, sideOk n a b k = true) ∧ (sidesP n a b).length ≤ 64 ∧ ∀ bs : List Bool, bs.length = 6 → a ∈ pick n.toNat bs → b ∉ pick n.toNat bs → pick n.toNat bs ∈ sidesP n a b := by
  have h := sd_all
  obtain ⟨n, rfl⟩ := Int.eq_ofNat_of_zero_le (show 0 ≤ n by omega)
  obtain ⟨a, rfl⟩ := Int.eq_ofNat_of_zero_le ha
  obtain ⟨b, rfl⟩ := Int.eq_ofNat_of_zero_le (show 0 ≤ b by omega)
  have h := List.all_eq_true.mp h n (List.mem_range.mpr (by omega))
  have h := List.all_eq_true.mp h a (List.mem_range.mpr (by omega))
  have h := List.all_eq_true.mp h b (List.mem_range.mpr (by omega))
  have q : (decide (1 ≤ n) && decide (a < b) && decide (b < n)) = true := by simp; omega
  rw [q] at h
  simp only [Bool.not_true, Bool.false_or] at h
  unfold sdOk at h
  simp only [Bool.and_eq_true, decide_eq_true_eq] at h
  obtain ⟨⟨h2, h3⟩, h4⟩ := h
  refine ⟨fun k hk => List.all_eq_true.mp h2 k hk, h3, fun bs hl m1 m2 => ?_⟩
  obtain ⟨p0, p1, p2, p3, p4, p5, rfl⟩ : ∃ p0 p1 p2 p3 p4 p5, bs = [p0, p1, p2, p3, p4, p5] := by
    match bs, hl with
    | [p0, p1, p2, p3, p4, p5], _ => exact ⟨p0, p1, p2, p3, p4, p5, rfl⟩
  have mb : ∀ p : Bool, p ∈ b2s := fun p => by cases p <;> simp [b2s]
  have h4 := List.all_eq_true.mp h4 p0 (mb p0)
  have h4 := List.all_eq_true.mp h4 p1 (mb p1)
  have h4 := List.all_eq_true.mp h4 p2 (mb p2)
  have h4 := List.all_eq_true.mp h4 p3 (mb p3)
  have h4 := List.all_eq_true.mp h4 p4 (mb p4)
  have h4 := List.all_eq_true.mp h4 p5 (mb p5)
  rw [Int.toNat_natCast] at m1 m2 ⊢
  simp only [m1, m2, decide_true, decide_false, Bool.not_false, Bool.and_self, Bool.not_true, Bool.false_or, decide_eq_true_eq] at h4
  exact h4
theorem pick_asc (n : Nat) (bs : List Bool) : (pick n bs).Pairwise (· < ·) := by
  unfold pick
  rw [List.pairwise_map]
  exact ((List.pairwise_lt_range (n := n)).filter _).imp fun h => by omega
theorem side_in {n a b : Int} (h1 : 1 ≤ n) (h6 : n ≤ 6) (ha : 0 ≤ a) (hab : a < b) (hb : b < n) {k : List Int} (hk : k.Pairwise (· < ·)) (hr : ∀ h ∈ k, 0 ≤ h ∧ h < n) (ma : a ∈ k) (mb : b ∉ k) : k ∈ sidesP n a b := by
  have mem : ∀ h : Int, h ∈ pick n.toNat ((List.range 6).map fun (i : Nat) => decide ((i : Int) ∈ k)) ↔ h ∈ k := fun h => by
    unfold pick
    rw [List.mem_map]
    constructor
    · rintro ⟨i, hi, rfl⟩
      obtain ⟨h2, h3⟩ := List.mem_filter.mp hi
      rw [List.mem_range] at h2
      have h3 : ((List.range 6).map fun (i : Nat) => decide ((i : Int) ∈ k)).getD i false = true := h3
      rw [List.getD_eq_getElem?_getD, List.getElem?_map, List.getElem?_range (by omega)] at h3
      simpa using h3
    · intro m
      obtain ⟨h2, h3⟩ := hr h m
      refine ⟨h.toNat, List.mem_filter.mpr ⟨List.mem_range.mpr (by omega), ?_⟩, by omega⟩
      show ((List.range 6).map fun (i : Nat) => decide ((i : Int) ∈ k)).getD h.toNat false = true
      rw [List.getD_eq_getElem?_getD, List.getElem?_map, List.getElem?_range (by omega)]
      have : ((h.toNat : Nat) : Int) = h := by omega
      simp [this, m]
  have e : pick n.toNat ((List.range 6).map fun (i : Nat) => decide ((i : Int) ∈ k)) = k := asc_only (pick_asc _ _) hk mem
  have := (sd_ok h1 h6 ha hab hb).2.2 ((List.range 6).map fun (i : Nat) => decide ((i : Int) ∈ k)) (by simp) (by rw [e]; exact ma) (by rw [e]; exact mb)
  rwa [e] at this
theorem side_spec {n a b : Int} (h1 : 1 ≤ n) (h6 : n ≤ 6) (ha : 0 ≤ a) (hab : a < b) (hb : b < n) {k : List Int} (m : k ∈ sidesP n a b) : k.Pairwise (· < ·) ∧ (∀ h ∈ k, 0 ≤ h ∧ h < n) ∧ a ∈ k ∧ b ∉ k ∧ k.length ≤ 6 := by
  have h := (sd_ok h1 h6 ha hab hb).1 k m
  unfold sideOk at h
  simp only [Bool.and_eq_true, decide_eq_true_eq, Bool.not_eq_true', decide_eq_false_iff_not, List.all_eq_true] at h
  exact ⟨h.1.1.1.1, h.1.1.1.2, h.1.1.2, h.1.2, h.2⟩
end K04

set_option Elab.async false
set_option linter.all false
set_option maxRecDepth 100000
set_option maxHeartbeats 1000000
namespace K04
open PySem PySem.Spec L2 Rr
/-! ### equal data -/
theorem dNe_self {d : D} (h : fit d = true) : dNe d d = some (.bl false) := by
  unfold dNe
  have : deq d d = true := PySem.SeqAt.eqv_refl _ (plain_can d (fit_plain h))
  rw [h, this]
  rfl
theorem dEq_self {d : D} (h : fit d = true) : dEq d d = some (.bl true) := by
  unfold dEq
  have : deq d d = true := PySem.SeqAt.eqv_refl _ (plain_can d (fit_plain h))
  rw [h, this]
  rfl
theorem plain_ints : ∀ ks : List Int, plainL (ks.map D.int) = true
  | [] => rfl
  | k :: ks => by rw [List.map_cons]; simp only [plainL, Rr.plain, Bool.true_and]; exact plain_ints ks
theorem depth_ints : ∀ ks : List Int, PyData.depthAll (pyL (ks.map D.int)) = 0
  | [] => by simp [pyL, PyData.depthAll]
  | k :: ks => by rw [List.map_cons]; simp only [pyL, PyData.depthAll, py, PyData.depth, depth_ints ks]; rfl
theorem plain_tD (ks : List Int) : Rr.plain (tD ks) = true := by unfold tD; simp only [Rr.plain]; exact plain_ints ks
theorem depth_tD (ks : List Int) : (py (tD ks)).depth = 1 := by unfold tD; simp only [py, PyData.depth, depth_ints]
theorem fit_tD (ks : List Int) : fit (tD ks) = true := by unfold fit; rw [plain_tD, depth_tD]; rfl
theorem fit_lints (ks : List Int) : fit (.lst (ks.map .int)) = true := by
  unfold fit
  simp only [Rr.plain, plain_ints, py, PyData.depth, depth_ints]
  rfl
theorem fit_non : fit .non = true := by unfold fit; simp [Rr.plain, py, PyData.depth]
theorem fit_two {x y : D} (hx : fit x = true ∧ (py x).depth ≤ 60) (hy : fit y = true ∧ (py y).depth ≤ 60) : fit (.lst [x, y]) = true := by
  unfold fit at hx hy ⊢
  simp only [Bool.and_eq_true, decide_eq_true_eq] at hx hy ⊢
  refine ⟨?_, ?_⟩
  · simp only [Rr.plain, plainL, hx.1.1, hy.1.1, Bool.and_self]
  · simp only [py, pyL, PyData.depth, PyData.depthAll]
    have := hx.2; have := hy.2
    omega
theorem isIn_bls (neg b : Bool) (bs : List Bool) : isIn neg (.bl b) (.lst (bs.map .bl)) = some (.bl (if neg then !decide (b ∈ bs) else decide (b ∈ bs))) := by
  have h1 : (bs.map D.bl).all flat = true := by simp [flat]
  have h2 : inD (.bl b) (bs.map D.bl) = decide (b ∈ bs) := by
    unfold inD inV
    induction bs with
    | nil => simp
    | cons c bs ih =>
      rw [List.map_cons, List.map_cons, List.any_cons, ih (by simp [flat])]
      cases b <;> cases c <;> simp [toV, L2.eqV]
  simp only [isIn, h1, h2]
  simp [flat]
theorem dAll_bls (bs : List Bool) : dAll [.lst (bs.map .bl)] = some (.bl (bs.all id)) := by
  have : bls (bs.map D.bl) = some bs := by
    induction bs with
    | nil => rfl
    | cons b bs ih => show (bls (bs.map D.bl)).map (b :: ·) = _; rw [ih]; rfl
  show (bls (bs.map D.bl)).map _ = _
  rw [this]
  rfl
/-! ### rows by number -/
def rowZ (rs : List Row) (z : Int) : Row := rs.getD z.toNat (0, 0, 0, 0)
def Ix (rs : List Row) (z : Int) : Prop := 0 ≤ z ∧ z < rs.length
theorem Ix.get {rs : List Row} {z : Int} (h : Ix rs z) : rs[z.toNat]? = some (rowZ rs z) := by
  have : z.toNat < rs.length := by have := h.1; have := h.2; omega
  unfold rowZ
  rw [List.getD_eq_getElem?_getD, List.getElem?_eq_getElem this]
  rfl
theorem Ix.at {rs : List Row} {z : Int} (h : Ix rs z) : atI (rs.map rowD) z = some (rowD (rowZ rs z)) := by
  have := getRow h.get
  rwa [show ((z.toNat : Nat) : Int) = z by have := h.1; omega] at this
theorem Ix.of {rs : List Row} {i : Nat} {r : Row} (h : rs[i]? = some r) : Ix rs (i : Int) ∧ rowZ rs (i : Int) = r := by
  have hl := (List.getElem?_eq_some_iff.mp h).1
  refine ⟨⟨by omega, by omega⟩, ?_⟩
  unfold rowZ
  rw [Int.toNat_natCast, List.getD_eq_getElem?_getD, h]
  rfl
theorem Ix.good {n : Int} {rs : List Row} (g : Good n rs) {z : Int} (h : Ix rs z) : GoodR n (rowZ rs z) := g.row _ (List.mem_of_getElem? h.get)
@[simp] theorem row2 (r : Row) : dIx (rowD r) (.int 2) = some (.int r.2.2.1) := rfl
@[simp] theorem row3 (r : Row) : dIx (rowD r) (.int 3) = some (.int r.2.2.2) := rfl
section
variable {S : Type} {s : S}
theorem loopD_cons {b : D → Rho → Option Rho} {mb : Ms S} {d : D} {ds : List D} {ρ ρ1 ρ2 : Rho} {s1 : S} (h1 : b d ρ = some ρ1) (h2 : mb ρ1 s = some (.nx ρ2 s1)) : loopD b mb (d :: ds) ρ s = loopD b mb ds ρ2 s1 := by
  unfold loopD
  rw [h1]
  simp only [h2]
  cases ds <;> rfl
/-! ### the law's search -/
abbrev T5 := Option Sl × Option Sl × Option Sl × Option Sl × Option Sl
def rcS (W : D) (R : List Int) (a : Int) (x : List Int × List Int) (t : T5) : Rho := [some (.val W), some (.val (.lst (R.map .int))), some (.val (.int a)), some (.own (x.1.map .int)), some (.own (x.2.map .int)), t.1, t.2.1, t.2.2.1, t.2.2.2.1, t.2.2.2.2]
def rcI : Ms S := sIf (qAnd (qB (b2 (isIn false) (rN 5) (rTup (rCons (rN 7) (rCons (rN 8) rNil))))) (qB (b2 (isIn true) (rN 9) (rO 3)))) (sq (sApp 3 (rCons (rN 9) rNil)) (sApp 4 (rCons (rN 9) rNil))) mNx
def rcT (on : Bool) (t : Int) (x : List Int × List Int) : List Int × List Int := if on then if t ∈ x.1 then x else (x.1 ++ [t], x.2 ++ [t]) else x
--FI
theorem rcI_ev {W : D} {R : List Int} {a h x y t : Int} {f w : List Int} {t6 : Option Sl} (hf : f.length < sizeLine) (hw : w.length < sizeLine) :
    rcI (rcS W R a (f, w) (some (.val (.int h)), t6, some (.val (.int x)), some (.val (.int y)), some (.val (.int t)))) s = some (.nx (rcS W R a (rcT (decide (h ∈ [x, y])) t (f, w)) (some (.val (.int h)), t6, some (.val (.int x)), some (.val (.int y)), some (.val (.int t)))) s) := by
  have f1 : D.tup [.int x, .int y] = tD [x, y] := rfl
  unfold rcI rcT rcS
  by_cases h1 : h ∈ [x, y]
  · by_cases h2 : t ∈ f
    · simp [gv, go, f1, -List.mem_cons, h1, h2]
    · simp [gv, go, f1, -List.mem_cons, h1, h2, owned, hf, hw]
  · simp only [ap_sIf, ap_qAnd]
    simp [gv, go, f1, -List.mem_cons, h1]
def rcF (h : Int) (r : Row) (x : List Int × List Int) : List Int × List Int := match nxt r h with
  | some t => if t ∈ x.1 then x else (x.1 ++ [t], x.2 ++ [t])
  | none => x
theorem rcF_eq {h : Int} {r : Row} {x : List Int × List Int} (hr : r.1 ≠ r.2.1) (hh : h ∈ x.1) : rcT (decide (h ∈ [r.1, r.2.1])) r.2.1 (rcT (decide (h ∈ [r.1, r.2.1])) r.1 x) = rcF h r x := by
  obtain ⟨f, w⟩ := x
  have hh : h ∈ f := hh
  unfold rcT rcF nxt
  by_cases h1 : r.1 = h
  · subst h1
    simp [hh]
  · have h1' : ¬ h = r.1 := fun z => h1 z.symm
    by_cases h2 : r.2.1 = h
    · subst h2
      by_cases h3 : r.1 ∈ f <;> simp [h1, h3, hh]
    · have h2' : ¬ h = r.2.1 := fun z => h2 z.symm
      simp [h1, h2, h1', h2']
def rcB : Ms S := sq (mAsg (rCut (b2 dIx (b2 dIx (rN 0) (rC (.int 1))) (rN 6)) rNo (rPt (rC (.int 2)))) (bTup (bCons (bName 7) (bCons (bName 8) bNil))))
  (mFor (rSeq (rNv (rLst (rCons (rN 7) (rCons (rN 8) rNil))))) (bName 9) rcI)
theorem rcT_len {on : Bool} {t : Int} {x : List Int × List Int} : (rcT on t x).1.length ≤ x.1.length + 1 ∧ (rcT on t x).2.length ≤ x.2.length + 1 := by
  unfold rcT
  split
  · split
    · omega
    · simp
  · omega
theorem rcB_ev {n : Int} {rs : List Row} {R : List Int} {a h z : Int} {f w : List Int} {t7 t8 t9 : Option Sl} (g : Good n rs) (hz : Ix rs z) (hh : h ∈ f) (hf : f.length ≤ 20) (hw : w.length ≤ 20) :
    ∃ t : T5, t.1 = some (.val (.int h)) ∧ rcB (rcS (webD n rs) R a (f, w) (some (.val (.int h)), some (.val (.int z)), t7, t8, t9)) s = some (.nx (rcS (webD n rs) R a (rcF h (rowZ rs z) (f, w)) t) s) := by
  have gr := hz.good g
  have c1 : 30 < sizeLine := by decide
  generalize hr : rowZ rs z = r at *
  refine ⟨(some (.val (.int h)), some (.val (.int z)), some (.val (.int r.1)), some (.val (.int r.2.1)), some (.val (.int r.2.1))), rfl, ?_⟩
  have e := hz.at
  rw [hr] at e
  have g0 : ∀ t, gv 0 (rcS (webD n rs) R a (f, w) t) = some (webD n rs) := fun _ => rfl
  have s1 : (mAsg (rCut (b2 dIx (b2 dIx (rN 0) (rC (.int 1))) (rN 6)) rNo (rPt (rC (.int 2)))) (bTup (bCons (bName 7) (bCons (bName 8) bNil))) : Ms S) (rcS (webD n rs) R a (f, w) (some (.val (.int h)), some (.val (.int z)), t7, t8, t9)) s = some (.nx (rcS (webD n rs) R a (f, w) (some (.val (.int h)), some (.val (.int z)), some (.val (.int r.1)), some (.val (.int r.2.1)), t9)) s) := by
    simp [rcS, gv, e]
  refine run2 s1 ?_
  have e2 : (rSeq (rNv (rLst (rCons (rN 7) (rCons (rN 8) rNil)))) : Rho → Mo S (List D)) (rcS (webD n rs) R a (f, w) (some (.val (.int h)), some (.val (.int z)), some (.val (.int r.1)), some (.val (.int r.2.1)), t9)) s = some ([.int r.1, .int r.2.1], s) := by
    have g7 : ∀ u, gv 7 (rcS (webD n rs) R a (f, w) (some (.val (.int h)), some (.val (.int z)), some (.val (.int r.1)), some (.val (.int r.2.1)), u)) = some (.int r.1) := fun _ => rfl
    have g8 : ∀ u, gv 8 (rcS (webD n rs) R a (f, w) (some (.val (.int h)), some (.val (.int z)), some (.val (.int r.1)), some (.val (.int r.2.1)), u)) = some (.int r.2.1) := fun _ => rfl
    simp only [ap_rSeq, ap_rNv, ap_rLst, ap_rCons, ap_rN, g7, g8, ap_rNil, Option.map_some, Option.bind_some, sz_2, seqD_lst]
  rw [ap_mFor, e2, Option.bind_some]
  have l1 := rcT_len (on := decide (h ∈ [r.1, r.2.1])) (t := r.1) (x := (f, w))
  simp only at l1
  have i1 := rcI_ev (s := s) (W := webD n rs) (R := R) (a := a) (h := h) (x := r.1) (y := r.2.1) (t := r.1) (f := f) (w := w) (t6 := some (.val (.int z))) (by omega) (by omega)
  have i2 := rcI_ev (s := s) (W := webD n rs) (R := R) (a := a) (h := h) (x := r.1) (y := r.2.1) (t := r.2.1) (f := (rcT (decide (h ∈ [r.1, r.2.1])) r.1 (f, w)).1) (w := (rcT (decide (h ∈ [r.1, r.2.1])) r.1 (f, w)).2) (t6 := some (.val (.int z))) (by omega) (by omega)
  have b1 : ∀ (x : List Int × List Int) (u : Option Sl) (d : D), bName 9 d (rcS (webD n rs) R a x (some (.val (.int h)), some (.val (.int z)), some (.val (.int r.1)), some (.val (.int r.2.1)), u)) = some (rcS (webD n rs) R a x (some (.val (.int h)), some (.val (.int z)), some (.val (.int r.1)), some (.val (.int r.2.1)), some (.val d))) := fun _ _ _ => rfl
  rw [← rcF_eq (x := (f, w)) (by have := gr.ab; omega) hh]
  rw [loopD_cons (b1 _ _ _) i1, loopD_cons (b1 _ _ _) i2]
  rfl
end
end K04

set_option Elab.async false
set_option linter.all false
set_option maxRecDepth 100000
set_option maxHeartbeats 1000000
namespace K04
open PySem PySem.Spec L2 Rr
section
variable {S : Type} {s : S}
theorem flat_filter {α : Type} (p : α → Bool) : ∀ R : List α, (R.flatMap fun z => if p z = true then [z] else []) = R.filter p
  | [] => rfl
  | z :: R => by
    rw [List.flatMap_cons, flat_filter p R, List.filter_cons]
    split <;> rfl
structure RcP (n : Int) (rs : List Row) (R0 : List Int) (h : Int) (f w f2 w2 : List Int) : Prop where
  ex : ∃ new, f2 = f ++ new ∧ w2 = w ++ new ∧ ∀ t ∈ new, t ∉ f ∧ ∃ z ∈ R0, nxt (rowZ rs z) h = some t
  hs : Hs n f2
theorem rcF_P {n : Int} {rs : List Row} (g : Good n rs) {h z : Int} {f w : List Int} (hz : Ix rs z) (hf : Hs n f) : RcP n rs [z] h f w (rcF h (rowZ rs z) (f, w)).1 (rcF h (rowZ rs z) (f, w)).2 ∧ (∀ t, nxt (rowZ rs z) h = some t → t ∈ (rcF h (rowZ rs z) (f, w)).1) := by
  unfold rcF
  cases e : nxt (rowZ rs z) h with
  | none => exact ⟨⟨⟨[], by simp, by simp, fun t ht => (nomatch ht)⟩, hf⟩, fun t ht => (nomatch ht)⟩
  | some t =>
    simp only
    split
    · rename_i m
      exact ⟨⟨⟨[], by simp, by simp, fun t ht => (nomatch ht)⟩, hf⟩, fun u hu => by cases hu; exact m⟩
    · rename_i m
      refine ⟨⟨⟨[t], rfl, rfl, fun u hu => ?_⟩, hf.snoc m (nxt_rg (hz.good g) e)⟩, fun u hu => by cases hu; simp⟩
      simp at hu; subst hu
      exact ⟨m, z, by simp, e⟩
theorem rc_loop {n : Int} {rs : List Row} {R : List Int} {a h : Int} (g : Good n rs) : ∀ {R0 : List Int} {f w : List Int} {t : T5}, t.1 = some (.val (.int h)) → (∀ z ∈ R0, Ix rs z) → h ∈ f → Hs n f → w.length + 6 ≤ f.length + 12 →
    ∃ (f2 w2 : List Int) (t2 : T5), loopD (bName 6) (rcB (S := S)) (R0.map .int) (rcS (webD n rs) R a (f, w) t) s = some (.nx (rcS (webD n rs) R a (f2, w2) t2) s) ∧ RcP n rs R0 h f w f2 w2 ∧ (∀ z ∈ R0, ∀ u, nxt (rowZ rs z) h = some u → u ∈ f2)
  | [], f, w, t, _, _, _, hf, _ => ⟨f, w, t, rfl, ⟨⟨[], by simp, by simp, fun t ht => (nomatch ht)⟩, hf⟩, fun z hz => (nomatch hz)⟩
  | z :: R0, f, w, t, ht, hR, hh, hf, hw => by
    obtain ⟨t5, t6, t7, t8, t9⟩ := t
    simp only at ht
    subst ht
    have hz := hR z List.mem_cons_self
    have fl := hf.len g.n6
    obtain ⟨t1, ht1, e1⟩ := rcB_ev (s := s) (R := R) (a := a) (h := h) (f := f) (w := w) (t7 := t7) (t8 := t8) (t9 := t9) g hz hh (by omega) (by omega)
    obtain ⟨P1, C1⟩ := rcF_P (w := w) g (h := h) hz hf
    generalize hx : rcF h (rowZ rs z) (f, w) = x at *
    obtain ⟨f1, w1⟩ := x
    obtain ⟨new, rfl, rfl, hn⟩ := P1.ex
    obtain ⟨f2, w2, t2, e2, P2, C2⟩ := rc_loop (R := R) (a := a) g (R0 := R0) (f := f ++ new) (w := w ++ new) (t := t1) ht1 (fun y hy => hR y (List.mem_cons_of_mem _ hy)) (List.mem_append_left _ hh) P1.hs (by simp only [List.length_append]; omega)
    obtain ⟨new2, rfl, rfl, hn2⟩ := P2.ex
    refine ⟨f ++ new ++ new2, w ++ new ++ new2, t2, ?_, ⟨⟨new ++ new2, by simp, by simp, fun u hu => ?_⟩, P2.hs⟩, fun y hy u hu => ?_⟩
    · rw [List.map_cons, loopD_cons (ρ1 := rcS (webD n rs) R a (f, w) (some (.val (.int h)), some (.val (.int z)), t7, t8, t9)) rfl e1]
      exact e2
    · rcases List.mem_append.mp hu with hu | hu
      · obtain ⟨q1, y, hy, q2⟩ := hn u hu
        simp at hy; subst hy
        exact ⟨q1, _, List.mem_cons_self, q2⟩
      · obtain ⟨q1, y, hy, q2⟩ := hn2 u hu
        exact ⟨fun m => q1 (List.mem_append_left _ m), y, List.mem_cons_of_mem _ hy, q2⟩
    · rcases List.mem_cons.mp hy with rfl | hy
      · exact List.mem_append_left _ (C1 u hu)
      · exact C2 y hy u hu
structure RcI (n : Int) (rs : List Row) (R : List Int) (a : Int) (f w : List Int) : Prop where
  hs : Hs n f
  st : a ∈ f
  sub : ∀ h ∈ w, h ∈ f
  snd : ∀ h ∈ f, ∃ wy hs2, Go rs (· ∈ R) [a] wy hs2 ∧ hs2.getLast? = some h ∧ ∀ x ∈ hs2, x ∈ f
  cl : ∀ h ∈ f, h ∉ w → ∀ z ∈ R, ∀ t, nxt (rowZ rs z) h = some t → t ∈ f
theorem RcI.step {n : Int} {rs : List Row} {R : List Int} {a h : Int} {f w f2 w2 : List Int} (hR : ∀ z ∈ R, Ix rs z) (I : RcI n rs R a f (w ++ [h])) (P : RcP n rs R h f w f2 w2) (C : ∀ z ∈ R, ∀ u, nxt (rowZ rs z) h = some u → u ∈ f2) : RcI n rs R a f2 w2 := by
  obtain ⟨new, rfl, rfl, hn⟩ := P.ex
  refine ⟨P.hs, List.mem_append_left _ I.st, fun x hx => ?_, fun x hx => ?_, fun x hx hnx z hz t ht => ?_⟩
  · rcases List.mem_append.mp hx with hx | hx
    · exact List.mem_append_left _ (I.sub x (List.mem_append_left _ hx))
    · exact List.mem_append_right _ hx
  · rcases List.mem_append.mp hx with hx | hx
    · obtain ⟨wy, hs2, q1, q2, q3⟩ := I.snd x hx
      exact ⟨wy, hs2, q1, q2, fun y hy => List.mem_append_left _ (q3 y hy)⟩
    · obtain ⟨nf, z, hz, q⟩ := hn x hx
      obtain ⟨wy, hs2, q1, q2, q3⟩ := I.snd h (I.sub h (by simp))
      have i := hR z hz
      have ez : ((z.toNat : Nat) : Int) = z := by have := i.1; omega
      refine ⟨wy ++ [z], hs2 ++ [x], ?_, by simp, fun y hy => ?_⟩
      · have := q1.snoc i.get (by rw [ez]; exact hz) q2 q (fun m => nf (q3 x m))
        rwa [ez] at this
      · rcases List.mem_append.mp hy with hy | hy
        · exact List.mem_append_left _ (q3 y hy)
        · simp at hy; subst hy; exact List.mem_append_right _ hx
  · have nx : x ∉ new := fun m => hnx (List.mem_append_right _ m)
    have nw : x ∉ w := fun m => hnx (List.mem_append_left _ m)
    have xf : x ∈ f := by
      rcases List.mem_append.mp hx with m | m
      · exact m
      · exact absurd m nx
    by_cases e : x = h
    · subst e
      exact C z hz t ht
    · refine List.mem_append_left _ (I.cl x xf (fun m => ?_) z hz t ht)
      rcases List.mem_append.mp m with m | m
      · exact nw m
      · simp at m; exact e m
def rcQ : Rho → Mo S Bool := qB (b2 dNe (rO 4) (rNv (rLst rNil)))
def rcW : Ms S := sq (mPop 4 (bName 5)) (mFor (rSeq (rN 1)) (bName 6) rcB)
theorem ne_nil (ks : List Int) : dNe (.lst (ks.map .int)) (.lst []) = some (.bl (!ks.isEmpty)) := by
  have h0 : fit (.lst []) = true := fit_lints []
  unfold dNe
  rw [fit_lints, h0]
  simp only [Bool.and_self, if_true, deq]
  cases ks with
  | nil => simp [py, pyL, PyData.eqv, PyData.eqvAll]
  | cons w ws => simp [py, pyL, PyData.eqv, PyData.eqvAll]
theorem rcQ_ev {W : D} {R : List Int} {a : Int} {f w : List Int} {t : T5} : rcQ (rcS W R a (f, w) t) s = some (!w.isEmpty, s) := by
  unfold rcQ rcS
  simp [go, ne_nil]
theorem wh_reach {n : Int} {rs : List Row} {R : List Int} {a : Int} (g : Good n rs) (hR : ∀ z ∈ R, Ix rs z) : ∀ (fuel : Nat) {f w : List Int} {t : T5}, w.length + 6 < fuel + f.length → w.length + 6 ≤ f.length + 6 → RcI n rs R a f w →
    ∃ f2 t2, loopW rcQ (rcW (S := S)) fuel (rcS (webD n rs) R a (f, w) t) s = some (.nx (rcS (webD n rs) R a (f2, []) t2) s) ∧ RcI n rs R a f2 []
  | 0, f, w, t, h, h2, I => by have := I.hs.len g.n6; omega
  | fuel + 1, f, w, t, h, h2, I => by
    unfold loopW
    rw [rcQ_ev]
    rcases List.eq_nil_or_concat w with rfl | ⟨w0, x, rfl⟩
    · exact ⟨f, t, rfl, I⟩
    · rw [List.concat_eq_append] at *
      have ne : (!(w0 ++ [x]).isEmpty) = true := by simp
      rw [ne]
      obtain ⟨t5, t6, t7, t8, t9⟩ := t
      have xf : x ∈ f := I.sub x (by simp)
      have fl := I.hs.len g.n6
      rw [List.length_append, List.length_singleton] at h h2
      obtain ⟨f2, w2, t2, e2, P2, C2⟩ := rc_loop (s := s) (R := R) (a := a) (h := x) g (R0 := R) (f := f) (w := w0) (t := (some (.val (.int x)), t6, t7, t8, t9)) rfl hR xf I.hs (by omega)
      have I2 := I.step hR P2 C2
      have e : rcW (rcS (webD n rs) R a (f, w0 ++ [x]) (t5, t6, t7, t8, t9)) s = some (.nx (rcS (webD n rs) R a (f2, w2) t2) s) := by
        unfold rcW
        have s1 : (mPop 4 (bName 5) : Ms S) (rcS (webD n rs) R a (f, w0 ++ [x]) (t5, t6, t7, t8, t9)) s = some (.nx (rcS (webD n rs) R a (f, w0) (some (.val (.int x)), t6, t7, t8, t9)) s) := by
          have e1 : ((w0 ++ [x]).map D.int).getLast? = some (.int x) := by rw [List.map_append]; simp
          have e2 : ((w0 ++ [x]).map D.int).dropLast = w0.map .int := by rw [List.map_append]; simp
          unfold mPop rcS
          simp only [owned, List.getElem?_cons_succ, List.getElem?_cons_zero, e1, e2]
          rfl
        refine run2 s1 ?_
        have e3 : (rSeq (rN 1) : Rho → Mo S (List D)) (rcS (webD n rs) R a (f, w0) (some (.val (.int x)), t6, t7, t8, t9)) s = some (R.map .int, s) := rfl
        rw [ap_mFor, e3, Option.bind_some]
        exact e2
      simp only [e]
      obtain ⟨new, q1, q2, _⟩ := P2.ex
      refine wh_reach g hR fuel ?_ ?_ I2
      · rw [q1, q2]; simp only [List.length_append]; omega
      · rw [q1, q2]; simp only [List.length_append]; omega
/-- what the law's search finds -/
structure Rch (n : Int) (rs : List Row) (R : List Int) (a : Int) (f : List Int) : Prop where
  hs : Hs n f
  st : a ∈ f
  snd : ∀ h ∈ f, ∃ wy hs2, Go rs (· ∈ R) [a] wy hs2 ∧ hs2.getLast? = some h
  cl : ∀ h ∈ f, ∀ z ∈ R, ∀ t, nxt (rowZ rs z) h = some t → t ∈ f
end
end K04

set_option Elab.async false
set_option linter.all false
set_option maxRecDepth 100000
set_option maxHeartbeats 1000000
namespace K04
open PySem PySem.Spec L2 Rr Gr
/-! ### parts, joined houses -/
def edr (rs : List Row) (z : Int) : Ed := ((rowZ rs z).1, (rowZ rs z).2.1)
theorem edr_in {n : Int} {rs : List Row} (g : Good n rs) {z : Int} (h : Ix rs z) : Gr.In n.toNat (edr rs z) := by
  have gr := h.good g
  have := gr.a0
  have := gr.ab
  have := gr.bn
  unfold Gr.In edr
  refine ⟨?_, ?_, ?_, ?_⟩ <;> simp only <;> omega
def mrg (ps : List Int) (a b : Int) : List Int := ps.map fun p => if p = ps.getD b.toNat 0 then ps.getD a.toNat 0 else p
structure Lab (n : Nat) (ps : List Int) (E : List Ed) : Prop where
  len : ps.length = n
  eq : ∀ x y : Nat, x < n → y < n → (ps.getD x 0 = ps.getD y 0 ↔ Conn E (x : Int) (y : Int))
theorem mrg_get {ps : List Int} {a b : Int} {x : Nat} (hx : x < ps.length) : (mrg ps a b).getD x 0 = if ps.getD x 0 = ps.getD b.toNat 0 then ps.getD a.toNat 0 else ps.getD x 0 := by
  unfold mrg
  have e : ps.getD x 0 = ps[x] := by rw [List.getD_eq_getElem?_getD, List.getElem?_eq_getElem hx]; rfl
  rw [e, List.getD_eq_getElem?_getD, List.getElem?_map, List.getElem?_eq_getElem hx]
  rfl
theorem Lab.step {n : Nat} {ps : List Int} {E : List Ed} {a b : Int} (L : Lab n ps E) (ha : 0 ≤ a ∧ a < n) (hb : 0 ≤ b ∧ b < n) : Lab n (mrg ps a b) ((a, b) :: E) := by
  refine ⟨by unfold mrg; rw [List.length_map]; exact L.len, fun x y hx hy => ?_⟩
  rw [mrg_get (by rw [L.len]; exact hx), mrg_get (by rw [L.len]; exact hy), conn_cons]
  have ea : ((a.toNat : Nat) : Int) = a := by omega
  have eb : ((b.toNat : Nat) : Int) = b := by omega
  have ta : a.toNat < n := by omega
  have tb : b.toNat < n := by omega
  have xb := L.eq x b.toNat hx tb
  have yb := L.eq y b.toNat hy tb
  have xa := L.eq x a.toNat hx ta
  have ya := L.eq y a.toNat hy ta
  have xy := L.eq x y hx hy
  have ay := L.eq a.toNat y ta hy
  rw [eb] at xb yb
  rw [ea] at xa ya ay
  by_cases h1 : ps.getD x 0 = ps.getD b.toNat 0
  · by_cases h2 : ps.getD y 0 = ps.getD b.toNat 0
    · rw [if_pos h1, if_pos h2]
      exact ⟨fun _ => .inl (xy.mp (h1.trans h2.symm)), fun _ => rfl⟩
    · rw [if_pos h1, if_neg h2]
      constructor
      · exact fun e => .inr (.inr ⟨xb.mp h1, ay.mp e⟩)
      · rintro (c | ⟨_, c⟩ | ⟨_, c⟩)
        · exact absurd (yb.mpr (c.symm.trans (xb.mp h1))) h2
        · exact absurd (yb.mpr c.symm) h2
        · exact ay.mpr c
  · by_cases h2 : ps.getD y 0 = ps.getD b.toNat 0
    · rw [if_neg h1, if_pos h2]
      constructor
      · exact fun e => .inr (.inl ⟨xa.mp e, (yb.mp h2).symm⟩)
      · rintro (c | ⟨c, _⟩ | ⟨c, _⟩)
        · exact absurd (xb.mpr (c.trans (yb.mp h2))) h1
        · exact xa.mpr c
        · exact absurd (xb.mpr c) h1
    · rw [if_neg h1, if_neg h2]
      constructor
      · exact fun e => .inl (xy.mp e)
      · rintro (c | ⟨_, c⟩ | ⟨c, _⟩)
        · exact xy.mpr c
        · exact absurd (yb.mpr c.symm) h2
        · exact absurd (xb.mpr c) h1
def lab0 (n : Nat) : List Int := (List.range n).map fun i : Nat => (0 : Int) + (i : Int)
theorem Lab.zero (n : Nat) : Lab n (lab0 n) [] := by
  refine ⟨by unfold lab0; simp, fun x y hx hy => ?_⟩
  have get : ∀ x, x < n → (lab0 n).getD x 0 = (x : Int) := fun x hx => by
    unfold lab0
    rw [List.getD_eq_getElem?_getD, List.getElem?_map, List.getElem?_range hx]
    simp
  rw [get x hx, get y hy]
  constructor
  · intro e; rw [e]; exact .refl _
  · exact conn_nil
noncomputable def joinB (n : Nat) (E : List Ed) : Bool := @decide (Joined n E) (Classical.propDecidable _)
theorem joinB_iff {n : Nat} {E : List Ed} : joinB n E = true ↔ Joined n E := by
  unfold joinB
  exact @decide_eq_true_iff _ (Classical.propDecidable _)
theorem Lab.joined {n : Nat} {ps : List Int} {E : List Ed} (L : Lab n ps E) (hn : 1 ≤ n) : (ps.all fun p => decide (p = ps.getD 0 0)) = joinB n E := by
  rw [Bool.eq_iff_iff, joinB_iff, List.all_eq_true]
  constructor
  · intro h x hx
    have hx' : x < ps.length := by rw [L.len]; exact hx
    have m := h _ (List.getElem_mem hx')
    refine (L.eq 0 x (by omega) hx).mp ?_
    rw [← of_decide_eq_true m, List.getD_eq_getElem?_getD, List.getElem?_eq_getElem hx']
    rfl
  · intro h p hp
    obtain ⟨x, hx, rfl⟩ := List.getElem_of_mem hp
    have e := (L.eq x 0 (by rw [← L.len]; exact hx) (by omega)).mpr (h x (by rw [← L.len]; exact hx)).symm
    rw [List.getD_eq_getElem?_getD, List.getElem?_eq_getElem hx] at e
    exact decide_eq_true e
def edg (r : Row) : Ed := (r.1, r.2.1)
section
variable {S : Type} {s : S}
theorem merged_ev {ps : List Int} {a b : Int} (ha : 0 ≤ a ∧ a < ps.length) (hb : 0 ≤ b ∧ b < ps.length) (hl : ps.length ≤ 1000) : F_merged [.lst (ps.map .int), .int a, .int b] s = some ((mrg ps a b).map .int, s) := by
  have ia := atI_get (ns := ps) rfl ha
  have ib := atI_get (ns := ps) rfl hb
  have hz : ps.length ≤ sizeLine := le_size (by omega)
  unfold F_merged m_merged
  simp (config := { contextual := true }) only [EVB, EVK, EV2, EV3, List.replicate_succ, List.replicate_zero, List.length_cons, List.length_nil, List.length_map, Nat.reduceAdd, Nat.reduceEqDiff, Nat.reduceLT, decide_true, decide_false, Bool.not_true, Bool.not_false, Bool.and_self, Bool.false_and, Bool.true_and, Bool.false_eq_true, if_true, if_false, reduceCtorEq, ia, ib, hz]
  unfold mrg
  simp only [List.map_map, Function.comp_def, Bool.cond_eq_ite, decide_eq_true_eq]
end
end K04

set_option Elab.async false
set_option linter.all false
set_option maxRecDepth 100000
set_option maxHeartbeats 1000000
namespace K04
open PySem PySem.Spec L2 Rr Gr
section
variable {S : Type} {s : S}
theorem loop_mapE {α β : Type} {bnd : D → Rho → Option Rho} {mm : Ms S} {g : α → D} {xs : List α} (ρf : β → Rho) (step : β → α → β) (P : β → Prop) (b : β) (p : P b) (h : ∀ x ∈ xs, ∀ b, P b → ∃ ρ1, bnd (g x) (ρf b) = some ρ1 ∧ mm ρ1 s = some (.nx (ρf (step b x)) s) ∧ P (step b x)) :
    loopD bnd mm (xs.map g) (ρf b) s = some (.nx (ρf (xs.foldl step b)) s) := (loop_map p h).1
theorem ap_rRg1 {m : Rho → Mo S D} {ρ : Rho} : rRg1 m ρ s = (m ρ s).bind fun p => (dRg1 p.1).map fun d => (d, p.2) := by unfold rRg1; simp
theorem dRg1_lab {n : Int} (h0 : 0 ≤ n) (h1 : n ≤ 1000) : dRg1 (.int n) = some ((lab0 n.toNat).map .int) := by
  show (if 0 ≤ n && decide (n ≤ 1000) then some (rngD 0 n.toNat) else none) = _
  rw [if_pos (by simp [h0, h1]), rngD_map]
  rfl
theorem dAll_map {α : Type} (f : α → Bool) (xs : List α) : dAll [.lst (xs.map fun x => .bl (f x))] = some (.bl (xs.all f)) := by
  have := dAll_bls (xs.map f)
  rw [List.map_map] at this
  rw [show (xs.map fun x => D.bl (f x)) = xs.map (D.bl ∘ f) from rfl, this, List.all_map]
  rfl
theorem lab_fold {n : Nat} : ∀ {es : List Row} {ps : List Int} {E : List Ed}, Lab n ps E → (∀ r ∈ es, Gr.In n (edg r)) → ∃ E', Lab n (es.foldl (fun ps r => mrg ps r.1 r.2.1) ps) E' ∧ ∀ e, e ∈ E' ↔ e ∈ E ∨ e ∈ es.map edg
  | [], ps, E, L, _ => ⟨E, L, by simp⟩
  | r :: es, ps, E, L, h => by
    obtain ⟨h1, h2, h3, h4⟩ := h r List.mem_cons_self
    obtain ⟨E', L', m⟩ := lab_fold (es := es) (L.step (a := r.1) (b := r.2.1) ⟨h1, h2⟩ ⟨h3, h4⟩) fun x hx => h x (List.mem_cons_of_mem _ hx)
    refine ⟨E', L', fun e => ?_⟩
    rw [m e, List.map_cons, List.mem_cons, List.mem_cons]
    show (e = edg r ∨ e ∈ E) ∨ _ ↔ _
    constructor
    · rintro ((q | q) | q)
      · exact .inr (.inl q)
      · exact .inl q
      · exact .inr (.inr q)
    · rintro (q | q | q)
      · exact .inl (.inr q)
      · exact .inl (.inl q)
      · exact .inr q
theorem joinB_mem {n : Nat} {E E' : List Ed} (h : ∀ e, e ∈ E ↔ e ∈ E') : joinB n E = joinB n E' := by
  rw [Bool.eq_iff_iff, joinB_iff, joinB_iff]
  exact ⟨fun q x hx => (conn_iff h).mp (q x hx), fun q x hx => (conn_iff h).mpr (q x hx)⟩
theorem fold_len {es : List Row} : ∀ {b : List Int × Option Sl}, (es.foldl (fun (b : List Int × Option Sl) r => (mrg b.1 r.1 r.2.1, some (Sl.val (rowD r)))) b).1 = es.foldl (fun ps r => mrg ps r.1 r.2.1) b.1 := by
  induction es with
  | nil => intro b; rfl
  | cons r es ih => intro b; rw [List.foldl_cons, List.foldl_cons, ih]
theorem joined_ev {n : Int} {es : List Row} (hn : 1 ≤ n) (h6 : n ≤ 6) (he : ∀ r ∈ es, Gr.In n.toNat (edg r)) : F_is_joined [.int n, .lst (es.map rowD)] s = some (.bl (joinB n.toNat (es.map edg)), s) := by
  have l0 : (lab0 n.toNat).length = n.toNat := by unfold lab0; simp
  obtain ⟨E', L, m⟩ := lab_fold (Lab.zero n.toNat) he
  unfold F_is_joined m_is_joined
  simp (config := { contextual := true }) only [EVB, EVK, EV2, EV3, List.replicate_succ, List.replicate_zero, List.length_cons, List.length_nil, List.length_map, Nat.reduceAdd, Nat.reduceEqDiff, Nat.reduceLT, decide_true, decide_false, Bool.not_true, Bool.not_false, Bool.and_self, Bool.false_and, Bool.true_and, Bool.false_eq_true, if_true, if_false, reduceCtorEq, ap_rRg1, dRg1_lab (n := n) (by omega) (by omega)]
  rw [loop_mapE (fun b : List Int × Option Sl => [some (.val (.int n)), some (.val (.lst (es.map rowD))), some (.val (.lst (b.1.map .int))), b.2, none]) (fun b r => (mrg b.1 r.1 r.2.1, some (.val (rowD r)))) (fun b => b.1.length = n.toNat) (lab0 n.toNat, none) l0 ?_]
  · have fl := fold_len (es := es) (b := (lab0 n.toNat, none))
    generalize es.foldl (fun (b : List Int × Option Sl) r => (mrg b.1 r.1 r.2.1, some (Sl.val (rowD r)))) (lab0 n.toNat, none) = b at fl
    simp only at fl
    rw [← fl] at L
    have hl := L.len
    have hz : b.1.length ≤ sizeLine := le_size (by omega)
    have i0 := atI_get (ns := b.1) (x := 0) rfl ⟨by omega, by omega⟩
    simp (config := { contextual := true }) only [EVB, EVK, EV2, EV3, List.replicate_succ, List.replicate_zero, List.length_cons, List.length_nil, List.length_map, Nat.reduceAdd, Nat.reduceEqDiff, Nat.reduceLT, decide_true, decide_false, Bool.not_true, Bool.not_false, Bool.and_self, Bool.false_and, Bool.true_and, Bool.false_eq_true, if_true, if_false, reduceCtorEq, hz, i0, dAll_map]
    rw [show (fun x : Int => decide (x = b.1.getD (0 : Int).toNat 0)) = fun p => decide (p = b.1.getD 0 0) from rfl, L.joined (by omega), joinB_mem (E' := es.map edg) fun e => by rw [m e]; simp]
  · intro r hr b hb
    obtain ⟨h1, h2, h3, h4⟩ := he r hr
    have h1 : 0 ≤ r.1 := h1
    have h2 : r.1 < n.toNat := h2
    have h3 : 0 ≤ r.2.1 := h3
    have h4 : r.2.1 < n.toNat := h4
    have me := merged_ev (s := s) (ps := b.1) (a := r.1) (b := r.2.1) ⟨h1, by omega⟩ ⟨h3, by omega⟩ (by omega)
    refine ⟨_, rfl, ?_, by unfold mrg; rw [List.length_map]; exact hb⟩
    show _ = _
    simp (config := { contextual := true }) only [EVB, EVK, EV2, EV3, List.replicate_succ, List.replicate_zero, List.length_cons, List.length_nil, List.length_map, Nat.reduceAdd, Nat.reduceEqDiff, Nat.reduceLT, decide_true, decide_false, Bool.not_true, Bool.not_false, Bool.and_self, Bool.false_and, Bool.true_and, Bool.false_eq_true, if_true, if_false, reduceCtorEq, row0, row1, me]
theorem dLen_tD (R : List Int) : dLen [tD R] = some (.int R.length) := by unfold tD; rw [dLen_tup, List.length_map]
theorem joins_ev {n : Int} {rs : List Row} {R : List Int} {W2 : D} (g : Good n rs) (hW : seqD W2 = some (R.map .int)) (hR : ∀ z ∈ R, Ix rs z) (hl : R.length ≤ 1000) : F_joins [webD n rs, W2] s = some (.bl (joinB n.toNat (eds (edr rs) R)), s) := by
  have hz : R.length ≤ sizeLine := le_size (by omega)
  have at_ : ∀ z ∈ R, atI (rs.map rowD) z = some (rowD (rowZ rs z)) := fun z h => (hR z h).at
  have je := joined_ev (s := s) (n := n) (es := R.map (rowZ rs)) g.n1 g.n6 (fun r hr => by
    obtain ⟨z, hz, rfl⟩ := List.mem_map.mp hr
    exact edr_in g (hR z hz))
  rw [List.map_map, List.map_map] at je
  have je : F_is_joined [.int n, .lst (R.map fun x => rowD (rowZ rs x))] s = some (.bl (joinB n.toNat (eds (edr rs) R)), s) := je
  unfold F_joins m_joins
  simp (config := { contextual := true }) only [EVB, EVK, EV2, EV3, List.replicate_succ, List.replicate_zero, List.length_cons, List.length_nil, List.length_map, Nat.reduceAdd, Nat.reduceEqDiff, Nat.reduceLT, decide_true, decide_false, Bool.not_true, Bool.not_false, Bool.and_self, Bool.false_and, Bool.true_and, Bool.false_eq_true, if_true, if_false, reduceCtorEq, hW, web0, web1, at_, hz, je]
end
end K04

set_option Elab.async false
set_option linter.all false
set_option maxRecDepth 100000
set_option maxHeartbeats 1000000
namespace K04
open PySem PySem.Spec L2 Rr Gr
/-! ### houses that are joined, the law's way -/
noncomputable def conB (rs : List Row) (R : List Int) (i : Int) : Bool := @decide (Conn (eds (edr rs) R) (edr rs i).1 (edr rs i).2) (Classical.propDecidable _)
theorem conB_iff {rs : List Row} {R : List Int} {i : Int} : conB rs R i = true ↔ Conn (eds (edr rs) R) (edr rs i).1 (edr rs i).2 := by
  unfold conB
  exact @decide_eq_true_iff _ (Classical.propDecidable _)
theorem conB_same {rs : List Row} {A B : List Int} (h : ∀ r, r ∈ A ↔ r ∈ B) (i : Int) : conB rs A i = conB rs B i := by
  rw [Bool.eq_iff_iff, conB_iff, conB_iff]
  exact conn_same h
theorem nxt_adj {rs : List Row} {R : List Int} {z x t : Int} (hz : z ∈ R) (h : nxt (rowZ rs z) x = some t) : Adj (eds (edr rs) R) x t := by
  unfold nxt at h
  have m : edr rs z ∈ eds (edr rs) R := List.mem_map.mpr ⟨z, hz, rfl⟩
  unfold edr at m
  split at h
  · rename_i e
    cases h
    exact .inl (e ▸ m)
  · split at h
    · rename_i e
      cases h
      exact .inr (e ▸ m)
    · cases h
theorem adj_nxt {rs : List Row} {R : List Int} {x t : Int} (h : Adj (eds (edr rs) R) x t) : x = t ∨ ∃ z ∈ R, nxt (rowZ rs z) x = some t := by
  rcases h with h | h
  · obtain ⟨z, hz, e⟩ := List.mem_map.mp h
    unfold edr at e
    simp only [Prod.mk.injEq] at e
    refine .inr ⟨z, hz, ?_⟩
    unfold nxt
    rw [if_pos e.1, e.2]
  · obtain ⟨z, hz, e⟩ := List.mem_map.mp h
    unfold edr at e
    simp only [Prod.mk.injEq] at e
    by_cases q : x = t
    · exact .inl q
    · refine .inr ⟨z, hz, ?_⟩
      unfold nxt
      rw [if_neg (by rw [e.1]; exact fun z => q z.symm), if_pos e.2, e.1]
theorem rch_conn {n : Int} {rs : List Row} {R : List Int} {a : Int} {f : List Int} (P : Rch n rs R a f) (x : Int) : x ∈ f ↔ Conn (eds (edr rs) R) a x := by
  constructor
  · intro hx
    obtain ⟨wy, hs2, q1, q2⟩ := P.snd x hx
    have key : ∀ {hs0 w hs3 : List Int}, Go rs (· ∈ R) hs0 w hs3 → (∀ y, hs0.getLast? = some y → Conn (eds (edr rs) R) a y) → ∀ y, hs3.getLast? = some y → Conn (eds (edr rs) R) a y := fun {hs0 w hs3} g => by
      induction g with
      | nil hs => exact fun h0 y hy => h0 y hy
      | @cons hs i r x' t w hs2 a1 a2 a3 a4 a5 q ih =>
        intro h0 y hy
        refine ih (fun y2 hy2 => ?_) y hy
        rw [List.getLast?_concat] at hy2
        cases hy2
        obtain ⟨hz, hr⟩ := Ix.of a1
        exact (h0 x' a3).step (nxt_adj a2 (by rw [hr]; exact a4))
    exact key q1 (fun y hy => by simp at hy; rw [← hy]; exact .refl _) x q2
  · intro c
    refine conn_in (P := (· ∈ f)) (fun u v hu ha => ?_) c P.st
    rcases adj_nxt ha with rfl | ⟨z, hz, e⟩
    · exact hu
    · exact P.cl u hu z hz v e
section
variable {S : Type} {s : S}
/-! ### values that are ascending tuples of roads -/
theorem isi_int (z : Int) : dIsi ["int"] (.int z) = some (.bl true) := rfl
theorem isi_bool (z : Int) : dIsi ["bool"] (.int z) = some (.bl false) := rfl
theorem isi_tup (ds : List D) : dIsi ["tuple"] (.tup ds) = some (.bl true) := rfl
theorem isi_tD (R : List Int) : dIsi ["tuple"] (tD R) = some (.bl true) := rfl
theorem zip_pairs : ∀ (R Q : List Int), zipD (R.map .int) (Q.map .int) = (R.zip Q).map fun p => .tup [.int p.1, .int p.2]
  | [], _ => rfl
  | _ :: _, [] => rfl
  | x :: R, y :: Q => by
    rw [List.map_cons, List.map_cons, List.zip_cons_cons, List.map_cons, ← zip_pairs R Q]
    rfl
theorem cut1 (R : List Int) : dCut (tD R) (some 1) none = some (tD R.tail) := by
  show some (D.tup (Rr.cutD (R.map .int) (some 1) none)) = _
  congr 1
  unfold tD
  congr 1
  cases R with
  | nil => rfl
  | cons x R =>
    unfold Rr.cutD
    have e1 : HT.sIx ((x :: R).map D.int).length 0 (some 1) = 1 := by
      unfold HT.sIx
      simp
    have e2 : HT.sIx ((x :: R).map D.int).length ((x :: R).map D.int).length none = ((x :: R).map D.int).length := rfl
    rw [e1, e2, List.map_cons, List.drop_one, List.tail_cons, List.tail_cons, List.take_of_length_le (by simp)]
theorem asc_zip {R : List Int} (h : R.Pairwise (· < ·)) : ((R.zip R.tail).all fun p => decide (p.1 < p.2)) = true := by
  induction R with
  | nil => rfl
  | cons x R ih =>
    obtain ⟨h1, h2⟩ := List.pairwise_cons.mp h
    cases R with
    | nil => rfl
    | cons y R =>
      rw [List.tail_cons, List.zip_cons_cons, List.all_cons, Bool.and_eq_true]
      exact ⟨decide_eq_true (h1 y List.mem_cons_self), ih h2⟩
theorem zip_len (R : List Int) : (R.zip R.tail).length ≤ R.length := by rw [List.length_zip]; omega
theorem ap_ch2 {g g' : D → D → Option D} {ma mb mc : Rho → Mo S D} {ρ : Rho} : ch2 g g' ma mb mc ρ s = (ma ρ s).bind fun x => (mb ρ x.2).bind fun y => (g x.1 y.1).bind fun r => (asB r y.2).bind fun t => cond t.1 ((mc ρ t.2).bind fun z => (g' y.1 z.1).bind fun r' => asB r' z.2) (some (false, t.2)) := by
  unfold ch2
  simp only [ap_bd, ap_up]
  cases ma ρ s with
  | none => rfl
  | some x =>
    simp only [Option.bind_some]
    cases mb ρ x.2 with
    | none => rfl
    | some y =>
      simp only [Option.bind_some]
      cases g x.1 y.1 with
      | none => rfl
      | some r =>
        simp only [Option.bind_some, Option.map_some]
        cases asB r y.2 with
        | none => rfl
        | some t =>
          obtain ⟨b, s2⟩ := t
          cases b
          · rfl
          · simp only [Option.bind_some, cond_true]
            simp only [ap_bd, ap_up]
            cases mc ρ s2 with
            | none => rfl
            | some z =>
              simp only [Option.bind_some]
              cases g' y.1 z.1 <;> rfl
end
end K04

set_option Elab.async false
set_option linter.all false
set_option maxRecDepth 100000
set_option maxHeartbeats 1000000
namespace K04
open PySem PySem.Spec L2 Rr Gr
/-- the numbers of all roads -/
def idx (rs : List Row) : List Int := (List.range rs.length).map fun k : Nat => (k : Int)
theorem idx_mem {rs : List Row} {z : Int} : z ∈ idx rs ↔ Ix rs z := by
  unfold idx Ix
  rw [List.mem_map]
  constructor
  · rintro ⟨k, hk, rfl⟩
    have := List.mem_range.mp hk
    omega
  · rintro ⟨h0, h1⟩
    exact ⟨z.toNat, List.mem_range.mpr (by omega), by omega⟩
theorem idx_len {rs : List Row} : (idx rs).length = rs.length := by unfold idx; simp
theorem idx_asc (rs : List Row) : (idx rs).Pairwise (· < ·) := by
  unfold idx
  rw [List.pairwise_map]
  exact List.pairwise_lt_range.imp fun h => by omega
theorem rng_idx {n : Int} {rs : List Row} (g : Good n rs) : rng1 [.int (rs.length : Int)] = some ((idx rs).map .int) := by
  have few := g.few
  rw [rng1_int (by omega) (by omega), rngD_map]
  unfold idx
  simp only [Int.toNat_natCast, Int.zero_add]
theorem enum_idx (rs : List Row) : enumD 0 (rs.map rowD) = (idx rs).map fun z => .tup [.int z, rowD (rowZ rs z)] := by
  rw [enum_zip]
  unfold idx
  rw [List.map_map]
  refine List.ext_getElem? fun k => ?_
  rw [List.getElem?_map, List.getElem?_map, List.getElem?_zipIdx]
  by_cases h : k < rs.length
  · rw [List.getElem?_eq_getElem h, List.getElem?_range h]
    simp only [Option.map_some, Function.comp_def]
    have : rowZ rs (k : Int) = rs[k] := by
      unfold rowZ
      rw [Int.toNat_natCast, List.getD_eq_getElem?_getD, List.getElem?_eq_getElem h]
      rfl
    rw [this]
    simp
  · rw [List.getElem?_eq_none (by omega), List.getElem?_eq_none (by simp; omega)]
    rfl
def pairD (p : Int × Int) : D := .tup [.int p.1, .int p.2]
theorem pairD_eq (a b : Int) : D.tup [.int a, .int b] = pairD (a, b) := rfl
/-- a tree with another road in the place of one -/
def exT (T : List Int) (o r : Int) : List Int := sortI ((T.filter fun z => !decide (z = o)) ++ [r])
theorem exT_mem {T : List Int} {o r x : Int} : x ∈ exT T o r ↔ (x ∈ T ∧ x ≠ o) ∨ x = r := by
  unfold exT
  rw [(sortI_perm _).mem_iff, List.mem_append, List.mem_filter, List.mem_singleton]
  simp
noncomputable def exB (rs : List Row) (T : List Int) (o r : Int) : Bool := !conB rs (T.filter fun z => !decide (z = o)) r
def others (rs : List Row) (T : List Int) : List Int := (idx rs).filter fun r => !decide (r ∈ T)
noncomputable def exL (rs : List Row) (T : List Int) : List (Int × Int) := T.flatMap fun o => ((others rs T).filter (exB rs T o)).map fun r => (o, r)
theorem others_mem {rs : List Row} {T : List Int} {r : Int} : r ∈ others rs T ↔ Ix rs r ∧ r ∉ T := by
  unfold others
  rw [List.mem_filter, idx_mem]
  simp
/-- a tree as the law draws it -/
structure TreeOk (n : Int) (rs : List Row) (T : List Int) : Prop where
  asc : T.Pairwise (· < ·)
  ix : ∀ z ∈ T, Ix rs z
  tr : Tree (edr rs) n.toNat T
theorem asc_nodup {T : List Int} (h : T.Pairwise (· < ·)) : T.Nodup := h.imp fun q => by omega
theorem TreeOk.few {n : Int} {rs : List Row} {T : List Int} (g : Good n rs) (h : TreeOk n rs T) : T.length ≤ 5 := by
  have := h.tr.1
  have := g.n6
  omega
theorem exT_len {T : List Int} {o r : Int} (nd : T.Nodup) (ho : o ∈ T) : (exT T o r).length = T.length := by
  unfold exT
  rw [(sortI_perm _).length_eq, List.length_append, List.length_singleton]
  have e := filter_minus (p := fun _ => true) (q := fun x => !decide (x = o)) (m := o) (fun x => by simp) T nd ho rfl
  rw [List.filter_eq_self.mpr (fun _ _ => rfl)] at e
  exact e
theorem exT_asc {T : List Int} {o r : Int} (h : T.Pairwise (· < ·)) (hr : r ∉ T) : (exT T o r).Pairwise (· < ·) := by
  have nd : (exT T o r).Nodup := by
    unfold exT
    rw [(sortI_perm _).nodup_iff, List.nodup_append]
    refine ⟨(asc_nodup h).sublist List.filter_sublist, by simp, fun a ha b hb => ?_⟩
    rw [List.mem_singleton.mp hb]
    exact fun e => hr (e ▸ (List.mem_filter.mp ha).1)
  have s := sortI_sorted ((T.filter fun z => !decide (z = o)) ++ [r])
  exact (s.and nd).imp fun q => by have := q.1; have := q.2; omega
theorem exT_join {n : Int} {rs : List Row} {T : List Int} {o r : Int} (g : Good n rs) (h : TreeOk n rs T) (ho : o ∈ T) (hr : Ix rs r) (hrT : r ∉ T) : (decide (((exT T o r).length : Int) = n - 1) && joinB n.toNat (eds (edr rs) (exT T o r))) = exB rs T o r := by
  have nd := asc_nodup h.asc
  have l := exT_len (r := r) nd ho
  have t1 := h.tr.1
  have n1 := g.n1
  have hiT : ∀ x ∈ T, Gr.In n.toNat (edr rs x) := fun x hx => edr_in g (h.ix x hx)
  have key := exch_tree (T := T) (T2 := exT T o r) (out := o) (r := r) (by omega) hiT (edr_in g hr) h.tr ho (fun x => exT_mem) (by omega)
  have e1 : (decide (((exT T o r).length : Int) = n - 1)) = true := decide_eq_true (by omega)
  rw [e1, Bool.true_and, Bool.eq_iff_iff, joinB_iff]
  unfold exB
  rw [Bool.not_eq_true', Bool.eq_false_iff, ne_eq, conB_iff, ← key]
  constructor
  · exact fun q => ⟨by omega, q⟩
  · exact fun q => q.2
section
variable {S : Type} {s : S}
theorem loop_mapR {α β : Type} {bnd : D → Rho → Option Rho} {mm : Ms S} {g : α → D} (ρf : β → Rho) (step : β → α → β) (P : List α → β → Prop) : ∀ {xs : List α} {b : β}, P xs b → (∀ x r b, x ∈ xs → P (x :: r) b → ∃ ρ1, bnd (g x) (ρf b) = some ρ1 ∧ mm ρ1 s = some (.nx (ρf (step b x)) s) ∧ P r (step b x)) →
    loopD bnd mm (xs.map g) (ρf b) s = some (.nx (ρf (xs.foldl step b)) s) ∧ P [] (xs.foldl step b)
  | [], b, p, _ => ⟨rfl, p⟩
  | x :: xs, b, p, h => by
    obtain ⟨ρ1, e1, e2, p2⟩ := h x xs b List.mem_cons_self p
    obtain ⟨q1, q2⟩ := loop_mapR ρf step P (xs := xs) (b := step b x) p2 fun y r b hy => h y r b (List.mem_cons_of_mem _ hy)
    refine ⟨?_, q2⟩
    rw [List.map_cons, List.foldl_cons, loopD_cons e1 e2]
    exact q1
theorem fold_app {α β γ : Type} {c : α → Bool} {f : α → β} {h : α → γ} : ∀ {xs : List α} {b : List β × γ}, (xs.foldl (fun (b : List β × γ) x => (cond (c x) (b.1 ++ [f x]) b.1, h x)) b).1 = b.1 ++ (xs.filter c).map f
  | [], b => by simp
  | x :: xs, b => by
    rw [List.foldl_cons, fold_app]
    cases hc : c x with
    | true => rw [List.filter_cons_of_pos hc]; simp
    | false => rw [List.filter_cons_of_neg (by rw [hc]; decide)]; simp
theorem ap_b2N {g : D → D → Option (List D)} {ma mb : Rho → Mo S D} {ρ : Rho} : b2N g ma mb ρ s = (ma ρ s).bind fun x => (mb ρ x.2).bind fun y => (g x.1 y.1).map fun d => (d, y.2) := by unfold b2N; simp
theorem dCat_ints {xs : List Int} {z : Int} (h : xs.length ≤ 1000) : dCat (.lst (xs.map .int)) (.lst [.int z]) = some ((xs ++ [z]).map .int) := by
  show sz _ = _
  rw [sz_eq (le_size (by simp; omega)), List.map_append]
  rfl
theorem dSort_ints (ks : List Int) : dSortedA [.lst (ks.map .int)] = some ((sortI ks).map .int) := by
  show (match dInts (ks.map D.int) with | some ns => _ | none => _) = _
  rw [dInts_map]
theorem dTuple_ints (ks : List Int) : dTuple [.lst (ks.map .int)] = some (tD ks) := rfl
theorem isIn_tD' (neg : Bool) (a : Int) (ks : List Int) : isIn neg (.int a) (tD ks) = some (.bl (if neg then !decide (a ∈ ks) else decide (a ∈ ks))) := isIn_ints neg a ks
end
end K04

set_option Elab.async false
set_option linter.all false
set_option maxRecDepth 100000
set_option maxHeartbeats 1000000
namespace K04
open PySem PySem.Spec L2 Rr Gr
abbrev loZ (rs : List Row) (z : Int) : Int := (rowZ rs z).2.2.1
abbrev hiZ (rs : List Row) (z : Int) : Int := (rowZ rs z).2.2.2
/-- lengths as the tuple of what f says of each road -/
def lenT (rs : List Row) (f : Int → Int) : D := tD ((idx rs).map f)
def bestW (rs : List Row) (T : List Int) (z : Int) : Int := cond (decide (z ∈ T)) (loZ rs z) (hiZ rs z)
def worstW (rs : List Row) (T : List Int) (z : Int) : Int := cond (decide (z ∈ T)) (hiZ rs z) (loZ rs z)
def firstD : List D → D
  | [] => .non
  | d :: _ => d
theorem lenT_at {rs : List Row} {f : Int → Int} {z : Int} (h : Ix rs z) : dIx (lenT rs f) (.int z) = some (.int (f z)) := by
  obtain ⟨h0, h1⟩ := h
  unfold lenT
  show atI (((idx rs).map f).map D.int) z = _
  have := atI_get (ns := (idx rs).map f) (x := z) rfl ⟨h0, by rw [List.length_map, idx_len]; exact h1⟩
  rw [this]
  unfold idx
  rw [List.getD_eq_getElem?_getD, List.map_map, List.getElem?_map, List.getElem?_range (by omega)]
  simp only [Function.comp_def, Option.map_some, Option.getD_some, Int.toNat_of_nonneg h0]
theorem lenT_of {rs : List Row} {f : Int → Int} : D.tup ((idx rs).map fun z => .int (f z)) = lenT rs f := by
  unfold lenT tD
  rw [List.map_map]
  rfl
theorem dTup_lst (ds : List D) : dTuple [.lst ds] = some (.tup ds) := rfl
theorem tru_lst (ds : List D) : tru (.lst ds) = some (!ds.isEmpty) := by cases ds <;> rfl
theorem idx_ix {rs : List Row} : ∀ z ∈ idx rs, Ix rs z := fun z hz => idx_mem.mp hz
theorem others_ix {rs : List Row} {T : List Int} : ∀ z ∈ others rs T, Ix rs z := fun z hz => (others_mem.mp hz).1
theorem exL_mem {rs : List Row} {T : List Int} {p : Int × Int} : p ∈ exL rs T ↔ p.1 ∈ T ∧ Ix rs p.2 ∧ p.2 ∉ T ∧ exB rs T p.1 p.2 = true := by
  unfold exL
  rw [List.mem_flatMap]
  constructor
  · rintro ⟨o, ho, h⟩
    obtain ⟨r, hr, rfl⟩ := List.mem_map.mp h
    obtain ⟨h1, h2⟩ := List.mem_filter.mp hr
    obtain ⟨h3, h4⟩ := others_mem.mp h1
    exact ⟨ho, h3, h4, h2⟩
  · rintro ⟨h1, h2, h3, h4⟩
    exact ⟨p.1, h1, List.mem_map.mpr ⟨p.2, List.mem_filter.mpr ⟨others_mem.mpr ⟨h2, h3⟩, h4⟩, rfl⟩⟩
section
variable {S : Type} {s : S}
theorem isN_non (d : D) (h : d ≠ .non) : dIsN d .non = some (.bl false) := by cases d <;> first | rfl | exact absurd rfl h
theorem isN_nn : dIsN .non .non = some (.bl true) := rfl
def sureB (rs : List Row) (p : Int × Int) : Bool := decide (hiZ rs p.2 < loZ rs p.1)
def gainB (rs : List Row) (p : Int × Int) : Bool := decide (loZ rs p.2 < hiZ rs p.1)
noncomputable def sureL (rs : List Row) (T : List Int) : List (Int × Int) := (exL rs T).filter (sureB rs)
theorem exL_len {n : Int} {rs : List Row} {T : List Int} (g : Good n rs) (h : TreeOk n rs T) : (exL rs T).length ≤ 50 := by
  have few := g.few
  have lT := h.few g
  unfold exL
  have : ∀ (A : List Int), (A.flatMap fun o => ((others rs T).filter (exB rs T o)).map fun r => (o, r)).length ≤ A.length * 10 := fun A => by
    induction A with
    | nil => simp
    | cons o A ih =>
      rw [List.flatMap_cons, List.length_append, List.length_map, List.length_cons]
      have h1 := List.length_filter_le (exB rs T o) (others rs T)
      have h2 : (others rs T).length ≤ (idx rs).length := List.length_filter_le _ _
      rw [idx_len] at h2
      omega
  have := this T
  omega
end
end K04

set_option Elab.async false
set_option linter.all false
set_option maxRecDepth 100000
set_option maxHeartbeats 1000000
namespace K04
open PySem PySem.Spec L2 Rr Gr
def alwB (rs : List Row) (p : Int × Int) : Bool := decide (hiZ rs p.1 ≤ loZ rs p.2)
theorem sureL_in (xs : List Bool) (b : Bool) : isIn true (.bl b) (.lst (xs.map .bl)) = some (.bl (!decide (b ∈ xs))) := by rw [isIn_bls]; rfl
theorem isIn_blm {α : Type} (f : α → Bool) (xs : List α) (neg b : Bool) : isIn neg (.bl b) (.lst (xs.map fun x => .bl (f x))) = some (.bl (cond neg (!(xs.any fun x => f x == b)) (xs.any fun x => f x == b))) := by
  have := isIn_bls neg b (xs.map f)
  rw [List.map_map] at this
  rw [show (xs.map fun x => D.bl (f x)) = xs.map (D.bl ∘ f) from rfl, this]
  have e : decide (b ∈ xs.map f) = xs.any fun x => f x == b := by
    rw [Bool.eq_iff_iff, decide_eq_true_iff, List.any_eq_true, List.mem_map]
    simp
  rw [e]
  cases neg <;> rfl
def appO (o : Int) (f : List (Int × Int)) (xs : List Int) : List (Int × Int) := f ++ xs.map fun r => (o, r)
section
variable {S : Type} {s : S}
end
end K04

set_option Elab.async false
set_option linter.all false
set_option maxRecDepth 100000
set_option maxHeartbeats 1000000
namespace K04
open PySem PySem.Spec L2 Rr Gr
theorem dataLt_pair (a b c d : Int) : PySem.W.dataLt (.tuple [.int a, .int b]) (.tuple [.int c, .int d]) = (decide (a < c) || (!decide (c < a) && decide (b < d))) := by
  simp [PySem.W.dataLt, PySem.W.keyToks, PySem.W.keyToksAll, PyProof.Rows.lexLt, PyProof.Rows.itemLt]
theorem argBest_least {bt : Nat → Nat → Bool} {v : Nat → Int} (h1 : ∀ i j, bt i j = true → v i ≤ v j) (h2 : ∀ i j, bt i j = false → v j ≤ v i) : ∀ k, argBest bt k ≤ k ∧ ∀ j, j ≤ k → v (argBest bt k) ≤ v j
  | 0 => ⟨Nat.le_refl _, fun j hj => by have : j = 0 := by omega
                                        rw [this]; exact Int.le_refl _⟩
  | k + 1 => by
    obtain ⟨i1, i2⟩ := argBest_least h1 h2 k
    unfold argBest
    cases hb : bt (k + 1) (argBest bt k) with
    | true =>
      rw [if_pos rfl]
      refine ⟨Nat.le_refl _, fun j hj => ?_⟩
      rcases Nat.lt_or_ge j (k + 1) with q | q
      · exact Int.le_trans (h1 _ _ hb) (i2 j (by omega))
      · have : j = k + 1 := by omega
        rw [this]; exact Int.le_refl _
    | false =>
      rw [if_neg (by decide)]
      refine ⟨by omega, fun j hj => ?_⟩
      rcases Nat.lt_or_ge j (k + 1) with q | q
      · exact i2 j (by omega)
      · have : j = k + 1 := by omega
        rw [this]; exact h2 _ _ hb
theorem py_pair (a b : Int) : py (.tup [.int a, .int b]) = .tuple [.int a, .int b] := by simp [py, pyL]
theorem minG_pairs {w : Int → Int} {C : List Int} (h : C ≠ []) : ∃ z ∈ C, dMinG [.lst (C.map fun z => .tup [.int (w z), .int z])] = some (.tup [.int (w z), .int z]) ∧ ∀ y ∈ C, w z ≤ w y := by
  have hp : 0 < C.length := List.length_pos_iff.mpr h
  have pl : pyL (C.map fun z => D.tup [.int (w z), .int z]) = C.map fun z => .tuple [.int (w z), .int z] := by
    rw [pyL_eq, List.map_map]
    exact List.map_congr_left fun z _ => py_pair _ _
  have gd : ∀ i (hi : i < C.length), (pyL (C.map fun z => D.tup [.int (w z), .int z])).getD i .none = .tuple [.int (w C[i]), .int C[i]] := fun i hi => by
    rw [pl, List.getD_eq_getElem?_getD, List.getElem?_map, List.getElem?_eq_getElem hi]
    rfl
  have c1 : plainL (C.map fun z => D.tup [.int (w z), .int z]) = true := by
    clear h hp pl gd
    induction C with
    | nil => simp [plainL]
    | cons z C ih => rw [List.map_cons]; simp [plainL, Rr.plain, ih]
  have c2 : alikeD (C.map fun z => D.tup [.int (w z), .int z]) = true := by
    unfold alikeD
    rw [List.all_eq_true]
    intro x hx
    rw [List.all_eq_true]
    intro y hy
    obtain ⟨a, _, rfl⟩ := List.mem_map.mp hx
    obtain ⟨b, _, rfl⟩ := List.mem_map.mp hy
    rw [py_pair, py_pair]
    simp [PySem.W.alike, PySem.W.alikeAll]
  have c3 : (C.map fun z => D.tup [.int (w z), .int z]).all isTupD = true := by
    rw [List.all_eq_true]
    intro x hx
    obtain ⟨a, _, rfl⟩ := List.mem_map.mp hx
    rfl
  have c4 : PyData.depthAll (pyL (C.map fun z => D.tup [.int (w z), .int z])) ≤ 60 := by
    rw [pl]
    clear h hp pl gd c1 c2 c3
    induction C with
    | nil => simp [PyData.depthAll]
    | cons z C ih => rw [List.map_cons]; simp only [PyData.depthAll, PyData.depth] at ih ⊢; omega
  obtain ⟨k, hk⟩ : ∃ k, argBest (btD (pyL (C.map fun z => D.tup [.int (w z), .int z]))) (C.length - 1) = k := ⟨_, rfl⟩
  have vv : ∀ i, (∃ hi : i < C.length, (fun i => if hi : i < C.length then w C[i] else 0) i = w C[i]) ∨ ¬ i < C.length := fun i => by
    by_cases hi : i < C.length
    · exact .inl ⟨hi, by simp [hi]⟩
    · exact .inr hi
  -- beyond the list nothing is asked: an order on the numbers up to the last one
  have al : ∀ m, m < C.length → argBest (btD (pyL (C.map fun z => D.tup [.int (w z), .int z]))) m ≤ m ∧ ∀ j (hj : j ≤ m), ∀ (q1 : argBest (btD (pyL (C.map fun z => D.tup [.int (w z), .int z]))) m < C.length) (q2 : j < C.length), w C[argBest (btD (pyL (C.map fun z => D.tup [.int (w z), .int z]))) m] ≤ w C[j] := fun m => by
    induction m with
    | zero =>
      intro _
      refine ⟨Nat.le_refl _, fun j hj q1 q2 => ?_⟩
      have : j = 0 := by omega
      subst this
      exact Int.le_refl _
    | succ m ih =>
      intro hm
      obtain ⟨i1, i2⟩ := ih (by omega)
      have hb := Nat.lt_of_le_of_lt i1 (show m < C.length by omega)
      have e : btD (pyL (C.map fun z => D.tup [.int (w z), .int z])) (m + 1) (argBest (btD (pyL (C.map fun z => D.tup [.int (w z), .int z]))) m) = (decide (w C[m + 1] < w C[argBest (btD (pyL (C.map fun z => D.tup [.int (w z), .int z]))) m]) || (!decide (w C[argBest (btD (pyL (C.map fun z => D.tup [.int (w z), .int z]))) m] < w C[m + 1]) && decide (C[m + 1] < C[argBest (btD (pyL (C.map fun z => D.tup [.int (w z), .int z]))) m]))) := by
        show PySem.W.dataLt _ _ = _
        rw [gd _ hm, gd _ hb, dataLt_pair]
      have st : argBest (btD (pyL (C.map fun z => D.tup [.int (w z), .int z]))) (m + 1) = if btD (pyL (C.map fun z => D.tup [.int (w z), .int z])) (m + 1) (argBest (btD (pyL (C.map fun z => D.tup [.int (w z), .int z]))) m) then m + 1 else argBest (btD (pyL (C.map fun z => D.tup [.int (w z), .int z]))) m := rfl
      generalize argBest (btD (pyL (C.map fun z => D.tup [.int (w z), .int z]))) m = a at *
      rw [st, e]
      by_cases q : (decide (w C[m + 1] < w C[a]) || (!decide (w C[a] < w C[m + 1]) && decide (C[m + 1] < C[a]))) = true
      · rw [if_pos q]
        refine ⟨Nat.le_refl _, fun j hj q1 q2 => ?_⟩
        simp only [Bool.or_eq_true, Bool.and_eq_true, Bool.not_eq_true', decide_eq_true_eq, decide_eq_false_iff_not] at q
        rcases Nat.lt_or_ge j (m + 1) with z | z
        · have := i2 j (by omega) hb q2
          omega
        · have : j = m + 1 := by omega
          subst this
          exact Int.le_refl _
      · rw [if_neg q]
        refine ⟨by omega, fun j hj q1 q2 => ?_⟩
        simp only [Bool.or_eq_true, Bool.and_eq_true, Bool.not_eq_true', decide_eq_true_eq, decide_eq_false_iff_not] at q
        rcases Nat.lt_or_ge j (m + 1) with z | z
        · exact i2 j (by omega) hb q2
        · have : j = m + 1 := by omega
          subst this
          omega
  obtain ⟨a1, a2⟩ := al (C.length - 1) (by omega)
  rw [hk] at a1
  have kl : k < C.length := by omega
  refine ⟨C[k], List.getElem_mem kl, ?_, fun y hy => ?_⟩
  · show (if (plainL (C.map fun z => D.tup [.int (w z), .int z]) && alikeD (C.map fun z => D.tup [.int (w z), .int z]) && (C.map fun z => D.tup [.int (w z), .int z]).all isTupD && decide (PyData.depthAll (pyL (C.map fun z => D.tup [.int (w z), .int z])) ≤ 60) && decide (0 < (C.map fun z => D.tup [.int (w z), .int z]).length)) = true then (C.map fun z => D.tup [.int (w z), .int z])[argBest (btD (pyL (C.map fun z => D.tup [.int (w z), .int z]))) ((C.map fun z => D.tup [.int (w z), .int z]).length - 1)]? else none) = _
    rw [if_pos (by rw [c1, c2, c3, decide_eq_true c4, List.length_map, decide_eq_true hp]; rfl), List.length_map, hk, List.getElem?_map, List.getElem?_eq_getElem kl]
    rfl
  · obtain ⟨j, hj, rfl⟩ := List.getElem_of_mem hy
    have := a2 j (by omega)
    simp only [hk] at this
    exact this kl hj
section
variable {S : Type} {s : S}
theorem dSum_map {α : Type} (f : α → Int) (xs : List α) : dSum [.lst (xs.map fun x => .int (f x))] = some (.int (xs.map f).sum) := by
  show (dInts _).map _ = _
  rw [show (xs.map fun x => D.int (f x)) = (xs.map f).map D.int by rw [List.map_map]; rfl, dInts_map]
  rfl
/-- lengths between the bounds -/
def BetW (rs : List Row) (f : Int → Int) : Prop := ∀ z, Ix rs z → loZ rs z ≤ f z ∧ f z ≤ hiZ rs z
theorem zip_rows (rs : List Row) (f : Int → Int) : zip2 [lenT rs f, .tup (rs.map rowD)] = some ((idx rs).map fun z => .tup [.int (f z), rowD (rowZ rs z)]) := by
  show some (zipD (((idx rs).map f).map D.int) (rs.map rowD)) = _
  congr 1
  refine List.ext_getElem? fun k => ?_
  unfold idx
  rw [zipD_get]
  simp only [List.getElem?_map]
  by_cases h : k < rs.length
  · have : rowZ rs (k : Int) = rs[k] := by
      unfold rowZ
      rw [Int.toNat_natCast, List.getD_eq_getElem?_getD, List.getElem?_eq_getElem h]
      rfl
    rw [List.getElem?_eq_getElem h, List.getElem?_range h]
    simp only [Option.map_some, this]
  · rw [List.getElem?_eq_none (show rs.length ≤ k by omega), List.getElem?_eq_none (show (List.range rs.length).length ≤ k by simp; omega)]
    rfl
end
end K04

set_option Elab.async false
set_option linter.all false
set_option maxRecDepth 100000
set_option maxHeartbeats 1000000
namespace K04
open PySem PySem.Spec L2 Rr Gr
/-! ### the least total, house by house -/
def crS (rs : List Row) (S0 : List Int) : List Int := (idx rs).filter fun z => decide ((rowZ rs z).1 ∈ S0) != decide ((rowZ rs z).2.1 ∈ S0)
theorem crS_mem {rs : List Row} {S0 : List Int} {z : Int} : z ∈ crS rs S0 ↔ Ix rs z ∧ ∃ a b, a ∈ S0 ∧ b ∉ S0 ∧ (edr rs z = (a, b) ∨ edr rs z = (b, a)) := by
  unfold crS
  rw [List.mem_filter, idx_mem]
  refine and_congr_right fun _ => ?_
  rw [bne_iff_ne, ne_eq]
  unfold edr
  constructor
  · intro h
    by_cases q : (rowZ rs z).1 ∈ S0
    · exact ⟨_, _, q, fun k => h (by rw [decide_eq_true q, decide_eq_true k]), .inl rfl⟩
    · by_cases k : (rowZ rs z).2.1 ∈ S0
      · exact ⟨_, _, k, q, .inr rfl⟩
      · exact absurd (by rw [decide_eq_false q, decide_eq_false k]) h
  · rintro ⟨a, b, ha, hb, e | e⟩
    · simp only [Prod.mk.injEq] at e
      rw [e.1, e.2, decide_eq_true ha, decide_eq_false hb]
      decide
    · simp only [Prod.mk.injEq] at e
      rw [e.1, e.2, decide_eq_true ha, decide_eq_false hb]
      decide
/-- the web of a script: all houses are joined -/
def JoinR (n : Int) (rs : List Row) : Prop := Joined n.toNat (eds (edr rs) (idx rs))
section
variable {S : Type} {s : S}
theorem loopW_noS {q : Rho → Mo S Bool} {mb : Ms S} {k : Nat} {ρ : Rho} {s1 : S} (h : q ρ s = some (false, s1)) : loopW q mb (k + 1) ρ s = some (.nx ρ s1) := by
  unfold loopW
  rw [h]
theorem loopW_yesS {q : Rho → Mo S Bool} {mb : Ms S} {k : Nat} {ρ ρ1 : Rho} {s1 s2 : S} (h : q ρ s = some (true, s1)) (h2 : mb ρ s1 = some (.nx ρ1 s2)) : loopW q mb (k + 1) ρ s = loopW q mb k ρ1 s2 := by
  conv => lhs; unfold loopW
  rw [h]
  simp only [h2]
end
end K04

set_option Elab.async false
set_option linter.all false
set_option maxRecDepth 100000
set_option maxHeartbeats 1000000
namespace K04
open PySem PySem.Spec L2 Rr Gr
/-! ### all trees, the law's way -/
noncomputable def okT (n : Int) (rs : List Row) (r : Int) (T : List Int) : Bool := decide ((T.length : Int) < n - 1) && !conB rs (T.filter fun z => !decide (z = r)) r
noncomputable def grT (n : Int) (rs : List Row) : List Int → List (List Int) → List (List Int)
  | [], F => F
  | r :: R, F => grT n rs R (F ++ (F.filter (okT n rs r)).map fun T => T ++ [r])
/-- ascending roads below k that close no ring, no more than a tree has -/
structure Fr (n : Int) (rs : List Row) (k : Int) (T : List Int) : Prop where
  asc : T.Pairwise (· < ·)
  ix : ∀ z ∈ T, Ix rs z ∧ z < k
  fr : Free n.toNat (eds (edr rs) T)
  few : (T.length : Int) ≤ n - 1
theorem Fr.step {n : Int} {rs : List Row} (g : Good n rs) {k : Int} (hk : Ix rs k) {F : List (List Int)} (hF : ∀ T, T ∈ F ↔ Fr n rs k T) (T : List Int) : T ∈ F ++ (F.filter (okT n rs k)).map (fun T => T ++ [k]) ↔ Fr n rs (k + 1) T := by
  have noK : ∀ {T}, Fr n rs k T → k ∉ T := fun h m => by have := (h.ix k m).2; omega
  have fil : ∀ {T}, Fr n rs k T → (T.filter fun z => !decide (z = k)) = T := fun h => List.filter_eq_self.mpr fun z hz => by
    have := (h.ix z hz).2
    simp only [Bool.not_eq_true', decide_eq_false_iff_not]
    omega
  rw [List.mem_append, hF, List.mem_map]
  constructor
  · rintro (h | ⟨T', h, rfl⟩)
    · exact ⟨h.asc, fun z hz => ⟨(h.ix z hz).1, by have := (h.ix z hz).2; omega⟩, h.fr, h.few⟩
    · obtain ⟨h1, h2⟩ := List.mem_filter.mp h
      have h1 := (hF T').mp h1
      unfold okT at h2
      rw [fil h1, Bool.and_eq_true, decide_eq_true_eq, Bool.not_eq_true', Bool.eq_false_iff, ne_eq, conB_iff] at h2
      refine ⟨?_, fun z hz => ?_, free_snoc (edr_in g hk) h1.fr h2.2, by rw [List.length_append, List.length_singleton]; omega⟩
      · rw [List.pairwise_append]
        refine ⟨h1.asc, by simp, fun a ha b hb => ?_⟩
        rw [List.mem_singleton.mp hb]
        exact (h1.ix a ha).2
      · rcases List.mem_append.mp hz with q | q
        · exact ⟨(h1.ix z q).1, by have := (h1.ix z q).2; omega⟩
        · rw [List.mem_singleton.mp q]; exact ⟨hk, by omega⟩
  · intro h
    by_cases hm : k ∈ T
    · right
      -- k is the last one
      have hne : T ≠ [] := fun e => by rw [e] at hm; cases hm
      have el : T.dropLast ++ [T.getLast hne] = T := List.dropLast_concat_getLast hne
      have asc := h.asc
      rw [← el, List.pairwise_append] at asc
      have last : T.getLast hne = k := by
        have h1 := (h.ix _ (List.getLast_mem hne)).2
        by_cases q : k ∈ T.dropLast
        · have := asc.2.2 k q _ List.mem_cons_self
          omega
        · rw [← el] at hm
          rcases List.mem_append.mp hm with z | z
          · exact absurd z q
          · exact (List.mem_singleton.mp z).symm
      rw [last] at el
      have sub : ∀ z ∈ T.dropLast, z ∈ T := fun z hz => by rw [← el]; exact List.mem_append_left _ hz
      have inT : ∀ z ∈ T.dropLast, Gr.In n.toNat (edr rs z) := fun z hz => edr_in g (h.ix z (sub z hz)).1
      have fr2 : Free n.toNat (edr rs k :: eds (edr rs) T.dropLast) := by
        have f := h.fr
        unfold Free at f ⊢
        rw [show rk n.toNat (edr rs k :: eds (edr rs) T.dropLast) = rk n.toNat (eds (edr rs) T) from rk_mem fun e => by
          conv => rhs; rw [← el]
          unfold eds
          rw [List.map_append, List.mem_append, List.mem_cons]
          simp [or_comm], f]
        conv => lhs; rw [← el]
        unfold eds
        simp
      obtain ⟨f1, f2⟩ := (free_cons (edr_in g hk) (eds_in inT)).mp fr2
      have hd : Fr n rs k T.dropLast := ⟨asc.1, fun z hz => ⟨(h.ix z (sub z hz)).1, by have := asc.2.2 z hz _ List.mem_cons_self; rw [last] at this; exact this⟩, f1, by have := h.few; rw [List.length_dropLast]; omega⟩
      refine ⟨T.dropLast, List.mem_filter.mpr ⟨(hF _).mpr hd, ?_⟩, el⟩
      unfold okT
      rw [fil hd, Bool.and_eq_true, decide_eq_true_eq, Bool.not_eq_true', Bool.eq_false_iff, ne_eq, conB_iff]
      refine ⟨?_, f2⟩
      have := h.few
      have l : T.length = T.dropLast.length + 1 := by conv => lhs; rw [← el]
                                                      simp
      omega
    · left
      refine ⟨h.asc, fun z hz => ⟨(h.ix z hz).1, ?_⟩, h.fr, h.few⟩
      have := (h.ix z hz).2
      have : z ≠ k := fun e => hm (e ▸ hz)
      omega
theorem grT_spec {n : Int} {rs : List Row} (g : Good n rs) : ∀ (m : Nat) (k : Nat) {F : List (List Int)}, k + m = rs.length → (∀ T, T ∈ F ↔ Fr n rs (k : Int) T) → ∀ T, T ∈ grT n rs ((List.range m).map fun i : Nat => ((i + k : Nat) : Int)) F ↔ Fr n rs (rs.length : Int) T
  | 0, k, F, e, h, T => by
    rw [show (List.range 0).map (fun i : Nat => ((i + k : Nat) : Int)) = [] from rfl, ← e, Nat.add_zero]
    exact h T
  | m + 1, k, F, e, h, T => by
    rw [List.range_succ_eq_map, List.map_cons, List.map_map]
    show T ∈ grT n rs _ _ ↔ _
    have hk : Ix rs ((0 + k : Nat) : Int) := ⟨by omega, by omega⟩
    have := grT_spec g m (k + 1) (F := F ++ (F.filter (okT n rs ((0 + k : Nat) : Int))).map fun T => T ++ [((0 + k : Nat) : Int)]) (by omega) (fun T => by
      have := Fr.step g (k := ((0 + k : Nat) : Int)) hk (F := F) (by rw [Nat.zero_add]; exact h) T
      rw [this]
      rw [show (((0 + k : Nat) : Int) + 1) = ((k + 1 : Nat) : Int) by omega]) T
    rw [← this]
    rw [show ((fun i : Nat => ((i + k : Nat) : Int)) ∘ Nat.succ) = fun i : Nat => ((i + (k + 1) : Nat) : Int) from funext fun i => by simp only [Function.comp_def]; congr 1; omega]
    exact Iff.rfl
theorem grT_all {n : Int} {rs : List Row} (g : Good n rs) (T : List Int) : T ∈ grT n rs (idx rs) [[]] ↔ Fr n rs (rs.length : Int) T := by
  have := grT_spec g rs.length 0 (F := [[]]) (by omega) (fun T => by
    rw [List.mem_singleton]
    constructor
    · rintro rfl
      exact ⟨List.Pairwise.nil, (fun _ h => nomatch h), free_nil, by have := g.n1; simp; omega⟩
    · intro h
      cases T with
      | nil => rfl
      | cons z T => have := (h.ix z List.mem_cons_self); have := this.1.1; have := (h.ix z List.mem_cons_self).2; omega) T
  exact this
noncomputable def allTs (n : Int) (rs : List Row) : List (List Int) := sortT ((grT n rs (idx rs) [[]]).filter fun T => decide ((T.length : Int) = n - 1))
theorem allTs_mem {n : Int} {rs : List Row} (g : Good n rs) (T : List Int) : T ∈ allTs n rs ↔ TreeOk n rs T := by
  unfold allTs
  have n1 := g.n1
  rw [(sortT_perm _).mem_iff, List.mem_filter, grT_all g, decide_eq_true_eq]
  constructor
  · rintro ⟨h, l⟩
    exact ⟨h.asc, fun z hz => (h.ix z hz).1, (tree_iff_free (by omega) (by omega)).mpr h.fr⟩
  · intro h
    have t1 := h.tr.1
    exact ⟨⟨h.asc, fun z hz => ⟨h.ix z hz, (h.ix z hz).2⟩, tree_free (by omega) h.tr, by omega⟩, by omega⟩
theorem asc_eq_of_mem {A B : List Int} (h1 : A.Pairwise (· < ·)) (h2 : B.Pairwise (· < ·)) (h : ∀ x, x ∈ A ↔ x ∈ B) : A = B :=
  PySem.W.ksm_same ((List.perm_ext_iff_of_nodup (asc_nodup h1) (asc_nodup h2)).mpr h) (h1.imp fun q => by omega) (h2.imp fun q => by omega)
theorem kr_asc {n : Int} {rs : List Row} (g : Good n rs) (hj : JoinR n rs) : TreeOk n rs (sortI (kr (edr rs) [] (idx rs))) := by
  have n1 := g.n1
  have hi : ∀ r ∈ idx rs, Gr.In n.toNat (edr rs r) := fun r hr => edr_in g (idx_ix r hr)
  have t := kr_tree (ed := edr rs) (n := n.toNat) (o := idx rs) (by omega) hi hj
  have m : ∀ x, x ∈ sortI (kr (edr rs) [] (idx rs)) ↔ x ∈ kr (edr rs) [] (idx rs) := fun x => (sortI_perm _).mem_iff
  have sub : ∀ z ∈ sortI (kr (edr rs) [] (idx rs)), Ix rs z := fun z hz => idx_ix z ((kr_of z ((m z).mp hz)).resolve_left List.not_mem_nil)
  refine ⟨?_, sub, ?_, fun x hx => (conn_same m).mpr (t.2 x hx)⟩
  · have nd : (sortI (kr (edr rs) [] (idx rs))).Nodup := (sortI_perm _).nodup_iff.mpr (kr_nodup List.nodup_nil)
    exact ((sortI_sorted _).and nd).imp fun q => by have := q.1; have := q.2; omega
  · rw [(sortI_perm _).length_eq]
    exact t.1
theorem allTs_ne {n : Int} {rs : List Row} (g : Good n rs) (hj : JoinR n rs) : allTs n rs ≠ [] := fun e => by
  have := (allTs_mem g _).mpr (kr_asc g hj)
  rw [e] at this
  cases this
theorem grT_keep {n : Int} {rs : List Row} : ∀ {R : List Int} {F : List (List Int)}, (grT n rs R F).length ≤ F.length * 2 ^ R.length
  | [], F => by simp [grT]
  | r :: R, F => by
    show (grT n rs R _).length ≤ _
    refine Nat.le_trans grT_keep ?_
    rw [List.length_append, List.length_map, List.length_cons, Nat.pow_succ]
    have := List.length_filter_le (okT n rs r) F
    rw [Nat.mul_comm (2 ^ R.length) 2, ← Nat.mul_assoc]
    exact Nat.mul_le_mul_right _ (by omega)
theorem grT_one {rs : List Row} : ∀ {R : List Int} {F : List (List Int)}, grT 1 rs R F = F
  | [], F => rfl
  | r :: R, F => by
    show grT 1 rs R _ = _
    have : F.filter (okT 1 rs r) = [] := List.filter_eq_nil_iff.mpr fun T _ => by
      unfold okT
      rw [decide_eq_false (by omega), Bool.false_and]
      decide
    rw [this, List.map_nil, List.append_nil, grT_one]
section
variable {S : Type} {s : S}
theorem dAdd_snoc {T : List Int} {r : Int} (h : T.length ≤ 1000) : dAdd (tD T) (.tup [.int r]) = some (tD (T ++ [r])) := by
  show (sz (T.map D.int ++ [.int r])).map D.tup = _
  rw [sz_eq (le_size (by simp; omega))]
  unfold tD
  rw [List.map_append]
  rfl
theorem dAdd_cat {A B : List (List Int)} (h : A.length + B.length ≤ 100000) : dAdd (.lst (A.map tD)) (.lst (B.map tD)) = some (.lst ((A ++ B).map tD)) := by
  show (sz (A.map tD ++ B.map tD)).map D.lst = _
  rw [← List.map_append, sz_eq (le_size (by rw [List.length_map, List.length_append]; omega))]
  rfl
theorem dSort_tDs {Ts : List (List Int)} (h : Ts.length < 2 ∨ ∀ T ∈ Ts, T ≠ []) : dSortedA [.lst (Ts.map tD)] = some ((sortT Ts).map tD) := by
  cases Ts with
  | nil => rfl
  | cons T Ts =>
    have e0 : dInts ((T :: Ts).map tD) = none := rfl
    have u : ∀ ds, dSortedA [.lst ds] = match dInts ds with | some ns => some ((sortI ns).map .int) | none => match tupsI ds with | some ns => if ns.length < 2 || ns.all (fun n => !n.isEmpty) then some ((sortT ns).map tD) else none | none => none := fun _ => rfl
    rw [u, e0, tupsI_map]
    simp only
    rw [if_pos]
    rw [Bool.or_eq_true, decide_eq_true_iff, List.all_eq_true]
    rcases h with h | h
    · exact .inl h
    · refine .inr fun x hx => ?_
      have := h x hx
      cases x with
      | nil => exact absurd rfl this
      | cons => rfl
end
end K04

set_option Elab.async false
set_option linter.all false
set_option maxRecDepth 100000
set_option maxHeartbeats 2000000
namespace K04
open PySem PySem.Spec L2 Rr Gr
/-! ### the webs that are drawn with a width -/
/-- [k1, .., k4, one draw, another] -/
theorem six_ev {ρ : Rho} {k1 k2 k3 k4 n1 n2 : Int} {m1 m2 : Rho → Mo PenS D} {st : PenS} (h0 : gv 0 ρ = some (.obj 0)) (e1 : ∀ s, m1 ρ s = some (.int n1, s)) (e2 : ∀ s, m2 ρ s = some (.int n2, s)) (hn1 : 0 < n1) (hn2 : n1 < 1073741824) (hn3 : 0 < n2) (hn4 : n2 < 1073741824) (ha : st.at_ < 2147483640) :
    ∃ x y st2, (rLst (rCons (rC (.int k1)) (rCons (rC (.int k2)) (rCons (rC (.int k3)) (rCons (rC (.int k4)) (rCons (mCall 2 F__law_take (rCons (rN 0) (rCons m1 rNil))) (rCons (mCall 2 F__law_take (rCons (rN 0) (rCons m2 rNil))) rNil))))))) ρ st = some ([.int k1, .int k2, .int k3, .int k4, .int x, .int y], st2) ∧ 0 ≤ x ∧ x < n1 ∧ 0 ≤ y ∧ y < n2 ∧ Adv 2 st st2 := by
  obtain ⟨x, s1, f1, x0, x1, a1⟩ := take_call (ρ := ρ) (m := m1) (st := st) (st1 := st) h0 (e1 st) hn1 hn2 (by omega)
  obtain ⟨y, s2, f2, y0, y1, a2⟩ := take_call (ρ := ρ) (m := m2) (st := s1) (st1 := s1) h0 (e2 s1) hn3 hn4 (by have := a1.2; omega)
  refine ⟨x, y, s2, ?_, x0, x1, y0, y1, a1.trans a2⟩
  have z6 : sz [D.int k1, .int k2, .int k3, .int k4, .int x, .int y] = some [D.int k1, .int k2, .int k3, .int k4, .int x, .int y] := sz_eq (by show 6 ≤ sizeLine; decide)
  rw [ap_rLst]
  have : (rCons (rC (.int k1)) (rCons (rC (.int k2)) (rCons (rC (.int k3)) (rCons (rC (.int k4)) (rCons (mCall 2 F__law_take (rCons (rN 0) (rCons m1 rNil))) (rCons (mCall 2 F__law_take (rCons (rN 0) (rCons m2 rNil))) rNil)))))) ρ st = some ([.int k1, .int k2, .int k3, .int k4, .int x, .int y], s2) := by
    simp only [ap_rCons, ap_rC, Option.bind_some, f1, f2, ap_rNil]
  rw [this, Option.bind_some, z6]
  rfl
theorem draw_road_ev {a b w : Int} {st : PenS} (h1 : 0 ≤ w) (h2 : w < 1000) (ha : st.at_ < 2147483600) : ∃ lo hi st2, F__law_draw_road F__law_take [.obj 0, .int a, .int b, .int w] st = some (rowD (a, b, lo, hi), st2) ∧ 0 ≤ lo ∧ lo ≤ hi ∧ hi ≤ 99 ∧ Adv 6 st st2 := by
  obtain ⟨x, y, s1, f1, x0, x1, y0, y1, a1⟩ := six_ev (ρ := begin_ 5 [D.obj 0, .int a, .int b, .int w]) (k1 := 0) (k2 := 1) (k3 := 2) (k4 := 3) (m1 := rC (.int 8)) (m2 := rC (.int 100)) (st := st) rfl (fun _ => rfl) (fun _ => rfl) (by decide) (by decide) (by decide) (by decide) (by omega)
  obtain ⟨d, s2, f2, hd, a2⟩ := one_call (ρ := begin_ 5 [D.obj 0, .int a, .int b, .int w]) (st := st) rfl f1 (by simp) (by simp) (by have := a1.2; omega)
  obtain ⟨lo, rfl, lo0, lo1⟩ : ∃ lo, d = .int lo ∧ 0 ≤ lo ∧ lo ≤ 99 := by
    simp only [List.mem_cons, List.not_mem_nil, or_false] at hd
    rcases hd with rfl | rfl | rfl | rfl | rfl | rfl
    · exact ⟨0, rfl, by decide, by decide⟩
    · exact ⟨1, rfl, by decide, by decide⟩
    · exact ⟨2, rfl, by decide, by decide⟩
    · exact ⟨3, rfl, by decide, by decide⟩
    · exact ⟨x, rfl, x0, by omega⟩
    · exact ⟨y, rfl, y0, by omega⟩
  have R : Rho := [some (.val (.obj 0)), some (.val (.int a)), some (.val (.int b)), some (.val (.int w)), some (.val (.int lo))]
  have g3 : gv 3 [some (.val (.obj 0)), some (.val (.int a)), some (.val (.int b)), some (.val (.int w)), some (.val (.int lo))] = some (.int w) := rfl
  obtain ⟨u, v, s3, f3, u0, u1, v0, v1, a3⟩ := six_ev (ρ := [some (.val (.obj 0)), some (.val (.int a)), some (.val (.int b)), some (.val (.int w)), some (.val (.int lo))]) (k1 := 0) (k2 := 0) (k3 := 1) (k4 := 2) (m1 := rC (.int 6)) (m2 := b2 dAdd (rN 3) (rC (.int 1))) (n2 := w + 1) (st := s2) rfl (fun _ => rfl) (fun s => by rw [ap_b2, ap_rN, g3]; rfl) (by decide) (by decide) (by omega) (by omega) (by have := a1.2; have := a2.2; omega)
  obtain ⟨d, s4, f4, hd2, a4⟩ := one_call (ρ := [some (.val (.obj 0)), some (.val (.int a)), some (.val (.int b)), some (.val (.int w)), some (.val (.int lo))]) (st := s2) rfl f3 (by simp) (by simp) (by have := a1.2; have := a2.2; have := a3.2; omega)
  obtain ⟨g, rfl, g0⟩ : ∃ g, d = .int g ∧ 0 ≤ g := by
    simp only [List.mem_cons, List.not_mem_nil, or_false] at hd2
    rcases hd2 with rfl | rfl | rfl | rfl | rfl | rfl
    · exact ⟨0, rfl, by decide⟩
    · exact ⟨0, rfl, by decide⟩
    · exact ⟨1, rfl, by decide⟩
    · exact ⟨2, rfl, by decide⟩
    · exact ⟨u, rfl, u0⟩
    · exact ⟨v, rfl, v0⟩
  refine ⟨lo, if lo + g < 99 then lo + g else 99, s4, ?_, lo0, by split <;> omega, by split <;> omega, (((a1.trans a2).trans a3).trans a4).le (by omega)⟩
  have g4 : gv 4 [some (.val (.obj 0)), some (.val (.int a)), some (.val (.int b)), some (.val (.int w)), some (.val (.int lo))] = some (.int lo) := rfl
  have g1 : gv 1 [some (.val (.obj 0)), some (.val (.int a)), some (.val (.int b)), some (.val (.int w)), some (.val (.int lo))] = some (.int a) := rfl
  have g2 : gv 2 [some (.val (.obj 0)), some (.val (.int a)), some (.val (.int b)), some (.val (.int w)), some (.val (.int lo))] = some (.int b) := rfl
  unfold F__law_draw_road m__law_draw_road
  refine endV_rt (run2s (ρ1 := [some (.val (.obj 0)), some (.val (.int a)), some (.val (.int b)), some (.val (.int w)), some (.val (.int lo))]) (s1 := s2) (by rw [ap_mSet, f2]; rfl) ?_)
  rw [ap_sRt, ap_rTup]
  simp only [ap_rCons, ap_rN, g1, g2, g4, Option.map_some, Option.bind_some, ap_cb, ap_rC, ap_b2, f4, dAdd_int, ap_rNil, dMin2, sz_4]
  rfl
/-- a comprehension whose items draw: each item has its answer -/
theorem lcG_st2 {item : D → Rho → Mo PenS (List D)} {ρ : Rho} {α : Type} {g : α → D} {R : α → D → Prop} {k : Nat} : ∀ {xs : List α} {st : PenS}, (∀ x ∈ xs, ∀ u : PenS, u.at_ ≤ far → ∃ y u2, item (g x) ρ u = some ([y], u2) ∧ R x y ∧ Adv k u u2) → st.at_ + k * xs.length ≤ far →
    ∃ ys st2, lcG item (xs.map g) ρ st = some (ys, st2) ∧ ys.length = xs.length ∧ ((∀ y ∈ ys, ∃ x ∈ xs, R x y) ∧ (∀ x ∈ xs, ∃ y ∈ ys, R x y) ∧ Adv (k * xs.length) st st2)
  | [], st, _, _ => ⟨[], st, rfl, rfl, ⟨fun _ h => (nomatch h), fun _ h => (nomatch h), (Adv.refl st).le (by omega)⟩⟩
  | x :: xs, st, h, hb => by
    rw [List.length_cons, Nat.mul_add, Nat.mul_one] at hb
    obtain ⟨y, s1, e1, r1, a1⟩ := h x List.mem_cons_self st (by omega)
    obtain ⟨ys, s2, e2, l2, r2, r3, a2⟩ := lcG_st2 (st := s1) (fun z hz => h z (List.mem_cons_of_mem _ hz)) (by have := a1.2; omega)
    refine ⟨y :: ys, s2, ?_, by rw [List.length_cons, l2, List.length_cons], ⟨fun z hz => ?_, fun z hz => ?_, (a1.trans a2).le (by rw [List.length_cons, Nat.mul_add]; omega)⟩⟩
    · rw [List.map_cons]
      unfold lcG
      simp only [ap_bd, e1, Option.bind_some, e2, ap_rt]
      rfl
    · rcases List.mem_cons.mp hz with rfl | hz
      · exact ⟨x, List.mem_cons_self, r1⟩
      · obtain ⟨q, h1, h2⟩ := r2 z hz
        exact ⟨q, List.mem_cons_of_mem _ h1, h2⟩
    · rcases List.mem_cons.mp hz with rfl | hz
      · exact ⟨y, List.mem_cons_self, r1⟩
      · obtain ⟨q, h1, h2⟩ := r3 z hz
        exact ⟨q, List.mem_cons_of_mem _ h1, h2⟩
def JP (k : Int) (ps : List (Int × Int)) : Prop := ∀ x : Int, 0 ≤ x → x < k → Conn ps 0 x
def pD (p : Int × Int) : D := .tup [.int p.1, .int p.2]
def PL (n : Int) (ps : List (Int × Int)) : Prop := ∀ p ∈ ps, 0 ≤ p.1 ∧ p.1 < p.2 ∧ p.2 < n
/-- the slots of _law_draw_web -/
def dwS (h m w n : Int) (a6 a7 : Option Sl) (pairs : List (Int × Int)) (a8 a9 a10 : Option Sl) : Rho := [some (.val (.obj 0)), some (.val (.int h)), some (.val (.int m)), some (.val (.int w)), some (.val (.int n)), some (.own (pairs.map pD)), a6, a7, a8, a9, a10]
theorem ins_mem {ps : List (Int × Int)} {k : Nat} {q p : Int × Int} (h : p ∈ ps.take k ++ [q] ++ ps.drop k) : p ∈ ps ∨ p = q := by
  rcases List.mem_append.mp h with h | h
  · rcases List.mem_append.mp h with h | h
    · exact .inl (List.mem_of_mem_take h)
    · simp at h; exact .inr h
  · exact .inl (List.mem_of_mem_drop h)
def addB : Ms PenS := sq (mSet 7 (mCall 2 F__law_take (rCons (rN 0) (rCons (b2 dSub (rN 4) (rC (.int 1))) rNil))))
  (mIns 5 (rCons (mCall 2 F__law_take (rCons (rN 0) (rCons (b2 dAdd (cb dLen (rCons (rO 5) rNil)) (rC (.int 1))) rNil))) (rCons (rTup (rCons (rN 7) (rCons (b2 dAdd (b2 dAdd (rN 7) (rC (.int 1))) (mCall 2 F__law_take (rCons (rN 0) (rCons (b2 dSub (b2 dSub (rN 4) (rC (.int 1))) (rN 7)) rNil)))) rNil))) rNil)))
theorem ins_sub2 {α : Type} {rs : List α} {K : Nat} {r z : α} (h : z ∈ rs) : z ∈ rs.take K ++ [r] ++ rs.drop K := by
  rw [← List.take_append_drop K rs] at h
  rcases List.mem_append.mp h with q | q
  · exact List.mem_append_left _ (List.mem_append_left _ q)
  · exact List.mem_append_right _ q
theorem add_step {h m w n : Int} {d : D} {ps : List (Int × Int)} {a6 a7 : Option Sl} {r : Nat} {u : PenS} (hn : 1 < n) (hn6 : n ≤ 6) (hp : PL n ps ∧ ps.length + (r + 1) ≤ 10) (hu : u.at_ ≤ far) :
    ∃ (x2 : List (Int × Int) × Option Sl × Option Sl) (ρ1 : Rho) (u2 : PenS), bName 6 d (dwS h m w n a6 a7 ps none none none) = some ρ1 ∧ addB ρ1 u = some (.nx (dwS h m w n x2.2.1 x2.2.2 x2.1 none none none) u2) ∧ (PL n x2.1 ∧ x2.1.length + r ≤ 10 ∧ (∀ xs, x2.2.2 ≠ some (.own xs)) ∧ ∀ p ∈ ps, p ∈ x2.1) ∧ Adv 3 u u2 := by
  have hu : u.at_ ≤ 2147483000 := hu
  have g4 : ∀ x y, gv 4 (dwS h m w n x y ps none none none) = some (.int n) := fun _ _ => rfl
  have g7 : ∀ x y, gv 7 (dwS h m w n x (some (.val y)) ps none none none) = some y := fun _ _ => rfl
  have o5 : ∀ x y, go 5 (dwS h m w n x y ps none none none) = some (.lst (ps.map pD)) := fun _ _ => rfl
  have w5 : ∀ x y, owned 5 (dwS h m w n x y ps none none none) = some (ps.map pD) := fun _ _ => rfl
  obtain ⟨A, u1, e1, A0, A1, ad1⟩ := take_call (ρ := dwS h m w n (some (.val d)) a7 ps none none none) (m := b2 dSub (rN 4) (rC (.int 1))) (n := n - 1) (st := u) (st1 := u) rfl (by rw [ap_b2, ap_rN, g4]; rfl) (by omega) (by omega) (by omega)
  have p1 := ad1.2
  obtain ⟨L, hL⟩ : ∃ L : Int, (ps.length : Int) = L := ⟨_, rfl⟩
  obtain ⟨K, u2, e2, K0, K1, ad2⟩ := take_call (ρ := dwS h m w n (some (.val d)) (some (.val (.int A))) ps none none none) (m := b2 dAdd (cb dLen (rCons (rO 5) rNil)) (rC (.int 1))) (n := L + 1) (st := u1) (st1 := u1) rfl (by
    have : (rCons (rO 5) rNil) (dwS h m w n (some (.val d)) (some (.val (.int A))) ps none none none) u1 = some ([.lst (ps.map pD)], u1) := by rw [ap_rCons, ap_rO, o5]; rfl
    rw [ap_b2, ap_cb, this, Option.bind_some, dLen_lst, List.length_map, hL]
    rfl) (by omega) (by omega) (by omega)
  have p2 := ad2.2
  obtain ⟨C, u3, e3, C0, C1, ad3⟩ := take_call (ρ := dwS h m w n (some (.val d)) (some (.val (.int A))) ps none none none) (m := b2 dSub (b2 dSub (rN 4) (rC (.int 1))) (rN 7)) (n := n - 1 - A) (st := u2) (st1 := u2) rfl (by
    simp only [ap_b2, ap_rN, g4, g7, ap_rC, Option.map_some, Option.bind_some, dSub_int]) (by omega) (by omega) (by omega)
  have em : (rCons (mCall 2 F__law_take (rCons (rN 0) (rCons (b2 dAdd (cb dLen (rCons (rO 5) rNil)) (rC (.int 1))) rNil))) (rCons (rTup (rCons (rN 7) (rCons (b2 dAdd (b2 dAdd (rN 7) (rC (.int 1))) (mCall 2 F__law_take (rCons (rN 0) (rCons (b2 dSub (b2 dSub (rN 4) (rC (.int 1))) (rN 7)) rNil)))) rNil))) rNil)) (dwS h m w n (some (.val d)) (some (.val (.int A))) ps none none none) u1 = some ([.int K, pD (A, A + 1 + C)], u3) := by
    rw [ap_rCons, e2, Option.bind_some, ap_rCons, ap_rTup, ap_rCons, ap_rN, g7, Option.map_some, Option.bind_some, ap_rCons, ap_b2, ap_b2, ap_rN, g7]
    simp only [Option.map_some, Option.bind_some, ap_rC, dAdd_int, e3, ap_rNil, sz_2]
    rfl
  have hz : (ps.map pD).length < sizeLine := by rw [List.length_map]; exact Nat.lt_of_lt_of_le (by omega : ps.length < 11) (by decide)
  refine ⟨(ps.take K.toNat ++ [(A, A + 1 + C)] ++ ps.drop K.toNat, some (.val d), some (.val (.int A))), _, u3, rfl, ?_, ⟨fun p hp2 => ?_, ?_, (fun xs z => by cases z), fun p hp => ins_sub2 hp⟩, ((ad1.trans ad2).trans ad3).le (by omega)⟩
  · show addB (dwS h m w n (some (.val d)) a7 ps none none none) u = _
    refine run2s (ρ1 := dwS h m w n (some (.val d)) (some (.val (.int A))) ps none none none) (s1 := u1) (by rw [ap_mSet, e1]; rfl) ?_
    unfold mIns
    rw [w5]
    simp only [hz, if_true, em]
    have ok : (0 ≤ K && decide (K < 2 ^ 63)) = true := by simp only [Bool.and_eq_true, decide_eq_true_eq]; omega
    rw [if_pos ok]
    simp [dwS, List.map_append, List.map_take, List.map_drop]
  · rcases ins_mem hp2 with h | h
    · exact hp.1 p h
    · subst h
      exact ⟨A0, by show A < A + 1 + C; omega, by show A + 1 + C < n; omega⟩
  · have := hp.2
    simp only [List.length_append, List.length_take, List.length_drop, List.length_singleton]
    omega
def nmB : Ms PenS := mIns 8 (rCons (mCall 2 F__law_take (rCons (rN 0) (rCons (b2 dAdd (rN 9) (rC (.int 1))) rNil))) (rCons (rN 9) rNil))
theorem names_loop3 {h m w n : Int} {a6 a7 : Option Sl} {ps : List (Int × Int)} : ∀ (mm : Nat) {k : Int} {ns : List Int} {a9 : Option Sl} {u : PenS}, Nm k ns → k + mm ≤ 6 → u.at_ + mm ≤ far →
    ∃ ns2 b9 u2, loopD (bName 9) nmB (rngD k mm) (dwS h m w n a6 a7 ps (some (.own (ns.map .int))) a9 none) u = some (.nx (dwS h m w n a6 a7 ps (some (.own (ns2.map .int))) b9 none) u2) ∧ Nm (k + mm) ns2 ∧ Adv mm u u2
  | 0, k, ns, a9, u, hN, _, _ => ⟨ns, a9, u, by unfold rngD; rfl, by simpa using hN, Adv.refl u⟩
  | mm + 1, k, ns, a9, u, hN, hk, hu => by
    have hf : u.at_ + (mm + 1) ≤ 2147483000 := hu
    have g9 : gv 9 (dwS h m w n a6 a7 ps (some (.own (ns.map .int))) (some (.val (.int k))) none) = some (.int k) := rfl
    have w8 : owned 8 (dwS h m w n a6 a7 ps (some (.own (ns.map .int))) (some (.val (.int k))) none) = some (ns.map .int) := rfl
    have hl := hN.len
    obtain ⟨K, u1, e1, K0, K1, ad⟩ := take_call (ρ := dwS h m w n a6 a7 ps (some (.own (ns.map .int))) (some (.val (.int k))) none) (m := b2 dAdd (rN 9) (rC (.int 1))) (n := k + 1) (st := u) (st1 := u) rfl (by simp only [ap_b2, ap_rN, g9, ap_rC, Option.map_some, Option.bind_some, dAdd_int]) (by omega) (by omega) (by omega)
    have p1 := ad.2
    have em : (rCons (mCall 2 F__law_take (rCons (rN 0) (rCons (b2 dAdd (rN 9) (rC (.int 1))) rNil))) (rCons (rN 9) rNil)) (dwS h m w n a6 a7 ps (some (.own (ns.map .int))) (some (.val (.int k))) none) u = some ([.int K, .int k], u1) := by
      rw [ap_rCons, e1, Option.bind_some, ap_rCons, ap_rN, g9]
      rfl
    have hz : (ns.map D.int).length < sizeLine := by rw [List.length_map]; exact Nat.lt_of_lt_of_le (by omega : ns.length < 11) (by decide)
    have ok : (0 ≤ K && decide (K < 2 ^ 63)) = true := by simp only [Bool.and_eq_true, decide_eq_true_eq]; omega
    have st : nmB (dwS h m w n a6 a7 ps (some (.own (ns.map .int))) (some (.val (.int k))) none) u = some (.nx (dwS h m w n a6 a7 ps (some (.own ((ns.take K.toNat ++ [k] ++ ns.drop K.toNat).map .int))) (some (.val (.int k))) none) u1) := by
      unfold nmB mIns
      rw [w8]
      simp only [hz, if_true, em]
      rw [if_pos ok]
      simp [dwS, List.map_append, List.map_take, List.map_drop]
    obtain ⟨ns2, b9, u2, e2, h2, ad2⟩ := names_loop3 (h := h) (m := m) (w := w) (n := n) (a6 := a6) (a7 := a7) (ps := ps) mm (a9 := some (.val (.int k))) (u := u1) (hN.ins K.toNat) (by omega) (by show u1.at_ + mm ≤ 2147483000; omega)
    refine ⟨ns2, b9, u2, ?_, by rw [show k + ((mm + 1 : Nat) : Int) = k + 1 + (mm : Int) by omega]; exact h2, (ad.trans ad2).le (by omega)⟩
    rw [rngD_cons]
    unfold loopD
    have eb : bName 9 (.int k) (dwS h m w n a6 a7 ps (some (.own (ns.map .int))) a9 none) = some (dwS h m w n a6 a7 ps (some (.own (ns.map .int))) (some (.val (.int k))) none) := rfl
    rw [eb]
    simp only [st, e2]

/-! ### roads between renamed houses -/
def swp (ns : List Int) (p : Int × Int) : Int × Int := (min (ns.getD p.1.toNat 0) (ns.getD p.2.toNat 0), max (ns.getD p.1.toNat 0) (ns.getD p.2.toNat 0))
theorem swp_PL {n : Int} {ns : List Int} (h : Nm n ns) {p : Int × Int} (hp : 0 ≤ p.1 ∧ p.1 < p.2 ∧ p.2 < n) : 0 ≤ (swp ns p).1 ∧ (swp ns p).1 < (swp ns p).2 ∧ (swp ns p).2 < n := by
  have hl := h.len
  have l1 : p.1.toNat < ns.length := by omega
  have l2 : p.2.toNat < ns.length := by omega
  have r1 := h.rg _ (List.getElem_mem l1)
  have r2 := h.rg _ (List.getElem_mem l2)
  have ne : ns[p.1.toNat] ≠ ns[p.2.toNat] := fun z => by
    have := (List.getElem_inj h.nd (i := p.1.toNat) (j := p.2.toNat) (h₀ := l1) (h₁ := l2)).mp z
    omega
  have e1 : ns.getD p.1.toNat 0 = ns[p.1.toNat] := by simp [List.getD, List.getElem?_eq_getElem l1]
  have e2 : ns.getD p.2.toNat 0 = ns[p.2.toNat] := by simp [List.getD, List.getElem?_eq_getElem l2]
  unfold swp
  rw [e1, e2]
  generalize ns[p.1.toNat] = x at *
  generalize ns[p.2.toNat] = y at *
  simp only
  omega
/-- pairs = [(min(..), max(..)) for a, b in pairs] -/
theorem swap_ev {h m w n : Int} {ns : List Int} {ps : List (Int × Int)} {a6 a7 a9 : Option Sl} {u : PenS} (hN : Nm n ns) (hp : PL n ps) (hl : ps.length ≤ 10) (hn : ∀ xs, a7 ≠ some (.own xs)) :
    (mLc (rSeq (rN 5)) [7, 10] (item1 (bTup (bCons (bName 7) (bCons (bName 10) bNil))) qYes (one (rTup (rCons (cb dMin (rCons (b2 dIx (rO 8) (rN 7)) (rCons (b2 dIx (rO 8) (rN 10)) rNil))) (rCons (cb dMax (rCons (b2 dIx (rO 8) (rN 7)) (rCons (b2 dIx (rO 8) (rN 10)) rNil))) rNil)))))) (relE 5 (dwS h m w n a6 a7 ps (some (.own (ns.map .int))) a9 none)) u = some ((ps.map (swp ns)).map pD, u) := by
  have e0 : relE 5 (dwS h m w n a6 a7 ps (some (.own (ns.map .int))) a9 none) = [some (.val (.obj 0)), some (.val (.int h)), some (.val (.int m)), some (.val (.int w)), some (.val (.int n)), some (.val (.lst (ps.map pD))), a6, a7, some (.own (ns.map .int)), a9, none] := rfl
  rw [e0]
  have item : ∀ p ∈ ps, item1 (bTup (bCons (bName 7) (bCons (bName 10) bNil))) qYes (one (rTup (rCons (cb dMin (rCons (b2 dIx (rO 8) (rN 7)) (rCons (b2 dIx (rO 8) (rN 10)) rNil))) (rCons (cb dMax (rCons (b2 dIx (rO 8) (rN 7)) (rCons (b2 dIx (rO 8) (rN 10)) rNil))) rNil)))) (pD p) [some (.val (.obj 0)), some (.val (.int h)), some (.val (.int m)), some (.val (.int w)), some (.val (.int n)), some (.val (.lst (ps.map pD))), a6, none, some (.own (ns.map .int)), a9, none] u = some ([pD (swp ns p)], u) := fun p hpp => by
    obtain ⟨h1, h2, h3⟩ := hp p hpp
    have i1 := atI_get hN.len (x := p.1) ⟨h1, by omega⟩
    have i2 := atI_get hN.len (x := p.2) ⟨by omega, h3⟩
    simp [gv, go, pD, i1, i2, dMin_eq, dMax_eq, swp, -List.getD_eq_getElem?_getD]
  have cl : clean [7, 10] [some (.val (.obj 0)), some (.val (.int h)), some (.val (.int m)), some (.val (.int w)), some (.val (.int n)), some (.val (.lst (ps.map pD))), a6, a7, some (.own (ns.map .int)), a9, none] = true := by
    cases a7 with
    | none => rfl
    | some l => cases l with
      | val d => rfl
      | own xs => exact absurd rfl (hn xs)
  have e4 : (rSeq (rN 5)) [some (.val (.obj 0)), some (.val (.int h)), some (.val (.int m)), some (.val (.int w)), some (.val (.int n)), some (.val (.lst (ps.map pD))), a6, a7, some (.own (ns.map .int)), a9, none] u = some (ps.map pD, u) := rfl
  have wi : wipeE [some (.val (.obj 0)), some (.val (.int h)), some (.val (.int m)), some (.val (.int w)), some (.val (.int n)), some (.val (.lst (ps.map pD))), a6, a7, some (.own (ns.map .int)), a9, none] [7, 10] = [some (.val (.obj 0)), some (.val (.int h)), some (.val (.int m)), some (.val (.int w)), some (.val (.int n)), some (.val (.lst (ps.map pD))), a6, none, some (.own (ns.map .int)), a9, none] := rfl
  rw [ap_mLc, cl, if_pos rfl, e4, Option.bind_some, wi]
  simp only
  rw [lcG_map item, flat_one, Option.bind_some]
  rw [show (ps.map fun p => pD (swp ns p)) = (ps.map (swp ns)).map pD by rw [List.map_map]; rfl]
  rw [sz_eq (by rw [List.length_map, List.length_map]; exact Nat.le_trans hl (by decide))]
  rfl
theorem pairs_of {n : Int} {ys : List D} (hN : ∀ y ∈ ys, ∃ p : Int × Int, y = pD p ∧ 0 ≤ p.1 ∧ p.1 < p.2 ∧ p.2 < n) : ∃ ps : List (Int × Int), ys = ps.map pD ∧ PL n ps := by
  induction ys with
  | nil => exact ⟨[], rfl, fun r hN => (nomatch hN)⟩
  | cons y ys ih =>
    obtain ⟨p, rfl, g⟩ := hN y List.mem_cons_self
    obtain ⟨ps, rfl, gs⟩ := ih fun z hz => hN z (List.mem_cons_of_mem _ hz)
    refine ⟨p :: ps, rfl, fun q hq => ?_⟩
    rcases List.mem_cons.mp hq with rfl | hq
    · exact g
    · exact gs q hq
def r0S (h m w : Int) : Rho := [some (.val (.obj 0)), some (.val (.int h)), some (.val (.int m)), some (.val (.int w)), none, none, none, none, none, none, none]
def r1S (h m w n : Int) : Rho := [some (.val (.obj 0)), some (.val (.int h)), some (.val (.int m)), some (.val (.int w)), some (.val (.int n)), none, none, none, none, none, none]
/-- the first roads: house by house -/
theorem pairs_ev {h m w n : Int} {u : PenS} (h1 : 1 ≤ n) (h6 : n ≤ 6) (hu : u.at_ + 10 ≤ far) : ∃ ps u2, (mOwn 5 (mLc (cb rng2 (rCons (rC (.int 1)) (rCons (rN 4) rNil))) [9] (item1 (bName 9) qYes (one (rTup (rCons (mCall 2 F__law_take (rCons (rN 0) (rCons (rN 9) rNil))) (rCons (rN 9) rNil))))))) (r1S h m w n) u = some (.nx (dwS h m w n none none ps none none none) u2) ∧ PL n ps ∧ ps.length ≤ 5 ∧ JP n ps ∧ Adv 5 u u2 := by
  have hf : u.at_ + 10 ≤ 2147483000 := hu
  have g4 : gv 4 (r1S h m w n) = some (.int n) := rfl
  have e1 : (cb rng2 (rCons (rC (.int 1)) (rCons (rN 4) rNil))) (r1S h m w n) u = some (rngD 1 (n - 1).toNat, u) := by
    have : (rCons (rC (.int 1)) (rCons (rN 4) rNil)) (r1S h m w n) u = some ([.int 1, .int n], u) := by rw [ap_rCons, ap_rC, Option.bind_some, ap_rCons, ap_rN, g4]; rfl
    rw [ap_cb, this, Option.bind_some, rng2_int h1 h6]
    rfl
  obtain ⟨ys, u2, e2, l2, r2, r3, ad⟩ := lcG_st2 (ρ := r1S h m w n) (item := item1 (bName 9) qYes (one (rTup (rCons (mCall 2 F__law_take (rCons (rN 0) (rCons (rN 9) rNil))) (rCons (rN 9) rNil))))) (g := D.int) (R := fun H y => ∃ x, y = pD (x, H) ∧ 0 ≤ x ∧ x < H) (k := 1) (xs := (List.range (n - 1).toNat).map fun (i : Nat) => 1 + (i : Int)) (st := u) (fun hq hh v hv => by
    have hv : v.at_ ≤ 2147483000 := hv
    obtain ⟨i, hi, rfl⟩ := List.mem_map.mp hh
    rw [List.mem_range] at hi
    generalize hH : (1 : Int) + (i : Int) = H
    have g9 : gv 9 [some (.val (.obj 0)), some (.val (.int h)), some (.val (.int m)), some (.val (.int w)), some (.val (.int n)), none, none, none, none, some (.val (.int H)), none] = some (.int H) := rfl
    obtain ⟨x, v2, e, x0, x1, ad⟩ := take_call (ρ := [some (.val (.obj 0)), some (.val (.int h)), some (.val (.int m)), some (.val (.int w)), some (.val (.int n)), none, none, none, none, some (.val (.int H)), none]) (m := rN 9) (n := H) (st := v) (st1 := v) rfl (by rw [ap_rN, g9]; rfl) (by omega) (by omega) (by omega)
    refine ⟨pD (x, H), v2, ?_, ⟨x, rfl, x0, x1⟩, ad⟩
    rw [ap_item1]
    show tst qYes (one (rTup (rCons (mCall 2 F__law_take (rCons (rN 0) (rCons (rN 9) rNil))) (rCons (rN 9) rNil)))) [some (.val (.obj 0)), some (.val (.int h)), some (.val (.int m)), some (.val (.int w)), some (.val (.int n)), none, none, none, none, some (.val (.int H)), none] v = _
    rw [ap_tst, ap_qYes, Option.bind_some, if_pos rfl, ap_one, ap_rTup, ap_rCons, e, Option.bind_some, ap_rCons, ap_rN, g9]
    simp only [Option.map_some, Option.bind_some, ap_rNil, sz_2]
    rfl) (by show _ ≤ 2147483000; rw [List.length_map, List.length_range]; omega)
  rw [List.length_map, List.length_range] at l2 ad
  obtain ⟨ps, rfl, hps⟩ := pairs_of (n := n) (ys := ys) fun y hy => by
    obtain ⟨hq, hh, x, rfl, x0, x1⟩ := r2 y hy
    obtain ⟨i, hi, rfl⟩ := List.mem_map.mp hh
    rw [List.mem_range] at hi
    exact ⟨_, rfl, x0, x1, by show 1 + (i : Int) < n; omega⟩
  rw [List.length_map] at l2
  have jp : ∀ (k : Nat) (x : Int), 0 ≤ x → x < n → x.toNat ≤ k → Conn ps 0 x := fun k => by
    induction k with
    | zero => intro x x0 _ xk; rw [show x = 0 by omega]; exact .refl _
    | succ k ih =>
      intro x x0 x1 xk
      by_cases q : x = 0
      · rw [q]; exact .refl _
      · obtain ⟨y, hy, z, ez, z0, z1⟩ := r3 x (List.mem_map.mpr ⟨(x - 1).toNat, List.mem_range.mpr (by omega), by omega⟩)
        obtain ⟨p, hp, ep⟩ := List.mem_map.mp hy
        rw [ez] at ep
        have ep : p = (z, x) := by
          unfold pD at ep
          injection ep with ep
          injection ep with e1 e2
          injection e2 with e2 _
          injection e1 with e1
          injection e2 with e2
          exact Prod.ext e1 e2
        rw [ep] at hp
        exact (ih z z0 (by omega) (by omega)).trans (Conn.of_edge hp)
  refine ⟨ps, u2, ?_, hps, by omega, fun x x0 x1 => jp x.toNat x x0 x1 (Nat.le_refl _), ad.le (by omega)⟩
  have e3 : (mLc (cb rng2 (rCons (rC (.int 1)) (rCons (rN 4) rNil))) [9] (item1 (bName 9) qYes (one (rTup (rCons (mCall 2 F__law_take (rCons (rN 0) (rCons (rN 9) rNil))) (rCons (rN 9) rNil)))))) (r1S h m w n) u = some (ps.map pD, u2) := by
    rw [ap_mLc]
    show (if true = true then _ else none) = _
    rw [if_pos rfl, e1, Option.bind_some, rngD_map]
    show (lcG _ (((List.range (n - 1).toNat).map fun (i : Nat) => 1 + (i : Int)).map D.int) (r1S h m w n) u).bind _ = _
    rw [e2, Option.bind_some, sz_eq (by rw [List.length_map]; exact Nat.le_trans (by omega : ps.length ≤ 10) (by decide))]
    rfl
  rw [ap_mOwn, e3]
  rfl
def rdI : D → Rho → Mo PenS (List D) := item1 (bTup (bCons (bName 7) (bCons (bName 10) bNil))) qYes (one (mCall 4 (F__law_draw_road F__law_take) (rCons (rN 0) (rCons (rN 7) (rCons (rN 10) (rCons (rN 3) rNil))))))
def rS (h m w n : Int) (a6 : Option Sl) (ps : List (Int × Int)) (a8 a9 : Option Sl) : Rho := [some (.val (.obj 0)), some (.val (.int h)), some (.val (.int m)), some (.val (.int w)), some (.val (.int n)), some (.val (.lst (ps.map pD))), a6, none, a8, a9, none]
theorem roads_ev {h m w n : Int} {ps : List (Int × Int)} {a6 a7 a8 a9 : Option Sl} {u : PenS} (hp : PL n ps) (hl : ps.length ≤ 10) (hn : ∀ xs, a7 ≠ some (.own xs)) (w0 : 0 ≤ w) (w1 : w < 1000) (hu : u.at_ + 60 ≤ far) :
    ∃ (rs : List Row) (u2 : PenS), (mLc (rSeq (rN 5)) [7, 10] rdI) (relE 5 (dwS h m w n a6 a7 ps a8 a9 none)) u = some (rs.map rowD, u2) ∧ rs.length ≤ 10 ∧ (∀ r ∈ rs, GoodR n r) ∧ (∀ p ∈ ps, ∃ r ∈ rs, edg r = p) ∧ Adv 60 u u2 := by
  have hf : u.at_ + 60 ≤ 2147483000 := hu
  have e0 : relE 5 (dwS h m w n a6 a7 ps a8 a9 none) = [some (.val (.obj 0)), some (.val (.int h)), some (.val (.int m)), some (.val (.int w)), some (.val (.int n)), some (.val (.lst (ps.map pD))), a6, a7, a8, a9, none] := rfl
  have cl : clean [7, 10] [some (.val (.obj 0)), some (.val (.int h)), some (.val (.int m)), some (.val (.int w)), some (.val (.int n)), some (.val (.lst (ps.map pD))), a6, a7, a8, a9, none] = true := by
    cases a7 with
    | none => rfl
    | some l => cases l with
      | val d => rfl
      | own xs => exact absurd rfl (hn xs)
  have e4 : (rSeq (rN 5)) [some (.val (.obj 0)), some (.val (.int h)), some (.val (.int m)), some (.val (.int w)), some (.val (.int n)), some (.val (.lst (ps.map pD))), a6, a7, a8, a9, none] u = some (ps.map pD, u) := rfl
  have wi : wipeE [some (.val (.obj 0)), some (.val (.int h)), some (.val (.int m)), some (.val (.int w)), some (.val (.int n)), some (.val (.lst (ps.map pD))), a6, a7, a8, a9, none] [7, 10] = rS h m w n a6 ps a8 a9 := rfl
  obtain ⟨ys, u2, e2, l2, r2, r3, ad⟩ := lcG_st2 (ρ := rS h m w n a6 ps a8 a9) (item := rdI) (g := pD) (R := fun p y => ∃ lo hi, y = rowD (p.1, p.2, lo, hi) ∧ 0 ≤ lo ∧ lo ≤ hi ∧ hi ≤ 99) (k := 6) (xs := ps) (st := u) (fun p hpp v hv => by
    have hv : v.at_ ≤ 2147483000 := hv
    obtain ⟨x, y⟩ := p
    obtain ⟨lo, hi, v2, e, q1, q2, q3, ad⟩ := draw_road_ev (a := x) (b := y) (w := w) (st := v) w0 w1 (by omega)
    refine ⟨_, v2, ?_, ⟨lo, hi, rfl, q1, q2, q3⟩, ad⟩
    unfold rdI
    rw [ap_item1]
    show tst qYes (one (mCall 4 (F__law_draw_road F__law_take) (rCons (rN 0) (rCons (rN 7) (rCons (rN 10) (rCons (rN 3) rNil)))))) [some (.val (.obj 0)), some (.val (.int h)), some (.val (.int m)), some (.val (.int w)), some (.val (.int n)), some (.val (.lst (ps.map pD))), a6, some (.val (.int x)), a8, a9, some (.val (.int y))] v = _
    have ea : (rCons (rN 0) (rCons (rN 7) (rCons (rN 10) (rCons (rN 3) rNil)))) [some (.val (.obj 0)), some (.val (.int h)), some (.val (.int m)), some (.val (.int w)), some (.val (.int n)), some (.val (.lst (ps.map pD))), a6, some (.val (.int x)), a8, a9, some (.val (.int y))] v = some ([.obj 0, .int x, .int y, .int w], v) := rfl
    rw [ap_tst, ap_qYes, Option.bind_some, if_pos rfl, ap_one, ap_mCall, ea, Option.bind_some]
    show (F__law_draw_road F__law_take [.obj 0, .int x, .int y, .int w] v).bind _ = _
    rw [e]
    rfl) (by show _ ≤ 2147483000; omega)
  obtain ⟨rs, rfl, hrs⟩ := rows_of (n := n) (ys := ys) fun y hy => by
    obtain ⟨p, hpp, lo, hi, rfl, q1, q2, q3⟩ := r2 y hy
    obtain ⟨h1, h2, h3⟩ := hp p hpp
    exact ⟨_, rfl, ⟨h1, h2, h3, q1, q2, q3⟩⟩
  rw [List.length_map] at l2
  refine ⟨rs, u2, ?_, by omega, hrs, fun p hp => ?_, ad.le (by omega)⟩
  rotate_left
  · obtain ⟨y, hy, lo, hi, ey, _⟩ := r3 p hp
    obtain ⟨r, hr, er⟩ := List.mem_map.mp hy
    refine ⟨r, hr, ?_⟩
    rw [ey] at er
    unfold rowD at er
    injection er with er
    injection er with e1 e2
    injection e2 with e2 _
    injection e1 with e1
    injection e2 with e2
    exact Prod.ext e1 e2
  rw [e0, ap_mLc, cl, if_pos rfl, e4, Option.bind_some, wi]
  simp only
  rw [e2, Option.bind_some, sz_eq (by rw [List.length_map]; exact Nat.le_trans (by omega : rs.length ≤ 10) (by decide))]
  rfl
theorem dMax1 (x : Int) : dMax [.int 1, .int x] = some (.int (max 1 x)) := dMax_eq 1 x
theorem dInt_bl (b : Bool) : dInt [.bl b] = some (.int (if b then 1 else 0)) := rfl
/-- more roads -/
theorem more_ev {h m w n : Int} {ps : List (Int × Int)} {u : PenS} (h1 : 1 ≤ n) (h6 : n ≤ 6) (hp : PL n ps) (hl : ps.length ≤ 5) (m0 : 0 ≤ m) (m10 : m ≤ 10) (hu : u.at_ + 60 ≤ far) :
    ∃ (ps2 : List (Int × Int)) (a6 a7 : Option Sl) (u2 : PenS), (mFor (cb rng1 (rCons (b2 dMul (mCall 2 F__law_take (rCons (rN 0) (rCons (cb dMax (rCons (rC (.int 1)) (rCons (b2 dAdd (b2 dSub (rN 2) (cb dLen (rCons (rO 5) rNil))) (rC (.int 1))) rNil))) rNil))) (cb dInt (rCons (b2 dGt (rN 4) (rC (.int 1))) rNil))) rNil)) (bName 6) addB) (dwS h m w n none none ps none none none) u = some (.nx (dwS h m w n a6 a7 ps2 none none none) u2) ∧ PL n ps2 ∧ ps2.length ≤ 10 ∧ (∀ xs, a7 ≠ some (.own xs)) ∧ (∀ p ∈ ps, p ∈ ps2) ∧ Adv 40 u u2 := by
  have hf : u.at_ + 60 ≤ 2147483000 := hu
  obtain ⟨L, hL⟩ : ∃ L : Int, (ps.length : Int) = L := ⟨_, rfl⟩
  have g2 : gv 2 (dwS h m w n none none ps none none none) = some (.int m) := rfl
  have g4 : gv 4 (dwS h m w n none none ps none none none) = some (.int n) := rfl
  have o5 : go 5 (dwS h m w n none none ps none none none) = some (.lst (ps.map pD)) := rfl
  obtain ⟨T, u1, e1, T0, T1, ad⟩ := take_call (ρ := dwS h m w n none none ps none none none) (m := cb dMax (rCons (rC (.int 1)) (rCons (b2 dAdd (b2 dSub (rN 2) (cb dLen (rCons (rO 5) rNil))) (rC (.int 1))) rNil))) (n := max 1 (m - L + 1)) (st := u) (st1 := u) rfl (by
    have e5 : (rCons (rO 5) rNil) (dwS h m w n none none ps none none none) u = some ([.lst (ps.map pD)], u) := by rw [ap_rCons, ap_rO, o5]; rfl
    have e6 : (cb dLen (rCons (rO 5) rNil)) (dwS h m w n none none ps none none none) u = some (.int L, u) := by rw [ap_cb, e5, Option.bind_some, dLen_lst, List.length_map, hL]; rfl
    have e7 : (b2 dAdd (b2 dSub (rN 2) (cb dLen (rCons (rO 5) rNil))) (rC (.int 1))) (dwS h m w n none none ps none none none) u = some (.int (m - L + 1), u) := by
      rw [ap_b2, ap_b2, ap_rN, g2, Option.map_some, Option.bind_some, e6, Option.bind_some]
      simp only [dSub_int, Option.map_some, Option.bind_some, ap_rC, dAdd_int]
    have e8 : (rCons (rC (.int 1)) (rCons (b2 dAdd (b2 dSub (rN 2) (cb dLen (rCons (rO 5) rNil))) (rC (.int 1))) rNil)) (dwS h m w n none none ps none none none) u = some ([.int 1, .int (m - L + 1)], u) := by
      rw [ap_rCons, ap_rC, Option.bind_some, ap_rCons, e7]
      rfl
    rw [ap_cb, e8, Option.bind_some, dMax1]
    rfl) (by omega) (by omega) (by omega)
  have p1 := ad.2
  have ei : (cb dInt (rCons (b2 dGt (rN 4) (rC (.int 1))) rNil)) (dwS h m w n none none ps none none none) u1 = some (.int (if decide (1 < n) then 1 else 0), u1) := by
    simp only [ap_cb, ap_rCons, ap_b2, ap_rN, g4, Option.map_some, Option.bind_some, ap_rC, dI_int, ap_rNil, dInt_bl]
  have em : ∀ z : Int, (z = 0 ∨ z = 1) → dMul (.int T) (.int z) = some (.int (T * z)) := fun z hz => dMul_l (small_i (by omega) (by omega))
  by_cases hn : 1 < n
  · have er : (cb rng1 (rCons (b2 dMul (mCall 2 F__law_take (rCons (rN 0) (rCons (cb dMax (rCons (rC (.int 1)) (rCons (b2 dAdd (b2 dSub (rN 2) (cb dLen (rCons (rO 5) rNil))) (rC (.int 1))) rNil))) rNil))) (cb dInt (rCons (b2 dGt (rN 4) (rC (.int 1))) rNil))) rNil)) (dwS h m w n none none ps none none none) u = some (rngD 0 T.toNat, u1) := by
      have : (rCons (b2 dMul (mCall 2 F__law_take (rCons (rN 0) (rCons (cb dMax (rCons (rC (.int 1)) (rCons (b2 dAdd (b2 dSub (rN 2) (cb dLen (rCons (rO 5) rNil))) (rC (.int 1))) rNil))) rNil))) (cb dInt (rCons (b2 dGt (rN 4) (rC (.int 1))) rNil))) rNil) (dwS h m w n none none ps none none none) u = some ([.int T], u1) := by
        rw [ap_rCons, ap_b2, e1, Option.bind_some, ei, Option.bind_some]
        simp only [hn, decide_true, if_true]
        rw [em 1 (.inr rfl), Int.mul_one]
        rfl
      rw [ap_cb, this, Option.bind_some, rng1_int T0 (by omega)]
      rfl
    obtain ⟨x2, u2, e3, p3, ad3⟩ := loopD_st (fun x : List (Int × Int) × Option Sl × Option Sl => dwS h m w n x.2.1 x.2.2 x.1 none none none) (fun r x => PL n x.1 ∧ x.1.length + r ≤ 10 ∧ (∀ xs, x.2.2 ≠ some (.own xs)) ∧ ∀ p ∈ ps, p ∈ x.1) (k := 3) (b := bName 6) (mb := addB) (ds := rngD 0 T.toNat) (a := (ps, none, none)) (st := u1) (fun x d r v _ hx hv => by
      obtain ⟨q, a6, a7⟩ := x
      obtain ⟨x2, ρ1, v2, f1, f2, f3, f4⟩ := add_step (d := d) (a6 := a6) (a7 := a7) (ps := q) (r := r) (u := v) hn h6 ⟨hx.1, hx.2.1⟩ hv
      exact ⟨x2, ρ1, v2, f1, f2, ⟨f3.1, f3.2.1, f3.2.2.1, fun p hp => f3.2.2.2 p (hx.2.2.2 p hp)⟩, f4⟩) (by
      refine ⟨hp, ?_, (fun xs z => by cases z), fun _ h => h⟩
      rw [rngD_len]
      show ps.length + T.toNat ≤ 10
      omega) (by rw [rngD_len]; show _ ≤ 2147483000; omega)
    rw [rngD_len] at ad3
    refine ⟨x2.1, x2.2.1, x2.2.2, u2, ?_, p3.1, by have := p3.2.1; omega, p3.2.2.1, p3.2.2.2, (ad.trans ad3).le (by omega)⟩
    rw [ap_mFor, er, Option.bind_some]
    exact e3
  · have er : (cb rng1 (rCons (b2 dMul (mCall 2 F__law_take (rCons (rN 0) (rCons (cb dMax (rCons (rC (.int 1)) (rCons (b2 dAdd (b2 dSub (rN 2) (cb dLen (rCons (rO 5) rNil))) (rC (.int 1))) rNil))) rNil))) (cb dInt (rCons (b2 dGt (rN 4) (rC (.int 1))) rNil))) rNil)) (dwS h m w n none none ps none none none) u = some (rngD 0 0, u1) := by
      have : (rCons (b2 dMul (mCall 2 F__law_take (rCons (rN 0) (rCons (cb dMax (rCons (rC (.int 1)) (rCons (b2 dAdd (b2 dSub (rN 2) (cb dLen (rCons (rO 5) rNil))) (rC (.int 1))) rNil))) rNil))) (cb dInt (rCons (b2 dGt (rN 4) (rC (.int 1))) rNil))) rNil) (dwS h m w n none none ps none none none) u = some ([.int 0], u1) := by
        rw [ap_rCons, ap_b2, e1, Option.bind_some, ei, Option.bind_some]
        simp only [hn, decide_false, Bool.false_eq_true, if_false]
        rw [em 0 (.inl rfl), Int.mul_zero]
        rfl
      rw [ap_cb, this, Option.bind_some, rng1_int (by decide) (by decide)]
      rfl
    refine ⟨ps, none, none, u1, ?_, hp, by omega, (fun xs z => by cases z), (fun _ h => h), ad.le (by omega)⟩
    rw [ap_mFor, er, Option.bind_some]
    rfl
def JK (k : Int) (rs : List Row) : Prop := ∀ x : Int, 0 ≤ x → x < k → Conn (rs.map edg) 0 x
theorem jk_join {n : Int} {rs : List Row} (h : JK n rs) : JoinR n rs := fun x hx => by
  refine (h (x : Int) (by omega) (by omega)).mono fun e he => ?_
  obtain ⟨r, hr, rfl⟩ := List.mem_map.mp he
  obtain ⟨i, hi, rfl⟩ := List.getElem_of_mem hr
  refine List.mem_map.mpr ⟨(i : Int), idx_mem.mpr ⟨by omega, by omega⟩, ?_⟩
  unfold edr edg
  have : rowZ rs (i : Int) = rs[i] := by
    unfold rowZ
    rw [Int.toNat_natCast, List.getD_eq_getElem?_getD, List.getElem?_eq_getElem hi]
    rfl
  rw [this]
theorem jp_names {n : Int} {ns : List Int} {ps : List (Int × Int)} (N : Nm n ns) (n1 : 1 ≤ n) (h : JP n ps) : JP n (ps.map (swp ns)) := by
  have mp : ∀ {x y : Int}, Conn ps x y → Conn (ps.map (swp ns)) (ns.getD x.toNat 0) (ns.getD y.toNat 0) := fun {x y} c => by
    induction c with
    | refl => exact .refl _
    | @step u v _ a ih =>
      refine ih.trans ?_
      have one : ∀ r ∈ ps, Conn (ps.map (swp ns)) (ns.getD r.1.toNat 0) (ns.getD r.2.toNat 0) := fun r hr => by
        have m : swp ns r ∈ ps.map (swp ns) := List.mem_map.mpr ⟨r, hr, rfl⟩
        have c := Conn.of_edge m
        unfold swp at c
        simp only at c
        by_cases h : ns.getD r.1.toNat 0 ≤ ns.getD r.2.toNat 0
        · rw [Int.min_eq_left h, Int.max_eq_right h] at c; exact c
        · rw [Int.min_eq_right (by omega), Int.max_eq_left (by omega)] at c; exact c.symm
      rcases a with a | a
      · exact one _ a
      · exact (one _ a).symm
  have on : ∀ x : Int, 0 ≤ x → x < n → ∃ y : Int, 0 ≤ y ∧ y < n ∧ ns.getD y.toNat 0 = x := fun x h0 h1 => by
    have l := N.len
    have := nodup_all (n := n.toNat) N.nd (fun y hy => by have := N.rg y hy; omega) (by omega) x h0 (by omega)
    obtain ⟨i, hi, e⟩ := List.getElem_of_mem this
    refine ⟨(i : Int), by omega, by omega, ?_⟩
    rw [Int.toNat_natCast, List.getD_eq_getElem?_getD, List.getElem?_eq_getElem hi]
    exact e
  obtain ⟨y0, a0, a1, e0⟩ := on 0 (by omega) (by omega)
  intro x h0 h1
  obtain ⟨y, b0, b1, e⟩ := on x h0 h1
  have c := mp ((h y0 a0 a1).symm.trans (h y b0 b1))
  rw [e0, e] at c
  exact c
theorem draw_web_ev3 {h m w : Int} {st : PenS} (h1 : 1 ≤ h) (h6 : h ≤ 6) (m0 : 0 ≤ m) (m10 : m ≤ 10) (w0 : 0 ≤ w) (w1 : w < 1000) (hu : st.at_ + 300 ≤ far) : ∃ (n : Int) (rs : List Row) (st2 : PenS), F__law_draw_web F__law_take [.obj 0, .int h, .int m, .int w] st = some (webD n rs, st2) ∧ Good n rs ∧ JoinR n rs ∧ Adv 200 st st2 := by
  have hf : st.at_ + 300 ≤ 2147483000 := hu
  obtain ⟨c, u1, e1, c0, c1, a1⟩ := take_call (ρ := (r0S h m w)) (m := rN 1) (n := h) (st := st) (st1 := st) rfl rfl (by omega) (by omega) (by omega)
  have q1 := a1.2
  generalize hn : 1 + c = n
  obtain ⟨ps, u2, e2, pl2, l2, jp2, a2⟩ := pairs_ev (h := h) (m := m) (w := w) (n := n) (u := u1) (by omega) (by omega) (by show _ ≤ 2147483000; omega)
  have q2 := a2.2
  obtain ⟨qs, a6, a7, u3, e3, pl3, l3, no7, sub3, a3⟩ := more_ev (h := h) (m := m) (w := w) (n := n) (ps := ps) (u := u2) (by omega) (by omega) pl2 l2 m0 m10 (by show _ ≤ 2147483000; omega)
  have q3 := a3.2
  obtain ⟨ns, b9, u4, e4, nm, a4⟩ := names_loop3 (h := h) (m := m) (w := w) (n := n) (a6 := a6) (a7 := a7) (ps := qs) n.toNat (k := 0) (ns := []) (a9 := none) (u := u3) ⟨rfl, List.nodup_nil, fun x h => (nomatch h)⟩ (by omega) (by show _ ≤ 2147483000; omega)
  have q4 := a4.2
  have nm : Nm n ns := by rw [show (0 : Int) + (n.toNat : Int) = n by omega] at nm; exact nm
  have pl5 : PL n (qs.map (swp ns)) := fun p hp => by
    obtain ⟨p', hp', rfl⟩ := List.mem_map.mp hp
    exact swp_PL nm (pl3 p' hp')
  have e5 := swap_ev (h := h) (m := m) (w := w) (a6 := a6) (a7 := a7) (a9 := b9) (u := u4) nm pl3 l3 no7
  obtain ⟨rs, u6, e6, l6, g6, cov, a6'⟩ := roads_ev (h := h) (m := m) (w := w) (n := n) (ps := qs.map (swp ns)) (a6 := a6) (a7 := a7) (a8 := some (.own (ns.map .int))) (a9 := b9) (u := u4) pl5 (by rw [List.length_map]; exact l3) no7 w0 w1 (by show _ ≤ 2147483000; omega)
  have jp3 : JP n qs := fun x x0 x1 => (jp2 x x0 x1).mono fun e he => sub3 e he
  have jp4 := jp_names nm (by omega) jp3
  have jk : JK n rs := fun x x0 x1 => (jp4 x x0 x1).mono fun e he => by
    obtain ⟨r, hr, er⟩ := cov e he
    exact List.mem_map.mpr ⟨r, hr, er⟩
  refine ⟨n, rs, u6, ?_, ⟨by omega, by omega, l6, g6⟩, jk_join jk, ((((a1.trans a2).trans a3).trans a4).trans a6').le (by omega)⟩
  have s1 : (mSet 4 (b2 dAdd (rC (.int 1)) (mCall 2 F__law_take (rCons (rN 0) (rCons (rN 1) rNil))))) (r0S h m w) st = some (.nx (r1S h m w n) u1) := by
    rw [ap_mSet, ap_b2, ap_rC, Option.bind_some, e1, Option.bind_some]
    simp only [dAdd_int, hn, Option.map_some]
    rfl
  have s4 : (mOwn 8 (rLst rNil)) (dwS h m w n a6 a7 qs none none none) u3 = some (.nx (dwS h m w n a6 a7 qs (some (.own (([] : List Int).map .int))) none none) u3) := by
    rw [ap_mOwn, ap_rLst, ap_rNil, Option.bind_some, sz_nil]
    rfl
  have s5 : (mFor (cb rng1 (rCons (rN 4) rNil)) (bName 9) nmB) (dwS h m w n a6 a7 qs (some (.own (([] : List Int).map .int))) none none) u3 = some (.nx (dwS h m w n a6 a7 qs (some (.own (ns.map .int))) b9 none) u4) := by
    have : (rCons (rN 4) rNil) (dwS h m w n a6 a7 qs (some (.own (([] : List Int).map .int))) none none) u3 = some ([.int n], u3) := rfl
    rw [ap_mFor, ap_cb, this, Option.bind_some, rng1_int (by omega) (by omega)]
    exact e4
  have s6 : (sRel 5 (mOwn 5 (mLc (rSeq (rN 5)) [7, 10] (item1 (bTup (bCons (bName 7) (bCons (bName 10) bNil))) qYes (one (rTup (rCons (cb dMin (rCons (b2 dIx (rO 8) (rN 7)) (rCons (b2 dIx (rO 8) (rN 10)) rNil))) (rCons (cb dMax (rCons (b2 dIx (rO 8) (rN 7)) (rCons (b2 dIx (rO 8) (rN 10)) rNil))) rNil)))))))) (dwS h m w n a6 a7 qs (some (.own (ns.map .int))) b9 none) u4 = some (.nx (dwS h m w n a6 a7 (qs.map (swp ns)) (some (.own (ns.map .int))) b9 none) u4) := by
    rw [ap_sRel, ap_mOwn, e5]
    rfl
  refine endV_rt (ρ := (r0S h m w)) (run2s s1 (run2s e2 (run2s e3 (run2s s4 (run2s s5 (run2s s6 ?_))))))
  rw [ap_sRel, ap_sRt, ap_rTup, ap_rCons]
  have g4 : gv 4 (relE 5 (dwS h m w n a6 a7 (qs.map (swp ns)) (some (.own (ns.map .int))) b9 none)) = some (.int n) := rfl
  have et : (cb dTuple (rCons (rNv (mLc (rSeq (rN 5)) [7, 10] rdI)) rNil)) (relE 5 (dwS h m w n a6 a7 (qs.map (swp ns)) (some (.own (ns.map .int))) b9 none)) u4 = some (.tup (rs.map rowD), u6) := by
    rw [ap_cb, ap_rCons, ap_rNv, e6]
    rfl
  rw [ap_rN, g4, Option.map_some, Option.bind_some, ap_rCons]
  show (Option.bind (Option.bind (Option.bind ((cb dTuple (rCons (rNv (mLc (rSeq (rN 5)) [7, 10] rdI)) rNil)) (relE 5 (dwS h m w n a6 a7 (qs.map (swp ns)) (some (.own (ns.map .int))) b9 none)) u4) _) _) _).map _ = _
  rw [et]
  simp only [Option.bind_some, ap_rNil, sz_2]
  rfl
end K04

set_option Elab.async false
set_option linter.all false
set_option maxRecDepth 100000
set_option maxHeartbeats 1000000
namespace K04
open PySem PySem.Spec L2 Rr
section
variable {S : Type} {s : S}
def sdA := List (List Int) × Option Sl
def sideR (n : Int) (rs : List Row) (i a b : Int) (x : List (List Int) × Option Sl) : Rho := [some (.val (webD n rs)), some (.val (.int i)), some (.val (.int a)), some (.val (.int b)), some (.val (.lst (x.1.map tD))), x.2, none]
def sideF (a b : Int) (x : List (List Int) × Option Sl) (d : D) : List (List Int) × Option Sl := match d with | .int h => (sideS a b x.1 h, some (.val d)) | _ => x
theorem dAdd_tDs (xs ys : List (List Int)) (h : xs.length + ys.length ≤ sizeLine) : dAdd (.lst (xs.map tD)) (.lst (ys.map tD)) = some (.lst ((xs ++ ys).map tD)) := by
  show (sz _).map _ = _
  rw [sz_eq (by rw [List.length_append, List.length_map, List.length_map]; exact h), List.map_append]
  rfl

def sideP (r : Nat) (x : List (List Int) × Option Sl) : Prop := x.1.length * 2 ^ r ≤ 64 ∧ (∀ k ∈ x.1, k.length + r ≤ 7 ∧ k ≠ []) ∧ (match x.2 with | some (.own _) => False | _ => True)
theorem side_step {n : Int} {rs : List Row} {i a b h : Int} {x : List (List Int) × Option Sl} {r : Nat} (p : sideP (r + 1) x) :
    ∃ ρ1, bName 5 (.int h) (sideR n rs i a b x) = some ρ1 ∧
      sIf (qAnd (qB (b2 dNe (rN 5) (rN 2))) (qB (b2 dNe (rN 5) (rN 3)))) (mSet 4 (b2 dAdd (rN 4) (rNv (mLc (rSeq (rN 4)) [6] (item1 (bName 6) qYes (one (rTup (rStar (rN 6) (rCons (rN 5) rNil))))))))) mNx ρ1 s = some (.nx (sideR n rs i a b (sideF a b x (.int h))) s) ∧ sideP r (sideF a b x (.int h)) := by
  obtain ⟨f, o⟩ := x
  obtain ⟨p1, p2, p3⟩ := p
  refine ⟨_, rfl, ?_, ?_⟩
  · by_cases h1 : h = a
    · subst h1
      simp [sideR, gv, sideF, sideS]
    · by_cases h2 : h = b
      · subst h2
        simp [sideR, gv, sideF, sideS, h1]
      · have item : ∀ k ∈ f, item1 (bName 6) qYes (one (rTup (rStar (rN 6) (rCons (rN 5) rNil)))) (tD k) [some (.val (webD n rs)), some (.val (.int i)), some (.val (.int a)), some (.val (.int b)), some (.val (.lst (f.map tD))), some (.val (.int h)), none] s = some ([tD (k ++ [h])], s) := fun k hk => by
          have hz : sz (k.map D.int ++ [.int h]) = some (k.map D.int ++ [.int h]) := by
            refine sz_eq ?_
            have := (p2 k hk).1
            rw [List.length_append, List.length_map]
            exact Nat.le_trans (by simp; omega : _ ≤ 8) (by decide)
          simp [gv, hz]
        have hl : f.length ≤ 32 := by
          have : 2 ^ 1 ≤ 2 ^ (r + 1) := Nat.pow_le_pow_right (by decide) (by omega)
          have := Nat.mul_le_mul_left f.length this
          simp only at p1
          omega
        have e1 : (mLc (rSeq (rN 4)) [6] (item1 (bName 6) qYes (one (rTup (rStar (rN 6) (rCons (rN 5) rNil)))))) [some (.val (webD n rs)), some (.val (.int i)), some (.val (.int a)), some (.val (.int b)), some (.val (.lst (f.map tD))), some (.val (.int h)), none] s = some ((f.map (· ++ [h])).map tD, s) := by
          have hz : sz ((f.map (· ++ [h])).map tD) = some ((f.map (· ++ [h])).map tD) := sz_eq (by rw [List.length_map, List.length_map]; exact Nat.le_trans hl (by decide))
          have e4 : (rSeq (rN 4)) [some (.val (webD n rs)), some (.val (.int i)), some (.val (.int a)), some (.val (.int b)), some (.val (.lst (f.map tD))), some (.val (.int h)), none] s = some (f.map tD, s) := rfl
          rw [ap_mLc, e4]
          show (if true = true then _ else none) = _
          rw [if_pos rfl, Option.bind_some]
          show (lcG _ (f.map tD) [some (.val (webD n rs)), some (.val (.int i)), some (.val (.int a)), some (.val (.int b)), some (.val (.lst (f.map tD))), some (.val (.int h)), none] s).bind _ = _
          rw [lcG_map item, flat_one, Option.bind_some]
          rw [show (f.map fun x => tD (x ++ [h])) = (f.map (· ++ [h])).map tD by rw [List.map_map]; rfl]
          simp only [hz]
          rfl
        have e2 := dAdd_tDs f (f.map (· ++ [h])) (by rw [List.length_map]; exact Nat.le_trans (by omega : _ ≤ 64) (by decide))
        simp only [sideR, List.set]
        have q1 : (qAnd (qB (b2 dNe (rN 5) (rN 2))) (qB (b2 dNe (rN 5) (rN 3)))) [some (.val (webD n rs)), some (.val (.int i)), some (.val (.int a)), some (.val (.int b)), some (.val (.lst (f.map tD))), some (.val (.int h)), none] s = some (true, s) := by simp [gv, h1, h2]
        have g4 : gv 4 [some (.val (webD n rs)), some (.val (.int i)), some (.val (.int a)), some (.val (.int b)), some (.val (.lst (f.map tD))), some (.val (.int h)), none] = some (.lst (f.map tD)) := rfl
        rw [ap_sIf, q1, Option.bind_some, if_pos rfl, ap_mSet, ap_b2, ap_rN, g4, Option.map_some, Option.bind_some, ap_rNv, e1, Option.map_some, Option.bind_some, e2]
        simp [sideF, sideS, h1, h2]
  · refine ⟨?_, fun k hk => ?_, trivial⟩
    · simp only [sideF, sideS]
      simp only [Nat.pow_succ] at p1
      split
      · rw [List.length_append, List.length_map]
        have : (f.length + f.length) * 2 ^ r = f.length * (2 ^ r * 2) := by rw [Nat.mul_comm (2 ^ r) 2, ← Nat.mul_assoc]; congr 1; omega
        omega
      · have : f.length * 2 ^ r ≤ f.length * (2 ^ r * 2) := Nat.mul_le_mul_left _ (by omega)
        omega
    · simp only [sideF, sideS] at hk
      split at hk
      · rcases List.mem_append.mp hk with hk | hk
        · exact ⟨by have := (p2 k hk).1; omega, (p2 k hk).2⟩
        · obtain ⟨k', hk', rfl⟩ := List.mem_map.mp hk
          have := (p2 k' hk').1
          refine ⟨by rw [List.length_append]; simp; omega, by simp⟩
      · exact ⟨by have := (p2 k hk).1; omega, (p2 k hk).2⟩

theorem side_fold (a b : Int) : ∀ (hs : List Int) (f : List (List Int)) (o : Option Sl), ((hs.map D.int).foldl (sideF a b) (f, o)).1 = hs.foldl (sideS a b) f
  | [], _, _ => rfl
  | h :: hs, f, o => by
    rw [List.map_cons, List.foldl_cons, List.foldl_cons]
    exact side_fold a b hs _ _
theorem insI_len (n : Int) : ∀ ms, (insI n ms).length = ms.length + 1 := fun ms => by have := (insI_perm n ms).length_eq; simpa using this
theorem sortI_len (ms : List Int) : (sortI ms).length = ms.length := (sortI_perm ms).length_eq
theorem sides_ev {n : Int} {rs : List Row} (g : Good n rs) {i : Nat} {r : Row} (h : rs[i]? = some r) : F_sides [webD n rs, .int (i : Int)] s = some ((sidesP n r.1 r.2.1).map tD, s) := by
  have gr := g.row r (List.mem_of_getElem? h)
  have n1 := g.n1
  have n6 := g.n6
  have e0 : rngD 0 n.toNat = ((List.range n.toNat).map fun (j : Nat) => (j : Int)).map D.int := rngD_eq _
  have p0 : sideP (rngD 0 n.toNat).length ([[r.1]], none) := by
    rw [e0, List.length_map, List.length_map, List.length_range]
    refine ⟨?_, fun k hk => ?_, trivial⟩
    · simp only [List.length_singleton, Nat.one_mul]
      exact Nat.le_trans (Nat.pow_le_pow_right (by decide) (by omega : n.toNat ≤ 6)) (by decide)
    · simp at hk; subst hk
      exact ⟨by simp; omega, by simp⟩
  obtain ⟨loop, p9⟩ := loopD_inv (s := s) (sideR n rs i r.1 r.2.1) (sideF r.1 r.2.1) sideP (ds := rngD 0 n.toNat) (a := ([[r.1]], none)) (fun x d k hd hp => by
    rw [e0] at hd
    obtain ⟨z, _, rfl⟩ := List.mem_map.mp hd
    exact side_step (rs := rs) (n := n) (i := (i : Int)) hp) p0
  have e9 : ((rngD 0 n.toNat).foldl (sideF r.1 r.2.1) ([[r.1]], none)).1 = sideL n r.1 r.2.1 := by rw [e0, side_fold]; rfl
  generalize hx : (rngD 0 n.toNat).foldl (sideF r.1 r.2.1) ([[r.1]], none) = x at loop p9 e9
  obtain ⟨f, o⟩ := x
  obtain ⟨q1, q2, q3⟩ := p9
  simp only at e9 q1 q2
  subst e9
  simp only [Nat.pow_zero, Nat.mul_one] at q1
  have item : ∀ k ∈ sideL n r.1 r.2.1, item1 (bName 6) qYes (one (cb dTuple (rCons (rNv (cb dSortedA (rCons (rN 6) rNil))) rNil))) (tD k) [some (.val (webD n rs)), some (.val (.int (i : Int))), some (.val (.int r.1)), some (.val (.int r.2.1)), some (.val (.lst ((sideL n r.1 r.2.1).map tD))), o, none] s = some ([tD (sortI k)], s) := fun k hk => by
    simp [gv, dTuple]
  have cl : clean [6] [some (.val (webD n rs)), some (.val (.int (i : Int))), some (.val (.int r.1)), some (.val (.int r.2.1)), some (.val (.lst ((sideL n r.1 r.2.1).map tD))), o, none] = true := rfl
  have wi : wipeE [some (.val (webD n rs)), some (.val (.int (i : Int))), some (.val (.int r.1)), some (.val (.int r.2.1)), some (.val (.lst ((sideL n r.1 r.2.1).map tD))), o, none] [6] = [some (.val (webD n rs)), some (.val (.int (i : Int))), some (.val (.int r.1)), some (.val (.int r.2.1)), some (.val (.lst ((sideL n r.1 r.2.1).map tD))), o, none] := rfl
  have hz : sz (((sideL n r.1 r.2.1).map sortI).map tD) = some (((sideL n r.1 r.2.1).map sortI).map tD) := sz_eq (by rw [List.length_map, List.length_map]; exact Nat.le_trans q1 (by decide))
  have e8 : (mLc (rSeq (rN 4)) [6] (item1 (bName 6) qYes (one (cb dTuple (rCons (rNv (cb dSortedA (rCons (rN 6) rNil))) rNil))))) (sideR n rs i r.1 r.2.1 (sideL n r.1 r.2.1, o)) s = some (((sideL n r.1 r.2.1).map sortI).map tD, s) := by
    have e4 : (rSeq (rN 4)) (sideR n rs i r.1 r.2.1 (sideL n r.1 r.2.1, o)) s = some ((sideL n r.1 r.2.1).map tD, s) := rfl
    rw [ap_mLc, e4]
    unfold sideR
    rw [cl, if_pos rfl, Option.bind_some]
    simp only [wi]
    rw [lcG_map item, flat_one, Option.bind_some]
    rw [show ((sideL n r.1 r.2.1).map fun x => tD (sortI x)) = ((sideL n r.1 r.2.1).map sortI).map tD by rw [List.map_map]; rfl]
    simp only [hz]
    rfl
  have ne : ∀ k ∈ (sideL n r.1 r.2.1).map sortI, k ≠ [] := fun k hk z => by
    obtain ⟨k', hk', rfl⟩ := List.mem_map.mp hk
    have := (q2 k' hk').2
    have := sortI_len k'
    rw [z] at this
    exact (q2 k' hk').2 (List.eq_nil_of_length_eq_zero (by simpa using this.symm))
  have e7 := sorted_tDs ne
  have rg := rng1_int (j := n) (by omega) (by omega)
  have b0 : begin_ 7 [webD n rs, .int (i : Int)] = [some (.val (webD n rs)), some (.val (.int (i : Int))), none, none, none, none, none] := rfl
  have f1 : D.tup [.int r.1] = tD [r.1] := rfl
  unfold F_sides m_sides
  rw [b0, ap_endN, ap_sq]
  have s1 : (mAsg (rCut (b2 dIx (b2 dIx (rN 0) (rC (.int 1))) (rN 1)) rNo (rPt (rC (.int 2)))) (bTup (bCons (bName 2) (bCons (bName 3) bNil)))) [some (.val (webD n rs)), some (.val (.int (i : Int))), none, none, none, none, none] s =
      some (.nx [some (.val (webD n rs)), some (.val (.int (i : Int))), some (.val (.int r.1)), some (.val (.int r.2.1)), none, none, none] s) := by simp [gv, getRow h]
  have s2 : (mSet 4 (rNv (rLst (rCons (rTup (rCons (rN 2) rNil)) rNil)))) [some (.val (webD n rs)), some (.val (.int (i : Int))), some (.val (.int r.1)), some (.val (.int r.2.1)), none, none, none] s = some (.nx (sideR n rs i r.1 r.2.1 ([[r.1]], none)) s) := by simp [gv, sideR, f1]
  have s3 : (cb rng1 (rCons (b2 dIx (rN 0) (rC (.int 0))) rNil)) (sideR n rs i r.1 r.2.1 ([[r.1]], none)) s = some (rngD 0 n.toNat, s) := by
    have e : (rCons (b2 dIx (rN 0) (rC (.int 0))) rNil) (sideR n rs i r.1 r.2.1 ([[r.1]], none)) s = some ([.int n], s) := by simp [gv, sideR]
    rw [ap_cb, e, Option.bind_some, rg]
    rfl
  simp only [s1, ap_sq, s2, ap_mFor, s3, Option.bind_some, loop, ap_sRf]
  rw [ap_cb, ap_rCons, ap_rNv, e8]
  simp only [Option.map_some, Option.bind_some, ap_rNil, e7]
  rfl
end
end K04

set_option Elab.async false
set_option linter.all false
set_option maxRecDepth 100000
set_option maxHeartbeats 2000000
namespace K04
open PySem PySem.Spec L2 Rr Gr
/-! ### ways, sides and trees -/
theorem cross_mem {rs : List Row} {k : List Int} {z : Int} : z ∈ crossI rs k ↔ Ix rs z ∧ (decide ((rowZ rs z).1 ∈ k) != decide ((rowZ rs z).2.1 ∈ k)) = true := by
  unfold crossI
  rw [List.mem_flatMap]
  constructor
  · rintro ⟨p, hp, h⟩
    split at h
    · rename_i hc
      rw [List.mem_singleton] at h
      obtain ⟨h1, h2⟩ := zip_mem hp
      obtain ⟨h3, h4⟩ := Ix.of h2
      rw [h]
      exact ⟨h3, by rw [h4]; exact hc⟩
    · cases h
  · rintro ⟨h1, h2⟩
    have hk : z.toNat < rs.length := by have := h1.1; have := h1.2; omega
    refine ⟨(rs[z.toNat], z.toNat), ?_, ?_⟩
    · exact List.mem_zipIdx_iff_getElem?.mpr (List.getElem?_eq_getElem hk)
    · have e : rowZ rs z = rs[z.toNat] := by unfold rowZ; rw [List.getD_eq_getElem?_getD, List.getElem?_eq_getElem hk]; rfl
      rw [e] at h2
      have h0 := h1.1
      rw [if_pos (show crossB (rs[z.toNat], z.toNat) k = true from h2)]
      simp only [List.mem_singleton]
      omega
theorem nxt_ends {r : Row} {x t : Int} (h : nxt r x = some t) : (r.1 = x ∧ r.2.1 = t) ∨ (r.2.1 = x ∧ r.1 = t) := by
  unfold nxt at h
  split at h
  · rename_i e; cases h; exact .inl ⟨e, rfl⟩
  · split at h
    · rename_i e; cases h; exact .inr ⟨e, rfl⟩
    · cases h
/-- a walk out of a side crosses it -/
theorem go_cross {rs : List Row} {al : Int → Prop} {hs w hs2 k : List Int} (g : Go rs al hs w hs2) : ∀ {x y : Int}, hs.getLast? = some x → hs2.getLast? = some y → x ∈ k → y ∉ k → ∃ z ∈ w, z ∈ crossI rs k := by
  induction g with
  | nil hs => intro x y h1 h2 h3 h4; rw [h1] at h2; cases h2; exact absurd h3 h4
  | @cons hs i r x' t w hs2 a1 a2 a3 a4 a5 q ih =>
    intro x y h1 h2 h3 h4
    rw [a3] at h1; cases h1
    obtain ⟨hz, hr⟩ := Ix.of a1
    by_cases ht : t ∈ k
    · obtain ⟨z, hz1, hz2⟩ := ih (x := t) (y := y) List.getLast?_concat h2 ht h4
      exact ⟨z, List.mem_cons_of_mem _ hz1, hz2⟩
    · refine ⟨(i : Int), List.mem_cons_self, cross_mem.mpr ⟨hz, ?_⟩⟩
      rw [hr]
      rcases nxt_ends a4 with ⟨e1, e2⟩ | ⟨e1, e2⟩
      · rw [e1, e2, decide_eq_true h3, decide_eq_false ht]; rfl
      · rw [e1, e2, decide_eq_true h3, decide_eq_false ht]; rfl
theorem go_conn {rs : List Row} {al : Int → Prop} {hs w hs2 : List Int} (g : Go rs al hs w hs2) : ∀ {x y : Int}, hs.getLast? = some x → hs2.getLast? = some y → Conn (eds (edr rs) w) x y := by
  induction g with
  | nil hs => intro x y h1 h2; rw [h1] at h2; cases h2; exact .refl _
  | @cons hs i r x' t w hs2 a1 a2 a3 a4 a5 q ih =>
    intro x y h1 h2
    rw [a3] at h1; cases h1
    obtain ⟨hz, hr⟩ := Ix.of a1
    have c1 : Conn (eds (edr rs) ((i : Int) :: w)) x' t := (Conn.refl _).step (nxt_adj List.mem_cons_self (by rw [hr]; exact a4))
    refine c1.trans ((ih (x := t) (y := y) List.getLast?_concat h2).mono fun e he => ?_)
    unfold eds at *
    rw [List.map_cons]
    exact List.mem_cons_of_mem _ he
/-- a walk on does not come back over a road at a house behind -/
theorem go_avoid {rs : List Row} {al : Int → Prop} {hs w hs2 : List Int} {i1 : Nat} {r1 : Row} {x t1 : Int} (h1 : rs[i1]? = some r1) (hn : nxt r1 x = some t1) (g : Go rs al hs w hs2) : x ∈ hs → (∀ y, hs.getLast? = some y → y ≠ x) → (i1 : Int) ∉ w := by
  induction g with
  | nil hs => intro _ _ h; cases h
  | @cons hs i r x' t w hs2 a1 a2 a3 a4 a5 q ih =>
    intro hx hl hm
    have ne := hl x' a3
    rcases List.mem_cons.mp hm with e | e
    · have e : i1 = i := by omega
      rw [e, a1] at h1
      cases h1
      have tx : t ≠ x := fun z => a5 (z ▸ hx)
      rcases nxt_ends hn with ⟨p1, p2⟩ | ⟨p1, p2⟩ <;> rcases nxt_ends a4 with ⟨q1, q2⟩ | ⟨q1, q2⟩
      · exact ne (q1.symm.trans p1)
      · exact tx (q2.symm.trans p1)
      · exact tx (q2.symm.trans p1)
      · exact ne (q1.symm.trans p1)
    · refine ih (List.mem_append_left _ hx) (fun y hy => ?_) e
      rw [List.getLast?_concat] at hy
      cases hy
      exact fun z => a5 (z ▸ hx)
/-- within a tree there is one walk -/
theorem go_uniq {rs : List Row} {T : List Int} (hf : ∀ e ∈ T, ¬ Conn (eds (edr rs) (T.filter fun z => !decide (z = e))) (edr rs e).1 (edr rs e).2) {hs w1 hs1 : List Int} (g1 : Go rs (· ∈ T) hs w1 hs1) : ∀ {w2 hs2 : List Int} {b : Int}, Go rs (· ∈ T) hs w2 hs2 → hs1.getLast? = some b → hs2.getLast? = some b → w1 = w2 := by
  induction g1 with
  | nil hs =>
    intro w2 hs2 b g2 h1 h2
    rcases g2.last with e | ⟨y, e1, e2⟩
    · exact e.symm
    · rw [h2] at e1; cases e1
      exact absurd (List.mem_of_getLast? h1) e2
  | @cons hs i r x t w hs1 a1 a2 a3 a4 a5 q ih =>
    intro w2 hs2 b g2 h1 h2
    have g2' := g2
    cases g2 with
    | nil =>
      rcases (Go.cons a1 a2 a3 a4 a5 q).last with e | ⟨y, e1, e2⟩
      · cases e
      · rw [h1] at e1; cases e1
        exact absurd (List.mem_of_getLast? h2) e2
    | @cons _ j r' x' t' w' _ b1 b2 b3 b4 b5 q' =>
      rw [a3] at b3; cases b3
      by_cases e : i = j
      · subst e
        rw [a1] at b1; cases b1
        rw [a4] at b4; cases b4
        rw [ih q' h1 h2]
      · exfalso
        obtain ⟨hz, hr⟩ := Ix.of a1
        have hx : x ∈ hs := List.mem_of_getLast? a3
        have n1 : (i : Int) ∉ w := go_avoid a1 a4 q (List.mem_append_left _ hx) fun y hy => by
          rw [List.getLast?_concat] at hy; cases hy
          exact fun z => a5 (z ▸ hx)
        have n2 : (i : Int) ∉ w' := go_avoid a1 a4 q' (List.mem_append_left _ hx) fun y hy => by
          rw [List.getLast?_concat] at hy; cases hy
          exact fun z => b5 (z ▸ hx)
        have sub1 : ∀ z ∈ w, z ∈ T.filter fun z => !decide (z = (i : Int)) := fun z hz => List.mem_filter.mpr ⟨(q.all z hz).1, by simp only [Bool.not_eq_true', decide_eq_false_iff_not]; exact fun e => n1 (e ▸ hz)⟩
        have sub2 : ∀ z ∈ (j : Int) :: w', z ∈ T.filter fun z => !decide (z = (i : Int)) := fun z hz => by
          rcases List.mem_cons.mp hz with e2 | e2
          · rw [e2]
            exact List.mem_filter.mpr ⟨b2, by simp only [Bool.not_eq_true', decide_eq_false_iff_not]; omega⟩
          · exact List.mem_filter.mpr ⟨(q'.all z e2).1, by simp only [Bool.not_eq_true', decide_eq_false_iff_not]; exact fun e => n2 (e ▸ e2)⟩
        have c1 := (go_conn q (x := t) (y := b) List.getLast?_concat h1).mono (E' := eds (edr rs) (T.filter fun z => !decide (z = (i : Int)))) fun e he => by
          obtain ⟨z, hz, rfl⟩ := List.mem_map.mp he
          exact List.mem_map.mpr ⟨z, sub1 z hz, rfl⟩
        have c2 := (go_conn g2' (x := x) (y := b) a3 h2).mono (E' := eds (edr rs) (T.filter fun z => !decide (z = (i : Int)))) fun e he => by
          obtain ⟨z, hz, rfl⟩ := List.mem_map.mp he
          exact List.mem_map.mpr ⟨z, sub2 z hz, rfl⟩
        have c := c2.trans c1.symm
        refine hf (i : Int) a2 ?_
        unfold edr
        rw [hr]
        rcases nxt_ends a4 with ⟨p1, p2⟩ | ⟨p1, p2⟩
        · rw [p1, p2]; exact c
        · rw [p1, p2]; exact c.symm
/-- the houses that are reached -/
theorem reach_ex {n : Int} {rs : List Row} {R : List Int} {a : Int} (g : Good n rs) (hR : ∀ z ∈ R, Ix rs z) (ha : 0 ≤ a ∧ a < n) : ∃ f, Rch n rs R a f := by
  have I0 : RcI n rs R a [a] [a] := ⟨⟨by simp, fun h hh => by simp at hh; subst hh; exact ha⟩, by simp, fun h hh => hh, fun h hh => by simp at hh; subst hh; exact ⟨[], [h], .nil _, rfl, fun x hx => hx⟩, fun h hh hn => absurd hh hn⟩
  obtain ⟨f, t, e, I⟩ := wh_reach (S := Unit) (s := ()) g hR 60 (f := [a]) (w := [a]) (t := (none, none, none, none, none)) (by show 1 + 6 < 60 + 1; decide) (by show 1 + 6 ≤ 1 + 6; decide) I0
  exact ⟨f, I.hs, I.st, fun h hh => let ⟨wy, hs2, q1, q2, _⟩ := I.snd h hh; ⟨wy, hs2, q1, q2⟩, fun h hh z hz t ht => I.cl h hh (by simp) z hz t ht⟩
theorem walk_ex {n : Int} {rs : List Row} {R : List Int} {a b : Int} (g : Good n rs) (hR : ∀ z ∈ R, Ix rs z) (ha : 0 ≤ a ∧ a < n) (c : Conn (eds (edr rs) R) a b) : ∃ w hs2, Go rs (· ∈ R) [a] w hs2 ∧ hs2.getLast? = some b := by
  obtain ⟨f, P⟩ := reach_ex g hR ha
  exact P.snd b ((rch_conn P b).mpr c)
end K04

set_option Elab.async false
set_option linter.all false
set_option maxRecDepth 100000
set_option maxHeartbeats 2000000
namespace K04
open PySem PySem.Spec L2 Rr Gr
theorem nodup_flat {α β : Type} {f : α → List β} : ∀ {xs : List α}, (∀ x ∈ xs, (f x).Nodup) → xs.Pairwise (fun x y => ∀ a ∈ f x, a ∉ f y) → (xs.flatMap f).Nodup
  | [], _, _ => List.nodup_nil
  | x :: xs, h, p => by
    obtain ⟨p1, p2⟩ := List.pairwise_cons.mp p
    rw [List.flatMap_cons, List.nodup_append]
    refine ⟨h x List.mem_cons_self, nodup_flat (fun y hy => h y (List.mem_cons_of_mem _ hy)) p2, fun a ha b hb e => ?_⟩
    obtain ⟨y, hy, hb⟩ := List.mem_flatMap.mp hb
    exact p1 y hy a ha (e ▸ hb)
theorem zip_pair (rs : List Row) : ∀ k, (rs.zipIdx k).Pairwise fun p q => p.2 < q.2 := by
  induction rs with
  | nil => intro k; exact .nil
  | cons r rs ih =>
    intro k
    rw [List.zipIdx_cons, List.pairwise_cons]
    refine ⟨fun p hp => ?_, ih (k + 1)⟩
    obtain ⟨h1, _⟩ := List.mk_mem_zipIdx_iff_le_and_getElem?_sub.mp (show (p.1, p.2) ∈ rs.zipIdx (k + 1) from hp)
    show k < p.2
    omega
theorem ways_nodup {rs : List Row} {r0 e : Int} : ∀ {k : Nat} {hs : List Int}, (ways rs r0 e k hs).Nodup
  | 0, hs => by unfold ways; exact List.nodup_nil
  | k + 1, hs => by
    unfold ways
    split
    · exact List.nodup_nil
    · rename_i x hx
      split
      · simp
      · refine nodup_flat (fun p _ => ?_) ((zip_pair rs 0).imp fun {p q} hpq a ha hb => ?_)
        · split
          · exact List.nodup_nil
          · refine nodup_flat (fun t _ => ?_) ?_
            · unfold List.Nodup
              rw [List.pairwise_map]
              exact (ways_nodup (k := k) (hs := hs ++ [t])).imp fun h e => h (by injection e)
            · have := newH_len (r := p.1) (x := x) (hs := hs)
              match newH p.1 x hs, this with
              | [], _ => exact .nil
              | [t], _ => exact List.pairwise_singleton _ _
        · split at ha
          · cases ha
          · split at hb
            · cases hb
            · obtain ⟨_, _, ha⟩ := List.mem_flatMap.mp ha
              obtain ⟨_, _, hb⟩ := List.mem_flatMap.mp hb
              obtain ⟨_, _, rfl⟩ := List.mem_map.mp ha
              obtain ⟨_, _, e⟩ := List.mem_map.mp hb
              injection e with e _
              omega
abbrev wysI (rs : List Row) (i : Int) : List (List Int) := ways rs i (rowZ rs i).2.1 8 [(rowZ rs i).1]
abbrev sdsI (n : Int) (rs : List Row) (i : Int) : List (List Int) := sidesP n (rowZ rs i).1 (rowZ rs i).2.1
theorem side_of {n : Int} {rs : List Row} {i : Int} {k : List Int} (g : Good n rs) (hi : Ix rs i) (hk : k ∈ sdsI n rs i) : k.Pairwise (· < ·) ∧ (∀ h ∈ k, 0 ≤ h ∧ h < n) ∧ (rowZ rs i).1 ∈ k ∧ (rowZ rs i).2.1 ∉ k ∧ k.length ≤ 6 :=
  side_spec g.n1 g.n6 (hi.good g).a0 (hi.good g).ab (hi.good g).bn hk
theorem road_cross {n : Int} {rs : List Row} {i : Int} {k : List Int} (g : Good n rs) (hi : Ix rs i) (hk : k ∈ sdsI n rs i) : i ∈ crossI rs k := by
  obtain ⟨_, _, h1, h2, _⟩ := side_of g hi hk
  exact cross_mem.mpr ⟨hi, by rw [decide_eq_true h1, decide_eq_false h2]; rfl⟩
theorem way_cross {n : Int} {rs : List Row} {i : Int} {k w : List Int} (g : Good n rs) (hi : Ix rs i) (hk : k ∈ sdsI n rs i) (hw : w ∈ wysI rs i) : ∃ z ∈ w, z ∈ crossI rs k ∧ z ≠ i := by
  obtain ⟨_, _, h1, h2, _⟩ := side_of g hi hk
  obtain ⟨hs2, q1, q2⟩ := go_of_ways hw
  obtain ⟨z, z1, z2⟩ := go_cross q1 (x := (rowZ rs i).1) (y := (rowZ rs i).2.1) rfl q2 h1 h2
  exact ⟨z, z1, z2, (q1.all z z1).1⟩
theorem rg_of {n : Int} {rs : List Row} {i : Int} (g : Good n rs) (hi : Ix rs i) : 0 ≤ (rowZ rs i).1 ∧ (rowZ rs i).1 < n := by
  have gr := hi.good g
  exact ⟨gr.a0, by have := gr.ab; have := gr.bn; omega⟩
theorem ways_in {n : Int} {rs : List Row} {i : Int} {al : Int → Prop} {w hs2 : List Int} (g : Good n rs) (hi : Ix rs i) (h : Go rs al [(rowZ rs i).1] w hs2) (hr : ¬ al i) (he : hs2.getLast? = some (rowZ rs i).2.1) : w ∈ wysI rs i := by
  have r := rg_of g hi
  have := h.few g ⟨by simp, fun x hx => by rw [List.mem_singleton.mp hx]; exact r⟩
  simp only [List.length_cons, List.length_nil] at this
  exact ways_of_go h hr (by omega) he
theorem cross_asc (rs : List Row) (k : List Int) : (crossI rs k).Pairwise (· < ·) := by
  have e : crossI rs k = (idx rs).filter fun z => decide ((rowZ rs z).1 ∈ k) != decide ((rowZ rs z).2.1 ∈ k) := by
    unfold crossI
    have e1 : (rs.zipIdx.flatMap fun p => if crossB p k = true then [(p.2 : Int)] else []) = (rs.zipIdx.filter fun p => crossB p k).map fun p => (p.2 : Int) := by
      induction rs.zipIdx with
      | nil => rfl
      | cons p ps ih =>
        rw [List.flatMap_cons, ih, List.filter_cons]
        split <;> rfl
    rw [e1]
    have e2 : (idx rs) = rs.zipIdx.map fun p => (p.2 : Int) := by
      unfold idx
      refine List.ext_getElem? fun j => ?_
      rw [List.getElem?_map, List.getElem?_map, List.getElem?_zipIdx]
      by_cases h : j < rs.length
      · rw [List.getElem?_range h, List.getElem?_eq_getElem h]; simp
      · rw [List.getElem?_eq_none (by simp; omega), List.getElem?_eq_none (by omega)]; rfl
    rw [e2, List.filter_map]
    congr 1
    refine List.filter_congr fun p hp => ?_
    obtain ⟨_, h4⟩ := Ix.of (zip_mem hp).2
    show crossB p k = _
    simp only [Function.comp_def, h4]
    rfl
  rw [e]
  exact (idx_asc rs).filter _
/-- a road without a detour crosses some side alone -/
theorem alone_iff {n : Int} {rs : List Row} {i : Int} (g : Good n rs) (hi : Ix rs i) : (wysI rs i = []) ↔ ∃ k ∈ sdsI n rs i, crossI rs k = [i] := by
  constructor
  · intro hw
    obtain ⟨f, P⟩ := reach_ex (R := (idx rs).filter fun z => !decide (z = i)) (a := (rowZ rs i).1) g (fun z hz => idx_ix z (List.mem_filter.mp hz).1) (rg_of g hi)
    have gr := hi.good g
    have nb : (rowZ rs i).2.1 ∉ f := fun hb => by
      obtain ⟨w, hs2, q1, q2⟩ := P.snd _ hb
      have := ways_in g hi q1 (fun z => by have := (List.mem_filter.mp z).2; simp at this) q2
      rw [hw] at this
      cases this
    have mm : ∀ x, x ∈ sortI f ↔ x ∈ f := fun x => (sortI_perm f).mem_iff
    have asc : (sortI f).Pairwise (· < ·) := by
      have nd2 : (sortI f).Nodup := (sortI_perm f).nodup_iff.mpr P.hs.nd
      exact ((sortI_sorted f).and nd2).imp fun q => by have := q.1; have := q.2; omega
    have hk : sortI f ∈ sdsI n rs i := side_in g.n1 g.n6 gr.a0 gr.ab gr.bn asc (fun h hh => P.hs.rg h ((mm h).mp hh)) ((mm _).mpr P.st) fun z => nb ((mm _).mp z)
    refine ⟨_, hk, ?_⟩
    have key : ∀ z, z ∈ crossI rs (sortI f) ↔ z ∈ [i] := fun z => by
      rw [List.mem_singleton]
      constructor
      · intro hz
        obtain ⟨h1, h2⟩ := cross_mem.mp hz
        by_cases e : z = i
        · exact e
        · exfalso
          have hzR : z ∈ (idx rs).filter fun z => !decide (z = i) := List.mem_filter.mpr ⟨idx_mem.mpr h1, by simpa using e⟩
          have ab : (rowZ rs z).1 ∈ f ↔ (rowZ rs z).2.1 ∈ f := by
            constructor
            · intro h
              exact P.cl _ h z hzR _ (by unfold nxt; rw [if_pos rfl])
            · intro h
              refine P.cl _ h z hzR _ ?_
              have := (h1.good g).ab
              unfold nxt
              rw [if_neg (by omega), if_pos rfl]
          rw [show decide ((rowZ rs z).1 ∈ sortI f) = decide ((rowZ rs z).2.1 ∈ sortI f) by rw [Bool.eq_iff_iff, decide_eq_true_iff, decide_eq_true_iff, mm, mm]; exact ab] at h2
          simp at h2
      · rintro rfl
        exact road_cross g hi hk
    exact asc_eq_of_mem (cross_asc _ _) (List.pairwise_singleton _ _) key
  · rintro ⟨k, hk, e⟩
    cases hw : wysI rs i with
    | nil => rfl
    | cons w ws =>
      obtain ⟨z, _, z2, z3⟩ := way_cross (w := w) g hi hk (by rw [hw]; exact List.mem_cons_self)
      rw [e, List.mem_singleton] at z2
      exact absurd z2 z3
end K04

set_option Elab.async false
set_option linter.all false
set_option maxRecDepth 100000
set_option maxHeartbeats 4000000
/-! told = [a, b]; if c: ..; told[0].append(None); told[1].append(None); more. And x = new if c else x. -/
namespace Rr
open PySem PySem.Spec L2 PyProof.Rows
def mToldC {S : Type} (i : Nat) (ma mb : Rho → Mo S (List D)) (q : Rho → Mo S Bool) (m1 m2 : Ms S) : Ms S := fun ρ s =>
  match bd (ma ρ) (fun x => bd (mb ρ) fun y => rt (x, y)) s with
  | some ((x, y), s1) => if i < ρ.length ∧ x.length < sizeLine ∧ y.length < sizeLine then
      match q (ρ.set i (some (.val (.lst [.lst x, .lst y])))) s1 with
      | some (true, s2) => match m1 (ρ.set i (some (.val (.lst [.lst x, .lst y])))) s2 with | some (.nx _ _) => none | r => r
      | some (false, s2) => m2 (ρ.set i none) s2
      | none => none
    else none
  | none => none
def mOwnIf {S : Type} (i : Nat) (q : Rho → Mo S Bool) (mn : Rho → Mo S (List D)) : Ms S := fun ρ s => match q ρ s with
  | some (true, s1) => mOwn i mn ρ s1
  | some (false, s1) => (match ρ[i]? with | some (some (.own _)) => some (.nx ρ s1) | _ => none)
  | none => none
section
variable {X : Cx} {w : Wd} {e1 e2 c : Expr} {sts rest : List Stmt} {ma mb mn : Rho → Mo w.S (List D)} {q : Rho → Mo w.S Bool} {m1 m2 : Ms w.S}
theorem vss_toldC (i : Nat) {x : Str} {px pl pa pif p1 p2 p3 p4 p5 pe pos p1' p2' p3' p4' p5' pe' pos' : Pos} {j1 j2 j1' j2'} (hN : X.N.Nodup) (h1 : VN X w e1 ma) (h2 : VN X w e2 mb) (hq : VQ X w c q) (hb : VSs X w sts m1) (hrest : VSs X w rest m2)
    (hi : X.N[i]? = some x := by rfl) (hx : Loc X.env.scope x := by first | exact Or.inl rfl | exact Or.inr rfl) (hv : Vis X.env.scope x := by first | exact Or.inl rfl | exact Or.inr (Or.inl rfl) | exact Or.inr (Or.inr rfl))
    (hf : X.fn x = true ∨ X.env.scope.names.lookup x = some .local := by first | exact .inl rfl | exact .inr rfl | assumption) (hd : (x == ("__debug__" : Str)) = false := by decide) (hcd : (x == ("__classdict__" : Str)) = false := by decide)
    (hs : swapsWith (.List [e1, e2] pl) (some (.Name x px)) pa.line X.env = pure false := by rfl)
    (hst1 : starEach [e1, e2] X.env = (false, eval e1 X.env) :: starEach [e2] X.env := by rfl) (hst2 : starEach [e2] X.env = (false, eval e2 X.env) :: starEach [] X.env := by rfl)
    (hbase : attributeBase (.Subscript (.Name x p1) (.Constant (.int 0) j1 p2) p3) "append" X.env (eval (.Subscript (.Name x p1) (.Constant (.int 0) j1 p2) p3) X.env) = eval (.Subscript (.Name x p1) (.Constant (.int 0) j1 p2) p3) X.env := by rfl)
    (hline : (p4.endLine == p5.line) = true := by rfl)
    (hbase' : attributeBase (.Subscript (.Name x p1') (.Constant (.int 1) j1' p2') p3') "append" X.env (eval (.Subscript (.Name x p1') (.Constant (.int 1) j1' p2') p3') X.env) = eval (.Subscript (.Name x p1') (.Constant (.int 1) j1' p2') p3') X.env := by rfl)
    (hline' : (p4'.endLine == p5'.line) = true := by rfl)
    (hsw : swapsWith (.Call (.Attribute (.Subscript (.Name x p1) (.Constant (.int 0) j1 p2) p3) "append" p4) [.Constant .none j2 pe] [] p5) none pos.line X.env = pure false := by rfl)
    (hsw' : swapsWith (.Call (.Attribute (.Subscript (.Name x p1') (.Constant (.int 1) j1' p2') p3') "append" p4') [.Constant .none j2' pe'] [] p5') none pos'.line X.env = pure false := by rfl) :
    VSs X w (.Assign [.Name x px] (.List [e1, e2] pl) pa :: .If c sts [] pif :: .Expr (.Call (.Attribute (.Subscript (.Name x p1) (.Constant (.int 0) j1 p2) p3) "append" p4) [.Constant .none j2 pe] [] p5) pos :: .Expr (.Call (.Attribute (.Subscript (.Name x p1') (.Constant (.int 1) j1' p2') p3') "append" p4') [.Constant .none j2' pe'] [] p5') pos' :: rest) (mToldC i ma mb q m1 m2) := by
  have a1 := ps_set (pos := pa) hN hi hx (pe_lst (pos := pl) (pa_cons h1 (pa_cons h2 pa_nil hst2) hst1)) hs hf
  have a2 := ps_if (pos := pif) hq hb (pss_nil (X := X))
  have a3 := ps_expr (pos := pos) (pe_bm (apos := p4) (cpos := p5) PySem.F.plainAttrs_list PySem.F.slot_list_append PySem.F.type_list_append mt_append (pe_ix (pos := p3) ix_list (pe_var (pos := p1) hi hv hd hcd) (pe_int (i := 0) (j := j1) (pos := p2)) (fun _ _ => rfl)) (pa_cons (pe_non (j := j2) (pos := pe)) pa_nil rfl) hbase rfl hline rfl rfl) hsw
  have a4 := ps_expr (pos := pos') (pe_bm (apos := p4') (cpos := p5') PySem.F.plainAttrs_list PySem.F.slot_list_append PySem.F.type_list_append mt_append (pe_ix (pos := p3') ix_list (pe_var (pos := p1') hi hv hd hcd) (pe_int (i := 1) (j := j1') (pos := p2')) (fun _ _ => rfl)) (pa_cons (pe_non (j := j2') (pos := pe')) pa_nil rfl) hbase' rfl hline' rfl rfl) hsw'
  refine (pss_cons a1 (pss_cons a2 (pss_cons a3 (pss_cons a4 hrest)))).imp fun E σ H ⟨H0, W, o, ρ, s, out, G, e, p⟩ => ?_
  unfold mToldC at e
  split at e
  · rename_i x1 y1 s1 em
    split at e
    · rename_i hsz
      obtain ⟨hil, hx1, hy1⟩ := hsz
      obtain ⟨x2, u1, f1, f2⟩ := bd_some em
      obtain ⟨y2, u2, f3, f4⟩ := bd_some f2
      cases f4
      refine ⟨H0, W, o, ρ, s, x1, u1, G, f1, fun a va H1 xa ka na ha ra => ?_⟩
      have Ga := G.ext xa ka
      refine ⟨H0, W, o, ρ, u1, y1, s1, Ga, f3, fun b vb H2 xb kb nb hb2 rb => ?_⟩
      have Gb := Ga.ext xb kb
      refine ⟨by show 2 ≤ sizeLine; decide, fun pp hp => ?_⟩
      have nma : ¬ w.mine a := fun m => w.trk G.ok m na
      have nmb : ¬ w.mine b := fun m => w.trk Ga.ok m nb
      have nmp : ¬ w.mine pp := fun m => w.trk Gb.ok m hp
      have ha2 : H2 a = some (.lst va) := xb a _ ha nma
      obtain ⟨x3, k3, np⟩ := fin_new Gb hp (.lst [.ref a, .ref b])
      have ha3 := x3 a _ ha2 nma
      have hb3 := x3 b _ hb2 nmb
      have nAa : ¬ Av W o a := G.notAv na
      have nAb : ¬ Av W o b := Ga.notAv nb
      have ra3 : RepL w.ad (upd H2 pp (.lst [.ref a, .ref b])) (Av W o) va x1 := Gb.repLExt x3 (Ga.repLExt xb (ra.mono fun _ z => .inl z))
      have rb3 : RepL w.ad (upd H2 pp (.lst [.ref a, .ref b])) (Av W o) vb y1 := Gb.repLExt x3 (rb.mono fun _ z => .inl z)
      have rep : Rep w.ad (upd H2 pp (.lst [.ref a, .ref b])) (Av W o) (.ref pp) (.lst [.lst x1, .lst y1]) := .lst upd_same np (.cons (.lst ha3 nAa ra3) (.cons (.lst hb3 nAb rb3) .nil))
      have G4 := (Gb.ext x3 k3).setVal i rep
      have hσ : (σ.set i (some (V.ref pp)))[i]? = some (some (.ref pp)) := List.getElem?_set_self (by rw [← G.len]; exact hil)
      split at e
      · rename_i s2 eq
        refine ⟨H0, W, off o i, _, s1, true, s2, G4, eq, fun H4 xq kq => iteT ?_⟩
        split at e
        · cases e
        · rename_i hne
          exact ⟨H0, W, off o i, _, s2, out, G4.ext xq kq, e, post_ends (fun ρ' s' z => hne ρ' s' (by rw [e, z])) p⟩
      · rename_i s2 eq
        refine ⟨H0, W, off o i, _, s1, false, s2, G4, eq, fun H4 xq kq => iteF ?_⟩
        have hp4 : H4 pp = some (.lst [.ref a, .ref b]) := xq pp _ upd_same nmp
        have ha4 := xq a _ ha3 nma
        have hb4 := xq b _ hb3 nmb
        have X04 : Ext w H H4 := ((xa.trans xb).trans x3).trans xq
        have hpH : H pp = none := by
          cases hh : H pp with
          | none => rfl
          | some y => rw [(xa.trans xb) pp y hh nmp] at hp; cases hp
        have hbH : H b = none := by
          cases hh : H b with
          | none => rfl
          | some y => rw [xa b y hh nmb] at nb; cases nb
        have X05 : Ext w H (upd H4 a (.lst (va ++ [.non]))) := X04.mut na
        have lva : va.length < sizeLine := by rw [ra3.length]; exact hx1
        have lvb : vb.length < sizeLine := by rw [rb3.length]; exact hy1
        refine ⟨.ref pp, hσ, pp, [.ref a, .ref b], 0, .ref a, rfl, rfl, SqL.of hp4, rfl, .inl ⟨rfl, va, SqL.of ha4⟩, a, va, .non, rfl, rfl, ha4, lva, ?_⟩
        have e5p : ∃ zs, upd H4 a (.lst (va ++ [.non])) pp = some (.lst (.ref a :: .ref b :: zs)) := by
          by_cases hh : pp = a
          · subst hh
            rw [ha4] at hp4
            cases hp4
            exact ⟨[.non], upd_same⟩
          · exact ⟨[], by rw [upd_ne hh]; exact hp4⟩
        obtain ⟨zs, e5p⟩ := e5p
        have e5b : ∃ us, upd H4 a (.lst (va ++ [.non])) b = some (.lst us) ∧ us.length < sizeLine := ⟨vb, by
          have : b ≠ a := fun z => by rw [z, ha] at nb; cases nb
          rw [upd_ne this]
          exact hb4, lvb⟩
        obtain ⟨us, e5b, lus⟩ := e5b
        refine ⟨.ref pp, hσ, pp, .ref a :: .ref b :: zs, 1, .ref b, rfl, rfl, SqL.of e5p, ?_, .inl ⟨rfl, us, SqL.of e5b⟩, b, us, .non, rfl, rfl, e5b, lus, ?_⟩
        · unfold L2.atI L2.ixN
          rw [if_pos (by decide), if_pos (by simp only [List.length_cons]; omega)]
          rfl
        · refine ⟨H0, W, _, _, _, out, (G.ext (s' := s2) (X05.mut hbH) (w.keep kq fun c mc => ?_)).setNone i (.ref pp), e, p⟩
          rw [upd_ne (fun z => nmb (by rw [← z]; exact mc)), upd_ne (fun z => nma (by rw [← z]; exact mc))]
      · cases e
    · cases e
  · cases e
theorem vs_ownIf (i : Nat) {x : Str} {pos' pn pi pos : Pos} (hN : X.N.Nodup) (hc : VQ X w c q) (he : VN X w e1 mn) (hi : X.N[i]? = some x := by rfl) (hx : Loc X.env.scope x := by first | exact Or.inl rfl | exact Or.inr rfl) (hv : Vis X.env.scope x := by first | exact Or.inl rfl | exact Or.inr (Or.inl rfl) | exact Or.inr (Or.inr rfl)) (hd : (x == ("__debug__" : Str)) = false := by decide) (hcd : (x == ("__classdict__" : Str)) = false := by decide)
    (hs : swapsWith (.IfExp c e1 (.Name x pn) pi) (some (.Name x pos')) pos.line X.env = pure false := by rfl)
    (hf : X.fn x = true ∨ X.env.scope.names.lookup x = some .local := by first | exact .inl rfl | exact .inr rfl | assumption) : VS X w (.Assign [.Name x pos'] (.IfExp c e1 (.Name x pn) pi) pos) (mOwnIf i q mn) :=
  (ps_set hN hi hx (pe_ifExp hc he (pe_var hi hv hd hcd)) hs hf).imp fun E σ H ⟨H0, W, o, ρ, s, out, G, e, p⟩ => by
    unfold mOwnIf at e
    split at e
    · rename_i s1 eq
      unfold mOwn at e
      split at e
      · rename_i hlt
        obtain ⟨⟨d, s'⟩, e1, rfl⟩ := Option.map_eq_some_iff.mp e
        exact ⟨H0, W, o, ρ, s, true, s1, G, eq, fun H1 xq kq => iteT ⟨H0, W, o, ρ, s1, d, s', G.ext xq kq, e1, fun a vs H' x k hn h' r => p _ _ H' ((G.ext xq kq).setOwn x k hn h' r i hlt)⟩⟩
      · cases e
    · rename_i s1 eq
      split at e
      · rename_i ds hi'
        cases e
        refine ⟨H0, W, o, ρ, s, false, s1, G, eq, fun H1 xq kq => iteF ?_⟩
        have G1 := G.ext xq kq
        obtain ⟨a, vs, h1, h2, h3, h4⟩ := G1.own i ds hi'
        refine ⟨_, h2, ?_⟩
        have : σ.set i (some (.ref a)) = σ := by
          obtain ⟨hl, hg⟩ := List.getElem?_eq_some_iff.mp h2
          exact hg ▸ List.set_getElem_self hl
        show E.nx (σ.set i (some (.ref a))) H1
        rw [this]
        exact p o σ H1 G1
      · cases e
    · cases e
end
end Rr

set_option Elab.async false
set_option linter.all false
set_option maxRecDepth 100000
set_option maxHeartbeats 1000000
namespace K04
open PySem PySem.Spec L2 Rr Gr
/-! ### all choices of roads; the program's trees -/
def upZ (c : List Nat) : List Int := c.map fun k : Nat => (k : Int)
def combs (m k : Nat) : List (List Int) := (tC m 0 k).map upZ
theorem upZ_inj {a b : List Nat} (h : upZ a = upZ b) : a = b := by
  induction a generalizing b with
  | nil => cases b with
    | nil => rfl
    | cons => cases h
  | cons x a ih => cases b with
    | nil => cases h
    | cons y b =>
      unfold upZ at h
      rw [List.map_cons, List.map_cons] at h
      injection h with h1 h2
      rw [ih (b := b) h2, show x = y by omega]
theorem tC_sorted : ∀ {k lo r : Nat}, ((tC k lo r).map upZ).Pairwise LeT
  | k, lo, 0 => by rw [tC_zero]; exact List.pairwise_singleton _ _
  | 0, _, _ + 1 => .nil
  | k + 1, lo, r + 1 => by
    show (((tC k (lo + 1) r).map (lo :: ·) ++ tC k (lo + 1) (r + 1)).map upZ).Pairwise LeT
    rw [List.map_append, List.pairwise_append]
    refine ⟨?_, tC_sorted, fun x hx y hy => ?_⟩
    · have ih := tC_sorted (k := k) (lo := lo + 1) (r := r)
      rw [List.pairwise_map] at ih
      rw [List.map_map, List.pairwise_map]
      refine ih.imp fun {a b} h => ?_
      show lexI ((lo : Int) :: upZ b) ((lo : Int) :: upZ a) = false
      unfold lexI
      rw [if_pos rfl]
      exact h
    · rw [List.map_map] at hx
      obtain ⟨a, _, rfl⟩ := List.mem_map.mp hx
      obtain ⟨b, hb, rfl⟩ := List.mem_map.mp hy
      obtain ⟨h1, _, h3⟩ := tC_mem.mp hb
      cases b with
      | nil => cases h1
      | cons z b =>
        have := h3 z List.mem_cons_self
        show lexI ((z : Int) :: upZ b) ((lo : Int) :: upZ a) = false
        unfold lexI
        rw [if_neg (by omega), decide_eq_false (by omega)]
theorem combs_sorted {m k : Nat} : (combs m k).Pairwise LeT := tC_sorted
theorem combs_nodup {m k : Nat} : (combs m k).Nodup := by
  unfold combs List.Nodup
  rw [List.pairwise_map]
  exact tC_nodup.imp fun h e => h (upZ_inj e)
theorem combs_len {m k : Nat} : (combs m k).length ≤ 2 ^ m := by unfold combs; rw [List.length_map]; exact tC_len
theorem combs_mem {m k : Nat} {T : List Int} : T ∈ combs m k ↔ T.length = k ∧ T.Pairwise (· < ·) ∧ ∀ z ∈ T, 0 ≤ z ∧ z < m := by
  unfold combs
  rw [List.mem_map]
  constructor
  · rintro ⟨c, hc, rfl⟩
    obtain ⟨h1, h2, h3⟩ := tC_mem.mp hc
    refine ⟨by unfold upZ; rw [List.length_map]; exact h1, ?_, fun z hz => ?_⟩
    · unfold upZ
      rw [List.pairwise_map]
      exact h2.imp fun q => by omega
    · obtain ⟨x, hx, rfl⟩ := List.mem_map.mp hz
      have := h3 x hx
      omega
  · rintro ⟨h1, h2, h3⟩
    have e : upZ (T.map Int.toNat) = T := by
      unfold upZ
      rw [List.map_map]
      exact (List.map_congr_left fun z hz => by have := (h3 z hz).1; show ((z.toNat : Nat) : Int) = z; omega).trans (List.map_id _)
    refine ⟨T.map Int.toNat, tC_mem.mpr ⟨by rw [List.length_map]; exact h1, ?_, fun x hx => ?_⟩, e⟩
    · rw [List.pairwise_map]
      refine List.Pairwise.imp_of_mem (fun {a b} ha hb q => ?_) h2
      have := (h3 a ha).1
      have := (h3 b hb).1
      omega
    · obtain ⟨z, hz, rfl⟩ := List.mem_map.mp hx
      have := h3 z hz
      omega
section
variable {S : Type} {s : S}
theorem ap_rComb {ma mb : Rho → Mo S D} {ρ : Rho} : rComb ma mb ρ s = (ma ρ s).bind fun x => (mb ρ x.2).bind fun y => (dComb x.1 y.1).map fun d => (d, y.2) := by
  unfold rComb
  simp only [ap_bd, ap_up]
theorem dComb_ev {m k : Int} (h0 : 0 ≤ k) (hk : k ≤ m) (h18 : m ≤ 18) : dComb (.int m) (.int k) = some ((combs m.toNat k.toNat).map tD) := by
  show (if 0 ≤ k && decide (k ≤ m) && decide (m ≤ 18) then some ((tC m.toNat 0 k.toNat).map tD_) else none) = _
  rw [if_pos (by simp [h0, hk, h18])]
  unfold combs
  rw [List.map_map]
  congr 1
  refine List.map_congr_left fun c _ => ?_
  show D.tup _ = D.tup _
  unfold upZ
  rw [List.map_map]
  rfl
theorem choices_ev {m k : Int} (h0 : 0 ≤ k) (hk : k ≤ m) (h18 : m ≤ 18) : F_choices [.int m, .int k] s = some ((combs m.toNat k.toNat).map tD, s) := by
  have e := dComb_ev h0 hk h18
  unfold F_choices m_choices
  simp (config := { contextual := true }) only [EVB, EVK, EV2, EV3, List.replicate_succ, List.replicate_zero, List.length_cons, List.length_nil, List.length_map, Nat.reduceAdd, Nat.reduceEqDiff, Nat.reduceLT, decide_true, decide_false, Bool.not_true, Bool.not_false, Bool.and_self, Bool.false_and, Bool.true_and, Bool.false_eq_true, if_true, if_false, reduceCtorEq, ap_rComb, e]
noncomputable def pTs (n : Int) (rs : List Row) : List (List Int) := (combs rs.length (n - 1).toNat).filter fun T => joinB n.toNat (eds (edr rs) T)
theorem tree_count {n : Int} {rs : List Row} (g : Good n rs) (hj : JoinR n rs) : n - 1 ≤ rs.length := by
  have t := kr_asc g hj
  have nd := asc_nodup t.asc
  have l := t.tr.1
  have n1 := g.n1
  have sub : (sortI (kr (edr rs) [] (idx rs))) ⊆ idx rs := fun z hz => idx_mem.mpr (t.ix z hz)
  have := List.Nodup.length_le_of_subset nd sub
  rw [idx_len] at this
  omega
theorem trees_ev {n : Int} {rs : List Row} (g : Good n rs) (hj : JoinR n rs) : F_trees [webD n rs] s = some ((pTs n rs).map tD, s) := by
  have few := g.few
  have n1 := g.n1
  have tc := tree_count g hj
  have ce := fun s : S => choices_ev (s := s) (m := (rs.length : Int)) (k := n - 1) (by omega) tc (by omega)
  have cl := combs_len (m := rs.length) (k := (n - 1).toNat)
  have c2 : 2 ^ rs.length ≤ 2 ^ 10 := Nat.pow_le_pow_right (by decide) few
  have hz : (combs (rs.length : Int).toNat (n - 1).toNat).length ≤ sizeLine := by
    rw [Int.toNat_natCast]
    exact le_size (Nat.le_trans cl (Nat.le_trans c2 (by decide)))
  have jn : ∀ T ∈ combs (rs.length : Int).toNat (n - 1).toNat, ∀ s : S, F_joins [webD n rs, tD T] s = some (.bl (joinB n.toNat (eds (edr rs) T)), s) := fun T hT s => by
    rw [Int.toNat_natCast] at hT
    obtain ⟨h1, h2, h3⟩ := combs_mem.mp hT
    exact joins_ev (s := s) (W2 := tD T) g (seqD_tD T) (fun z hz => h3 z hz) (by have := g.n6; omega)
  have hz2 : ((combs (rs.length : Int).toNat (n - 1).toNat).filter fun T => joinB n.toNat (eds (edr rs) T)).length ≤ sizeLine := Nat.le_trans (List.length_filter_le _ _) hz
  unfold F_trees m_trees
  simp (config := { contextual := true }) only [EVB, EVK, EV2, EV3, List.replicate_succ, List.replicate_zero, List.length_cons, List.length_nil, List.length_map, Nat.reduceAdd, Nat.reduceEqDiff, Nat.reduceLT, decide_true, decide_false, Bool.not_true, Bool.not_false, Bool.and_self, Bool.false_and, Bool.true_and, Bool.false_eq_true, if_true, if_false, reduceCtorEq, web0, web1, ce, jn, hz, hz2]
  rfl
theorem grT_nodup {n : Int} {rs : List Row} : ∀ {R : List Int} {F : List (List Int)}, R.Nodup → F.Nodup → (∀ T ∈ F, ∀ r ∈ R, r ∉ T) → (grT n rs R F).Nodup
  | [], F, _, h, _ => h
  | r :: R, F, hR, hF, h => by
    obtain ⟨r1, r2⟩ := List.nodup_cons.mp hR
    refine grT_nodup (R := R) r2 ?_ fun T hT z hz => ?_
    · rw [List.nodup_append]
      refine ⟨hF, ?_, fun a ha b hb => ?_⟩
      · unfold List.Nodup
        rw [List.pairwise_map]
        exact (hF.filter _).imp fun q e => q (List.append_cancel_right e)
      · obtain ⟨b', _, rfl⟩ := List.mem_map.mp hb
        intro e
        exact h a ha r List.mem_cons_self (by rw [e]; exact List.mem_append_right _ List.mem_cons_self)
    · rcases List.mem_append.mp hT with q | q
      · exact h T q z (List.mem_cons_of_mem _ hz)
      · obtain ⟨T', h', rfl⟩ := List.mem_map.mp q
        intro m
        rcases List.mem_append.mp m with k | k
        · exact h T' (List.mem_filter.mp h').1 z (List.mem_cons_of_mem _ hz) k
        · rw [List.mem_singleton.mp k] at hz; exact r1 hz
theorem allTs_nodup {n : Int} {rs : List Row} : (allTs n rs).Nodup := by
  unfold allTs
  rw [(sortT_perm _).nodup_iff]
  refine List.Pairwise.filter _ (grT_nodup (asc_nodup (idx_asc rs)) (by simp) fun T hT r _ => ?_)
  rw [List.mem_singleton.mp hT]
  exact List.not_mem_nil
/-- the program's trees are the law's -/
theorem pTs_eq {n : Int} {rs : List Row} (g : Good n rs) : pTs n rs = allTs n rs := by
  have n1 := g.n1
  refine sortT_only ((List.perm_ext_iff_of_nodup (List.Pairwise.filter _ combs_nodup) allTs_nodup).mpr fun T => ?_) (List.Pairwise.filter _ combs_sorted) (sortT_sorted _)
  rw [allTs_mem g, List.mem_filter, combs_mem, joinB_iff]
  constructor
  · rintro ⟨⟨h1, h2, h3⟩, h4⟩
    exact ⟨h2, fun z hz => h3 z hz, by omega, h4⟩
  · rintro ⟨h1, h2, h3, h4⟩
    exact ⟨⟨by omega, h1, fun z hz => h2 z hz⟩, h4⟩
end
end K04

set_option Elab.async false
set_option linter.all false
set_option maxRecDepth 100000
set_option maxHeartbeats 1000000
namespace K04
open PySem PySem.Spec L2 Rr
abbrev Op := List Int × Option Sl × Option Sl
def opR (x : Op) : Rho := [some (.val (.obj 0)), some (.own (x.1.map .int)), x.2.1, x.2.2]
def opF (x : Op) (d : D) : Op := match d with
  | .tup [.int k, .int c] => (x.1.set (k % 12).toNat (x.1.getD (k % 12).toNat 0 + c), some (.val (.int k)), some (.val (.int c)))
  | _ => x
theorem ix12 {xs : List Int} {k : Int} (h : xs.length = 12) : ixN (xs.map D.int).length (k % 12) = some (k % 12).toNat ∧ atI (xs.map D.int) (k % 12) = some (.int (xs.getD (k % 12).toNat 0)) := by
  have h1 : 0 ≤ k % 12 := Int.emod_nonneg _ (by decide)
  have h2 : k % 12 < 12 := Int.emod_lt_of_pos _ (by decide)
  generalize k % 12 = z at *
  have e : ixN (xs.map D.int).length z = some z.toNat := by
    unfold ixN
    rw [List.length_map, h, if_pos h1, if_pos (by omega)]
  refine ⟨e, ?_⟩
  unfold atI
  rw [e, Option.bind_some, List.getElem?_map, List.getElem?_eq_getElem (by omega)]
  simp [List.getD, List.getElem?_eq_getElem (show z.toNat < xs.length by omega)]
theorem op_step {x : Op} {k c : Int} (h : x.1.length = 12) : ∃ ρ1, (bTup (bCons (bName 2) (bCons (bName 3) bNil))) (.tup [.int k, .int c]) (opR x) = some ρ1 ∧
    (mPut 1 (b2 dAdd (b2 dIx (rO 1) (b2 dMod (rN 2) (rC (.int 12)))) (rN 3)) (b2 dMod (rN 2) (rC (.int 12))) : Ms Unit) ρ1 () = some (.nx (opR (opF x (.tup [.int k, .int c]))) ()) ∧ (opF x (.tup [.int k, .int c])).1.length = 12 := by
  obtain ⟨xs, o2, o3⟩ := x
  obtain ⟨i1, i2⟩ := ix12 (k := k) h
  have dm : dMod (.int k) (.int 12) = some (.int (k % 12)) := dMod_pos (by decide)
  refine ⟨_, rfl, ?_, by show (xs.set _ _).length = 12; rw [List.length_set]; exact h⟩
  show mPut 1 _ _ [some (.val (.obj 0)), some (.own (xs.map .int)), some (.val (.int k)), some (.val (.int c))] () = _
  have g2 : gv 2 [some (.val (.obj 0)), some (.own (xs.map .int)), some (.val (.int k)), some (.val (.int c))] = some (.int k) := rfl
  have g3 : gv 3 [some (.val (.obj 0)), some (.own (xs.map .int)), some (.val (.int k)), some (.val (.int c))] = some (.int c) := rfl
  have o1 : go 1 [some (.val (.obj 0)), some (.own (xs.map .int)), some (.val (.int k)), some (.val (.int c))] = some (.lst (xs.map .int)) := rfl
  have w1 : owned 1 [some (.val (.obj 0)), some (.own (xs.map .int)), some (.val (.int k)), some (.val (.int c))] = some (xs.map .int) := rfl
  have ek : (b2 dMod (rN 2) (rC (.int 12)) : Rho → Mo Unit D) [some (.val (.obj 0)), some (.own (xs.map .int)), some (.val (.int k)), some (.val (.int c))] () = some (.int (k % 12), ()) := by
    rw [ap_b2, ap_rN, g2, Option.map_some, Option.bind_some, ap_rC, Option.bind_some, dm]
    rfl
  unfold mPut
  simp only [ap_bd, ap_b2 (ma := b2 dIx (rO 1) _), ap_b2 (ma := rO 1), ap_rO, o1, Option.map_some, Option.bind_some, ek, dIx_lst, i2, ap_rN, g3, dAdd_int, ap_rt, w1, i1]
  simp [opR, opF, List.map_set]
theorem open_cut (ns : List Int) : ∃ c0 xs : List Int, Rr.cutD (ns.map D.int) none (some 12) = c0.map .int ∧ Rr.cutD (ns.map D.int) (some 12) (some 63) = xs.map .int ∧ (xs ≠ [] → c0.length = 12) := by
  refine ⟨ns.take (min 12 ns.length), (ns.drop (min 12 ns.length)).take (min 63 ns.length - min 12 ns.length), ?_, ?_, fun h => ?_⟩
  · simp [Rr.cutD, HT.sIx, List.map_take]
  · simp [Rr.cutD, HT.sIx, List.map_take, List.map_drop]
  · have : 12 < ns.length := by
      rcases Nat.lt_or_ge 12 ns.length with q | q
      · exact q
      · exfalso
        apply h
        rw [Nat.min_eq_right q, List.drop_length]
        simp
    rw [List.length_take]
    omega
theorem enum_ints : ∀ (k : Nat) (xs : List Int), ∀ d ∈ enumD k (xs.map D.int), ∃ i c : Int, d = .tup [.int i, .int c]
  | _, [], d, h => by cases h
  | k, x :: xs, d, h => by
    rw [List.map_cons] at h
    unfold enumD at h
    rcases List.mem_cons.mp h with rfl | h
    · exact ⟨_, _, rfl⟩
    · exact enum_ints (k + 1) xs d h
theorem open_ev (ns : List Int) : ∃ cells : List Int, F__law_open ns [.obj 0] () = some ([.lst (cells.map .int), .int 0, .int 0], ()) := by
  obtain ⟨c0, xs, e1, e2, h12⟩ := open_cut ns
  have s1 : (mOwn 1 (cb dList (rCons (mScr ns 0 rNo (rPt (rC (.int 12)))) rNil)) : Ms Unit) [some (.val (.obj 0)), none, none, none] () = some (.nx (opR (c0, none, none)) ()) := by
    have em : mScr ns 0 rNo (rPt (rC (.int 12))) [some (.val (.obj 0)), none, none, none] () = some (.lst (c0.map .int), ()) := by
      show some (D.lst (Rr.cutD (ns.map D.int) none (some 12)), ()) = _
      rw [e1]
    rw [ap_mOwn, ap_cb, ap_rCons, em]
    rfl
  have er : (cb enumA (rCons (mScr ns 0 (rPt (rC (.int 12))) (rPt (rC (.int 63)))) rNil) : Rho → Mo Unit (List D)) (opR (c0, none, none)) () = some (enumD 0 (xs.map .int), ()) := by
    have em : mScr ns 0 (rPt (rC (.int 12))) (rPt (rC (.int 63))) (opR (c0, none, none)) () = some (.lst (xs.map .int), ()) := by
      show some (D.lst (Rr.cutD (ns.map D.int) (some 12) (some 63)), ()) = _
      rw [e2]
    rw [ap_cb, ap_rCons, em]
    rfl
  obtain ⟨loop, p⟩ := loopD_inv (s := ()) opR opF (fun _ x => xs ≠ [] → x.1.length = 12) (b := bTup (bCons (bName 2) (bCons (bName 3) bNil))) (mb := mPut 1 (b2 dAdd (b2 dIx (rO 1) (b2 dMod (rN 2) (rC (.int 12)))) (rN 3)) (b2 dMod (rN 2) (rC (.int 12)))) (ds := enumD 0 (xs.map .int)) (a := (c0, none, none)) (fun x d r hd hp => by
    obtain ⟨i, c, rfl⟩ := enum_ints 0 xs d hd
    have hx : xs ≠ [] := fun z => by subst z; cases hd
    obtain ⟨ρ1, f1, f2, f3⟩ := op_step (x := x) (k := i) (c := c) (hp hx)
    exact ⟨ρ1, f1, f2, fun _ => f3⟩) h12
  generalize (enumD 0 (xs.map .int)).foldl opF (c0, none, none) = x at loop
  refine ⟨x.1, ?_⟩
  have s3 : (sRel 1 (sRf (rLst (rCons (rN 1) (rCons (rC (.int 0)) (rCons (rC (.int 0)) rNil))))) : Ms Unit) (opR x) () = some (.rf [.lst (x.1.map .int), .int 0, .int 0] ()) := by
    have : relE 1 (opR x) = [some (.val (.obj 0)), some (.val (.lst (x.1.map .int))), x.2.1, x.2.2] := rfl
    rw [ap_sRel, this]
    simp [gv]
  show endN (sq _ (sq _ _)) [some (.val (.obj 0)), none, none, none] () = _
  rw [ap_endN, run2s s1 (run2s (m2 := sRel 1 _) (by rw [ap_mFor, er, Option.bind_some]; exact loop) s3)]
end K04

set_option Elab.async false
set_option linter.all false
set_option maxRecDepth 100000
set_option maxHeartbeats 1000000
namespace K04
open PySem PySem.Spec L2 Rr Gr
/-! ### lengths that are drawn, raised; totals; least trees -/
/-- a comprehension whose items draw an int each -/
theorem lcG_pos {item : D → Rho → Mo PenS (List D)} {ρ : Rho} {α : Type} {g : α → D} {R : α → Int → Prop} {k : Nat} : ∀ {xs : List α} {st : PenS}, (∀ x ∈ xs, ∀ u : PenS, u.at_ ≤ far → ∃ y u2, item (g x) ρ u = some ([.int y], u2) ∧ R x y ∧ Adv k u u2) → st.at_ + k * xs.length ≤ far →
    ∃ (zs : List Int) (st2 : PenS), lcG item (xs.map g) ρ st = some (zs.map .int, st2) ∧ zs.length = xs.length ∧ (∀ (j : Nat) (h1 : j < xs.length) (h2 : j < zs.length), R xs[j] zs[j]) ∧ Adv (k * xs.length) st st2
  | [], st, _, _ => ⟨[], st, rfl, rfl, fun j h1 => absurd h1 (Nat.not_lt_zero _), (Adv.refl st).le (by omega)⟩
  | x :: xs, st, h, hb => by
    rw [List.length_cons, Nat.mul_add, Nat.mul_one] at hb
    obtain ⟨y, s1, e1, r1, a1⟩ := h x List.mem_cons_self st (by omega)
    obtain ⟨ys, s2, e2, l2, r2, a2⟩ := lcG_pos (st := s1) (fun z hz => h z (List.mem_cons_of_mem _ hz)) (by have := a1.2; omega)
    refine ⟨y :: ys, s2, ?_, by rw [List.length_cons, l2, List.length_cons], fun j h1 h2 => ?_, (a1.trans a2).le (by rw [List.length_cons, Nat.mul_add]; omega)⟩
    · rw [List.map_cons]
      unfold lcG
      simp only [ap_bd, e1, Option.bind_some, e2, ap_rt]
      rfl
    · cases j with
      | zero => exact r1
      | succ j => exact r2 j (by simpa using h1) (by simpa using h2)
theorem lenT_get {rs : List Row} {zs : List Int} (h : zs.length = rs.length) : tD zs = lenT rs fun z => zs.getD z.toNat 0 := by
  unfold lenT
  congr 1
  unfold idx
  rw [List.map_map]
  refine List.ext_getElem? fun k => ?_
  rw [List.getElem?_map]
  by_cases q : k < zs.length
  · rw [List.getElem?_range (by omega), List.getElem?_eq_getElem q]
    simp only [Option.map_some, Function.comp_def, Int.toNat_natCast]
    rw [List.getD_eq_getElem?_getD, List.getElem?_eq_getElem q]
    rfl
  · rw [List.getElem?_eq_none (by omega), List.getElem?_eq_none (by simp; omega)]
    rfl
theorem rw_get {rs : List Row} {j : Nat} (h : j < rs.length) : rowZ rs (j : Int) = rs[j] := by
  unfold rowZ
  rw [Int.toNat_natCast, List.getD_eq_getElem?_getD, List.getElem?_eq_getElem h]
  rfl
theorem dTuple_lst (ds : List D) : dTuple [.lst ds] = some (.tup ds) := rfl
section
variable {S : Type} {s : S}
theorem enumA_rows (rs : List Row) : enumA [.tup (rs.map rowD)] = some ((idx rs).map fun z => .tup [.int z, rowD (rowZ rs z)]) := by
  show some (enumD 0 (rs.map rowD)) = _
  rw [enum_idx]
theorem total_ev {rs : List Row} {R : List Int} {f : Int → Int} {W2 : D} (hW : seqD W2 = some (R.map .int)) (hR : ∀ z ∈ R, Ix rs z) (hl : R.length ≤ 1000) : F_total [lenT rs f, W2] s = some (.int (tot f R), s) := by
  have hz : R.length ≤ sizeLine := le_size (by omega)
  have at_ : ∀ z ∈ R, dIx (lenT rs f) (.int z) = some (.int (f z)) := fun z h => lenT_at (hR z h)
  unfold F_total m_total
  simp (config := { contextual := true }) only [EVB, EVK, EV2, EV3, List.replicate_succ, List.replicate_zero, List.length_cons, List.length_nil, List.length_map, Nat.reduceAdd, Nat.reduceEqDiff, Nat.reduceLT, decide_true, decide_false, Bool.not_true, Bool.not_false, Bool.and_self, Bool.false_and, Bool.true_and, Bool.false_eq_true, if_true, if_false, reduceCtorEq, hW, at_, hz, dSum_map]
  rfl
theorem dMin_tot (f : Int → Int) {Ts : List (List Int)} (h : Ts ≠ []) : ∃ m, dMin [.lst (Ts.map fun T => .int (tot f T))] = some (.int m) ∧ (∃ T ∈ Ts, tot f T = m) ∧ ∀ T ∈ Ts, m ≤ tot f T := by
  cases hl : least (Ts.map (tot f)) with
  | none =>
    exfalso
    cases Ts with
    | nil => exact h rfl
    | cons T Ts =>
      rw [List.map_cons] at hl
      unfold least at hl
      split at hl <;> cases hl
  | some m =>
    obtain ⟨h1, h2⟩ := least_spec hl
    refine ⟨m, ?_, ?_, fun T hT => h2 _ (List.mem_map.mpr ⟨T, hT, rfl⟩)⟩
    · show ((dInts (Ts.map fun T => D.int (tot f T))).bind least).map D.int = _
      rw [show (Ts.map fun T => D.int (tot f T)) = (Ts.map (tot f)).map D.int by rw [List.map_map]; rfl, dInts_map, Option.bind_some, hl]
      rfl
    · obtain ⟨T, hT, e⟩ := List.mem_map.mp h1
      exact ⟨T, hT, e⟩
/-- the least total -/
noncomputable def minT (n : Int) (rs : List Row) (f : Int → Int) : Int := match dMin [.lst ((allTs n rs).map fun T => .int (tot f T))] with
  | some (.int m) => m
  | _ => 0
theorem minT_ev {n : Int} {rs : List Row} (f : Int → Int) (g : Good n rs) (hj : JoinR n rs) : dMin [.lst ((allTs n rs).map fun T => .int (tot f T))] = some (.int (minT n rs f)) := by
  obtain ⟨m, e, _⟩ := dMin_tot f (allTs_ne g hj)
  unfold minT
  rw [e]
theorem minT_is {n : Int} {rs : List Row} (f : Int → Int) (g : Good n rs) (hj : JoinR n rs) : (∃ T ∈ allTs n rs, tot f T = minT n rs f) ∧ ∀ T ∈ allTs n rs, minT n rs f ≤ tot f T := by
  obtain ⟨m, e, h⟩ := dMin_tot f (allTs_ne g hj)
  have : minT n rs f = m := by unfold minT; rw [e]
  rw [this]
  exact h
noncomputable def leastTs (n : Int) (rs : List Row) (f : Int → Int) : List (List Int) := (allTs n rs).filter fun T => decide (tot f T = minT n rs f)
theorem allTs_len {n : Int} {rs : List Row} (g : Good n rs) : (allTs n rs).length ≤ 1024 := by
  have few := g.few
  unfold allTs
  rw [(sortT_perm _).length_eq]
  refine Nat.le_trans (List.length_filter_le _ _) (Nat.le_trans grT_keep ?_)
  rw [idx_len, List.length_singleton, Nat.one_mul]
  exact Nat.le_trans (Nat.pow_le_pow_right (by decide) few) (by decide)
theorem least_trees_ev {n : Int} {rs : List Row} {f : Int → Int} (g : Good n rs) (hj : JoinR n rs) : F_least_trees [webD n rs, lenT rs f] s = some ((leastTs n rs f).map tD, s) := by
  have te := fun s : S => trees_ev (s := s) g hj
  rw [pTs_eq g] at te
  have tl := allTs_len g
  have hz : (allTs n rs).length ≤ sizeLine := le_size (by omega)
  have ok : ∀ T ∈ allTs n rs, ∀ s : S, F_total [lenT rs f, tD T] s = some (.int (tot f T), s) := fun T hT s => by
    have h := (allTs_mem g T).mp hT
    exact total_ev (W2 := tD T) (seqD_tD T) h.ix (by have := h.few g; omega)
  have mt := minT_ev f g hj
  have hz2 : (leastTs n rs f).length ≤ sizeLine := Nat.le_trans (List.length_filter_le _ _) hz
  have hf : ((allTs n rs).filter fun T => decide (tot f T = minT n rs f)) = leastTs n rs f := rfl
  unfold F_least_trees m_least_trees
  simp (config := { contextual := true }) only [EVB, EVK, EV2, EV3, List.replicate_succ, List.replicate_zero, List.length_cons, List.length_nil, List.length_map, Nat.reduceAdd, Nat.reduceEqDiff, Nat.reduceLT, decide_true, decide_false, Bool.not_true, Bool.not_false, Bool.and_self, Bool.false_and, Bool.true_and, Bool.false_eq_true, if_true, if_false, reduceCtorEq, te, ok, hz, mt, dEq_int, hf, hz2]
end
end K04

set_option Elab.async false
set_option linter.all false
set_option maxRecDepth 100000
set_option maxHeartbeats 2000000
namespace K04
open PySem PySem.Spec L2 Rr Gr
theorem bet_wts {n : Int} {rs : List Row} {f : Int → Int} (g : Good n rs) (hb : BetW rs f) : Wts (idx rs) f := fun z hz => by
  have h := idx_ix z hz
  have : 0 ≤ loZ rs z := (h.good g).lo
  have := (hb z h).1
  omega
theorem tot_perm {f : Int → Int} {A B : List Int} (h : A.Perm B) : tot f A = tot f B := by
  induction h with
  | nil => rfl
  | cons x _ ih => unfold tot at *; rw [List.map_cons, List.map_cons, List.sum_cons, List.sum_cons, ih]
  | swap x y l => unfold tot; simp only [List.map_cons, List.sum_cons]; omega
  | trans _ _ h1 h2 => exact h1.trans h2
theorem sort_tree {n : Int} {rs : List Row} {T : List Int} (g : Good n rs) (h : Tree (edr rs) n.toNat T) (s : ∀ r ∈ T, r ∈ idx rs) : TreeOk n rs (sortI T) := by
  have n1 := g.n1
  have nd := tree_nodup (n := n.toNat) (by omega) (fun r hr => edr_in g (idx_ix r (s r hr))) h
  have m : ∀ x, x ∈ sortI T ↔ x ∈ T := fun x => (sortI_perm _).mem_iff
  refine ⟨?_, fun z hz => idx_ix z (s z ((m z).mp hz)), by rw [(sortI_perm _).length_eq]; exact h.1, fun x hx => (conn_same m).mpr (h.2 x hx)⟩
  have nd2 : (sortI T).Nodup := (sortI_perm _).nodup_iff.mpr nd
  exact ((sortI_sorted _).and nd2).imp fun q => by have := q.1; have := q.2; omega
theorem least_tight {n : Int} {rs : List Row} {f : Int → Int} {T : List Int} (g : Good n rs) (hj : JoinR n rs) (hb : BetW rs f) (hT : T ∈ leastTs n rs f) : TreeOk n rs T ∧ Tight (edr rs) f (idx rs) T := by
  have n1 := g.n1
  obtain ⟨_, hm⟩ := minT_is f g hj
  obtain ⟨h1, h2⟩ := List.mem_filter.mp hT
  have h := (allTs_mem g T).mp h1
  have e := of_decide_eq_true h2
  refine ⟨h, ((least_iff (n := n.toNat) (by omega) (fun r hr => edr_in g (idx_ix r hr)) (bet_wts g hb) hj).mp ⟨h.tr, fun r hr => idx_mem.mpr (h.ix r hr), fun T2 t2 s2 => ?_⟩).2.2⟩
  have := hm _ ((allTs_mem g _).mpr (sort_tree g t2 s2))
  rw [tot_perm (sortI_perm T2)] at this
  omega
def inT (T w : List Int) : Bool := w.all fun z => decide (z ∈ T)
theorem inT_iff {T w : List Int} : inT T w = true ↔ ∀ z ∈ w, z ∈ T := by
  unfold inT
  rw [List.all_eq_true]
  exact forall_congr' fun z => forall_congr' fun _ => decide_eq_true_iff
/-- a tree has one detour of a road that is not in it -/
theorem one_way {n : Int} {rs : List Row} {T : List Int} {i : Int} (g : Good n rs) (h : TreeOk n rs T) (hi : Ix rs i) (ni : i ∉ T) : ∃ w0, (wysI rs i).filter (inT T) = [w0] ∧ w0 ≠ [] ∧ (∀ z ∈ w0, z ∈ T) ∧ ∀ f : Int → Int, Tight (edr rs) f (idx rs) T → ∀ z ∈ w0, f z ≤ f i := by
  have n1 := g.n1
  have hiT : ∀ r ∈ T, Gr.In n.toNat (edr rs r) := fun r hr => edr_in g (h.ix r hr)
  have hf : ∀ e ∈ T, ¬ Conn (eds (edr rs) (T.filter fun z => !decide (z = e))) (edr rs e).1 (edr rs e).2 := fun e he => free_cut hiT (tree_free (by omega) h.tr) (asc_nodup h.asc) he
  have gr := hi.good g
  have ra := rg_of g hi
  have c : Conn (eds (edr rs) T) (rowZ rs i).1 (rowZ rs i).2.1 := joined_conn h.tr.2 ⟨ra.1, by have := ra.2; omega⟩ ⟨by have := gr.a0; have := gr.ab; omega, by have := gr.bn; omega⟩
  obtain ⟨w0, hs0, q0, e0⟩ := walk_ex g h.ix ra c
  have m0 : w0 ∈ wysI rs i := ways_in g hi q0 ni e0
  have t0 : ∀ z ∈ w0, z ∈ T := fun z hz => (q0.all z hz).1
  have uq : ∀ w ∈ wysI rs i, (∀ z ∈ w, z ∈ T) → w = w0 := fun w hw ht => by
    obtain ⟨hs2, q1, q2⟩ := go_of_ways hw
    exact go_uniq hf (q1.imp (al2 := (· ∈ T)) fun z hz _ => ht z hz) q0 q2 e0
  refine ⟨w0, ?_, fun z => ?_, t0, fun f ht z hz => ?_⟩
  · have nd : ((wysI rs i).filter (inT T)).Nodup := List.Pairwise.filter _ ways_nodup
    have mem : ∀ w, w ∈ (wysI rs i).filter (inT T) ↔ w ∈ [w0] := fun w => by
      rw [List.mem_filter, inT_iff, List.mem_singleton]
      exact ⟨fun q => uq w q.1 q.2, fun e => e ▸ ⟨m0, t0⟩⟩
    have p := (List.perm_ext_iff_of_nodup nd (by simp)).mpr mem
    exact List.perm_singleton.mp p
  · subst z
    cases q0
    simp only [List.getLast?_singleton] at e0
    injection e0 with e0
    have := gr.ab
    omega
  · have c2 := ht i (idx_mem.mpr hi)
    obtain ⟨w1, hs1, q1, e1⟩ := walk_ex (R := upto f T (f i)) g (fun z hz => h.ix z (by unfold upto at hz; exact (List.mem_filter.mp hz).1)) ra c2
    have sub : ∀ z ∈ w1, z ∈ T ∧ f z ≤ f i := fun z hz => by
      have := (q1.all z hz).1
      unfold upto at this
      have := List.mem_filter.mp this
      exact ⟨this.1, by simpa using this.2⟩
    have e := uq w1 (ways_in g hi q1 (fun z => ni (by unfold upto at z; exact (List.mem_filter.mp z).1)) e1) fun z hz => (sub z hz).1
    exact (sub z (e ▸ hz)).2
/-- across a side, a tree has one of the shortest roads -/
theorem side_min {n : Int} {rs : List Row} {T : List Int} {i : Int} {k : List Int} {f : Int → Int} (g : Good n rs) (h : TreeOk n rs T) (ht : Tight (edr rs) f (idx rs) T) (hi : Ix rs i) (hk : k ∈ sdsI n rs i) : ∀ z ∈ crossI rs k, ∃ y ∈ (crossI rs k).filter (fun y => decide (y ∈ T)), f y ≤ f z := fun z hz => by
  obtain ⟨h1, h2⟩ := cross_mem.mp hz
  have ra := rg_of g h1
  have c2 := ht z (idx_mem.mpr h1)
  have up : ∀ y ∈ upto f T (f z), Ix rs y := fun y hy => h.ix y (by unfold upto at hy; exact (List.mem_filter.mp hy).1)
  have crs : ∃ y ∈ upto f T (f z), y ∈ crossI rs k := by
    by_cases qa : (rowZ rs z).1 ∈ k
    · have qb : (rowZ rs z).2.1 ∉ k := fun q => by rw [decide_eq_true qa, decide_eq_true q] at h2; simp at h2
      obtain ⟨w1, hs1, q1, e1⟩ := walk_ex g up ra c2
      obtain ⟨y, y1, y2⟩ := go_cross q1 (x := (rowZ rs z).1) (y := (rowZ rs z).2.1) rfl e1 qa qb
      exact ⟨y, (q1.all y y1).1, y2⟩
    · have qb : (rowZ rs z).2.1 ∈ k := Classical.byContradiction fun q => by rw [decide_eq_false qa, decide_eq_false q] at h2; simp at h2
      have gz := h1.good g
      obtain ⟨w2, hs2, q2, e2⟩ := walk_ex (a := (edr rs z).2) (b := (edr rs z).1) g up ⟨by have := gz.a0; have := gz.ab; unfold edr; simp only; omega, gz.bn⟩ c2.symm
      obtain ⟨y, y1, y2⟩ := go_cross q2 (x := (rowZ rs z).2.1) (y := (rowZ rs z).1) rfl e2 qb qa
      exact ⟨y, (q2.all y y1).1, y2⟩
  obtain ⟨y, y1, y2⟩ := crs
  unfold upto at y1
  have := List.mem_filter.mp y1
  exact ⟨y, List.mem_filter.mpr ⟨y2, decide_eq_true this.1⟩, by simpa using this.2⟩
/-- the least of two lists of numbers -/
theorem least_same {f : Int → Int} {A B : List Int} (hne : A ≠ []) (hs : ∀ z ∈ B, z ∈ A) (h : ∀ z ∈ A, ∃ y ∈ B, f y ≤ f z) : ∃ m, dMin [.lst (A.map fun z => .int (f z))] = some (.int m) ∧ dMin [.lst (B.map fun z => .int (f z))] = some (.int m) := by
  have hd : ∀ C : List Int, dMin [.lst (C.map fun z => .int (f z))] = (least (C.map f)).map D.int := fun C => by
    show ((dInts (C.map fun z => D.int (f z))).bind least).map D.int = _
    rw [show (C.map fun z => D.int (f z)) = (C.map f).map D.int by rw [List.map_map]; rfl, dInts_map, Option.bind_some]
  have sm : ∀ C : List Int, C ≠ [] → ∃ m, least (C.map f) = some m := fun C hC => by
    cases hl : least (C.map f) with
    | some m => exact ⟨m, rfl⟩
    | none =>
      exfalso
      cases C with
      | nil => exact hC rfl
      | cons c C =>
        rw [List.map_cons] at hl
        unfold least at hl
        split at hl <;> cases hl
  obtain ⟨m, hm⟩ := sm A hne
  have hB : B ≠ [] := fun e => by
    cases A with
    | nil => exact hne rfl
    | cons a A => obtain ⟨y, hy, _⟩ := h a List.mem_cons_self; rw [e] at hy; cases hy
  obtain ⟨m2, hm2⟩ := sm B hB
  obtain ⟨a1, a2⟩ := least_spec hm
  obtain ⟨b1, b2⟩ := least_spec hm2
  obtain ⟨za, hza, ea⟩ := List.mem_map.mp a1
  obtain ⟨zb, hzb, eb⟩ := List.mem_map.mp b1
  obtain ⟨y, hy, ly⟩ := h za hza
  have l1 := b2 _ (List.mem_map.mpr ⟨y, hy, rfl⟩)
  have l2 := a2 _ (List.mem_map.mpr ⟨zb, hs zb hzb, rfl⟩)
  have e : m2 = m := by omega
  refine ⟨m, by rw [hd, hm]; rfl, by rw [hd, hm2, e]; rfl⟩
theorem most_le {f : Int → Int} {A : List Int} {c : Int} (hne : A ≠ []) (h : ∀ z ∈ A, f z ≤ c) : ∃ m, dMax [.lst (A.map fun z => .int (f z))] = some (.int m) ∧ m ≤ c := by
  have hd : dMax [.lst (A.map fun z => .int (f z))] = (most (A.map f)).map D.int := by
    show ((dInts (A.map fun z => D.int (f z))).bind most).map D.int = _
    rw [show (A.map fun z => D.int (f z)) = (A.map f).map D.int by rw [List.map_map]; rfl, dInts_map, Option.bind_some]
  cases hl : most (A.map f) with
  | some m =>
    refine ⟨m, by rw [hd, hl]; rfl, ?_⟩
    obtain ⟨a1, _⟩ := most_spec hl
    obtain ⟨z, hz, e⟩ := List.mem_map.mp a1
    rw [← e]
    exact h z hz
  | none =>
    exfalso
    cases A with
    | nil => exact hne rfl
    | cons c C =>
      rw [List.map_cons] at hl
      unfold most at hl
      split at hl <;> cases hl
end K04

set_option Elab.async false
set_option linter.all false
set_option maxRecDepth 100000
set_option maxHeartbeats 2000000
namespace K04
open PySem PySem.Spec L2 Rr Gr
def FK (d : D) (k : Nat) : Prop := Rr.plain d = true ∧ (py d).depth ≤ k
theorem fk_int (z : Int) (k : Nat) : FK (.int z) k := ⟨by simp [Rr.plain], by simp [py, PyData.depth]⟩
theorem fk_bl (z : Bool) (k : Nat) : FK (.bl z) k := ⟨by simp [Rr.plain], by simp [py, PyData.depth]⟩
theorem fk_non (k : Nat) : FK .non k := ⟨by simp [Rr.plain], by simp [py, PyData.depth]⟩
theorem fk_all {ds : List D} {k : Nat} (h : ∀ d ∈ ds, FK d k) : plainL ds = true ∧ PyData.depthAll (pyL ds) ≤ k := by
  induction ds with
  | nil => exact ⟨by simp [plainL], by simp [pyL, PyData.depthAll]⟩
  | cons d ds ih =>
    obtain ⟨h1, h2⟩ := h d List.mem_cons_self
    obtain ⟨h3, h4⟩ := ih fun x hx => h x (List.mem_cons_of_mem _ hx)
    refine ⟨by simp only [plainL, h1, h3, Bool.and_self], ?_⟩
    simp only [pyL, PyData.depthAll]
    omega
theorem fk_tup {ds : List D} {k : Nat} (h : ∀ d ∈ ds, FK d k) : FK (.tup ds) (k + 1) := by
  obtain ⟨h1, h2⟩ := fk_all h
  refine ⟨by simp only [Rr.plain, h1], ?_⟩
  simp only [py, PyData.depth]
  omega
theorem fk_lst {ds : List D} {k : Nat} (h : ∀ d ∈ ds, FK d k) : FK (.lst ds) (k + 1) := by
  obtain ⟨h1, h2⟩ := fk_all h
  refine ⟨by simp only [Rr.plain, h1], ?_⟩
  simp only [py, PyData.depth]
  omega
theorem fk_fit {d : D} {k : Nat} (h : FK d k) (hk : k ≤ 64) : fit d = true := by
  unfold fit
  rw [h.1, Bool.true_and, decide_eq_true_iff]
  have := h.2
  omega
theorem fk_mono {d : D} {k m : Nat} (h : FK d k) (hk : k ≤ m) : FK d m := ⟨h.1, Nat.le_trans h.2 hk⟩
theorem fk_tD (R : List Int) : FK (tD R) 1 := fk_tup fun d hd => by
  obtain ⟨z, _, rfl⟩ := List.mem_map.mp hd
  exact fk_int z 0

theorem eqv_tD : ∀ a b : List Int, PyData.eqvAll (pyL (a.map D.int)) (pyL (b.map D.int)) = decide (a = b)
  | [], [] => by simp [pyL, PyData.eqvAll]
  | [], _ :: _ => by simp [pyL, PyData.eqvAll]
  | _ :: _, [] => by simp [pyL, PyData.eqvAll]
  | x :: a, y :: b => by
    rw [List.map_cons, List.map_cons]
    simp only [pyL, PyData.eqvAll, py, PyData.eqv, eqv_tD a b]
    by_cases h : x = y <;> simp [h]
theorem isIn_tDs (w : List Int) (ks : List (List Int)) (hk : ks.length ≤ 1000000) : isIn false (tD w) (.lst (ks.map tD)) = some (.bl (decide (w ∈ ks))) := by
  have h0 : flat (tD w) = false := rfl
  have pk : ∀ ks : List (List Int), plainL (ks.map tD) = true ∧ PyData.depthAll (pyL (ks.map tD)) ≤ 1 := fun ks => by
    induction ks with
    | nil => simp [plainL, pyL, PyData.depthAll]
    | cons k ks ih =>
      rw [List.map_cons]
      simp only [plainL, plain_tD, ih.1, Bool.and_self, pyL, PyData.depthAll, depth_tD, true_and]
      have := ih.2
      omega
  have f1 : fit (.lst (ks.map tD)) = true := by
    unfold fit
    simp only [Rr.plain, (pk ks).1, py, PyData.depth, Bool.true_and, decide_eq_true_eq]
    have := (pk ks).2
    omega
  have f2 : inDeep (tD w) (ks.map tD) = decide (w ∈ ks) := by
    unfold inDeep
    clear f1 hk
    induction ks with
    | nil => simp [pyL]
    | cons k ks ih =>
      rw [List.map_cons]
      simp only [pyL, List.any_cons, ih]
      have : PyData.eqv (py (tD k)) (py (tD w)) = decide (k = w) := by
        unfold tD
        simp only [py, PyData.eqv]
        exact eqv_tD k w
      rw [this]
      by_cases h : k = w
      · subst h; simp
      · have h' : ¬ w = k := fun z => h z.symm
        simp [h, h']
  unfold isIn
  simp only [h0, Bool.false_and, Bool.false_eq_true, if_false, fit_tD, f1, Bool.and_self, if_true, f2]
theorem dEq_ints (a b : List Int) : dEq (.lst (a.map .int)) (.lst (b.map .int)) = some (.bl (decide (a = b))) := by
  unfold dEq
  rw [fit_lints, fit_lints]
  simp only [Bool.and_self, if_true, deq, py, PyData.eqv, eqv_tD]

theorem io_m2 {r : Rho} {o : Option D} : isOwn 0 (o.map Sl.val :: r) = false := by cases o <;> rfl
theorem eq_ints_nil (a : List Int) : dEq (.lst (a.map .int)) (.lst []) = some (.bl a.isEmpty) := by
  have := dEq_ints a []
  rw [List.map_nil] at this
  rw [this]
  cases a <;> rfl
theorem fit_tDs' (ks : List (List Int)) : fit (.lst (ks.map tD)) = true := fk_fit (k := 2) (fk_lst (k := 1) fun d hd => by
  obtain ⟨k, _, rfl⟩ := List.mem_map.mp hd
  exact fk_tD k) (by decide)
theorem deq_tDs_nil (ks : List (List Int)) : deq (.lst (ks.map tD)) (.lst []) = ks.isEmpty := by
  cases ks with
  | nil => simp [deq, py, pyL, PyData.eqv, PyData.eqvAll]
  | cons k ks => simp [deq, py, pyL, PyData.eqv, PyData.eqvAll]
theorem eq_tDs_nil (ks : List (List Int)) : dEq (.lst (ks.map tD)) (.lst []) = some (.bl ks.isEmpty) := by
  have f2 : fit (.lst []) = true := fit_tDs' []
  unfold dEq
  rw [fit_tDs', f2, deq_tDs_nil]
  rfl
theorem ne_tDs_nil (ks : List (List Int)) : dNe (.lst (ks.map tD)) (.lst []) = some (.bl (!ks.isEmpty)) := by
  have f2 : fit (.lst []) = true := fit_tDs' []
  unfold dNe
  rw [fit_tDs', f2, deq_tDs_nil]
  rfl
section
variable {S : Type} {s : S}
theorem det_ev {n : Int} {rs : List Row} {i : Int} (g : Good n rs) (hi : Ix rs i) : F_detours [webD n rs, .int i] s = some ((wysI rs i).map tD, s) := by
  obtain ⟨j, rfl⟩ := Int.eq_ofNat_of_zero_le hi.1
  have hj : j < rs.length := by have := hi.2; omega
  have h := List.getElem?_eq_getElem hj
  have e := (Ix.of h).2
  have := detours_ev (s := s) g h
  unfold wysI
  rw [e]
  exact this
theorem sid_ev {n : Int} {rs : List Row} {i : Int} (g : Good n rs) (hi : Ix rs i) : F_sides [webD n rs, .int i] s = some ((sdsI n rs i).map tD, s) := by
  obtain ⟨j, rfl⟩ := Int.eq_ofNat_of_zero_le hi.1
  have hj : j < rs.length := by have := hi.2; omega
  have h := List.getElem?_eq_getElem hj
  have e := (Ix.of h).2
  have := sides_ev (s := s) g h
  unfold sdsI
  rw [e]
  exact this
theorem wys_len {n : Int} {rs : List Row} {i : Int} (g : Good n rs) (hi : Ix rs i) : (wysI rs i).length ≤ 100000 := by
  have := ways_few (r0 := i) (e := (rowZ rs i).2.1) g (k := 8) (j := 5) (hs := [(rowZ rs i).1]) ⟨by simp, fun x hx => by rw [List.mem_singleton.mp hx]; exact rg_of g hi⟩ (by simp)
  exact this
theorem sds_len {n : Int} {rs : List Row} {i : Int} (g : Good n rs) (hi : Ix rs i) : (sdsI n rs i).length ≤ 64 := (sd_ok g.n1 g.n6 (hi.good g).a0 (hi.good g).ab (hi.good g).bn).2.1
theorem wy_len {rs : List Row} {i : Int} {w : List Int} (h : w ∈ wysI rs i) : w.length < 8 := ways_len h
/-! road right -/
def rrB : Ms S := (sq (mSet 5 (rNv (mCall 2 (F_crossing) (rCons (rN 0) (rCons (rN 4) rNil)))))
  (sq (sIf (qB (b2 (isIn true) (rN 1) (rN 5))) (sRt (rC (.bl false)))
  mNx)
  (sIf (qB (b2 dNe (rNv (mLc (rSeq (rN 2)) [7] (item1 (bName 7) (qB (b2 dEq (rNv (mLc (rSeq (rN 7)) [8] (item1 (bName 8) (qB (b2 (isIn false) (rN 8) (rN 5))) (one (rN 8))))) (rNv (rLst rNil)))) (one (rN 7))))) (rNv (rLst rNil)))) (sRt (rC (.bl false)))
  mNx)))
def rrS (n : Int) (rs : List Row) (i : Int) (t4 : Option D) (t5 : Option Sl) : Rho := [some (.val (webD n rs)), some (.val (.int i)), some (.val (.lst ((wysI rs i).map tD))), some (.val (.lst ((sdsI n rs i).map tD))), t4.map Sl.val, t5, none, none, none]
theorem rr_step {n : Int} {rs : List Row} {i : Int} {k : List Int} {t5 : Option Sl} (g : Good n rs) (hi : Ix rs i) (hk : k ∈ sdsI n rs i) : rrB (rrS n rs i (some (tD k)) t5) s = some (.nx (rrS n rs i (some (tD k)) (some (.val (.lst ((crossI rs k).map .int))))) s) := by
  have ce := fun s : S => crossing_ev (s := s) g (ks := k)
  have mi := road_cross g hi hk
  have i1 : isIn true (.int i) (.lst ((crossI rs k).map .int)) = some (.bl false) := by
    rw [isIn_intsL]
    simp [mi]
  have i2 : ∀ z : Int, isIn false (.int z) (.lst ((crossI rs k).map .int)) = some (.bl (decide (z ∈ crossI rs k))) := fun z => by rw [isIn_intsL]; rfl
  have wz : (wysI rs i).length ≤ sizeLine := le_size (by have := wys_len g hi; omega)
  have fz : ∀ w ∈ wysI rs i, (w.filter fun z => decide (z ∈ crossI rs k)).length ≤ sizeLine := fun w hw => Nat.le_trans (List.length_filter_le _ _) (le_size (by have := wy_len hw; omega))
  have fe : ∀ w ∈ wysI rs i, (w.filter fun z => decide (z ∈ crossI rs k)).isEmpty = false := fun w hw => by
    obtain ⟨z, z1, z2, _⟩ := way_cross g hi hk hw
    rw [List.isEmpty_eq_false_iff]
    intro e
    have : z ∈ w.filter fun z => decide (z ∈ crossI rs k) := List.mem_filter.mpr ⟨z1, decide_eq_true z2⟩
    rw [e] at this
    cases this
  have f0 : ((wysI rs i).flatMap fun _ => ([] : List D)) = [] := by simp
  have nn : dNe (.lst []) (.lst []) = some (.bl false) := ne_tDs_nil []
  unfold rrB rrS
  simp (config := { contextual := true }) only [EVB, EVK, EV2, EV3, List.replicate_succ, List.replicate_zero, List.length_cons, List.length_nil, List.length_map, Nat.reduceAdd, Nat.reduceEqDiff, Nat.reduceLT, decide_true, decide_false, Bool.not_true, Bool.not_false, Bool.and_self, Bool.false_and, Bool.true_and, Bool.false_eq_true, if_true, if_false, reduceCtorEq, seqD_tD, ce, i1, i2, wz, fz, eq_ints_nil, fe, f0, nn, List.map_nil, sz_nil, io_m2]
theorem rr_loop {n : Int} {rs : List Row} {i : Int} (g : Good n rs) (hi : Ix rs i) : ∀ {ks : List (List Int)} {t4 : Option D} {t5 : Option Sl}, (∀ k ∈ ks, k ∈ sdsI n rs i) → ∃ t4' t5', loopD (bName 4) rrB (ks.map tD) (rrS n rs i t4 t5) s = some (.nx (rrS n rs i t4' t5') s)
  | [], t4, t5, _ => ⟨t4, t5, rfl⟩
  | k :: ks, t4, t5, h => by
    obtain ⟨a, b, e⟩ := rr_loop g hi (ks := ks) (t4 := some (tD k)) (t5 := some (.val (.lst ((crossI rs k).map .int)))) fun y hy => h y (List.mem_cons_of_mem _ hy)
    refine ⟨a, b, ?_⟩
    rw [List.map_cons, loopD_cons (ρ1 := rrS n rs i (some (tD k)) t5) rfl (rr_step g hi (h k List.mem_cons_self))]
    exact e
theorem road_right_ev {n : Int} {rs : List Row} {i : Int} (g : Good n rs) (hi : Ix rs i) : F__law_road_right [webD n rs, .int i] s = some (.bl true, s) := by
  have de := fun s : S => det_ev (s := s) g hi
  have se := fun s : S => sid_ev (s := s) g hi
  have ce := fun (k : List Int) (s : S) => crossing_ev (s := s) g (ks := k)
  have sl := sds_len g hi
  have sz1 : (sdsI n rs i).length ≤ sizeLine := le_size (by omega)
  obtain ⟨t4, t5, lp⟩ := rr_loop (s := s) g hi (ks := sdsI n rs i) (t4 := none) (t5 := none) fun k hk => hk
  have lp' : (mFor (rSeq (rN 3)) (bName 4) rrB) (rrS n rs i none none) s = some (.nx (rrS n rs i t4 t5) s) := by
    rw [ap_mFor]
    exact lp
  have q : ∀ k : List Int, dEq (.lst ((crossI rs k).map .int)) (.lst [.int i]) = some (.bl (decide (crossI rs k = [i]))) := fun k => dEq_ints (crossI rs k) [i]
  have fz : ((sdsI n rs i).filter fun k => decide (crossI rs k = [i])).length ≤ sizeLine := Nat.le_trans (List.length_filter_le _ _) sz1
  have e1 := eq_tDs_nil (wysI rs i)
  have e2 := ne_tDs_nil ((sdsI n rs i).filter fun k => decide (crossI rs k = [i]))
  have same : (!((sdsI n rs i).filter fun k => decide (crossI rs k = [i])).isEmpty) = (wysI rs i).isEmpty := by
    rw [Bool.eq_iff_iff, Bool.not_eq_true', List.isEmpty_eq_false_iff, List.isEmpty_iff, alone_iff g hi, ne_eq, List.filter_eq_nil_iff]
    constructor
    · intro h
      refine Classical.byContradiction fun z => h fun k hk hd => z ⟨k, hk, of_decide_eq_true hd⟩
    · rintro ⟨k, hk, e⟩ h
      exact h k hk (decide_eq_true e)
  rw [same] at e2
  have e3 : dEq (.bl (wysI rs i).isEmpty) (.bl (wysI rs i).isEmpty) = some (.bl true) := dEq_self (fk_fit (fk_bl _ 0) (by decide))
  have s1 : (sz [D.int i]) = some [D.int i] := sz_eq (le_size (by simp))
  unfold F__law_road_right m__law_road_right
  refine endV_rt (run2s (ρ1 := rrS n rs i none none) (s1 := s) ?_ (run2s (m1 := mFor (rSeq (rN 3)) (bName 4) rrB) lp' (run2s (ρ1 := [some (.val (webD n rs)), some (.val (.int i)), some (.val (.lst ((wysI rs i).map tD))), some (.val (.lst ((sdsI n rs i).map tD))), t4.map Sl.val, t5, some (.val (.lst (((sdsI n rs i).filter fun k => decide (crossI rs k = [i])).map tD))), none, none]) (s1 := s) ?_ ?_)))
  · simp (config := { contextual := true }) only [EVB, EVK, EV2, EV3, List.replicate_succ, List.replicate_zero, List.length_cons, List.length_nil, List.length_map, Nat.reduceAdd, Nat.reduceEqDiff, Nat.reduceLT, decide_true, decide_false, Bool.not_true, Bool.not_false, Bool.and_self, Bool.false_and, Bool.true_and, Bool.false_eq_true, if_true, if_false, reduceCtorEq, de, se]
    rfl
  · unfold rrS
    simp (config := { contextual := true }) only [EVB, EVK, EV2, EV3, List.replicate_succ, List.replicate_zero, List.length_cons, List.length_nil, List.length_map, Nat.reduceAdd, Nat.reduceEqDiff, Nat.reduceLT, decide_true, decide_false, Bool.not_true, Bool.not_false, Bool.and_self, Bool.false_and, Bool.true_and, Bool.false_eq_true, if_true, if_false, reduceCtorEq, io_m2, ce, q, fz, s1]
  · simp (config := { contextual := true }) only [EVB, EVK, EV2, EV3, List.replicate_succ, List.replicate_zero, List.length_cons, List.length_nil, List.length_map, Nat.reduceAdd, Nat.reduceEqDiff, Nat.reduceLT, decide_true, decide_false, Bool.not_true, Bool.not_false, Bool.and_self, Bool.false_and, Bool.true_and, Bool.false_eq_true, if_true, if_false, reduceCtorEq, e1, e2, e3]
/-! tree right -/
def trB1 : Ms S := (sIf (qB (b2 (isIn true) (rN 3) (rN 2))) (sq (mSet 4 (rNv (mLc (rSeq (rNv (mCall 2 (F_detours) (rCons (rN 0) (rCons (rN 3) rNil))))) [7] (item1 (bName 7) (qB (b2 (isIn true) (rC (.bl false)) (rNv (mLc (rSeq (rN 7)) [8] (item1 (bName 8) qYes (one (b2 (isIn false) (rN 8) (rN 2)))))))) (one (rN 7))))))
  (sIf (qOr (qB (b2 dNe (cb dLen (rCons (rN 4) rNil)) (rC (.int 1)))) (qB (b2 dGt (cb dMax (rCons (rNv (mLc (rSeq (b2 dIx (rN 4) (rC (.int 0)))) [8] (item1 (bName 8) qYes (one (b2 dIx (rN 1) (rN 8)))))) rNil)) (b2 dIx (rN 1) (rN 3))))) (sRt (rC (.bl false)))
  mNx))
  mNx)
def trB2 : Ms S := (sq (mSet 6 (rNv (mCall 2 (F_crossing) (rCons (rN 0) (rCons (rN 5) rNil)))))
  (sIf (qB (b2 dNe (cb dMin (rCons (rNv (mLc (rSeq (rN 6)) [8] (item1 (bName 8) qYes (one (b2 dIx (rN 1) (rN 8)))))) rNil)) (cb dMin (rCons (rNv (mLc (rSeq (rN 6)) [8] (item1 (bName 8) (qB (b2 (isIn false) (rN 8) (rN 2))) (one (b2 dIx (rN 1) (rN 8)))))) rNil)))) (sRt (rC (.bl false)))
  mNx))
def trS (n : Int) (rs : List Row) (f : Int → Int) (T : List Int) (t3 t4 : Option Sl) (t5 : Option D) (t6 : Option Sl) : Rho := [some (.val (webD n rs)), some (.val (lenT rs f)), some (.val (tD T)), t3, t4, t5.map Sl.val, t6, none, none]
theorem tr1_ev {n : Int} {rs : List Row} {f : Int → Int} {T : List Int} {i : Int} {t4 : Option Sl} {t5 : Option D} {t6 : Option Sl} (g : Good n rs) (h : TreeOk n rs T) (ht : Tight (edr rs) f (idx rs) T) (hi : Ix rs i) : ∃ t4', trB1 (trS n rs f T (some (.val (.int i))) t4 t5 t6) s = some (.nx (trS n rs f T (some (.val (.int i))) t4' t5 t6) s) := by
  have mt : ∀ (z : Int) (b : Bool), isIn b (.int z) (tD T) = some (.bl (if b then !decide (z ∈ T) else decide (z ∈ T))) := fun z b => isIn_tD' b z T
  by_cases q : i ∈ T
  · have m1 : isIn true (.int i) (tD T) = some (.bl false) := by rw [mt]; simp [q]
    refine ⟨t4, ?_⟩
    unfold trB1 trS
    simp (config := { contextual := true }) only [EVB, EVK, EV2, EV3, List.replicate_succ, List.replicate_zero, List.length_cons, List.length_nil, List.length_map, Nat.reduceAdd, Nat.reduceEqDiff, Nat.reduceLT, decide_true, decide_false, Bool.not_true, Bool.not_false, Bool.and_self, Bool.false_and, Bool.true_and, Bool.false_eq_true, if_true, if_false, reduceCtorEq, m1]
  · have m1 : isIn true (.int i) (tD T) = some (.bl true) := by rw [mt]; simp [q]
    have m2 : ∀ z : Int, isIn false (.int z) (tD T) = some (.bl (decide (z ∈ T))) := fun z => by rw [mt]; rfl
    obtain ⟨w0, e0, w1, w2, w3⟩ := one_way g h hi q
    have de := fun s : S => det_ev (s := s) g hi
    have wz : ∀ w ∈ wysI rs i, w.length ≤ sizeLine := fun w hw => le_size (by have := wy_len hw; omega)
    have ib : ∀ w : List Int, isIn true (.bl false) (.lst (w.map fun z => .bl (decide (z ∈ T)))) = some (.bl (inT T w)) := fun w => by
      rw [isIn_blm]
      have : (!(w.any fun x => decide (x ∈ T) == false)) = inT T w := by
        unfold inT
        rw [Bool.eq_iff_iff, Bool.not_eq_true', List.any_eq_false, List.all_eq_true]
        refine forall_congr' fun z => forall_congr' fun _ => ?_
        cases decide (z ∈ T) <;> simp
      rw [cond_true, this]
    have e0' : ((wysI rs i).filter fun w => inT T w) = [w0] := e0
    have l1 : [w0].length ≤ sizeLine := le_size (by simp)
    have dl : dLen [.lst [tD w0]] = some (.int 1) := rfl
    have ne : dNe (.int 1) (.int 1) = some (.bl false) := by rw [dNe_int]; rfl
    have at0 : L2.atI [tD w0] 0 = some (tD w0) := rfl
    have m0 : w0 ∈ wysI rs i := (List.mem_filter.mp (show w0 ∈ (wysI rs i).filter (inT T) by rw [e0]; exact List.mem_cons_self)).1
    have wl := wz w0 m0
    have la : ∀ z ∈ w0, dIx (lenT rs f) (.int z) = some (.int (f z)) := fun z hz => lenT_at (h.ix z (w2 z hz))
    have li := lenT_at (f := f) hi
    obtain ⟨m, em, lm⟩ := most_le (f := f) (c := f i) w1 (w3 f ht)
    have gt : decide (f i < m) = false := decide_eq_false (by omega)
    refine ⟨some (.val (.lst [tD w0])), ?_⟩
    unfold trB1 trS
    simp (config := { contextual := true }) only [EVB, EVK, EV2, EV3, List.replicate_succ, List.replicate_zero, List.length_cons, List.length_nil, List.length_map, Nat.reduceAdd, Nat.reduceEqDiff, Nat.reduceLT, decide_true, decide_false, Bool.not_true, Bool.not_false, Bool.and_self, Bool.false_and, Bool.true_and, Bool.false_eq_true, if_true, if_false, reduceCtorEq, m1, m2, de, seqD_tD, wz, ib, e0', l1, List.map_cons, List.map_nil, dl, ne, at0, la, wl, em, li, gt]
theorem tr2_ev {n : Int} {rs : List Row} {f : Int → Int} {T k : List Int} {i : Int} {t4 t6 : Option Sl} (g : Good n rs) (h : TreeOk n rs T) (ht : Tight (edr rs) f (idx rs) T) (hi : Ix rs i) (hk : k ∈ sdsI n rs i) : trB2 (trS n rs f T (some (.val (.int i))) t4 (some (tD k)) t6) s = some (.nx (trS n rs f T (some (.val (.int i))) t4 (some (tD k)) (some (.val (.lst ((crossI rs k).map .int))))) s) := by
  have ce := fun s : S => crossing_ev (s := s) g (ks := k)
  have m2 : ∀ z : Int, isIn false (.int z) (tD T) = some (.bl (decide (z ∈ T))) := fun z => isIn_tD' false z T
  have cf := cross_few g k
  have la : ∀ z ∈ crossI rs k, dIx (lenT rs f) (.int z) = some (.int (f z)) := fun z hz => lenT_at (cross_mem.mp hz).1
  have cz : (crossI rs k).length ≤ sizeLine := le_size (by omega)
  have fz : ((crossI rs k).filter fun z => decide (z ∈ T)).length ≤ sizeLine := Nat.le_trans (List.length_filter_le _ _) cz
  obtain ⟨m, e1, e2⟩ := least_same (f := f) (A := crossI rs k) (B := (crossI rs k).filter fun z => decide (z ∈ T)) (fun e => by have := road_cross g hi hk; rw [e] at this; cases this) (fun z hz => (List.mem_filter.mp hz).1) (side_min g h ht hi hk)
  have ne : dNe (.int m) (.int m) = some (.bl false) := by rw [dNe_int]; simp
  unfold trB2 trS
  simp (config := { contextual := true }) only [EVB, EVK, EV2, EV3, List.replicate_succ, List.replicate_zero, List.length_cons, List.length_nil, List.length_map, Nat.reduceAdd, Nat.reduceEqDiff, Nat.reduceLT, decide_true, decide_false, Bool.not_true, Bool.not_false, Bool.and_self, Bool.false_and, Bool.true_and, Bool.false_eq_true, if_true, if_false, reduceCtorEq, ce, m2, la, cz, fz, e1, e2, ne]
theorem tr2_loop {n : Int} {rs : List Row} {f : Int → Int} {T : List Int} {i : Int} {t4 : Option Sl} (g : Good n rs) (h : TreeOk n rs T) (ht : Tight (edr rs) f (idx rs) T) (hi : Ix rs i) : ∀ {ks : List (List Int)} {t5 : Option D} {t6 : Option Sl}, (∀ k ∈ ks, k ∈ sdsI n rs i) → ∃ t5' t6', loopD (bName 5) trB2 (ks.map tD) (trS n rs f T (some (.val (.int i))) t4 t5 t6) s = some (.nx (trS n rs f T (some (.val (.int i))) t4 t5' t6') s)
  | [], t5, t6, _ => ⟨t5, t6, rfl⟩
  | k :: ks, t5, t6, hk => by
    obtain ⟨a, b, e⟩ := tr2_loop g h ht hi (t4 := t4) (ks := ks) (t5 := some (tD k)) (t6 := some (.val (.lst ((crossI rs k).map .int)))) fun y hy => hk y (List.mem_cons_of_mem _ hy)
    refine ⟨a, b, ?_⟩
    rw [List.map_cons, loopD_cons (ρ1 := trS n rs f T (some (.val (.int i))) t4 (some (tD k)) t6) rfl (tr2_ev g h ht hi (hk k List.mem_cons_self))]
    exact e
def trB : Ms S := sq trB1 (mFor (rSeq (rNv (mCall 2 (F_sides) (rCons (rN 0) (rCons (rN 3) rNil))))) (bName 5) trB2)
theorem tr_loop {n : Int} {rs : List Row} {f : Int → Int} {T : List Int} (g : Good n rs) (h : TreeOk n rs T) (ht : Tight (edr rs) f (idx rs) T) : ∀ {is : List Int} {t3 t4 : Option Sl} {t5 : Option D} {t6 : Option Sl}, (∀ i ∈ is, Ix rs i) → ∃ t3' t4' t5' t6', loopD (bName 3) trB (is.map .int) (trS n rs f T t3 t4 t5 t6) s = some (.nx (trS n rs f T t3' t4' t5' t6') s)
  | [], t3, t4, t5, t6, _ => ⟨t3, t4, t5, t6, rfl⟩
  | i :: is, t3, t4, t5, t6, hi => by
    have hi0 := hi i List.mem_cons_self
    obtain ⟨a4, e1⟩ := tr1_ev (s := s) (t4 := t4) (t5 := t5) (t6 := t6) g h ht hi0
    obtain ⟨a5, a6, e2⟩ := tr2_loop (s := s) (t4 := a4) (t5 := t5) (t6 := t6) g h ht hi0 (ks := sdsI n rs i) fun k hk => hk
    obtain ⟨b3, b4, b5, b6, e3⟩ := tr_loop g h ht (is := is) (t3 := some (.val (.int i))) (t4 := a4) (t5 := a5) (t6 := a6) fun y hy => hi y (List.mem_cons_of_mem _ hy)
    refine ⟨b3, b4, b5, b6, ?_⟩
    have se := fun s : S => sid_ev (s := s) g hi0
    have q : (rSeq (rNv (mCall 2 (F_sides) (rCons (rN 0) (rCons (rN 3) rNil))))) (trS n rs f T (some (.val (.int i))) a4 t5 t6) s = some ((sdsI n rs i).map tD, s) := by
      unfold trS
      simp (config := { contextual := true }) only [EVB, EVK, EV2, EV3, List.replicate_succ, List.replicate_zero, List.length_cons, List.length_nil, List.length_map, Nat.reduceAdd, Nat.reduceEqDiff, Nat.reduceLT, decide_true, decide_false, Bool.not_true, Bool.not_false, Bool.and_self, Bool.false_and, Bool.true_and, Bool.false_eq_true, if_true, if_false, reduceCtorEq, se]
    rw [List.map_cons, loopD_cons (ρ1 := trS n rs f T (some (.val (.int i))) t4 t5 t6) (ρ2 := trS n rs f T (some (.val (.int i))) a4 a5 a6) (s1 := s) rfl ?_]
    · exact e3
    · refine run2s e1 ?_
      rw [ap_mFor, q, Option.bind_some]
      exact e2
theorem tree_right_ev {n : Int} {rs : List Row} {f : Int → Int} {T : List Int} (g : Good n rs) (h : TreeOk n rs T) (ht : Tight (edr rs) f (idx rs) T) : F__law_tree_right [webD n rs, lenT rs f, tD T] s = some (.bl true, s) := by
  obtain ⟨b3, b4, b5, b6, e⟩ := tr_loop (s := s) g h ht (is := idx rs) (t3 := none) (t4 := none) (t5 := none) (t6 := none) fun i hi => idx_ix i hi
  have ri := rng_idx g
  have q : (cb rng1 (rCons (cb dLen (rCons (b2 dIx (rN 0) (rC (.int 1))) rNil)) rNil)) (trS n rs f T none none none none) s = some ((idx rs).map .int, s) := by
    unfold trS
    simp (config := { contextual := true }) only [EVB, EVK, EV2, EV3, List.replicate_succ, List.replicate_zero, List.length_cons, List.length_nil, List.length_map, Nat.reduceAdd, Nat.reduceEqDiff, Nat.reduceLT, decide_true, decide_false, Bool.not_true, Bool.not_false, Bool.and_self, Bool.false_and, Bool.true_and, Bool.false_eq_true, if_true, if_false, reduceCtorEq, web1, ri]
  have lp : (mFor (cb rng1 (rCons (cb dLen (rCons (b2 dIx (rN 0) (rC (.int 1))) rNil)) rNil)) (bName 3) trB) (trS n rs f T none none none none) s = some (.nx (trS n rs f T b3 b4 b5 b6) s) := by
    rw [ap_mFor, q, Option.bind_some]
    exact e
  unfold F__law_tree_right m__law_tree_right
  exact endV_rt (run2s (m1 := mFor (cb rng1 (rCons (cb dLen (rCons (b2 dIx (rN 0) (rC (.int 1))) rNil)) rNil)) (bName 3) trB) lp rfl)
end
end K04

set_option Elab.async false
set_option linter.all false
set_option maxRecDepth 100000
set_option maxHeartbeats 2000000
namespace K04
open PySem PySem.Spec L2 Rr Gr
/-! ### k04: the law's turns -/
theorem lengths4_ev {n : Int} {rs : List Row} {u : PenS} (g : Good n rs) (hu : u.at_ + 100 ≤ far) : ∃ f u2, F__law_draw_lengths F__law_take [.obj 0, webD n rs] u = some (lenT rs f, u2) ∧ BetW rs f ∧ Adv 20 u u2 := by
  have hf : u.at_ + 100 ≤ 2147483000 := hu
  have few := g.few
  obtain ⟨zs, u2, e, l, r, ad⟩ := lcG_pos (item := item1 (bTup (bCons (bName 2) (bCons (bName 3) (bCons (bName 4) (bCons (bName 5) bNil))))) qYes (one (mCall 2 (F__law_one_of F__law_take) (rCons (rN 0) (rCons (rNv (rLst (rCons (rN 4) (rCons (rN 5) (rCons (b2 dAdd (rN 4) (mCall 2 F__law_take (rCons (rN 0) (rCons (b2 dAdd (b2 dSub (rN 5) (rN 4)) (rC (.int 1))) rNil)))) rNil))))) rNil))))) (g := rowD) (ρ := [some (.val (.obj 0)), some (.val (webD n rs)), none, none, none, none]) (R := fun r z => r.2.2.1 ≤ z ∧ z ≤ r.2.2.2) (k := 2) (xs := rs) (st := u) (fun q hq v hv => by
      have gr := g.row q hq
      have := gr.lo
      have := gr.hi
      have := gr.top
      have hv : v.at_ ≤ 2147483000 := hv
      obtain ⟨t, v2, e, t0, t1, a⟩ := take_ev (n := q.2.2.2 - q.2.2.1 + 1) (st := v) (by omega) (by omega) (by omega)
      have a : Adv 1 v v2 := a
      have p := a.2
      obtain ⟨d, v3, o, m, a2⟩ := one_of_ev (ds := [.int q.2.2.1, .int q.2.2.2, .int (q.2.2.1 + t)]) (L := 3) (st := v2) rfl (by decide) (by decide) (by omega)
      have s3 : sz [D.int q.2.2.1, .int q.2.2.2, .int (q.2.2.1 + t)] = some [D.int q.2.2.1, .int q.2.2.2, .int (q.2.2.1 + t)] := sz_eq (le_size (by simp))
      obtain ⟨y, rfl, hy⟩ : ∃ y, d = .int y ∧ q.2.2.1 ≤ y ∧ y ≤ q.2.2.2 := by
        simp only [List.mem_cons, List.not_mem_nil, or_false] at m
        rcases m with rfl | rfl | rfl
        · exact ⟨_, rfl, by omega, by omega⟩
        · exact ⟨_, rfl, by omega, by omega⟩
        · exact ⟨_, rfl, by omega, by omega⟩
      refine ⟨y, v3, ?_, hy, a.trans a2⟩
      show item1 _ _ _ (.tup [.int q.1, .int q.2.1, .int q.2.2.1, .int q.2.2.2]) _ _ = _
      simp (config := { contextual := true }) only [EVB, EVK, EV2, EV3, List.replicate_succ, List.replicate_zero, List.length_cons, List.length_nil, List.length_map, Nat.reduceAdd, Nat.reduceEqDiff, Nat.reduceLT, decide_true, decide_false, Bool.not_true, Bool.not_false, Bool.and_self, Bool.false_and, Bool.true_and, Bool.false_eq_true, if_true, if_false, reduceCtorEq, e, s3, o]) (by show _ ≤ 2147483000; omega)
  refine ⟨fun z => zs.getD z.toNat 0, u2, ?_, fun z hz => ?_, ad.le (by omega)⟩
  · rw [← lenT_get (rs := rs) l]
    have hz : zs.length ≤ sizeLine := le_size (by omega)
    have lc : (mLc (rSeq (b2 dIx (rN 1) (rC (.int 1)))) [2, 3, 4, 5] (item1 (bTup (bCons (bName 2) (bCons (bName 3) (bCons (bName 4) (bCons (bName 5) bNil))))) qYes (one (mCall 2 (F__law_one_of F__law_take) (rCons (rN 0) (rCons (rNv (rLst (rCons (rN 4) (rCons (rN 5) (rCons (b2 dAdd (rN 4) (mCall 2 F__law_take (rCons (rN 0) (rCons (b2 dAdd (b2 dSub (rN 5) (rN 4)) (rC (.int 1))) rNil)))) rNil))))) rNil)))))) [some (.val (.obj 0)), some (.val (webD n rs)), none, none, none, none] u = some (zs.map .int, u2) := by
      rw [ap_mLc]
      simp (config := { contextual := true }) only [EVB, EVK, EV2, ap_mFor, clean_nil, clean_cons, io_n, io_v, io_o, io_s, wipe_nil, wipe_cons, sz_map, bg_1, bg_2, bg_3, bg_4, List.replicate_succ, List.replicate_zero, List.length_cons, List.length_nil, List.length_map, Nat.reduceAdd, Nat.reduceEqDiff, Nat.reduceLT, decide_true, decide_false, Bool.not_true, Bool.not_false, Bool.and_self, Bool.false_and, Bool.true_and, Bool.false_eq_true, if_true, if_false, reduceCtorEq, web1, e, hz]
    unfold F__law_draw_lengths m__law_draw_lengths
    simp (config := { contextual := true }) only [EVB, EVK, EV2, ap_mFor, clean_nil, clean_cons, io_n, io_v, io_o, io_s, wipe_nil, wipe_cons, sz_map, bg_1, bg_2, bg_3, bg_4, List.replicate_succ, List.replicate_zero, List.length_cons, List.length_nil, List.length_map, Nat.reduceAdd, Nat.reduceEqDiff, Nat.reduceLT, decide_true, decide_false, Bool.not_true, Bool.not_false, Bool.and_self, Bool.false_and, Bool.true_and, Bool.false_eq_true, if_true, if_false, reduceCtorEq, lc, dTuple_lst]
    rfl
  · obtain ⟨j, rfl⟩ := Int.eq_ofNat_of_zero_le hz.1
    have hj : j < rs.length := by have := hz.2; omega
    have := r j hj (by omega)
    have ez : zs.getD j 0 = zs[j]'(by omega) := by rw [List.getD_eq_getElem?_getD, List.getElem?_eq_getElem (by omega)]; rfl
    unfold loZ hiZ
    rw [rw_get hj]
    show _ ≤ zs.getD j 0 ∧ zs.getD j 0 ≤ _
    rw [ez]
    exact this
structure TZ where
  t2 : Option Sl
  t3 : Option Sl
  t4 : Option Sl
  t5 : Option Sl
  t6 : Option D
  t7 : Option D
  t8 : Option D
def lwS (t : TZ) : Rho := [none, some (.val (.obj 0)), t.t2, t.t3, t.t4, t.t5, t.t6.map Sl.val, t.t7.map Sl.val, t.t8.map Sl.val]
def tnB : Ms PenS := (sq (mSet 3 (mCall 4 (F__law_draw_web F__law_take) (rCons (rN 1) (rCons (rC (.int 6)) (rCons (rC (.int 9)) (rCons (rC (.int 9)) rNil))))))
  (sq (sIf (qB (b2 (isIn false) (rC (.bl false)) (rNv (mLc (cb rng1 (rCons (cb dLen (rCons (b2 dIx (rN 3) (rC (.int 1))) rNil)) rNil)) [6] (item1 (bName 6) qYes (one (mCall 2 (F__law_road_right) (rCons (rN 3) (rCons (rN 6) rNil))))))))) (sRt (rC (.bl false)))
  mNx)
  (sq (mSet 4 (mCall 2 (F__law_draw_lengths F__law_take) (rCons (rN 1) (rCons (rN 3) rNil))))
  (sq (mSet 5 (rNv (mCall 2 (F_least_trees) (rCons (rN 3) (rCons (rN 4) rNil)))))
  (sq (sIf (qOr (qB (b2 dEq (rN 5) (rNv (rLst rNil)))) (qB (b2 dNe (rNv (mLc (rSeq (rN 5)) [7] (item1 (bName 7) (qB (b2 (isIn true) (rN 7) (rNv (mCall 1 (F_trees) (rCons (rN 3) rNil))))) (one (rN 7))))) (rNv (rLst rNil))))) (sRt (rC (.bl false)))
  mNx)
  (sIf (qB (b2 (isIn false) (rC (.bl false)) (rNv (mLc (rSeq (rCut (rN 5) rNo (rPt (rC (.int 5))))) [8] (item1 (bName 8) qYes (one (mCall 3 (F__law_tree_right) (rCons (rN 3) (rCons (rN 4) (rCons (rN 8) rNil)))))))))) (sRt (rC (.bl false)))
  mNx))))))
theorem isIn_no {α : Type} (xs : List α) : isIn false (.bl false) (.lst (xs.map fun _ => .bl true)) = some (.bl false) := by
  rw [isIn_blm (fun _ => true) xs false false]
  congr 2
  rw [cond_false, List.any_eq_false]
  intro x _
  decide
theorem cut5 (Ts : List (List Int)) : dCut (.lst (Ts.map tD)) none (some 5) = some (.lst ((Ts.take 5).map tD)) := by
  show some (D.lst _) = _
  congr 2
  unfold Rr.cutD
  rw [show HT.sIx (Ts.map tD).length 0 none = 0 from rfl]
  unfold HT.sIx
  simp only [List.drop_zero, Nat.sub_zero]
  rw [if_neg (by decide), List.map_take]
  show List.take (min 5 _) _ = _
  rw [List.length_map, ← List.length_map (f := tD), Nat.min_def]
  split
  · rfl
  · rw [List.take_of_length_le (Nat.le_refl _), List.take_of_length_le (by omega)]
theorem bl_inj {a b : Bool} (h : some (D.bl a) = some (D.bl b)) : a = b := by cases h; rfl
theorem turn_ev {t : TZ} {u : PenS} (hu : u.at_ + 900 ≤ far) : ∃ t' u2, tnB (lwS t) u = some (.nx (lwS t') u2) ∧ Adv 220 u u2 := by
  have hf : u.at_ + 900 ≤ 2147483000 := hu
  obtain ⟨n, rs, u1, e1, g, hj, a1⟩ := draw_web_ev3 (h := 6) (m := 9) (w := 9) (st := u) (by decide) (by decide) (by decide) (by decide) (by decide) (by decide) (by show _ ≤ 2147483000; omega)
  obtain ⟨f, u2, e2, hb, a2⟩ := lengths4_ev (u := u1) g (by have := a1.2; show _ ≤ 2147483000; omega)
  have few := g.few
  have ri := rng_idx g
  have iz : (idx rs).length ≤ sizeLine := le_size (by rw [idx_len]; omega)
  have rr : ∀ i ∈ idx rs, ∀ s : PenS, F__law_road_right [webD n rs, .int i] s = some (.bl true, s) := fun i hi s => road_right_ev g (idx_ix i hi)
  have le := fun s : PenS => least_trees_ev (s := s) (f := f) g hj
  have te := fun s : PenS => trees_ev (s := s) g hj
  rw [pTs_eq g] at te
  have tl := allTs_len g
  have lz : (leastTs n rs f).length ≤ (allTs n rs).length := List.length_filter_le _ _
  have lz2 : (leastTs n rs f).length ≤ sizeLine := le_size (by omega)
  have ne : (leastTs n rs f).isEmpty = false := by
    obtain ⟨⟨T, hT, eT⟩, _⟩ := minT_is f g hj
    rw [List.isEmpty_eq_false_iff]
    intro e
    have : T ∈ leastTs n rs f := List.mem_filter.mpr ⟨hT, decide_eq_true eT⟩
    rw [e] at this
    cases this
  have en := eq_tDs_nil (leastTs n rs f)
  rw [ne] at en
  have inn : ∀ T ∈ leastTs n rs f, isIn true (tD T) (.lst ((allTs n rs).map tD)) = some (.bl false) := fun T hT => by
    have h := isIn_tDs T (allTs n rs) (by omega)
    have m : T ∈ allTs n rs := (List.mem_filter.mp hT).1
    rw [decide_eq_true m] at h
    unfold isIn at h ⊢
    have h0 : flat (tD T) = false := rfl
    have f1 : fit (.lst ((allTs n rs).map tD)) = true := fit_tDs' _
    simp only [h0, Bool.false_and, Bool.false_eq_true, if_false, fit_tD, f1, Bool.and_self, if_true] at h ⊢
    have h := bl_inj h
    rw [h]
    rfl
  have nn : dNe (.lst []) (.lst []) = some (.bl false) := ne_tDs_nil []
  have f0 : ((leastTs n rs f).flatMap fun _ => ([] : List D)) = [] := by simp
  have c5 := cut5 (leastTs n rs f)
  have tr : ∀ T ∈ (leastTs n rs f).take 5, ∀ s : PenS, F__law_tree_right [webD n rs, lenT rs f, tD T] s = some (.bl true, s) := fun T hT s => by
    obtain ⟨h1, h2⟩ := least_tight g hj hb (List.mem_of_mem_take hT)
    exact tree_right_ev g h1 h2
  have tz : ((leastTs n rs f).take 5).length ≤ sizeLine := le_size (by rw [List.length_take]; omega)
  refine ⟨⟨t.t2, some (.val (webD n rs)), some (.val (lenT rs f)), some (.val (.lst ((leastTs n rs f).map tD))), t.t6, t.t7, t.t8⟩, u2, ?_, (a1.trans a2).le (by omega)⟩
  refine run2s (ρ1 := lwS { t with t3 := some (.val (webD n rs)) }) (s1 := u1) ?_ (run2s (ρ1 := lwS { t with t3 := some (.val (webD n rs)) }) (s1 := u1) ?_ (run2s (ρ1 := lwS { t with t3 := some (.val (webD n rs)), t4 := some (.val (lenT rs f)) }) (s1 := u2) ?_ (run2s (ρ1 := lwS { t with t3 := some (.val (webD n rs)), t4 := some (.val (lenT rs f)), t5 := some (.val (.lst ((leastTs n rs f).map tD))) }) (s1 := u2) ?_ (run2s (ρ1 := lwS { t with t3 := some (.val (webD n rs)), t4 := some (.val (lenT rs f)), t5 := some (.val (.lst ((leastTs n rs f).map tD))) }) (s1 := u2) ?_ ?_))))
  · unfold lwS
    simp (config := { contextual := true }) only [EVB, EVK, EV2, EV3, List.replicate_succ, List.replicate_zero, List.length_cons, List.length_nil, List.length_map, Nat.reduceAdd, Nat.reduceEqDiff, Nat.reduceLT, decide_true, decide_false, Bool.not_true, Bool.not_false, Bool.and_self, Bool.false_and, Bool.true_and, Bool.false_eq_true, if_true, if_false, reduceCtorEq, e1]
  · unfold lwS
    simp (config := { contextual := true }) only [EVB, EVK, EV2, EV3, List.replicate_succ, List.replicate_zero, List.length_cons, List.length_nil, List.length_map, Nat.reduceAdd, Nat.reduceEqDiff, Nat.reduceLT, decide_true, decide_false, Bool.not_true, Bool.not_false, Bool.and_self, Bool.false_and, Bool.true_and, Bool.false_eq_true, if_true, if_false, reduceCtorEq, io_m2, web1, ri, rr, iz, isIn_no]
  · unfold lwS
    simp (config := { contextual := true }) only [EVB, EVK, EV2, EV3, List.replicate_succ, List.replicate_zero, List.length_cons, List.length_nil, List.length_map, Nat.reduceAdd, Nat.reduceEqDiff, Nat.reduceLT, decide_true, decide_false, Bool.not_true, Bool.not_false, Bool.and_self, Bool.false_and, Bool.true_and, Bool.false_eq_true, if_true, if_false, reduceCtorEq, e2]
  · unfold lwS
    simp (config := { contextual := true }) only [EVB, EVK, EV2, EV3, List.replicate_succ, List.replicate_zero, List.length_cons, List.length_nil, List.length_map, Nat.reduceAdd, Nat.reduceEqDiff, Nat.reduceLT, decide_true, decide_false, Bool.not_true, Bool.not_false, Bool.and_self, Bool.false_and, Bool.true_and, Bool.false_eq_true, if_true, if_false, reduceCtorEq, le]
  · unfold lwS
    simp (config := { contextual := true }) only [EVB, EVK, EV2, EV3, List.replicate_succ, List.replicate_zero, List.length_cons, List.length_nil, List.length_map, Nat.reduceAdd, Nat.reduceEqDiff, Nat.reduceLT, decide_true, decide_false, Bool.not_true, Bool.not_false, Bool.and_self, Bool.false_and, Bool.true_and, Bool.false_eq_true, if_true, if_false, reduceCtorEq, io_m2, en, te, inn, f0, nn, sz_nil]
  · unfold lwS
    simp (config := { contextual := true }) only [EVB, EVK, EV2, EV3, List.replicate_succ, List.replicate_zero, List.length_cons, List.length_nil, List.length_map, Nat.reduceAdd, Nat.reduceEqDiff, Nat.reduceLT, decide_true, decide_false, Bool.not_true, Bool.not_false, Bool.and_self, Bool.false_and, Bool.true_and, Bool.false_eq_true, if_true, if_false, reduceCtorEq, io_m2, c5, tr, tz, isIn_no]
theorem turns_ev : ∀ {ks : List Int} {t : TZ} {u : PenS}, u.at_ + 220 * ks.length + 900 ≤ far → ∃ t' u2, loopD (bName 2) tnB (ks.map .int) (lwS t) u = some (.nx (lwS t') u2)
  | [], t, u, _ => ⟨t, u, rfl⟩
  | k :: ks, t, u, h => by
    rw [List.length_cons] at h
    obtain ⟨t1, u1, e1, ad⟩ := turn_ev (t := { t with t2 := some (.val (.int k)) }) (u := u) (by omega)
    obtain ⟨t2, u2, e2⟩ := turns_ev (ks := ks) (t := t1) (u := u1) (by have := ad.2; omega)
    refine ⟨t2, u2, ?_⟩
    rw [List.map_cons, loopD_cons (ρ1 := lwS { t with t2 := some (.val (.int k)) }) rfl e1]
    exact e2
theorem rng4i : rng1 [.int 4] = some ([0, 1, 2, 3].map D.int) := by rw [rng1_int (by decide) (by decide)]; rfl
def lw0 : TZ := ⟨none, none, none, none, none, none, none⟩
theorem math : ∀ ns : List Int, ns.length ≤ 63 → ∃ cells : List Int, F__law_open ns [.obj 0] () = some ([.lst (cells.map .int), .int 0, .int 0], ()) ∧ ∃ s, m_law (none :: some (.val (.obj 0)) :: List.replicate 7 none) ⟨cells, 0, 0⟩ = some (.rt (.bl true) s) := fun ns _ => by
  obtain ⟨cells, e⟩ := open_ev ns
  refine ⟨cells, e, ?_⟩
  obtain ⟨t', u2, e2⟩ := turns_ev (ks := [0, 1, 2, 3]) (t := lw0) (u := ⟨cells, 0, 0⟩) (by show 0 + 220 * 4 + 900 ≤ 2147483000; decide)
  have r : (cb rng1 (rCons (rC (.int 4)) rNil)) (lwS lw0) (⟨cells, 0, 0⟩ : PenS) = some ([0, 1, 2, 3].map .int, ⟨cells, 0, 0⟩) := by
    have : (rCons (rC (.int 4)) rNil) (lwS lw0) (⟨cells, 0, 0⟩ : PenS) = some ([.int 4], ⟨cells, 0, 0⟩) := rfl
    rw [ap_cb, this, Option.bind_some, rng4i]
    rfl
  have e3 : (mFor (cb rng1 (rCons (rC (.int 4)) rNil)) (bName 2) tnB) (lwS lw0) ⟨cells, 0, 0⟩ = some (.nx (lwS t') u2) := by rw [ap_mFor, r, Option.bind_some]; exact e2
  exact ⟨u2, run2s e3 rfl⟩
end K04

open PySem PySem.W PyProof.Rows
set_option maxHeartbeats 0 in
theorem PySem.Challenge.cw_roughroads_k04_whole_ways_and_trees_holds : PySem.Challenge.rw_roughroads_k04_whole_ways_and_trees.Holds := by
  w_on; o_law; k_head; (case hw => w_witness2)
  k_fill
  refine Rr.walk_at (l := PySem.Challenge.rw_roughroads_k04_whole_ways_and_trees) (n := 63) (x := "script") (sp := fun w => Rr.spLaw _) rfl (by decide) rfl (fun w h Y => PySem.W.kIn_of Y) ?F (fun _ _ a ns hl _ hS => ⟨a, ns, rfl, hS, hl, fun _ => rfl⟩)
  case F =>
    intro w mg fa h KX G hmg
    refine' K04.all_mk K04.math KX G hmg ?a__law_open ?l__law_open ?c__law_open ?k__law_open ?a__law_spread ?l__law_spread ?c__law_spread ?k__law_spread ?a__law_take ?l__law_take ?c__law_take ?k__law_take ?a__law_one_of ?l__law_one_of ?c__law_one_of ?k__law_one_of ?a__law_draw_road ?l__law_draw_road ?c__law_draw_road ?k__law_draw_road ?a__law_draw_web ?l__law_draw_web ?c__law_draw_web ?k__law_draw_web ?a__law_draw_lengths ?l__law_draw_lengths ?c__law_draw_lengths ?k__law_draw_lengths ?a_choices ?l_choices ?c_choices ?k_choices ?a_merged ?l_merged ?c_merged ?k_merged ?a_is_joined ?l_is_joined ?c_is_joined ?k_is_joined ?a_joins ?l_joins ?c_joins ?k_joins ?a_trees ?l_trees ?c_trees ?k_trees ?a_total ?l_total ?c_total ?k_total ?a_least_trees ?l_least_trees ?c_least_trees ?k_least_trees ?a_new_houses ?l_new_houses ?c_new_houses ?k_new_houses ?a_ways_on ?l_ways_on ?c_ways_on ?k_ways_on ?a_detours ?l_detours ?c_detours ?k_detours ?a_sides ?l_sides ?c_sides ?k_sides ?a_crossing ?l_crossing ?c_crossing ?k_crossing ?a__law_road_right ?l__law_road_right ?c__law_road_right ?k__law_road_right ?a__law_tree_right ?l__law_tree_right ?c__law_tree_right ?k__law_tree_right ?a_law ?l_law ?c_law ?k_law ?z_all ?z_enumerate ?z_int ?z_len ?z_list ?z_max ?z_min ?z_range ?z_sorted ?z_sum ?z_tuple ?a_combinations ?v_combinations
    (case a__law_open => k_is); (case l__law_open => k_is); (case c__law_open => k_is); (case k__law_open => k_is); (case a__law_spread => k_is); (case l__law_spread => k_is); (case c__law_spread => k_is); (case k__law_spread => k_is); (case a__law_take => k_is); (case l__law_take => k_is); (case c__law_take => k_is); (case k__law_take => k_is); (case a__law_one_of => k_is); (case l__law_one_of => k_is); (case c__law_one_of => k_is); (case k__law_one_of => k_is); (case a__law_draw_road => k_is); (case l__law_draw_road => k_is); (case c__law_draw_road => k_is); (case k__law_draw_road => k_is); (case a__law_draw_web => k_is); (case l__law_draw_web => k_is); (case c__law_draw_web => k_is); (case k__law_draw_web => k_is); (case a__law_draw_lengths => k_is); (case l__law_draw_lengths => k_is); (case c__law_draw_lengths => k_is); (case k__law_draw_lengths => k_is); (case a_choices => k_is); (case l_choices => k_is); (case c_choices => k_is); (case k_choices => k_is); (case a_merged => k_is); (case l_merged => k_is); (case c_merged => k_is); (case k_merged => k_is); (case a_is_joined => k_is); (case l_is_joined => k_is); (case c_is_joined => k_is); (case k_is_joined => k_is); (case a_joins => k_is); (case l_joins => k_is); (case c_joins => k_is); (case k_joins => k_is); (case a_trees => k_is); (case l_trees => k_is); (case c_trees => k_is); (case k_trees => k_is); (case a_total => k_is); (case l_total => k_is); (case c_total => k_is); (case k_total => k_is); (case a_least_trees => k_is); (case l_least_trees => k_is); (case c_least_trees => k_is); (case k_least_trees => k_is); (case a_new_houses => k_is); (case l_new_houses => k_is); (case c_new_houses => k_is); (case k_new_houses => k_is); (case a_ways_on => k_is); (case l_ways_on => k_is); (case c_ways_on => k_is); (case k_ways_on => k_is); (case a_detours => k_is); (case l_detours => k_is); (case c_detours => k_is); (case k_detours => k_is); (case a_sides => k_is); (case l_sides => k_is); (case c_sides => k_is); (case k_sides => k_is); (case a_crossing => k_is); (case l_crossing => k_is); (case c_crossing => k_is); (case k_crossing => k_is); (case a__law_road_right => k_is); (case l__law_road_right => k_is); (case c__law_road_right => k_is); (case k__law_road_right => k_is); (case a__law_tree_right => k_is); (case l__law_tree_right => k_is); (case c__law_tree_right => k_is); (case k__law_tree_right => k_is); (case a_law => k_is); (case l_law => k_is); (case c_law => k_is); (case k_law => k_is); (case z_all => k_is); (case z_enumerate => k_is); (case z_int => k_is); (case z_len => k_is); (case z_list => k_is); (case z_max => k_is); (case z_min => k_is); (case z_range => k_is); (case z_sorted => k_is); (case z_sum => k_is); (case z_tuple => k_is); (case a_combinations => k_is); (case v_combinations => rfl)
