import PyProof.Rows.All
import Wide.All
import OpenK.AllK
import Wide.FinOn
import HandS.More
import HandS.Set
import Open.SpecLaws
import KE.OsGo
import HandS.ForMost
import HandS.ForSpec
import HandS.Codes
import PySem.Challenge.RW_tilestore_s01_answers
set_option Elab.async false
set_option linter.all false
set_option maxRecDepth 100000
set_option maxHeartbeats 8000000
namespace TS
open Ie07
/-! the store: what each of its functions does to the counts -/
def refsAt (S : Store) (i : Nat) : Nat := ((S[i]?).map fun (x : Slot) => x.refs).getD 0
theorem refsAt_some {S : Store} {i : Nat} {x : Slot} (h : S[i]? = some x) : refsAt S i = x.refs := by unfold refsAt; rw [h]; rfl
theorem refsAt_pos {S : Store} {i : Nat} (h : 0 < refsAt S i) : ∃ x, S[i]? = some x ∧ 0 < x.refs := by
  unfold refsAt at h
  cases e : S[i]? with
  | none => rw [e] at h; simp at h
  | some x => rw [e] at h; exact ⟨x, rfl, h⟩
theorem more_get (S : Store) (j i : Nat) : (more S j)[i]? = (S[i]?).map fun x => if j = i then { x with refs := x.refs + 1 } else x := by
  unfold more
  rw [List.getElem?_modify]
  cases S[i]? <;> by_cases e : j = i <;> simp [e]
theorem moreAll_get : ∀ (l : List Nat) (S : Store) (i : Nat), (moreAll S l)[i]? = (S[i]?).map fun x => { x with refs := x.refs + l.count i }
  | [], S, i => by cases e : S[i]? <;> simp [moreAll, e]
  | j :: l, S, i => by
    have ih := moreAll_get l (more S j) i
    have e : moreAll S (j :: l) = moreAll (more S j) l := rfl
    rw [e, ih, more_get, List.count_cons]
    cases S[i]? with
    | none => rfl
    | some x =>
      by_cases q : j = i
      · subst q; simp; omega
      · simp [q]
theorem less_get (S : Store) (j i : Nat) : (less S j)[i]? = (S[i]?).map fun x => if j = i then (if x.refs ≤ 1 then ⟨[], 0⟩ else { x with refs := x.refs - 1 }) else x := by
  unfold less
  rw [List.getElem?_modify]
  cases S[i]? <;> by_cases e : j = i <;> simp [e]
theorem lessAll_get : ∀ (l : List Nat) (S : Store) (i : Nat), (lessAll S l)[i]? = (S[i]?).map fun x => if l.count i = 0 then x else if x.refs ≤ l.count i then ⟨[], 0⟩ else { x with refs := x.refs - l.count i }
  | [], S, i => by cases e : S[i]? <;> simp [lessAll, e]
  | j :: l, S, i => by
    have ih := lessAll_get l (less S j) i
    have e : lessAll S (j :: l) = lessAll (less S j) l := rfl
    rw [e, ih, less_get, List.count_cons]
    cases S[i]? with
    | none => rfl
    | some x =>
      obtain ⟨t, r⟩ := x
      by_cases q : j = i
      · subst q
        simp only [if_true, Option.map_some, beq_self_eq_true, Option.some.injEq]
        by_cases h1 : r ≤ 1
        · simp only [h1, if_true]
          have h3 : r ≤ List.count j l + 1 := by omega
          by_cases h2 : List.count j l = 0
          · simp [h2, h1]
          · simp [h2, h3]
        · simp only [h1, if_false]
          by_cases h2 : List.count j l = 0
          · simp [h2, h1]
          · have h4 : ¬ List.count j l + 1 = 0 := by omega
            by_cases h3 : r - 1 ≤ List.count j l
            · have h5 : r ≤ List.count j l + 1 := by omega
              simp [h2, h3, h5]
            · have h5 : ¬ r ≤ List.count j l + 1 := by omega
              have h6 : r - 1 - List.count j l = r - (List.count j l + 1) := by omega
              simp [h2, h3, h5, h6]
      · have : (j == i) = false := by simp [q]
        simp [q]
theorem lessAll_refs (l : List Nat) (S : Store) (i : Nat) : refsAt (lessAll S l) i = refsAt S i - l.count i := by
  unfold refsAt
  rw [lessAll_get]
  cases S[i]? with
  | none => simp
  | some x =>
    simp only [Option.map_some, Option.getD_some]
    by_cases h : l.count i = 0
    · simp [h]
    · by_cases h2 : x.refs ≤ l.count i
      · simp [h, h2]
      · simp [h, h2]
theorem moreAll_refs (l : List Nat) (S : Store) (i : Nat) (h : i < S.length) : refsAt (moreAll S l) i = refsAt S i + l.count i := by
  unfold refsAt
  rw [moreAll_get, List.getElem?_eq_getElem h]
  simp
theorem less_len (S : Store) (j : Nat) : (less S j).length = S.length := by unfold less; simp
theorem lessAll_len : ∀ (l : List Nat) (S : Store), (lessAll S l).length = S.length
  | [], _ => rfl
  | j :: l, S => (lessAll_len l (less S j)).trans (less_len S j)
theorem more_len (S : Store) (j : Nat) : (more S j).length = S.length := by unfold more; simp
theorem moreAll_len : ∀ (l : List Nat) (S : Store), (moreAll S l).length = S.length
  | [], _ => rfl
  | j :: l, S => (moreAll_len l (more S j)).trans (more_len S j)
theorem lessAll_snoc (S : Store) (l : List Nat) (j : Nat) : lessAll S (l ++ [j]) = less (lessAll S l) j := by unfold lessAll; rw [List.foldl_append]; rfl
theorem moreAll_snoc (S : Store) (l : List Nat) (j : Nat) : moreAll S (l ++ [j]) = more (moreAll S l) j := by unfold moreAll; rw [List.foldl_append]; rfl
def placeOf (S : Store) (t : List Nat) : Nat := (findTile S t).getD ((firstFree S).getD S.length)
theorem mod_set {S : Store} {i : Nat} {y : Slot} {f : Slot → Slot} (h : S[i]? = some y) : S.modify i f = S.set i (f y) := by
  apply List.ext_getElem?
  intro j
  rw [List.getElem?_modify, List.getElem?_set]
  by_cases e : i = j
  · subst e
    obtain ⟨hi, hy⟩ := List.getElem?_eq_some_iff.mp h
    simp [hi, hy]
  · simp [e]
/-- a tile is taken in where it stands or in a free place; else behind all -/
theorem keep_cases (S : Store) (x : List Nat) : (∃ (i : Nat) (y : Slot), S[i]? = some y ∧ (0 < y.refs → y.tile = x) ∧ placeOf S x = i ∧ keep S x = (S.set i ⟨x, y.refs + 1⟩, i)) ∨ (placeOf S x = S.length ∧ keep S x = (S ++ [⟨x, 1⟩], S.length)) := by
  unfold placeOf keep
  cases e : findTile S x with
  | some i =>
    left
    unfold findTile at e
    obtain ⟨hi, hp, _⟩ := List.findIdx?_eq_some_iff_getElem.mp e
    simp only [Bool.and_eq_true, decide_eq_true_eq, beq_iff_eq] at hp
    refine ⟨i, S[i], List.getElem?_eq_getElem hi, fun _ => hp.2, rfl, ?_⟩
    show (S.modify i _, i) = _
    rw [mod_set (List.getElem?_eq_getElem hi), ← hp.2]
  | none =>
    cases e2 : firstFree S with
    | some i =>
      left
      unfold firstFree at e2
      obtain ⟨hi, hp, _⟩ := List.findIdx?_eq_some_iff_getElem.mp e2
      simp only [beq_iff_eq] at hp
      refine ⟨i, S[i], List.getElem?_eq_getElem hi, fun z => by omega, rfl, ?_⟩
      rw [hp]
    | none => exact .inr ⟨rfl, rfl⟩
theorem keep_snd (S : Store) (x : List Nat) : (keep S x).2 = placeOf S x := by
  rcases keep_cases S x with ⟨i, y, _, _, h2, h3⟩ | ⟨h1, h2⟩
  · rw [h3, h2]
  · rw [h2, h1]
theorem keep_len (S : Store) (x : List Nat) : S.length ≤ (keep S x).1.length ∧ (keep S x).1.length ≤ S.length + 1 := by
  rcases keep_cases S x with ⟨i, y, _, _, h2, h3⟩ | ⟨h1, h2⟩
  · rw [h3]; simp
  · rw [h2]; simp
/-- the counts behind a keep -/
theorem keep_refs (S : Store) (x : List Nat) (i : Nat) : refsAt (keep S x).1 i = refsAt S i + [(keep S x).2].count i := by
  rcases keep_cases S x with ⟨j, y, h1, _, h2, h3⟩ | ⟨h1, h2⟩
  · rw [h3]
    obtain ⟨hj, _⟩ := List.getElem?_eq_some_iff.mp h1
    unfold refsAt
    by_cases e : j = i
    · subst e
      rw [List.getElem?_set_self hj, h1]
      simp
    · rw [List.getElem?_set_ne e]
      simp [e]
  · rw [h2]
    unfold refsAt
    by_cases e : i < S.length
    · rw [List.getElem?_append_left e]
      have : ¬ S.length = i := by omega
      simp [this]
    · by_cases e2 : i = S.length
      · subst e2; simp
      · have h3 : (S ++ [({ tile := x, refs := 1 } : Slot)])[i]? = none := by rw [List.getElem?_eq_none_iff]; simp; omega
        have h4 : S[i]? = none := by rw [List.getElem?_eq_none_iff]; omega
        have : ¬ S.length = i := by omega
        rw [h3, h4]
        simp [this]
/-- what a keep leaves: what was in use stays with its tile; the new one has the tile -/
theorem keep_tiles (S : Store) (x : List Nat) (i : Nat) (z : Slot) (h : (keep S x).1[i]? = some z) (hz : 0 < z.refs) : (z.tile = x ∧ i = (keep S x).2) ∨ (i ≠ (keep S x).2 ∧ ∃ y, S[i]? = some y ∧ y = z) := by
  rcases keep_cases S x with ⟨j, y, h1, _, h2, h3⟩ | ⟨h1, h2⟩
  · rw [h3] at h ⊢
    obtain ⟨hj, _⟩ := List.getElem?_eq_some_iff.mp h1
    by_cases e : j = i
    · subst e
      rw [List.getElem?_set_self hj] at h
      cases h
      exact .inl ⟨rfl, rfl⟩
    · rw [List.getElem?_set_ne e] at h
      exact .inr ⟨fun q => e q.symm, z, h, rfl⟩
  · rw [h2] at h ⊢
    by_cases e : i < S.length
    · rw [List.getElem?_append_left e] at h
      exact .inr ⟨by show i ≠ S.length; omega, z, h, rfl⟩
    · have := (List.getElem?_eq_some_iff.mp h).1
      simp at this
      have e2 : i = S.length := by omega
      subst e2
      simp at h
      exact .inl ⟨by rw [← h], rfl⟩
theorem keepAll_snoc : ∀ (ts : List Tile) (S : Store) (t : Tile), keepAll S (ts ++ [t]) = ((keep (keepAll S ts).1 t).1, (keepAll S ts).2 ++ [(keep (keepAll S ts).1 t).2])
  | [], S, t => rfl
  | u :: ts, S, t => by
    have ih := keepAll_snoc ts (keep S u).1 t
    show ((keepAll (keep S u).1 (ts ++ [t])).1, (keep S u).2 :: (keepAll (keep S u).1 (ts ++ [t])).2) = _
    rw [ih]
    rfl
theorem keepAll_len : ∀ (ts : List Tile) (S : Store), S.length ≤ (keepAll S ts).1.length ∧ (keepAll S ts).1.length ≤ S.length + ts.length ∧ (keepAll S ts).2.length = ts.length
  | [], S => ⟨Nat.le_refl _, Nat.le_refl _, rfl⟩
  | u :: ts, S => by
    obtain ⟨h0, h1, h2⟩ := keepAll_len ts (keep S u).1
    have h3 := keep_len S u
    refine ⟨?_, ?_, ?_⟩
    · show S.length ≤ (keepAll (keep S u).1 ts).1.length
      omega
    · show (keepAll (keep S u).1 ts).1.length ≤ S.length + (ts.length + 1)
      omega
    · show ((keep S u).2 :: (keepAll (keep S u).1 ts).2).length = ts.length + 1
      simp [h2]
theorem keepAll_refs : ∀ (ts : List Tile) (S : Store) (i : Nat), refsAt (keepAll S ts).1 i = refsAt S i + (keepAll S ts).2.count i
  | [], S, i => by simp [keepAll]
  | u :: ts, S, i => by
    have h := keepAll_refs ts (keep S u).1 i
    have h2 := keep_refs S u i
    show refsAt (keepAll (keep S u).1 ts).1 i = refsAt S i + ((keep S u).2 :: (keepAll (keep S u).1 ts).2).count i
    rw [h, h2, List.count_cons, List.count_cons, List.count_nil]
    omega
/-! tiles in use have 16 cells -/
def Full (S : Store) : Prop := ∀ (i : Nat) (x : Slot), S[i]? = some x → 0 < x.refs → x.tile.length = 16
theorem Full.keep {S : Store} (f : Full S) {t : Tile} (ht : t.length = 16) : Full (keep S t).1 := fun i z h hz => by
  rcases keep_tiles S t i z h hz with ⟨e, _⟩ | ⟨_, y, hy, rfl⟩
  · rw [e]; exact ht
  · exact f i y hy hz
theorem Full.keepAll : ∀ {ts : List Tile} {S : Store}, Full S → (∀ t ∈ ts, t.length = 16) → Full (keepAll S ts).1
  | [], _, f, _ => f
  | _ :: ts, _, f, h => Full.keepAll (ts := ts) (f.keep (h _ (List.Mem.head _))) fun t ht => h t (List.Mem.tail _ ht)
theorem Full.lessAll {S : Store} (f : Full S) (l : List Nat) : Full (lessAll S l) := fun i z h hz => by
  rw [lessAll_get] at h
  cases e : S[i]? with
  | none => rw [e] at h; cases h
  | some x =>
    rw [e] at h
    simp only [Option.map_some, Option.some.injEq] at h
    by_cases h1 : l.count i = 0
    · rw [if_pos h1] at h
      subst h
      exact f i x e hz
    · rw [if_neg h1] at h
      by_cases h2 : x.refs ≤ l.count i
      · rw [if_pos h2] at h
        subst h
        exact absurd hz (Nat.lt_irrefl 0)
      · rw [if_neg h2] at h
        subst h
        exact f i x e (by omega)
theorem Full.moreAll {S : Store} (f : Full S) (l : List Nat) (hl : ∀ i ∈ l, 0 < refsAt S i) : Full (moreAll S l) := fun i z h hz => by
  rw [moreAll_get] at h
  cases e : S[i]? with
  | none => rw [e] at h; cases h
  | some x =>
    rw [e] at h
    simp only [Option.map_some, Option.some.injEq] at h
    subst h
    refine f i x e ?_
    by_cases hi : i ∈ l
    · have := hl i hi
      rw [refsAt_some e] at this
      exact this
    · have : l.count i = 0 := List.count_eq_zero.mpr hi
      simp only [this, Nat.add_zero] at hz
      exact hz
end TS
namespace TS
open Ie07
/-! cells -/
/-- the cells of one row over tiles side by side -/
def rowCells (ts : List (List Nat)) (row : Nat) : List Nat := ts.flatMap fun t => (t.drop (row * 4)).take 4
theorem rowCells_snoc (ts : List (List Nat)) (t : List Nat) (row : Nat) : rowCells (ts ++ [t]) row = rowCells ts row ++ (t.drop (row * 4)).take 4 := by unfold rowCells; simp
theorem cut4 {t : List Nat} {a : Nat} (h : a + 4 ≤ t.length) : (t.drop a).take 4 = (List.range 4).map fun k => t.getD (a + k) 0 := by
  apply List.ext_getElem?
  intro i
  rw [List.getElem?_take, List.getElem?_map, List.getElem?_drop]
  by_cases hi : i < 4
  · rw [if_pos hi, List.getElem?_range hi]
    have : a + i < t.length := by omega
    simp [List.getD, this]
  · rw [if_neg hi]
    have : (List.range 4)[i]? = none := by rw [List.getElem?_eq_none_iff]; simp; omega
    rw [this]; rfl
theorem range_add (a b : Nat) : List.range (a + b) = List.range a ++ (List.range b).map (a + ·) := List.range_add ..
theorem rowCells_eq : ∀ (ts : List (List Nat)) (row : Nat), row < 4 → (∀ t ∈ ts, t.length = 16) → rowCells ts row = (List.range (4 * ts.length)).map fun x => (ts.getD (x / 4) []).getD (row * 4 + x % 4) 0
  | [], row, _, _ => by simp [rowCells]
  | t :: ts, row, hr, h => by
    have ih := rowCells_eq ts row hr fun u hu => h u (List.Mem.tail _ hu)
    have ht : t.length = 16 := h t (List.Mem.head _)
    have e : rowCells (t :: ts) row = (t.drop (row * 4)).take 4 ++ rowCells ts row := rfl
    rw [e, ih, cut4 (by omega), List.length_cons, show 4 * (ts.length + 1) = 4 + 4 * ts.length by omega, range_add, List.map_append, List.map_map]
    refine congr (congrArg HAppend.hAppend ?_) ?_
    · apply List.map_congr_left
      intro k hk
      have hk : k < 4 := List.mem_range.mp hk
      have e1 : k / 4 = 0 := by omega
      have e2 : k % 4 = k := by omega
      simp [e1, e2]
    · apply List.map_congr_left
      intro x _
      have e1 : (4 + x) / 4 = x / 4 + 1 := by omega
      have e2 : (4 + x) % 4 = x % 4 := by omega
      simp [e1, e2]
/-- the cell of a picture given by its tiles -/
def cellT (ts : List (List Nat)) (w x y : Nat) : Nat := (ts.getD (y / 4 * w + x / 4) []).getD (y % 4 * 4 + x % 4) 0
theorem rowCells_grid {ts : List (List Nat)} {w i j : Nat} (hj : j < 4) (hl : i * w + w ≤ ts.length) (h : ∀ t ∈ ts, t.length = 16) :
    rowCells ((ts.drop (i * w)).take w) j = (List.range (4 * w)).map fun x => cellT ts w x (4 * i + j) := by
  have hlen : ((ts.drop (i * w)).take w).length = w := by simp; omega
  rw [rowCells_eq _ j hj fun t ht => h t (List.mem_of_mem_drop (List.mem_of_mem_take ht)), hlen]
  apply List.map_congr_left
  intro x hx
  have hx : x < 4 * w := List.mem_range.mp hx
  unfold cellT
  have e1 : (4 * i + j) / 4 = i := by omega
  have e2 : (4 * i + j) % 4 = j := by omega
  rw [e1, e2]
  have hxw : x / 4 < w := by omega
  congr 1
  simp only [List.getD_eq_getElem?_getD, List.getElem?_take, List.getElem?_drop, hxw, if_true]
/-- one tile cut out of cells -/
def tileOf (f : Nat → Nat → Nat) (left top : Nat) : List Nat := (List.range 16).map fun k => f (left + k % 4) (top + k / 4)
def tilesOf (f : Nat → Nat → Nat) (wd hg : Nat) : List (List Nat) := (List.range (wd * hg)).map fun i => tileOf f (i % wd * 4) (i / wd * 4)
theorem tileOf_len (f : Nat → Nat → Nat) (a b : Nat) : (tileOf f a b).length = 16 := by simp [tileOf]
theorem tileOf_congr {f g : Nat → Nat → Nat} {w h a b : Nat} (e : ∀ x y, x < w → y < h → f x y = g x y) (ha : a + 4 ≤ w) (hb : b + 4 ≤ h) : tileOf f a b = tileOf g a b := by
  unfold tileOf
  apply List.map_congr_left
  intro k hk
  have hk : k < 16 := List.mem_range.mp hk
  exact e _ _ (by omega) (by omega)
theorem ix_lt {i wd hg : Nat} (h : i < wd * hg) : i % wd < wd ∧ i / wd < hg := by
  have hw : 0 < wd := by
    cases wd with
    | zero => simp at h
    | succ n => omega
  exact ⟨Nat.mod_lt _ hw, (Nat.div_lt_iff_lt_mul hw).mpr (by rw [Nat.mul_comm]; exact h)⟩
theorem tilesOf_congr {f g : Nat → Nat → Nat} {wd hg : Nat} (e : ∀ x y, x < 4 * wd → y < 4 * hg → f x y = g x y) : tilesOf f wd hg = tilesOf g wd hg := by
  unfold tilesOf
  apply List.map_congr_left
  intro i hi
  obtain ⟨h1, h2⟩ := ix_lt (List.mem_range.mp hi)
  exact tileOf_congr e (by omega) (by omega)
/-- the specification's tiles, by cells -/
theorem tilesBy_eq (S : Store) (q : Pic) (F : Nat → Nat → Nat → Nat) (hlen : q.at_.length = q.w * q.h) (h16 : ∀ i ∈ q.at_, (tileAt S i).length = 16) :
    tilesBy S q F = tilesOf (fun x y => F x y (cellOf S q.w q.at_ x y)) q.w q.h := by
  unfold tilesBy tilesOf
  apply List.map_congr_left
  intro i hi
  have hi : i < q.w * q.h := List.mem_range.mp hi
  obtain ⟨h1, h2⟩ := ix_lt hi
  unfold tileOf
  apply List.map_congr_left
  intro k hk
  have hk : k < 16 := List.mem_range.mp hk
  simp only [SIDE]
  congr 1
  unfold cellOf
  simp only [SIDE]
  have e1 : (i / q.w * 4 + k / 4) / 4 = i / q.w := by omega
  have e2 : (i % q.w * 4 + k % 4) / 4 = i % q.w := by omega
  have e3 : (i / q.w * 4 + k / 4) % 4 * 4 + (i % q.w * 4 + k % 4) % 4 = k := by omega
  rw [e1, e2, e3, Nat.div_add_mod' i q.w]
theorem cellT_cellOf (S : Store) (w : Nat) (l : List Nat) (x y : Nat) (h : y / 4 * w + x / 4 < l.length) : cellT (l.map (tileAt S)) w x y = cellOf S w l x y := by
  unfold cellT cellOf
  simp only [SIDE]
  congr 1
  rw [List.getD_eq_getElem?_getD, List.getElem?_map, List.getElem?_eq_getElem h, List.getD_eq_getElem?_getD, List.getElem?_eq_getElem h]
  rfl
/-- dots -/
def dotIn (w h : Nat) (d : Nat × Nat × Nat) : Bool := decide (d.1 < w) && (decide (d.2.1 < h) && decide (d.2.2 ≤ 255))
def fits (w h : Nat) (l : List Nat) : Bool := match dotsOf l with
  | some ds => ds.all (dotIn w h)
  | none => false
theorem dotsOf_none : ∀ (l : List Nat), dotsOf l = none ↔ l.length % 3 ≠ 0
  | [] => by simp [dotsOf]
  | [a] => by simp [dotsOf]
  | [a, b] => by simp [dotsOf]
  | x :: y :: n :: l => by
    have := dotsOf_none l
    simp only [dotsOf, Option.map_eq_none_iff, this, List.length_cons]
    omega
theorem dotsOf_get : ∀ (l : List Nat) (ds : List (Nat × Nat × Nat)), dotsOf l = some ds → l.length = 3 * ds.length ∧ ∀ (i : Nat) (d : Nat × Nat × Nat), ds[i]? = some d → l[3 * i]? = some d.1 ∧ l[3 * i + 1]? = some d.2.1 ∧ l[3 * i + 2]? = some d.2.2
  | [], ds, h => by
    simp [dotsOf] at h
    subst h
    exact ⟨rfl, fun i d e => by simp at e⟩
  | [a], ds, h => by simp [dotsOf] at h
  | [a, b], ds, h => by simp [dotsOf] at h
  | x :: y :: n :: l, ds, h => by
    simp only [dotsOf, Option.map_eq_some_iff] at h
    obtain ⟨r, hr, rfl⟩ := h
    obtain ⟨h1, h2⟩ := dotsOf_get l r hr
    refine ⟨by simp only [List.length_cons, h1]; omega, fun i d e => ?_⟩
    cases i with
    | zero =>
      simp at e
      subst e
      simp
    | succ i =>
      have := h2 i d (by simpa using e)
      rw [show 3 * (i + 1) = 3 * i + 1 + 1 + 1 by omega, show 3 * i + 1 + 1 + 1 + 1 = (3 * i + 1) + 1 + 1 + 1 by omega, show 3 * i + 1 + 1 + 1 + 2 = (3 * i + 2) + 1 + 1 + 1 by omega]
      simpa using this
def dotPut (f : Nat → Nat → Nat) (ds : List (Nat × Nat × Nat)) : Nat → Nat → Nat := fun a b => ds.foldl (fun z d => if d.1 = a ∧ d.2.1 = b then d.2.2 else z) (f a b)
theorem dotPut_snoc (f : Nat → Nat → Nat) (ds : List (Nat × Nat × Nat)) (d : Nat × Nat × Nat) : dotPut f (ds ++ [d]) = fun a b => if d.1 = a ∧ d.2.1 = b then d.2.2 else dotPut f ds a b := by
  funext a b; unfold dotPut; rw [List.foldl_append]; rfl
end TS
namespace TS
open Ie07
/-! how often a place is pointed to -/
def cntL (i : Nat) (l : List (List Nat)) : Nat := (l.map fun o => o.count i).sum
def cntP (i : Nat) : Option Pic → Nat
  | none => 0
  | some q => cntL i (q.at_ :: q.old)
def cntS (i : Nat) (l : List (Option Pic)) : Nat := (l.map (cntP i)).sum
theorem sum_set_nat : ∀ (l : List Nat) (j y z : Nat), l[j]? = some z → (l.set j y).sum + z = l.sum + y
  | [], j, y, z, h => by simp at h
  | a :: r, 0, y, z, h => by
    simp at h
    subst h
    simp; omega
  | a :: r, j + 1, y, z, h => by
    have := sum_set_nat r j y z (by simpa using h)
    simp; omega
theorem pic_get {s : St} {p : Nat} (hp : p < s.pics.length) : s.pics[p]? = some (s.pic p) := by
  unfold St.pic
  rw [List.getElem?_eq_getElem hp]
  rfl
theorem pic_lt {s : St} {p : Nat} {q : Pic} (h : s.pic p = some q) : p < s.pics.length := by
  unfold St.pic at h
  cases e : s.pics[p]? with
  | none => rw [e] at h; cases h
  | some x => exact (List.getElem?_eq_some_iff.mp e).1
theorem pic_set {s : St} {S : Store} {p : Nat} {x : Option Pic} (hp : p < s.pics.length) (r : Nat) : (St.mk S (s.pics.set p x)).pic r = if r = p then x else s.pic r := by
  unfold St.pic
  by_cases e : r = p
  · subst e
    simp [hp]
  · have e2 : ¬ p = r := fun z => e z.symm
    simp [e, e2, List.getElem?_set_ne]
theorem cntS_set {s : St} {p : Nat} {x : Option Pic} (i : Nat) (hp : p < s.pics.length) : cntS i (s.pics.set p x) + cntP i (s.pic p) = cntS i s.pics + cntP i x := by
  unfold cntS
  rw [List.map_set]
  exact sum_set_nat _ p _ _ (by rw [List.getElem?_map, pic_get hp]; rfl)
theorem cntP_le {s : St} {p : Nat} (i : Nat) : cntP i (s.pic p) ≤ cntS i s.pics := by
  by_cases hp : p < s.pics.length
  · have := cntS_set (s := s) (p := p) (x := none) i hp
    have e : cntP i none = 0 := rfl
    rw [e] at this
    omega
  · have : s.pic p = none := by
      unfold St.pic
      rw [List.getElem?_eq_none_iff.mpr (by omega)]
      rfl
    rw [this]
    exact Nat.zero_le _
theorem lessL_refs : ∀ (l : List (List Nat)) (S : Store) (i : Nat), refsAt (l.foldl lessAll S) i = refsAt S i - cntL i l
  | [], S, i => by simp [cntL]
  | o :: l, S, i => by
    have h := lessL_refs l (lessAll S o) i
    have e : cntL i (o :: l) = o.count i + cntL i l := by simp [cntL]
    show refsAt (l.foldl lessAll (lessAll S o)) i = _
    rw [h, lessAll_refs, e]
    omega
theorem lessL_len : ∀ (l : List (List Nat)) (S : Store), (l.foldl lessAll S).length = S.length
  | [], _ => rfl
  | o :: l, S => (lessL_len l (lessAll S o)).trans (lessAll_len o S)
theorem Full.lessL : ∀ {l : List (List Nat)} {S : Store}, Full S → Full (l.foldl Ie07.lessAll S)
  | [], _, f => f
  | o :: l, _, f => Full.lessL (l := l) (f.lessAll o)
theorem lessL_snoc (S : Store) (l : List (List Nat)) (o : List Nat) : (l ++ [o]).foldl lessAll S = lessAll (l.foldl lessAll S) o := by rw [List.foldl_append]; rfl
structure PicOk (q : Pic) : Prop where
  w1 : 1 ≤ q.w
  w4 : q.w ≤ 4
  h1 : 1 ≤ q.h
  h4 : q.h ≤ 4
  len : q.at_.length = q.w * q.h
  olds : ∀ o ∈ q.old, o.length = q.w * q.h
  few : q.old.length ≤ 3
structure Good (s : St) : Prop where
  four : s.pics.length = 4
  full : Full s.store
  refs : ∀ i, refsAt s.store i = cntS i s.pics
  pics : ∀ (p : Nat) (q : Pic), s.pic p = some q → PicOk q
theorem init_pic (p : Nat) : (Ie07.init).pic p = none := by
  match p with
  | 0 => rfl
  | 1 => rfl
  | 2 => rfl
  | 3 => rfl
  | _ + 4 => rfl
theorem Good.init : Good Ie07.init := by
  refine ⟨rfl, fun i x h => by simp [Ie07.init] at h, fun i => by simp [refsAt, Ie07.init, cntS, cntP], fun p q h => ?_⟩
  rw [init_pic] at h
  cases h
/-- a place that a picture points to is in use -/
theorem Good.at_pos {s : St} (g : Good s) {p : Nat} {q : Pic} (h : s.pic p = some q) {i : Nat} (hi : i ∈ q.at_) : 0 < refsAt s.store i := by
  have h1 := cntP_le (s := s) (p := p) i
  rw [h] at h1
  have h2 : q.at_.count i ≤ cntP i (some q) := by simp [cntP, cntL]
  have h3 := List.count_pos_iff.mpr hi
  rw [g.refs]
  omega
theorem Good.tile16 {s : St} (g : Good s) {p : Nat} {q : Pic} (h : s.pic p = some q) : ∀ i ∈ q.at_, (tileAt s.store i).length = 16 := fun i hi => by
  obtain ⟨x, hx, h0⟩ := refsAt_pos (g.at_pos h hi)
  unfold tileAt
  rw [List.getD_eq_getElem?_getD, hx]
  exact g.full i x hx h0
/-- a picture is let go -/
def dropS (s : St) (p : Nat) : St := match s.pic p with
  | none => s
  | some q => ⟨letGo s.store q, s.pics.set p none⟩
theorem dropS_none {s : St} {p : Nat} (h : s.pic p = none) : dropS s p = s := by unfold dropS; rw [h]
theorem dropS_some {s : St} {p : Nat} {q : Pic} (h : s.pic p = some q) : dropS s p = ⟨letGo s.store q, s.pics.set p none⟩ := by unfold dropS; rw [h]
theorem dropS_len (s : St) (p : Nat) : (dropS s p).store.length = s.store.length ∧ (dropS s p).pics.length = s.pics.length := by
  cases h : s.pic p with
  | none => rw [dropS_none h]; exact ⟨rfl, rfl⟩
  | some q => rw [dropS_some h]; exact ⟨lessL_len _ _, by simp⟩
theorem dropS_pic (s : St) (p r : Nat) : (dropS s p).pic r = if r = p then none else s.pic r := by
  cases h : s.pic p with
  | none =>
    rw [dropS_none h]
    by_cases e : r = p
    · rw [if_pos e, e, h]
    · rw [if_neg e]
  | some q => rw [dropS_some h, pic_set (pic_lt h)]
theorem dropS_set (s : St) (p : Nat) (x : Option Pic) : (dropS s p).pics.set p x = s.pics.set p x := by
  cases h : s.pic p with
  | none => rw [dropS_none h]
  | some q => rw [dropS_some h]; simp
theorem dropS_refs (s : St) (p i : Nat) : refsAt (dropS s p).store i = refsAt s.store i - cntP i (s.pic p) := by
  cases h : s.pic p with
  | none => rw [dropS_none h]; rfl
  | some q => rw [dropS_some h]; exact lessL_refs _ _ _
theorem dropS_cnt (s : St) (p i : Nat) : cntS i (dropS s p).pics + cntP i (s.pic p) = cntS i s.pics := by
  cases h : s.pic p with
  | none => rw [dropS_none h]; rfl
  | some q =>
    rw [dropS_some h]
    have := cntS_set (s := s) (x := none) i (pic_lt h)
    rw [h] at this
    exact this
theorem Good.drop {s : St} (g : Good s) (p : Nat) : Good (dropS s p) := by
  refine ⟨(dropS_len s p).2.trans g.four, ?_, fun i => ?_, fun r q h => ?_⟩
  · cases h : s.pic p with
    | none => rw [dropS_none h]; exact g.full
    | some q => rw [dropS_some h]; exact Full.lessL g.full
  · rw [dropS_refs, g.refs, ← dropS_cnt s p i]
    omega
  · rw [dropS_pic] at h
    split at h
    · cases h
    · exact g.pics r q h
/-- a picture is laid where none is -/
theorem Good.lay {s : St} (g : Good s) {p : Nat} (hp : p < 4) (hn : s.pic p = none) {ts : List Tile} {w h : Nat} (hw : 1 ≤ w ∧ w ≤ 4 ∧ 1 ≤ h ∧ h ≤ 4) (hl : ts.length = w * h) (h16 : ∀ t ∈ ts, t.length = 16) :
    Good ⟨(keepAll s.store ts).1, s.pics.set p (some ⟨w, h, (keepAll s.store ts).2, []⟩)⟩ := by
  have hp' : p < s.pics.length := by rw [g.four]; exact hp
  refine ⟨by simp [g.four], Full.keepAll g.full h16, fun i => ?_, fun r q e => ?_⟩
  · have h1 := cntS_set (s := s) (p := p) (x := some ⟨w, h, (keepAll s.store ts).2, []⟩) i hp'
    rw [hn] at h1
    simp [cntP, cntL] at h1
    show refsAt (keepAll s.store ts).1 i = cntS i (s.pics.set p _)
    rw [keepAll_refs, g.refs]
    omega
  · rw [pic_set hp'] at e
    split at e
    · cases e
      exact ⟨hw.1, hw.2.1, hw.2.2.1, hw.2.2.2, by rw [(keepAll_len ts s.store).2.2, hl], by simp, by simp⟩
    · exact g.pics r q e
theorem tilesBy_len (S : Store) (q : Pic) (F : Nat → Nat → Nat → Nat) : (tilesBy S q F).length = q.w * q.h ∧ ∀ t ∈ tilesBy S q F, t.length = 16 := by
  unfold tilesBy
  refine ⟨by simp, fun t ht => ?_⟩
  simp only [List.mem_map, List.mem_range] at ht
  obtain ⟨i, _, rfl⟩ := ht
  simp
theorem cntL_take_drop (i k : Nat) (l : List (List Nat)) : cntL i (l.take k) + cntL i (l.drop k) = cntL i l := by
  unfold cntL
  rw [List.map_take, List.map_drop, ← List.sum_append, List.take_append_drop]
/-- a picture is changed -/
theorem Good.changed {s : St} (g : Good s) {p : Nat} {q : Pic} (hq : s.pic p = some q) {ts : List Tile} (hl : ts.length = q.w * q.h) (h16 : ∀ t ∈ ts, t.length = 16) : Good (changed s p q ts) := by
  have hp' := pic_lt hq
  have ok := g.pics p q hq
  refine ⟨by simp [Ie07.changed, g.four], ?_, fun i => ?_, fun r x e => ?_⟩
  · exact Full.lessL (Full.keepAll g.full h16)
  · have h1 := cntS_set (s := s) (p := p) (x := some { q with at_ := (keepAll s.store ts).2, old := (q.at_ :: q.old).take KEPT }) i hp'
    rw [hq] at h1
    show refsAt (((q.at_ :: q.old).drop KEPT).foldl lessAll (keepAll s.store ts).1) i = cntS i (s.pics.set p _)
    rw [lessL_refs, keepAll_refs, g.refs]
    have h2 := cntL_take_drop i KEPT (q.at_ :: q.old)
    have h3 : cntP i (some { q with at_ := (keepAll s.store ts).2, old := (q.at_ :: q.old).take KEPT }) = (keepAll s.store ts).2.count i + cntL i ((q.at_ :: q.old).take KEPT) := by simp [cntP, cntL]
    have h4 : cntP i (some q) = cntL i (q.at_ :: q.old) := rfl
    rw [h3, h4] at h1
    have h5 := cntP_le (s := s) (p := p) i
    rw [hq, h4] at h5
    omega
  · have : (Ie07.changed s p q ts).pic r = if r = p then some { q with at_ := (keepAll s.store ts).2, old := (q.at_ :: q.old).take KEPT } else s.pic r := pic_set hp' r
    rw [this] at e
    split at e
    · cases e
      refine ⟨ok.w1, ok.w4, ok.h1, ok.h4, by rw [(keepAll_len ts s.store).2.2, hl], fun o ho => ?_, by simp only [List.length_take, KEPT]; omega⟩
      have := List.mem_of_mem_take ho
      simp only [List.mem_cons] at this
      rcases this with rfl | m
      · exact ok.len
      · exact ok.olds o m
    · exact g.pics r x e
theorem Good.undo {s : St} (g : Good s) {p : Nat} {q : Pic} (hq : s.pic p = some q) {o : List Nat} {r : List (List Nat)} (ho : q.old = o :: r) : Good ⟨lessAll s.store q.at_, s.pics.set p (some { q with at_ := o, old := r })⟩ := by
  have hp' := pic_lt hq
  have ok := g.pics p q hq
  refine ⟨by simp [g.four], g.full.lessAll _, fun i => ?_, fun k x e => ?_⟩
  · have h1 := cntS_set (s := s) (p := p) (x := some { q with at_ := o, old := r }) i hp'
    rw [hq] at h1
    show refsAt (lessAll s.store q.at_) i = cntS i (s.pics.set p _)
    rw [lessAll_refs, g.refs]
    have h3 : cntP i (some { q with at_ := o, old := r }) = cntL i q.old := by rw [ho]; rfl
    have h4 : cntP i (some q) = q.at_.count i + cntL i q.old := by simp [cntP, cntL]
    rw [h3, h4] at h1
    omega
  · rw [pic_set hp'] at e
    split at e
    · cases e
      have hm : ∀ x ∈ o :: r, x.length = q.w * q.h := by rw [← ho]; exact ok.olds
      refine ⟨ok.w1, ok.w4, ok.h1, ok.h4, hm o (List.Mem.head _), fun x hx => hm x (List.Mem.tail _ hx), ?_⟩
      have := ok.few
      rw [ho] at this
      simp at this
      show r.length ≤ 3
      omega
    · exact g.pics k x e
theorem Good.copy {s : St} (g : Good s) {p k : Nat} {q : Pic} (hq : s.pic p = some q) (hk : k < 4) (hpk : p ≠ k) :
    Good ⟨(dropS ⟨moreAll s.store q.at_, s.pics⟩ k).store, s.pics.set k (some { q with old := [] })⟩ := by
  have ok := g.pics p q hq
  have hk' : k < s.pics.length := by rw [g.four]; exact hk
  have hpic : ∀ r, (St.mk (moreAll s.store q.at_) s.pics).pic r = s.pic r := fun r => rfl
  refine ⟨by simp [g.four], ?_, fun i => ?_, fun r x e => ?_⟩
  · have f := g.full.moreAll q.at_ fun i hi => g.at_pos hq hi
    cases h : s.pic k with
    | none => rw [dropS_none (s := ⟨moreAll s.store q.at_, s.pics⟩) h]; exact f
    | some y => rw [dropS_some (s := ⟨moreAll s.store q.at_, s.pics⟩) h]; exact Full.lessL f
  · have h1 := cntS_set (s := s) (p := k) (x := some { q with old := [] }) i hk'
    show refsAt (dropS ⟨moreAll s.store q.at_, s.pics⟩ k).store i = cntS i (s.pics.set k _)
    rw [dropS_refs, hpic]
    have h3 : cntP i (some { q with old := [] }) = q.at_.count i := by simp [cntP, cntL]
    rw [h3] at h1
    have h5 := cntP_le (s := s) (p := k) i
    show refsAt (moreAll s.store q.at_) i - _ = _
    by_cases hi : i < s.store.length
    · rw [moreAll_refs _ _ _ hi, g.refs]
      omega
    · have e1 : refsAt s.store i = 0 := by unfold refsAt; rw [List.getElem?_eq_none_iff.mpr (by omega)]; rfl
      have e2 : refsAt (moreAll s.store q.at_) i = 0 := by unfold refsAt; rw [List.getElem?_eq_none_iff.mpr (by rw [moreAll_len]; omega)]; rfl
      have e3 : q.at_.count i = 0 := by
        apply List.count_eq_zero.mpr
        intro m
        have := g.at_pos hq m
        omega
      rw [g.refs] at e1
      omega
  · rw [pic_set hk'] at e
    split at e
    · cases e
      exact ⟨ok.w1, ok.w4, ok.h1, ok.h4, ok.len, by simp, by simp⟩
    · exact g.pics r x e
end TS
namespace TS
open Ie07
/-! one call of the specification, by what the program does -/
def pageS (s : St) (p w h : Nat) : St := ⟨(keepAll (dropS s p).store (List.replicate (w * h) blank)).1, s.pics.set p (some ⟨w, h, (keepAll (dropS s p).store (List.replicate (w * h) blank)).2, []⟩)⟩
def copyS (s : St) (k : Nat) (y : Pic) : St := ⟨(dropS ⟨moreAll s.store y.at_, s.pics⟩ k).store, s.pics.set k (some { y with old := [] })⟩
def undoS (s : St) (p : Nat) (y : Pic) (o : List Nat) (r : List (List Nat)) : St := ⟨lessAll s.store y.at_, s.pics.set p (some { y with at_ := o, old := r })⟩
theorem step_page {s : St} {p w h : Nat} (hp : p < 4) (hw : 1 ≤ w ∧ w ≤ 4 ∧ 1 ≤ h ∧ h ≤ 4) : step s (.page p w h) = told (pageS s p w h) := by
  have h1 : ¬ PICS ≤ p := by show ¬ 4 ≤ p; omega
  have h2 : ¬ (w < 1 ∨ 4 < w ∨ h < 1 ∨ 4 < h) := by omega
  simp only [step, h1, h2, if_false, pageS]
  cases e : s.pic p with
  | none => rw [dropS_none e]
  | some q => rw [dropS_some e]
theorem step_none {s : St} {p : Nat} (h : s.pic p = none) : (∀ x y u v n, step s (.box p x y u v n) = (s, [-1])) ∧ (∀ l, step s (.dots p l) = (s, [-1])) ∧ (∀ n, step s (.shift p n) = (s, [-1])) ∧ (∀ q, step s (.copy p q) = (s, [-1])) ∧
    (∀ q x y, step s (.paste p q x y) = (s, [-1])) ∧ step s (.undo p) = (s, [-1]) ∧ step s (.close p) = (s, [-1]) ∧ step s (.cells p) = (s, [-1]) ∧ (∀ x y, step s (.cell p x y) = (s, [-1])) ∧ (∀ i, step s (.tile p i) = (s, [-1])) ∧ (∀ q, step s (.same p q) = (s, [-1])) := by
  refine ⟨?_, ?_, ?_, ?_, ?_, ?_, ?_, ?_, ?_, ?_, ?_⟩ <;> intros <;> simp [step, h]
theorem step_none2 {s : St} {p q : Nat} (h : s.pic q = none) : (∀ x y, step s (.paste p q x y) = (s, [-1])) ∧ step s (.same p q) = (s, [-1]) := by
  refine ⟨fun x y => ?_, ?_⟩ <;> (cases e : s.pic p <;> simp [step, h, e])
theorem step_box {s : St} {p x y u v n : Nat} {q : Pic} (g : Good s) (hq : s.pic p = some q) (hn : n ≤ 255) :
    step s (.box p x y u v n) = told (changed s p q (tilesOf (fun a b => if inBox x y u v a b then n else cellOf s.store q.w q.at_ a b) q.w q.h)) := by
  have h : ¬ 255 < n := by omega
  simp only [step, hq, h, if_false]
  rw [tilesBy_eq _ _ _ (g.pics p q hq).len (g.tile16 hq)]
theorem dots_all (q : Pic) (ds : List (Nat × Nat × Nat)) : (ds.all fun d => decide (d.1 < q.w * SIDE) && (decide (d.2.1 < q.h * SIDE) && decide (d.2.2 ≤ 255))) = ds.all (dotIn (4 * q.w) (4 * q.h)) := by
  have : (fun (d : Nat × Nat × Nat) => decide (d.1 < q.w * SIDE) && (decide (d.2.1 < q.h * SIDE) && decide (d.2.2 ≤ 255))) = dotIn (4 * q.w) (4 * q.h) := by
    funext d
    unfold dotIn
    rw [show q.w * SIDE = 4 * q.w from Nat.mul_comm _ _, show q.h * SIDE = 4 * q.h from Nat.mul_comm _ _]
  rw [this]
theorem step_dots {s : St} {p : Nat} {l : List Nat} {ds : List (Nat × Nat × Nat)} {q : Pic} (g : Good s) (hq : s.pic p = some q) (hd : dotsOf l = some ds) (ha : ds.all (dotIn (4 * q.w) (4 * q.h)) = true) :
    step s (.dots p l) = told (changed s p q (tilesOf (dotPut (cellOf s.store q.w q.at_) ds) q.w q.h)) := by
  simp only [step, hq, hd, dots_all, ha, Bool.true_eq_false, if_false]
  rw [tilesBy_eq _ _ _ (g.pics p q hq).len (g.tile16 hq)]
  rfl
theorem step_dots_no {s : St} {p : Nat} {l : List Nat} {q : Pic} (hq : s.pic p = some q) (hf : fits (4 * q.w) (4 * q.h) l = false) : step s (.dots p l) = (s, [-2]) := by
  unfold fits at hf
  cases hd : dotsOf l with
  | none => simp [step, hq, hd]
  | some ds =>
    rw [hd] at hf
    have hf : ds.all (dotIn (4 * q.w) (4 * q.h)) = false := hf
    simp only [step, hq, hd, dots_all, hf, if_true]
theorem step_shift {s : St} {p n : Nat} {q : Pic} (g : Good s) (hq : s.pic p = some q) :
    step s (.shift p n) = told (changed s p q (tilesOf (fun a b => cellOf s.store q.w q.at_ ((a + 4 * q.w - n % (4 * q.w)) % (4 * q.w)) b) q.w q.h)) := by
  simp only [step, hq]
  rw [tilesBy_eq _ _ _ (g.pics p q hq).len (g.tile16 hq), show q.w * SIDE = 4 * q.w from Nat.mul_comm _ _]
theorem step_copy {s : St} {p k : Nat} {q : Pic} (hq : s.pic p = some q) (hk : k < 4) (hpk : p ≠ k) : step s (.copy p k) = told (copyS s k q) := by
  have h1 : ¬ (PICS ≤ k ∨ p = k) := by show ¬ (4 ≤ k ∨ p = k); omega
  simp only [step, hq, h1, if_false, copyS]
  cases e : s.pic k with
  | none =>
    rw [dropS_none (s := ⟨moreAll s.store q.at_, s.pics⟩) e]
  | some z =>
    rw [dropS_some (s := ⟨moreAll s.store q.at_, s.pics⟩) e]
theorem step_paste {s : St} {p k x y : Nat} {a b : Pic} (g : Good s) (ha : s.pic p = some a) (hb : s.pic k = some b) (hpk : p ≠ k) :
    step s (.paste p k x y) = told (changed s k b (tilesOf (fun i j => if x ≤ i ∧ i < x + 4 * a.w ∧ y ≤ j ∧ j < y + 4 * a.h then (if cellOf s.store a.w a.at_ (i - x) (j - y) = 0 then cellOf s.store b.w b.at_ i j else cellOf s.store a.w a.at_ (i - x) (j - y)) else cellOf s.store b.w b.at_ i j) b.w b.h)) := by
  simp only [step, ha, hb, hpk, if_false]
  rw [tilesBy_eq _ _ _ (g.pics k b hb).len (g.tile16 hb), show a.w * SIDE = 4 * a.w from Nat.mul_comm _ _, show a.h * SIDE = 4 * a.h from Nat.mul_comm _ _]
theorem step_undo {s : St} {p : Nat} {q : Pic} {o : List Nat} {r : List (List Nat)} (hq : s.pic p = some q) (ho : q.old = o :: r) : step s (.undo p) = told (undoS s p q o r) := by
  simp only [step, hq, ho, undoS]
theorem step_undo_no {s : St} {p : Nat} {q : Pic} (hq : s.pic p = some q) (ho : q.old = []) : step s (.undo p) = (s, [-4]) := by
  simp only [step, hq, ho]
theorem step_close {s : St} {p : Nat} {q : Pic} (hq : s.pic p = some q) : step s (.close p) = told (dropS s p) := by
  simp only [step, hq, dropS_some hq]
theorem tilesOf_len (f : Nat → Nat → Nat) (wd hg : Nat) : (tilesOf f wd hg).length = wd * hg ∧ ∀ t ∈ tilesOf f wd hg, t.length = 16 := by
  unfold tilesOf
  refine ⟨by simp, fun t ht => ?_⟩
  simp only [List.mem_map, List.mem_range] at ht
  obtain ⟨i, _, rfl⟩ := ht
  exact tileOf_len _ _ _
theorem Good.page {s : St} (g : Good s) {p w h : Nat} (hp : p < 4) (hw : 1 ≤ w ∧ w ≤ 4 ∧ 1 ≤ h ∧ h ≤ 4) : Good (pageS s p w h) := by
  have g1 := g.drop p
  have h1 := g1.lay (p := p) hp (by rw [dropS_pic, if_pos rfl]) (ts := List.replicate (w * h) blank) hw (by simp) (fun t ht => by rw [List.eq_of_mem_replicate ht]; rfl)
  rw [dropS_set] at h1
  exact h1
/-- every call keeps the state good -/
theorem Good.step {s : St} (g : Good s) (c : Call) : Good (Ie07.step s c).1 := by
  cases c with
  | page p w h =>
    by_cases hp : PICS ≤ p
    · simp only [Ie07.step, hp, if_true]; exact g
    · have hp' : p < 4 := by have : ¬ 4 ≤ p := hp; omega
      by_cases hw : w < 1 ∨ 4 < w ∨ h < 1 ∨ 4 < h
      · simp only [Ie07.step, hp, hw, if_false, if_true]; exact g
      · rw [step_page hp' (by omega)]
        exact g.page hp' (by omega)
  | box p x y u v n =>
    cases hq : s.pic p with
    | none => rw [(step_none hq).1]; exact g
    | some q =>
      by_cases hn : 255 < n
      · simp only [Ie07.step, hq, hn, if_true]; exact g
      · rw [step_box g hq (by omega)]
        exact g.changed hq (tilesOf_len _ _ _).1 (tilesOf_len _ _ _).2
  | dots p l =>
    cases hq : s.pic p with
    | none => rw [(step_none hq).2.1]; exact g
    | some q =>
      cases hf : fits (4 * q.w) (4 * q.h) l with
      | false => rw [step_dots_no hq hf]; exact g
      | true =>
        unfold fits at hf
        cases hd : dotsOf l with
        | none => rw [hd] at hf; cases hf
        | some ds =>
          rw [hd] at hf
          rw [step_dots g hq hd hf]
          exact g.changed hq (tilesOf_len _ _ _).1 (tilesOf_len _ _ _).2
  | shift p n =>
    cases hq : s.pic p with
    | none => rw [(step_none hq).2.2.1]; exact g
    | some q =>
      rw [step_shift g hq]
      exact g.changed hq (tilesOf_len _ _ _).1 (tilesOf_len _ _ _).2
  | copy p k =>
    cases hq : s.pic p with
    | none => rw [(step_none hq).2.2.2.1]; exact g
    | some q =>
      by_cases hk : PICS ≤ k ∨ p = k
      · simp only [Ie07.step, hq, hk, if_true]; exact g
      · have hk' : k < 4 ∧ p ≠ k := by have : ¬ (4 ≤ k ∨ p = k) := hk; omega
        rw [step_copy hq hk'.1 hk'.2]
        exact g.copy hq hk'.1 hk'.2
  | paste p k x y =>
    cases hq : s.pic p with
    | none => rw [(step_none hq).2.2.2.2.1]; exact g
    | some q =>
      cases hk : s.pic k with
      | none => rw [(step_none2 hk).1]; exact g
      | some b =>
        by_cases hpk : p = k
        · simp only [Ie07.step, hq, hk, hpk, if_true]; exact g
        · rw [step_paste g hq hk hpk]
          exact g.changed hk (tilesOf_len _ _ _).1 (tilesOf_len _ _ _).2
  | undo p =>
    cases hq : s.pic p with
    | none => rw [(step_none hq).2.2.2.2.2.1]; exact g
    | some q =>
      cases ho : q.old with
      | nil => rw [step_undo_no hq ho]; exact g
      | cons o r =>
        rw [step_undo hq ho]
        exact g.undo hq ho
  | close p =>
    cases hq : s.pic p with
    | none => rw [(step_none hq).2.2.2.2.2.2.1]; exact g
    | some q =>
      rw [step_close hq]
      exact g.drop p
  | cells p => exact g
  | cell p x y => exact g
  | tile p i => exact g
  | same p q => exact g
  | store => exact g
  | slot i => exact g
end TS
namespace TS
open Ie07
/-! the list of calls, read -/
def wn : List Nat := [3, 6, 1, 2, 2, 4, 1, 1, 1, 3, 2, 2, 0, 1]
def callN : Nat → List Nat → List Nat → Option Call
  | 0, [p, w, h], [] => some (.page p w h)
  | 1, [p, x, y, u, v, n], [] => some (.box p x y u v n)
  | 2, [p], l => some (.dots p l)
  | 3, [p, n], [] => some (.shift p n)
  | 4, [p, q], [] => some (.copy p q)
  | 5, [p, q, x, y], [] => some (.paste p q x y)
  | 6, [p], [] => some (.undo p)
  | 7, [p], [] => some (.close p)
  | 8, [p], [] => some (.cells p)
  | 9, [p, x, y], [] => some (.cell p x y)
  | 10, [p, i], [] => some (.tile p i)
  | 11, [p, q], [] => some (.same p q)
  | 12, [], [] => some .store
  | 13, [i], [] => some (.slot i)
  | _, _, _ => none
abbrev ci (l : List Nat) : List Int := l.map fun (n : Nat) => (n : Int)
theorem ci_of : ∀ {l : List Int}, (∀ z ∈ l, 0 ≤ z) → ∃ k : List Nat, l = ci k
  | [], _ => ⟨[], rfl⟩
  | z :: l, h => by
    obtain ⟨k, hk⟩ := ci_of (l := l) fun y hy => h y (List.Mem.tail _ hy)
    refine ⟨z.toNat :: k, ?_⟩
    have := h z (List.Mem.head _)
    show z :: l = (z.toNat : Int) :: ci k
    rw [hk, Int.toNat_of_nonneg this]
theorem callOf_ci {l : List Nat} (h : ∀ n ∈ l, n < 2 ^ 32) : Ie07Neutral.callOf (ci l) = Ie07Neutral.callIn l := by
  unfold Ie07Neutral.callOf
  have e1 : (ci l).all Ie07Neutral.nat = true := by
    rw [List.all_eq_true]
    intro z hz
    obtain ⟨n, hn, rfl⟩ := List.mem_map.mp hz
    have := h n hn
    unfold Ie07Neutral.nat
    simp only [Bool.and_eq_true, decide_eq_true_eq]
    omega
  have e2 : (ci l).map Int.toNat = l := by
    rw [List.map_map]
    have : (Int.toNat ∘ fun (n : Nat) => (n : Int)) = id := by funext n; simp
    rw [this, List.map_id]
  rw [e1, e2, if_neg (by decide)]
theorem step_ci {l : List Nat} (h : ∀ n ∈ l, n < 2 ^ 32) {c : Call} (e : Ie07Neutral.callIn l = some c) (s : St) : Ie07Neutral.step s (ci l) = step s c := by
  unfold Ie07Neutral.step
  rw [callOf_ci h, e]
theorem len1 {l : List Nat} (h : l.length = 1) : ∃ a, l = [a] := by
  match l, h with
  | [a], _ => exact ⟨a, rfl⟩
theorem len2 {l : List Nat} (h : l.length = 2) : ∃ a b, l = [a, b] := by
  match l, h with
  | [a, b], _ => exact ⟨a, b, rfl⟩
theorem len3 {l : List Nat} (h : l.length = 3) : ∃ a b c, l = [a, b, c] := by
  match l, h with
  | [a, b, c], _ => exact ⟨a, b, c, rfl⟩
theorem len4 {l : List Nat} (h : l.length = 4) : ∃ a b c d, l = [a, b, c, d] := by
  match l, h with
  | [a, b, c, d], _ => exact ⟨a, b, c, d, rfl⟩
theorem len6 {l : List Nat} (h : l.length = 6) : ∃ a b c d e f, l = [a, b, c, d, e, f] := by
  match l, h with
  | [a, b, c, d, e, f], _ => exact ⟨a, b, c, d, e, f, rfl⟩
theorem shape_cases {p : Int} {m k : Nat} (h : PyIe07.shape p = some (m, k)) : ∃ i : Nat, p = (i : Int) ∧ wn[i]? = some m ∧ k = if i = 2 then 1 else 0 := by
  unfold PyIe07.shape at h
  by_cases e0 : p = 0
  · rw [if_pos e0] at h; injection h with h; injection h with h1 h2; subst h1 h2 e0; exact ⟨0, rfl, rfl, rfl⟩
  rw [if_neg e0] at h
  by_cases e1 : p = 1
  · rw [if_pos e1] at h; injection h with h; injection h with h1 h2; subst h1 h2 e1; exact ⟨1, rfl, rfl, rfl⟩
  rw [if_neg e1] at h
  by_cases e2 : p = 2
  · rw [if_pos e2] at h; injection h with h; injection h with h1 h2; subst h1 h2 e2; exact ⟨2, rfl, rfl, rfl⟩
  rw [if_neg e2] at h
  by_cases e3 : p = 3
  · rw [if_pos e3] at h; injection h with h; injection h with h1 h2; subst h1 h2 e3; exact ⟨3, rfl, rfl, rfl⟩
  rw [if_neg e3] at h
  by_cases e4 : p = 4
  · rw [if_pos e4] at h; injection h with h; injection h with h1 h2; subst h1 h2 e4; exact ⟨4, rfl, rfl, rfl⟩
  rw [if_neg e4] at h
  by_cases e5 : p = 5
  · rw [if_pos e5] at h; injection h with h; injection h with h1 h2; subst h1 h2 e5; exact ⟨5, rfl, rfl, rfl⟩
  rw [if_neg e5] at h
  by_cases e6 : p = 6
  · rw [if_pos e6] at h; injection h with h; injection h with h1 h2; subst h1 h2 e6; exact ⟨6, rfl, rfl, rfl⟩
  rw [if_neg e6] at h
  by_cases e7 : p = 7
  · rw [if_pos e7] at h; injection h with h; injection h with h1 h2; subst h1 h2 e7; exact ⟨7, rfl, rfl, rfl⟩
  rw [if_neg e7] at h
  by_cases e8 : p = 8
  · rw [if_pos e8] at h; injection h with h; injection h with h1 h2; subst h1 h2 e8; exact ⟨8, rfl, rfl, rfl⟩
  rw [if_neg e8] at h
  by_cases e9 : p = 9
  · rw [if_pos e9] at h; injection h with h; injection h with h1 h2; subst h1 h2 e9; exact ⟨9, rfl, rfl, rfl⟩
  rw [if_neg e9] at h
  by_cases e10 : p = 10
  · rw [if_pos e10] at h; injection h with h; injection h with h1 h2; subst h1 h2 e10; exact ⟨10, rfl, rfl, rfl⟩
  rw [if_neg e10] at h
  by_cases e11 : p = 11
  · rw [if_pos e11] at h; injection h with h; injection h with h1 h2; subst h1 h2 e11; exact ⟨11, rfl, rfl, rfl⟩
  rw [if_neg e11] at h
  by_cases e12 : p = 12
  · rw [if_pos e12] at h; injection h with h; injection h with h1 h2; subst h1 h2 e12; exact ⟨12, rfl, rfl, rfl⟩
  rw [if_neg e12] at h
  by_cases e13 : p = 13
  · rw [if_pos e13] at h; injection h with h; injection h with h1 h2; subst h1 h2 e13; exact ⟨13, rfl, rfl, rfl⟩
  rw [if_neg e13] at h
  cases h
/-- what one call of the list is -/
structure Read (p : Int) (r : List Int) (c : List (List Int)) (t : List Int) (i m : Nat) (given row : List Nat) (cl : Call) : Prop where
  pi : p = (i : Int)
  wi : wn[i]? = some m
  le : m ≤ r.length
  gi : r.take m = ci given
  gl : given.length = m
  cn : callN i given row = some cl
  st : ∀ s, Ie07Neutral.step s ((PyIe07.whole c).headD []) = step s cl
  no : i ≠ 2 → row = [] ∧ t = r.drop m
  dots : i = 2 → ∃ r' : List Int, r.drop m = (row.length : Int) :: r' ∧ r'.take row.length = ci row ∧ row.length ≤ r'.length ∧ t = r'.drop row.length
theorem decode {p : Int} {r : List Int} {c : List (List Int)} {t : List Int} (h : PyFlat.call PyIe07.shape (p :: r) = some (c, t)) (hb : ∀ z ∈ p :: r, 0 ≤ z ∧ z ≤ 4294967295) : ∃ (i m : Nat) (given row : List Nat) (cl : Call), Read p r c t i m given row cl := by
  unfold PyFlat.call at h
  dsimp only at h
  cases hs : PyIe07.shape p with
  | none => rw [hs] at h; cases h
  | some mk =>
    obtain ⟨m, k⟩ := mk
    rw [hs] at h
    dsimp only at h
    split at h
    · cases h
    · rename_i hlen
      obtain ⟨i, rfl, hw, rfl⟩ := shape_cases hs
      obtain ⟨kr, rfl⟩ := ci_of (l := r) fun z hz => (hb z (List.Mem.tail _ hz)).1
      have hkr : ∀ n ∈ kr, n < 2 ^ 32 := fun n hn => by
        have := (hb (n : Int) (List.Mem.tail _ (List.mem_map.mpr ⟨n, hn, rfl⟩))).2
        omega
      have hm : m ≤ kr.length := by simpa using hlen
      have hgl : (kr.take m).length = m := by simp; omega
      have hgn : ∀ n ∈ kr.take m, n < 2 ^ 32 := fun n hn => hkr n (List.mem_of_mem_take hn)
      have etake : (ci kr).take m = ci (kr.take m) := List.map_take.symm
      have edrop : (ci kr).drop m = ci (kr.drop m) := List.map_drop.symm
      by_cases hi : i = 2
      · subst hi
        rw [if_pos rfl] at h
        have hm1 : m = 1 := by
          have : wn[2]? = some 1 := rfl
          rw [this] at hw
          exact (Option.some.inj hw).symm
        subst hm1
        cases hr : PyFlat.rows 1 ((ci kr).drop 1) with
        | none => rw [hr] at h; cases h
        | some xt =>
          obtain ⟨xs, t'⟩ := xt
          rw [hr] at h
          injection h with h
          injection h with hc ht
          subst hc ht
          unfold PyFlat.rows PyFlat.row at hr
          cases hd : kr.drop 1 with
          | nil =>
            rw [edrop, hd] at hr
            cases hr
          | cons cnt kr' =>
            rw [edrop, hd] at hr
            have hr2 : (match (if 0 ≤ (cnt : Int) ∧ ((cnt : Int)).toNat ≤ (ci kr').length then some ((ci kr').take ((cnt : Int)).toNat, (ci kr').drop ((cnt : Int)).toNat) else none) with
              | none => none
              | some (x, s) => match PyFlat.rows 0 s with
                | none => none
                | some (xs, t) => some (x :: xs, t)) = some (xs, t') := hr
            by_cases hcn : 0 ≤ (cnt : Int) ∧ ((cnt : Int)).toNat ≤ (ci kr').length
            · rw [if_pos hcn] at hr2
              have hr3 : some ([(ci kr').take cnt], (ci kr').drop cnt) = some (xs, t') := hr2
              injection hr3 with hr3
              injection hr3 with e1 e2
              subst e1 e2
              have hcl : cnt ≤ kr'.length := by have := hcn.2; simp at this; exact this
              obtain ⟨p0, hp0⟩ := len1 hgl
              have hrl : (kr'.take cnt).length = cnt := by simp; omega
              have hrn : ∀ n ∈ kr'.take cnt, n < 2 ^ 32 := fun n hn => by
                have : n ∈ kr.drop 1 := by rw [hd]; exact List.Mem.tail _ (List.mem_of_mem_take hn)
                exact hkr n (List.mem_of_mem_drop this)
              refine ⟨2, 1, [p0], kr'.take cnt, .dots p0 (kr'.take cnt), rfl, rfl, by simpa using hm, by rw [etake, hp0], rfl, rfl, fun s => ?_, fun z => absurd rfl z, fun _ => ⟨ci kr', ?_, ?_, ?_, ?_⟩⟩
              · rw [etake, hp0]
                have e3 : (PyIe07.whole (((2 : Int) :: ci [p0]) :: [(ci kr').take cnt])).headD [] = ci (2 :: p0 :: kr'.take cnt) := by
                  have : (ci kr').take cnt = ci (kr'.take cnt) := List.map_take.symm
                  rw [this]
                  rfl
                rw [show ((2 : Nat) : Int) = (2 : Int) from rfl, e3]
                refine step_ci (fun n hn => ?_) rfl s
                simp only [List.mem_cons] at hn
                rcases hn with rfl | rfl | hn
                · decide
                · exact hgn _ (by rw [hp0]; exact List.Mem.head _)
                · exact hrn n hn
              · rw [edrop, hd, hrl]; rfl
              · rw [hrl]; exact List.map_take.symm
              · rw [hrl]; simpa using hcl
              · rw [hrl]
            · rw [if_neg hcn] at hr2
              cases hr2
      · rw [if_neg hi] at h
        have h2 : some (((i : Int) :: (ci kr).take m) :: [], (ci kr).drop m) = some (c, t) := h
        injection h2 with h2
        injection h2 with hc ht
        subst hc ht
        rw [etake]
        have hil : i < 14 := (List.getElem?_eq_some_iff.mp hw).1
        have fin : ∀ cl, callN i (kr.take m) [] = some cl → (PyIe07.whole [(i : Int) :: ci (kr.take m)]).headD [] = ci (i :: kr.take m) → Ie07Neutral.callIn (i :: kr.take m) = some cl → ∃ (i' m' : Nat) (given row : List Nat) (cl : Call), Read (i : Int) (ci kr) [(i : Int) :: ci (kr.take m)] ((ci kr).drop m) i' m' given row cl := fun cl e1 e2 e3 =>
          ⟨i, m, kr.take m, [], cl, rfl, hw, by simpa using hm, etake, hgl, e1, fun s => by
            rw [e2]
            refine step_ci (fun n hn => ?_) e3 s
            simp only [List.mem_cons] at hn
            rcases hn with rfl | hn
            · omega
            · exact hgn n hn, fun _ => ⟨rfl, rfl⟩, fun z => absurd z hi⟩
        match i, hil, hi, hw, fin with
        | 0, _, _, hw, fin =>
          obtain rfl : 3 = m := Option.some.inj hw
          obtain ⟨a, b, d, e⟩ := len3 hgl
          rw [e] at fin ⊢; exact fin _ rfl rfl rfl
        | 1, _, _, hw, fin =>
          obtain rfl : 6 = m := Option.some.inj hw
          obtain ⟨a, b, d, f, g, j, e⟩ := len6 hgl
          rw [e] at fin ⊢; exact fin _ rfl rfl rfl
        | 2, _, hi, _, _ => exact absurd rfl hi
        | 3, _, _, hw, fin =>
          obtain rfl : 2 = m := Option.some.inj hw
          obtain ⟨a, b, e⟩ := len2 hgl
          rw [e] at fin ⊢; exact fin _ rfl rfl rfl
        | 4, _, _, hw, fin =>
          obtain rfl : 2 = m := Option.some.inj hw
          obtain ⟨a, b, e⟩ := len2 hgl
          rw [e] at fin ⊢; exact fin _ rfl rfl rfl
        | 5, _, _, hw, fin =>
          obtain rfl : 4 = m := Option.some.inj hw
          obtain ⟨a, b, d, f, e⟩ := len4 hgl
          rw [e] at fin ⊢; exact fin _ rfl rfl rfl
        | 6, _, _, hw, fin =>
          obtain rfl : 1 = m := Option.some.inj hw
          obtain ⟨a, e⟩ := len1 hgl
          rw [e] at fin ⊢; exact fin _ rfl rfl rfl
        | 7, _, _, hw, fin =>
          obtain rfl : 1 = m := Option.some.inj hw
          obtain ⟨a, e⟩ := len1 hgl
          rw [e] at fin ⊢; exact fin _ rfl rfl rfl
        | 8, _, _, hw, fin =>
          obtain rfl : 1 = m := Option.some.inj hw
          obtain ⟨a, e⟩ := len1 hgl
          rw [e] at fin ⊢; exact fin _ rfl rfl rfl
        | 9, _, _, hw, fin =>
          obtain rfl : 3 = m := Option.some.inj hw
          obtain ⟨a, b, d, e⟩ := len3 hgl
          rw [e] at fin ⊢; exact fin _ rfl rfl rfl
        | 10, _, _, hw, fin =>
          obtain rfl : 2 = m := Option.some.inj hw
          obtain ⟨a, b, e⟩ := len2 hgl
          rw [e] at fin ⊢; exact fin _ rfl rfl rfl
        | 11, _, _, hw, fin =>
          obtain rfl : 2 = m := Option.some.inj hw
          obtain ⟨a, b, e⟩ := len2 hgl
          rw [e] at fin ⊢; exact fin _ rfl rfl rfl
        | 12, _, _, hw, fin =>
          obtain rfl : 0 = m := Option.some.inj hw
          rw [List.take_zero] at fin ⊢; exact fin _ rfl rfl rfl
        | 13, _, _, hw, fin =>
          obtain rfl : 1 = m := Option.some.inj hw
          obtain ⟨a, e⟩ := len1 hgl
          rw [e] at fin ⊢; exact fin _ rfl rfl rfl
/-- the answers of calls from a state on -/
def ans (s : St) (raw : List (List (List Int))) : List Int := PyFlat.told (PyFlat.played (fun s c => Ie07Neutral.step s (c.headD [])) s (raw.map PyIe07.whole))
theorem ans_cons {s : St} {c : List (List Int)} {raw : List (List (List Int))} {cl : Call} (h : ∀ s, Ie07Neutral.step s ((PyIe07.whole c).headD []) = step s cl) : ans s (c :: raw) = (((step s cl).2.length : Nat) : Int) :: (step s cl).2 ++ ans (step s cl).1 raw := by
  unfold ans PyFlat.told
  rw [List.map_cons, PyFlat.played, List.flatMap_cons, h]
theorem answers_eq {l : List Int} {raw : List (List (List Int))} (h : PyFlat.calls PyIe07.shape l.length l = some raw) : PyIe07.answers l = ans Ie07.init raw := by
  unfold PyIe07.answers PyIe07.calls
  rw [h]
  rfl
/-- the loop's view: what is left of the list, read -/
theorem calls_cons {f : Nat} {p : Int} {r : List Int} {raw : List (List (List Int))} (h : PyFlat.calls PyIe07.shape f (p :: r) = some raw) : ∃ f' c t raw', f = f' + 1 ∧ raw = c :: raw' ∧ PyFlat.call PyIe07.shape (p :: r) = some (c, t) ∧ PyFlat.calls PyIe07.shape f' t = some raw' := by
  cases f with
  | zero => unfold PyFlat.calls at h; cases h
  | succ f =>
    unfold PyFlat.calls at h
    cases hc : PyFlat.call PyIe07.shape (p :: r) with
    | none => rw [hc] at h; cases h
    | some ct =>
      obtain ⟨c, t⟩ := ct
      rw [hc] at h
      dsimp only at h
      cases hr : PyFlat.calls PyIe07.shape f t with
      | none => rw [hr] at h; cases h
      | some raw' =>
        rw [hr] at h
        injection h with h
        exact ⟨f, c, t, raw', rfl, h.symm, rfl, hr⟩
theorem calls_nil {f : Nat} {raw : List (List (List Int))} (h : PyFlat.calls PyIe07.shape f [] = some raw) : raw = [] := by
  cases f <;> (unfold PyFlat.calls at h; injection h with h; exact h.symm)
theorem asked_calls {l : List Int} (h : PyIe07.answers_asked l = true) : ∃ raw, PyFlat.calls PyIe07.shape l.length l = some raw ∧ raw.length ≤ 40 ∧ (PyIe07.answers l).length ≤ 10000000 := by
  unfold PyIe07.answers_asked at h
  cases hc : PyFlat.calls PyIe07.shape l.length l with
  | none => rw [hc] at h; cases h
  | some raw =>
    rw [hc] at h
    simp only [Bool.and_eq_true] at h
    refine ⟨raw, rfl, ?_, ?_⟩
    · have := h.1.1.1.2
      unfold PyFlat.atMost at this
      exact of_decide_eq_true this
    · have := h.2
      unfold PyFlat.short at this
      exact of_decide_eq_true this
end TS
namespace TS
open PySem PySem.Spec PyProof.Rows L2
/-! len(set(xs) & set(ys)), xs and ys lists of whole numbers -/
section
variable {prog : Program} {w : World} {A : Around} {E : Value → Shared → Prop} {s : Shared}
theorem entry_set_and : entryFor table "set.__and__" = some Builtin.«frozenset.__and__» :=
  entryFor_alias (id' := "frozenset.__and__") (by kernel_rfl) rfl (by decide +kernel) (by kernel_rfl)
theorem elem_int {l : List (Int × Value)} (h : ElemsOf (intKind prog w) l) {e : Int × Value} (he : e ∈ l) : ∃ k tk, e = (hashInt k, Value.int k tk) := by
  obtain ⟨⟨k, h1, h2⟩, _⟩ := h e he
  obtain ⟨t, e1⟩ := Value.isInt_shape h1
  exact ⟨k, t, Prod.ext h2 e1⟩
theorem setWalk_all {a : Addr} {o : Obj} {es : Array (Int × Value)} {ep : Nat} {t : SetTable} {Q : Array (Int × Value) → Shared → Prop} (ho : s.heap.get? a = some o) (hd : o.data = .set es ep t) (hf : t.fits es.size = true)
    (hc : (w.params.followText "set-order" || (t.led && t.plain) || decide (es.size ≤ 1)) = true) (h : ∀ xs : Array (Int × Value), xs.toList.Perm es.toList → Q xs s) : wpAny (model prog w) A (setWalk a) Q E s := by
  unfold setWalk
  refine wpAny_bind (wpAny_setState_of ho hd hf ?_)
  dsimp only
  refine wpAny_bind (wpAny_byText ?_)
  by_cases hbt : w.params.followText "set-order" = true
  · refine wp_if_pos hbt ?_
    exact wpAny_bind (wpAny_askSetting (wpAny_pure (h _ (pick_perm _ _))))
  · refine wp_if_neg hbt ?_
    have hbt' : w.params.followText "set-order" = false := by simpa using hbt
    rw [hbt'] at hc
    have h1 : ¬ ((!t.plain && decide (es.size > 1)) = true) := by
      cases e1 : t.plain <;> cases e2 : t.led <;> simp_all <;> omega
    have h2 : ¬ ((!t.led && decide (es.size > 1)) = true) := by
      cases e1 : t.plain <;> cases e2 : t.led <;> simp_all <;> omega
    refine wp_if_neg h1 ?_
    refine wpAny_bind (wpAny_of_eq (a := ()) ?_ (wpAny_pure (h es (List.Perm.refl _))))
    show (if (!t.led && decide (es.size > 1)) = true then unsupported "set:maker-not-led" else pure ()) = pure ()
    rw [if_neg h2]
theorem setsQuiet_ints (l : List Addr) {Q : Bool → Shared → Prop} (hl : ∀ a ∈ l, ∃ S n, s.heap.SetOf (intKind prog w) a S n) (h : Q true s) : wpAny (model prog w) A (setsQuiet l) Q E s := by
  unfold setsQuiet
  refine wpAny_bind (wpAny_forIn_list _ (fun r b s' => s' = s ∧ b.1 = none ∧ ∀ a ∈ r, a ∈ l) _ (fun a rest b s1 hI => ?_) (fun b s1 hI => ?_) _ _ ⟨rfl, rfl, fun a ha => ha⟩)
  · obtain ⟨rfl, hb, hm⟩ := hI
    obtain ⟨S, n, o, es, ep, t, ho, hex, hd, hel, _, _, hf, _⟩ := hl a (hm a (.head _))
    refine wpAny_bind (wpAny_setEntries_of ho hd hf ?_)
    refine wpAny_bind (wpAny_forIn_array' _ (fun r b s' => s' = s1 ∧ b.1 = none ∧ ∀ e ∈ r, e ∈ es.toList) _ (fun e rest' b' s2 hI => ?_) (fun b' s2 hI => ?_) _ _ ⟨rfl, rfl, fun e he => he⟩)
    · obtain ⟨rfl, hb', hm'⟩ := hI
      obtain ⟨k, tk, rfl⟩ := elem_int hel (hm' e (.head _))
      dsimp only
      exact wpAny_pure ⟨rfl, rfl, fun e he => hm' e (.tail _ he)⟩
    · obtain ⟨rfl, hb', _⟩ := hI
      obtain ⟨b1, b2⟩ := b'
      dsimp only at hb'
      subst hb'
      exact wpAny_pure ⟨rfl, rfl, fun a ha => hm a (.tail _ ha)⟩
  · obtain ⟨rfl, hb, _⟩ := hI
    obtain ⟨b1, b2⟩ := b
    dsimp only at hb
    subst hb
    exact wpAny_pure h
theorem SetOf.here {a b : Addr} {h h' : Heap} {S : Int → Bool} {n : Nat} (x : h.SetOf (intKind prog w) a S n) (k : Heap.SameBut b h h') (e : a ≠ b) : h'.SetOf (intKind prog w) a S n := by
  obtain ⟨o, es, ep, t, ho, r⟩ := x
  exact ⟨o, es, ep, t, (k.2 a e).trans ho, r⟩
/-- the walk of a set that nobody sees: its elements in some order; the set that is filled is marked at most -/
theorem walkUnseen_ints {a b r : Addr} {o : Obj} {es : Array (Int × Value)} {ep : Nat} {t : SetTable} {Sb : Int → Bool} {nb : Nat} {Q : Array (Int × Value) → Shared → Prop} (ho : s.heap.get? a = some o) (hex : o.ExactSet) (hd : o.data = .set es ep t) (hel : ElemsOf (intKind prog w) es.toList) (hbd : es.size < scanBound) (hf : t.fits es.size = true)
    (hb : s.heap.SetOf (intKind prog w) b Sb nb) (hr : s.heap.SetOf (intKind prog w) r (fun _ => false) 0)
    (h : ∀ (xs : Array (Int × Value)) (h' : Heap), xs.toList.Perm es.toList → Heap.SameBut r s.heap h' → h'.SetOf (intKind prog w) r (fun _ => false) 0 → Q xs { s with heap := h' }) :
    wpAny (model prog w) A (setWalkUnseen a [b, r] (some r)) Q E s := by
  have here : ∀ xs : Array (Int × Value), xs.toList.Perm es.toList → Q xs s := fun xs p => h xs s.heap p (Heap.SameBut.refl r s.heap) hr
  unfold setWalkUnseen
  refine wpAny_bind (wpAny_setState_of ho hd hf ?_)
  dsimp only
  refine wpAny_bind (wpAny_byText ?_)
  by_cases hc : (w.params.followText "set-order" || (t.led && t.plain) || decide (es.size ≤ 1)) = true
  · refine wp_if_pos hc ?_
    exact setWalk_all ho hd hf hc here
  · refine wp_if_neg hc ?_
    try refine wpAny_bind (wpAny_pure ?_)
    refine wpAny_bind (setsQuiet_ints [a, b, r] ?_ ?_)
    · intro c hc
      simp only [List.mem_cons, List.mem_nil_iff, or_false] at hc
      rcases hc with rfl | rfl | rfl
      · exact ⟨fun k => es.toList.any fun e => (intKind prog w).is k e.2, es.size, o, es, ep, t, ho, hex, hd, hel, fun k => by rw [List.any_eq_true], hbd, hf, rfl⟩
      · exact ⟨_, _, hb⟩
      · exact ⟨_, _, hr⟩
    · refine wp_if_neg (by simp) ?_
      try refine wpAny_bind (wpAny_pure ?_)
      refine wpAny_bind (wpAny_rule ?_)
      obtain ⟨o', es', ep', t', ho', hex', hd', hel', hm', hb', hf', hn'⟩ := hr
      refine wpAny_bind (wpAny_setState_of ho' hd' hf' ?_)
      dsimp only
      split
      · refine wpAny_bind (wpAny_storeSet_of ho' hd' ?_ (fits_of_scanBound hb'))
        obtain ⟨_, hS⟩ := SetOf_store (knd := intKind prog w) (S' := fun _ => false) (t' := { t' with led := t'.led && t.led, plain := t'.plain && t.plain }) ho' hex' hd' hel' hm' hb' hf'
        rw [hn'] at hS
        exact wpAny_pure (h es _ (List.Perm.refl _) (Heap.SameBut.update _ _ _) hS)
      · first | exact wpAny_pure (here es (List.Perm.refl _)) | exact wpAny_bind (wpAny_pure (wpAny_pure (here es (List.Perm.refl _))))
theorem SetOf_of {h : Heap} {a : Addr} {S S' : Int → Bool} {n n' : Nat} (x : h.SetOf (intKind prog w) a S n) (e : ∀ k, S' k = S k) (en : n' = n) : h.SetOf (intKind prog w) a S' n' := by
  have : S' = S := funext e
  subst this en
  exact x
theorem anySet_set {a : Addr} {Q : Bool → Shared → Prop} (hT : s.TypeIs (.ref a) "set") (h : Q true s) : wpAny (model prog w) A (Builtin.Frozenset.isAnySet (.ref a)) Q E s := by
  unfold Builtin.Frozenset.isAnySet orM
  refine wpAny_bind (wpAny_isInstance hT PySem.F.sub_set_set ?_)
  exact wpAny_pure h
theorem inter_ints {sa sb : Addr} {Sa Sb : Int → Bool} {na nb : Nat} (id : String) {Q : Value → Shared → Prop} (ha : s.heap.SetOf (intKind prog w) sa Sa na) (hb : s.heap.SetOf (intKind prog w) sb Sb nb) (hne : sb ≠ sa) (ra : na + 1 < scanBound) (rb : nb + 1 < scanBound)
    (h : ∀ (h' : Heap) (L : List Int), L.Nodup → (∀ k, k ∈ L ↔ Sa k = true ∧ Sb k = true) → h'.SetOf (intKind prog w) s.heap.objs.size (fun k => decide (k ∈ L)) L.length → (∀ b o, s.heap.get? b = some o → h'.get? b = some o) → Q (.ref s.heap.objs.size) { s with heap := h' }) :
    wpAny (model prog w) A (Builtin.Frozenset.intersection id sa (.ref sb)) Q E s := by
  unfold Builtin.Frozenset.intersection
  refine wp_if_neg (by simpa using hne) ?_
  refine wpAny_bind (m := Builtin.Frozenset.baseOf sa) (wpAny_bind (wpAny_isInstance ha.typeIs PySem.F.sub_set_set (wpAny_pure ?_)))
  refine wpAny_bind (m := newSet _) (wpAny_newSet_of (knd := intKind prog w) fun led hr => ?_)
  refine wpAny_bind (m := Builtin.Frozenset.addrOf _) (wpAny_pure ?_)
  have lta : sa < s.heap.objs.size := by obtain ⟨o, _, _, _, ho, _⟩ := ha; exact Heap.lt_size ho
  have ltb : sb < s.heap.objs.size := by obtain ⟨o, _, _, _, ho, _⟩ := hb; exact Heap.lt_size ho
  have ha' : (s.heap.push { cls := .type "set", dict := none, data := .set #[] 0 (.fresh 0 0 led) }).SetOf (intKind prog w) sa Sa na := by
    obtain ⟨o, es, ep, t, ho, r⟩ := ha
    exact ⟨o, es, ep, t, Heap.get?_push_of_some _ ho, r⟩
  have hb' : (s.heap.push { cls := .type "set", dict := none, data := .set #[] 0 (.fresh 0 0 led) }).SetOf (intKind prog w) sb Sb nb := by
    obtain ⟨o, es, ep, t, ho, r⟩ := hb
    exact ⟨o, es, ep, t, Heap.get?_push_of_some _ ho, r⟩
  generalize hh : s.heap.push { cls := .type "set", dict := none, data := .set #[] 0 (.fresh 0 0 led) } = h1 at hr ha' hb' ⊢
  have keep : ∀ h', Heap.SameBut s.heap.objs.size h1 h' → ∀ b o, s.heap.get? b = some o → h'.get? b = some o := fun h' hs b o e => by
    rw [hs.2 b (Nat.ne_of_lt (Heap.lt_size e)), ← hh]
    exact Heap.get?_push_of_some _ e
  refine wpAny_bind (wpAny_holding ?_)
  refine wpAny_bind (anySet_set (s := { s with heap := h1 }) hb'.typeIs ?_)
  refine wp_if_pos rfl ?_
  refine wpAny_bind (m := Builtin.Frozenset.addrOf _) (wpAny_pure ?_)
  obtain ⟨oa, esa, epa, ta, hoa, hexa, hda, hela, hma, hba, hfa, hna⟩ := _root_.id ha'
  obtain ⟨ob, esb, epb, tb, hob, hexb, hdb, helb, hmb, hbb, hfb, hnb⟩ := _root_.id hb'
  refine wpAny_bind (m := Builtin.Frozenset.sizeOf sb) (wpAny_bind (wpAny_setEntries_of (s := { s with heap := h1 }) hob hdb hfb (wpAny_pure ?_)))
  refine wpAny_bind (m := Builtin.Frozenset.sizeOf sa) (wpAny_bind (wpAny_setEntries_of (s := { s with heap := h1 }) hoa hda hfa (wpAny_pure ?_)))
  obtain ⟨as, wk, Sw, Sk, nw, nk, epair, hw, hs, n1, n2, room, hiff⟩ : ∃ (as wk : Addr) (Sw Sk : Int → Bool) (nw nk : Nat), (if esb.size > esa.size then (sb, sa) else (sa, sb)) = (as, wk) ∧ h1.SetOf (intKind prog w) wk Sw nw ∧ h1.SetOf (intKind prog w) as Sk nk ∧
      wk ≠ s.heap.objs.size ∧ as ≠ s.heap.objs.size ∧ nw + 1 < scanBound ∧ ∀ k, (Sw k = true ∧ Sk k = true) ↔ Sa k = true ∧ Sb k = true := by
    by_cases c : esb.size > esa.size
    · exact ⟨sb, sa, Sa, Sb, na, nb, if_pos c, ha', hb', Nat.ne_of_lt lta, Nat.ne_of_lt ltb, ra, fun k => Iff.rfl⟩
    · exact ⟨sa, sb, Sb, Sa, nb, na, if_neg c, hb', ha', Nat.ne_of_lt ltb, Nat.ne_of_lt lta, rb, fun k => And.comm⟩
  rw [epair]
  generalize s.heap.objs.size = r at *
  obtain ⟨o, es, ep, t, ho, hex, hd, hel, hmem, hbd, hf, hn⟩ := hw
  refine wpAny_bind (wpAny_setEpoch_of (s := { s with heap := h1 }) ho hd hf ?_)
  refine wpAny_bind (walkUnseen_ints (s := { s with heap := h1 }) ho hex hd hel hbd hf hs hr fun xs h0 hp hs0 hr0 => ?_)
  refine wpAny_bind (wpAny_forIn_array' _ (fun rest b s' => ∃ (h' : Heap) (L : List Int) (done : List (Int × Value)), s' = { s with heap := h' } ∧ xs.toList = done ++ rest ∧ L.Nodup ∧ L.length ≤ done.length ∧ (∀ k, k ∈ L ↔ (∃ e ∈ done, (intKind prog w).is k e.2 = true) ∧ Sk k = true) ∧
    h'.SetOf (intKind prog w) r (fun k => decide (k ∈ L)) L.length ∧ Heap.SameBut r h1 h') _ (fun e rest b s1 hI => ?_) (fun b s1 hI => ?_) _ _ ⟨h0, [], [], rfl, rfl, List.nodup_nil, Nat.le_refl _, fun k => by simp, SetOf_of hr0 (fun k => by simp) rfl, hs0⟩)
  · obtain ⟨h', L, done, rfl, hx, hnd, hlen, hL, hrS, hsb⟩ := hI
    have hme : e ∈ es.toList := hp.mem_iff.mp (by rw [hx]; simp)
    obtain ⟨k, tk, rfl⟩ := elem_int hel hme
    have hdl : done.length + rest.length + 1 = es.size := by
      have := hp.length_eq
      rw [hx] at this
      simp at this
      omega
    have hb2 : es.size + 1 < scanBound := by rw [hn]; exact room
    have ho' : h'.get? wk = some o := (hsb.2 wk n1).trans ho
    dsimp only
    refine wpAny_bind (wpAny_holding ?_)
    refine wpAny_bind (wpAny_setFind_of (knd := intKind prog w) (k := k) (s := { s with heap := h' }) (intKind_is _ _ _ _) rfl (SetOf.here hs hsb n2) fun q hq => ?_)
    have key : ∀ j, (∃ e ∈ done ++ [(hashInt k, Value.int k tk)], (intKind prog w).is j e.2 = true) ↔ (∃ e ∈ done, (intKind prog w).is j e.2 = true) ∨ j = k := fun j => by
      constructor
      · rintro ⟨e, he, hj⟩
        rcases List.mem_append.mp he with he | he
        · exact .inl ⟨e, he, hj⟩
        · rw [List.mem_singleton] at he
          subst he
          exact .inr ((intKind prog w).inj _ j k hj (intKind_is _ _ _ _))
      · rintro (⟨e, he, hj⟩ | rfl)
        · exact ⟨e, List.mem_append_left _ he, hj⟩
        · exact ⟨_, List.mem_append_right _ (List.mem_singleton.mpr rfl), intKind_is _ _ _ _⟩
    have ends : ∀ (h2 : Heap) (L2 : List Int), L2.Nodup → L2.length ≤ done.length + 1 → (∀ j, j ∈ L2 ↔ (∃ e ∈ done ++ [(hashInt k, Value.int k tk)], (intKind prog w).is j e.2 = true) ∧ Sk j = true) → h2.SetOf (intKind prog w) r (fun j => decide (j ∈ L2)) L2.length → Heap.SameBut r h1 h2 →
        wpAny (model prog w) A (do Builtin.Frozenset.unchanged id wk ep; pure (ForInStep.yield PUnit.unit)) (fun (rr : ForInStep PUnit) s' => rr = .yield PUnit.unit ∧ ∃ (h' : Heap) (L : List Int) (done : List (Int × Value)), s' = { s with heap := h' } ∧ xs.toList = done ++ rest ∧ L.Nodup ∧ L.length ≤ done.length ∧ (∀ k, k ∈ L ↔ (∃ e ∈ done, (intKind prog w).is k e.2 = true) ∧ Sk k = true) ∧
            h'.SetOf (intKind prog w) r (fun k => decide (k ∈ L)) L.length ∧ Heap.SameBut r h1 h') E { s with heap := h2 } := fun h2 L2 g1 g2 g3 g4 g5 => by
      unfold Builtin.Frozenset.unchanged
      refine wpAny_bind (wpAny_bind (wpAny_setEpoch_of (s := { s with heap := h2 }) ((g5.2 wk n1).trans ho) hd hf ?_))
      refine wp_if_neg (by simp) ?_
      refine wpAny_pure (wpAny_pure ?_)
      exact ⟨rfl, h2, L2, done ++ [(hashInt k, Value.int k tk)], rfl, by rw [hx]; simp, g1, by simpa using g2, g3, g4, g5⟩
    cases hk : Sk k with
    | false =>
      rw [hk] at hq
      refine wp_if_neg (by rw [hq]; exact Bool.false_ne_true) ?_
      refine wpAny_pure (thn (ends h' L hnd (by omega) (fun j => ?_) hrS hsb) fun rr s' q => (by obtain ⟨rfl, q⟩ := q; exact q))
      rw [hL j, key j]
      constructor
      · rintro ⟨a1, a2⟩
        exact ⟨.inl a1, a2⟩
      · rintro ⟨a1 | rfl, a2⟩
        · exact ⟨a1, a2⟩
        · rw [hk] at a2; cases a2
    | true =>
      rw [hk] at hq
      refine wp_if_pos hq ?_
      refine wpAny_bind (wpAny_setAddHashed_of (knd := intKind prog w) (k := k) (s := { s with heap := h' }) (intKind_is _ _ _ _) rfl hrS (by omega) fun h2 hsb2 hS2 => ?_)
      refine wpAny_pure ?_
      by_cases hkL : k ∈ L
      · refine thn (ends h2 L hnd (by omega) (fun j => ?_) (SetOf_of hS2 (fun j => ?_) ?_) (hsb.trans hsb2)) fun rr s' q => (by obtain ⟨rfl, q⟩ := q; exact q)
        · rw [hL j, key j]
          constructor
          · rintro ⟨a1, a2⟩
            exact ⟨.inl a1, a2⟩
          · rintro ⟨a1 | rfl, a2⟩
            · exact ⟨a1, a2⟩
            · exact (hL j).mp hkL
        · by_cases z : j = k
          · subst z; simp [hkL]
          · simp [z]
        · simp [hkL]
      · refine thn (ends h2 (L ++ [k]) ?_ (by simp; omega) (fun j => ?_) (SetOf_of hS2 (fun j => ?_) ?_) (hsb.trans hsb2)) fun rr s' q => (by obtain ⟨rfl, q⟩ := q; exact q)
        · rw [List.nodup_append]
          exact ⟨hnd, by simp, fun a ha b hb z => by rw [List.mem_singleton] at hb; subst hb; subst z; exact hkL ha⟩
        · rw [List.mem_append, List.mem_singleton, hL j, key j]
          constructor
          · rintro (⟨a1, a2⟩ | rfl)
            · exact ⟨.inl a1, a2⟩
            · exact ⟨.inr rfl, hk⟩
          · rintro ⟨a1 | rfl, a2⟩
            · exact .inl ⟨a1, a2⟩
            · exact .inr rfl
        · simp [List.mem_append, Bool.decide_or]
        · simp [hkL]
  · obtain ⟨h', L, done, rfl, hx, hnd, hlen, hL, hrS, hsb⟩ := hI
    rw [List.append_nil] at hx
    refine wpAny_pure (wpAny_pure (h h' L hnd (fun k => ?_) hrS (keep h' hsb)))
    rw [hL k, ← hiff k, hmem k, ← hx]
    constructor
    · rintro ⟨⟨e, he, hj⟩, a2⟩
      exact ⟨⟨e, hp.mem_iff.mp he, hj⟩, a2⟩
    · rintro ⟨⟨e, he, hj⟩, a2⟩
      exact ⟨⟨e, hp.mem_iff.mpr he, hj⟩, a2⟩
theorem and_ints {sa sb : Addr} {Sa Sb : Int → Bool} {na nb : Nat} {Q : Value → Shared → Prop} (ha : s.heap.SetOf (intKind prog w) sa Sa na) (hb : s.heap.SetOf (intKind prog w) sb Sb nb) (hne : sb ≠ sa) (ra : na + 1 < scanBound) (rb : nb + 1 < scanBound)
    (h : ∀ (h' : Heap) (L : List Int), L.Nodup → (∀ k, k ∈ L ↔ Sa k = true ∧ Sb k = true) → h'.SetOf (intKind prog w) s.heap.objs.size (fun k => decide (k ∈ L)) L.length → (∀ b o, s.heap.get? b = some o → h'.get? b = some o) → Q (.ref s.heap.objs.size) { s with heap := h' }) :
    wpAny (model prog w) A (binaryOp .BitAnd (.ref sa) (.ref sb)) Q E s := by
  refine wpAny_binaryOp_same ha.typeIs hb.typeIs F.fills_set_and F.slot_set_and ?_
  refine wpAny_call_entry F.slot_set_and ha.typeIs entry_set_and ?_ (F.args_set_and_2 _ _)
  show wpAny _ _ (Builtin.Frozenset.slot1 "__and__" ⟨[.ref sa, .ref sb], []⟩ >>= _) _ _ _
  unfold Builtin.Frozenset.slot1 slotArgs
  refine wpAny_bind (wpAny_bind (wpAny_pure ?_))
  refine wpAny_pure ?_
  refine wpAny_bind (m := andM _ _) ?_
  unfold andM
  refine wpAny_bind (anySet_set ha.typeIs ?_)
  refine anySet_set hb.typeIs ?_
  refine wp_if_neg (by simp) ?_
  refine wpAny_bind (m := Builtin.Frozenset.addrOf _) (wpAny_pure ?_)
  refine wpAny_bind (inter_ints _ ha hb hne ra rb fun h' L g1 g2 g3 g4 => ?_)
  exact wpAny_pure ⟨_, rfl, by simp, h h' L g1 g2 g3 g4⟩
end
theorem met_mem (ns : List Int) (k : Int) : (firstMet (fun i => ns.getD i 0) ns.length).any (· == k) = true ↔ k ∈ ns := by
  have e : (List.range ns.length).map (fun i => ns.getD i 0) = ns := by
    refine List.ext_getElem (by simp) fun i h1 h2 => ?_
    simp only [List.getElem_map, List.getElem_range, List.getD_eq_getElem?_getD, List.getElem?_eq_getElem h2, Option.getD_some]
  rw [firstMet_any, e, List.any_eq_true]
  constructor
  · rintro ⟨x, hx, e⟩
    rw [← beq_iff_eq.mp e]
    exact hx
  · intro h
    exact ⟨k, h, beq_self_eq_true k⟩
section
variable {X : Cx}
def tLenAnd (K : PySem.W.Frag) (ta tb : TE) : TE := fun σ H Q => ta σ H fun x H1 => ∃ (l : Addr) (ns : List Int), x = .ref l ∧ SqL K H1 l (ns.map V.int) ∧ ns.length ≤ 4000 ∧
  tb σ H1 fun y H2 => ∃ (m : Addr) (ms : List Int), y = .ref m ∧ SqL K H2 m (ms.map V.int) ∧ ms.length ≤ 4000 ∧ ∀ L : List Int, L.Nodup → (∀ k, k ∈ L ↔ k ∈ ns ∧ k ∈ ms) → Q (.int (L.length : Int)) H2
theorem pe_lenAnd {a b : Expr} {ta tb : TE} {p p1 p2 q1 q2 ps pos : Pos} (hg : Gl X "len") (hm : X.mg "len" = none) (hg2 : Gl X "set") (hm2 : X.mg "set" = none) (ha : PE X a ta) (hb : PE X b tb) (hc : X.calm = true := by rfl)
    (na : starEach [a] X.env = (false, eval a X.env) :: starEach [] X.env := by rfl) (nb : starEach [b] X.env = (false, eval b X.env) :: starEach [] X.env := by rfl) :
    PE X (.Call (.Name "len" p) [.BinOp (.Call (.Name "set" p1) [a] [] q1) .BitAnd (.Call (.Name "set" p2) [b] [] q2) ps] [] pos) (tLenAnd X.K ta tb) := by
  refine ⟨fun pins s σ H Q I h => ?_⟩
  refine Call_ (ld_blt I hg hm boot_len ?_)
  refine callWith_builtin1 (args_cons ?_ rfl) rfl rfl
  refine wpAny_BinOp ?_
  refine Call_ (ld_blt I hg2 hm2 boot_set ?_)
  refine callWith_type1 (args_cons (thn (ha.run pins s σ H _ I h) fun v s1 ⟨x, H1, I1, r1, q1⟩ => args_nil ?_) na) na rfl
  obtain ⟨l, ns, rfl, hq, hl, q1⟩ := q1
  cases r1
  obtain ⟨its, r, pl, hz⟩ := I1.list hq
  have hlen : its.toArray.size = ns.length := by rw [List.size_toArray, ← r.length, List.length_map]
  refine call_set_list (I1.ok.hd hc) pl.isList (by simpa using ints_vals r) (by rw [hlen]; unfold scanBound; omega) fun h1 tk1 hS1 hk1 => ?_
  rw [hlen] at hS1
  have I2 : Inv X pins σ H1 { s1 with heap := h1, toks := tk1 } := I1.kept fun b o e => hk1 b o (Heap.lt_size e) e
  obtain ⟨o1, hS1⟩ := hS1
  obtain ⟨es1, ep1, t1, ho1, hr1⟩ := hS1
  have hd1 : o1.data = .set es1 ep1 t1 := hr1.2.1
  have I3 : Inv X ((s1.heap.objs.size, o1) :: pins) σ H1 { s1 with heap := h1, toks := tk1 } := I2.pins_of fun p hp => by
    cases hp with
    | head => exact ⟨ho1, I1.hok.fresh (Nat.le_refl _), (Nat.ne_of_lt I1.lt).symm, I1.nofs (Nat.le_refl _), fun v z => by rw [hd1] at z; cases z⟩
    | tail _ hp => exact I2.pin p (List.mem_append_right _ hp)
  refine Call_ (ld_blt I3 hg2 hm2 boot_set ?_)
  refine callWith_type1 (args_cons (thn (hb.run _ _ σ H1 _ I3 q1) fun v s2 ⟨y, H2, I4, r2, q2⟩ => args_nil ?_) nb) nb rfl
  obtain ⟨m, ms, rfl, hq2, hl2, q2⟩ := q2
  cases r2
  obtain ⟨its2, r2, pl2, hz2⟩ := I4.list hq2
  have hlen2 : its2.toArray.size = ms.length := by rw [List.size_toArray, ← r2.length, List.length_map]
  refine call_set_list (I4.ok.hd hc) pl2.isList (by simpa using ints_vals r2) (by rw [hlen2]; unfold scanBound; omega) fun h2 tk2 hS2 hk2 => ?_
  rw [hlen2] at hS2
  have pin1 : s2.heap.get? s1.heap.objs.size = some o1 := (I4.pin _ (List.mem_append_right _ (List.Mem.head _))).1
  have lt1 : s1.heap.objs.size < s2.heap.objs.size := Heap.lt_size pin1
  have hS1' : h2.SetOf (intKind X.prog X.w) s1.heap.objs.size _ _ := ⟨o1, es1, ep1, t1, hk2 _ _ lt1 pin1, hr1⟩
  have I5 : Inv X pins σ H2 { s2 with heap := h2, toks := tk2 } := (I4.kept (t' := tk2) fun b o e => hk2 b o (Heap.lt_size e) e).pins_of fun p hp => (I4.kept (t' := tk2) fun b o e => hk2 b o (Heap.lt_size e) e).pin p (List.mem_append_right _ (.tail _ hp))
  have n1 := firstMet_length_le (fun i => ns.getD i 0) ns.length
  have n2 := firstMet_length_le (fun i => ms.getD i 0) ms.length
  refine and_ints (s := { s2 with heap := h2, toks := tk2 }) hS1' hS2 (Nat.ne_of_gt lt1) (by unfold scanBound; omega) (by unfold scanBound; omega) fun h3 L g1 g2 g3 g4 => ?_
  refine args_nil ?_
  obtain ⟨o, es, ep, t, ho, hex, hd, _, _, hbs, hf, hn⟩ := g3
  have I6 : Inv X pins σ H2 { s2 with heap := h3, toks := tk2 } := I5.kept fun b o e => g4 b o e
  refine call_len_set ho hex hd hf (by have : scanBound = 4096 := rfl; omega) ⟨.int (L.length : Int), H2, I6.tok _, ⟨_, by rw [hn]⟩, q2 L g1 fun k => ?_⟩
  rw [g2 k, met_mem, met_mem]
end
end TS
namespace TS
open PySem PySem.Spec PyProof.Rows L2
/-! rules that the layer lacks -/
section
variable {X : Cx}
theorem pe_gint {x : Str} {i : Int} {pos : Pos} (hg : Gl X x) (h : ∃ t, X.mg x = some (.int i t)) (hd : (x == ("__debug__" : Str)) = false := by decide) : PE X (.Name x pos) (tC (.int i)) := by
  obtain ⟨t, e⟩ := h
  exact pe_glob hg e ⟨t, rfl⟩ hd
/-- o[i] of a list, by values, ahead of o[i] op= e -/
def rGetL (K : PySem.W.Frag) : V → V → Hp → VK → Prop := fun o i H Q => ∃ (p : Addr) (xs : List V) (j : Nat) (v : V), o = .ref p ∧ i = .int (j : Int) ∧ SqL K H p xs ∧ xs[j]? = some v ∧ Q v H
theorem get_list : PGet X (rGetL X.K) := by
  intro pins s σ H o i ov iv Q I ro ri h
  obtain ⟨p, xs, j, v, rfl, rfl, hq, hv, q⟩ := h
  cases ro
  obtain ⟨t, rfl⟩ := ri
  obtain ⟨its, r, pl, hz⟩ := I.list hq
  obtain ⟨u, eu, ru⟩ := r.get hv
  have hj : j < xs.length := (List.getElem?_eq_some_iff.mp hv).1
  have hs : sizeLine = 16777216 := rfl
  refine wpAny_getItem_list pl.isList (by omega) (by omega) (x := u) ?_ ⟨v, H, I, ru, q⟩
  simpa using eu
theorem extend_tup (l : Addr) (items : Array Value) (n : Nat) (b : Addr) (d2 : Option Addr) (items2 : Array Value) (n2 : Nat) (sl2 : Array (Option Value)) (hs0 : ¬(!items.isEmpty && Builtin.List.listTooLong (items.size + items2.size)) = true)
    (hs1 : items.size ≤ sizeLine) (hs2 : items.size + items2.size ≤ sizeLine + 1) :
    Meets (Builtin.«list.extend» ⟨[.ref l, .ref b], []⟩) (fun _ R s => s.heap.get? l = some { cls := .type "list", dict := none, data := .seq items n, slots := #[] } ∧ s.heap.get? b = some { cls := .type "tuple", dict := d2, data := .seq items2 n2, slots := sl2 }
      ∧ R (.ok (.ret Value.none)) { s with heap := s.heap.update l (Obj.mapSeq fun x => x ++ items2), toks := s.toks }) :=
  .of_wp fun prog w A R s h => by
    obtain ⟨hp, g, d, tk, os⟩ := s; obtain ⟨hl, hb, h⟩ := h; have f1 := AutoSeq1.idx_int; have f2 := AutoSeq1.sub_tuple_tuple; have f3 := AutoSeq1.sub_list_list; have f4 := AutoSeq1.sub_tuple_list; have f5 := AutoSeq1.sub_list_tuple
    have hz' : (items ++ items2).size ≤ sizeLine + 1 := by rw [Array.size_append]; exact hs2
    wp_walk using (wpAny_updateSeq hl rfl (hz := hs1) (_hz' := hz')), AutoSeq1.wpAny_loadPart' hl, AutoSeq1.wpAny_loadPart' hb; exact ⟨_, rfl, h⟩
def rExtendT (K : PySem.W.Frag) : V → List V → Hp → VK → Prop := fun x vs H Q => ∃ l b xs zs, x = .ref l ∧ vs = [.ref b] ∧ H l = some (.lst xs) ∧ SqT K H b zs ∧ xs.length + zs.length ≤ sizeLine ∧ Q .non (upd H l (.lst (xs ++ zs)))
theorem mt_extendT : MtR X "list.extend" (rExtendT X.K) := by
  intro pins s σ H x vs v us Q I rx rv h
  obtain ⟨l, b, xs, zs, rfl, rfl, hH, hB, hz, q⟩ := h
  cases rx
  obtain ⟨u, rfl, ru⟩ := rv.one
  cases ru
  obtain ⟨z, its, n, r, hl, e⟩ := I.lstM hH
  obtain ⟨its2, r2, ⟨o2, e2, c2, n2, d2⟩, hz2⟩ := I.tuple hB
  have hl2 := r2.length
  have hsz : its.toArray.size + its2.toArray.size ≤ sizeLine := by simp only [List.size_toArray]; omega
  have hlong : ¬ (!its.toArray.isEmpty && Builtin.List.listTooLong (its.toArray.size + its2.toArray.size)) = true := by
    rw [notLongL hsz, Bool.and_false]; exact Bool.false_ne_true
  obtain ⟨cls2, dict2, data2, slots2⟩ := o2
  dsimp only at c2 d2
  subst c2 d2
  refine call_meets F.slot_list_extend ⟨_, e, rfl⟩ F.entry_list_extend (F.args_list_extend_2 _ _)
    (extend_tup l its.toArray n b dict2 its2.toArray n2 slots2 hlong (by simp only [List.size_toArray]; omega) (by omega)) ⟨e, e2, ?_⟩
  refine ⟨.non, _, I.lset (its' := its ++ its2) hH e (by simp) (r.append r2) ?_, rfl, q⟩
  simp only [List.length_append]; omega
end
/-! fields -/
theorem lk_here {k : Str} {v : V} {r : List (Str × V)} : List.lookup k ((k, v) :: r) = some v := by
  have e : (k == k) = true := beq_self_eq_true k
  simp only [List.lookup, e]
theorem lk_past {k g : Str} {v : V} {r : List (Str × V)} (h : (k == g) = false) : List.lookup k ((g, v) :: r) = List.lookup k r := by
  simp only [List.lookup, h]
theorem put_here {f : Str} {v x : V} {r : List (Str × V)} : putF f v ((f, x) :: r) = (f, v) :: r := if_pos rfl
theorem put_past {f g : Str} {v x : V} {r : List (Str × V)} (h : ¬ g = f) : putF f v ((g, x) :: r) = (g, x) :: putF f v r := if_neg h
theorem if_true_of {c : Bool} {A B : Prop} (hc : c = true) (h : A) : if c = true then A else B := by
  rw [if_pos hc]
  exact h
theorem if_false_of {c : Bool} {A B : Prop} (hc : c = false) (h : B) : if c = true then A else B := by
  rw [hc, if_neg Bool.false_ne_true]
  exact h
def top (i : Nat) : Stmt := PySem.Challenge.pw_tilestore_s01_answers.main.body.getD i (.Pass ⟨0, 0, 0, 0⟩)
abbrev s_row_of_cells : Stmt := top 4
abbrev n_row_of_cells : List Str := ["tiles", "row", "cells", "tile"]
theorem sc_row_of_cells : FnScope n_row_of_cells ["tiles", "row"] (defScope s_row_of_cells) := ⟨rfl, rfl, rfl, by decide +kernel, rfl, by decide +kernel, by decide +kernel⟩
abbrev s_rows_of_tiles : Stmt := top 5
abbrev n_rows_of_tiles : List Str := ["tiles", "wide", "rows", "first", "row"]
theorem sc_rows_of_tiles : FnScope n_rows_of_tiles ["tiles", "wide"] (defScope s_rows_of_tiles) := ⟨rfl, rfl, rfl, by decide +kernel, rfl, by decide +kernel, by decide +kernel⟩
abbrev s_tile_at : Stmt := top 6
abbrev n_tile_at : List Str := ["rows", "left", "top", "cells", "row"]
theorem sc_tile_at : FnScope n_tile_at ["rows", "left", "top"] (defScope s_tile_at) := ⟨rfl, rfl, rfl, by decide +kernel, rfl, by decide +kernel, by decide +kernel⟩
abbrev s_tiles_of_rows : Stmt := top 7
abbrev n_tiles_of_rows : List Str := ["rows", "tiles", "top", "left"]
theorem sc_tiles_of_rows : FnScope n_tiles_of_rows ["rows"] (defScope s_tiles_of_rows) := ⟨rfl, rfl, rfl, by decide +kernel, rfl, by decide +kernel, by decide +kernel⟩
abbrev s_has_cell : Stmt := top 8
abbrev n_has_cell : List Str := ["rows", "x", "y"]
theorem sc_has_cell : FnScope n_has_cell ["rows", "x", "y"] (defScope s_has_cell) := ⟨rfl, rfl, rfl, by decide +kernel, rfl, by decide +kernel, by decide +kernel⟩
abbrev s_put_box : Stmt := top 9
abbrev n_put_box : List Str := ["rows", "x", "y", "u", "v", "n", "right", "bottom", "row", "column"]
theorem sc_put_box : FnScope n_put_box ["rows", "x", "y", "u", "v", "n"] (defScope s_put_box) := ⟨rfl, rfl, rfl, by decide +kernel, rfl, by decide +kernel, by decide +kernel⟩
abbrev s_dots_fit : Stmt := top 10
abbrev n_dots_fit : List Str := ["rows", "dots", "at"]
theorem sc_dots_fit : FnScope n_dots_fit ["rows", "dots"] (defScope s_dots_fit) := ⟨rfl, rfl, rfl, by decide +kernel, rfl, by decide +kernel, by decide +kernel⟩
abbrev s_put_dots : Stmt := top 11
abbrev n_put_dots : List Str := ["rows", "dots", "at"]
theorem sc_put_dots : FnScope n_put_dots ["rows", "dots"] (defScope s_put_dots) := ⟨rfl, rfl, rfl, by decide +kernel, rfl, by decide +kernel, by decide +kernel⟩
abbrev s_shifted : Stmt := top 12
abbrev n_shifted : List Str := ["rows", "n", "moved", "row", "cut"]
theorem sc_shifted : FnScope n_shifted ["rows", "n"] (defScope s_shifted) := ⟨rfl, rfl, rfl, by decide +kernel, rfl, by decide +kernel, by decide +kernel⟩
abbrev s_put_rows : Stmt := top 13
abbrev n_put_rows : List Str := ["rows", "others", "x", "y", "j", "i"]
theorem sc_put_rows : FnScope n_put_rows ["rows", "others", "x", "y"] (defScope s_put_rows) := ⟨rfl, rfl, rfl, by decide +kernel, rfl, by decide +kernel, by decide +kernel⟩
abbrev s_Store_init : Stmt := inClass (top 15) 0
abbrev n_Store_init : List Str := ["self"]
theorem sc_Store_init : FnScope n_Store_init ["self"] (defScope s_Store_init) := ⟨rfl, rfl, rfl, by decide +kernel, rfl, by decide +kernel, by decide +kernel⟩
abbrev s_Store_is_free : Stmt := inClass (top 15) 1
abbrev n_Store_is_free : List Str := ["self", "place"]
theorem sc_Store_is_free : FnScope n_Store_is_free ["self", "place"] (defScope s_Store_is_free) := ⟨rfl, rfl, rfl, by decide +kernel, rfl, by decide +kernel, by decide +kernel⟩
abbrev s_Store_first_free : Stmt := inClass (top 15) 2
abbrev n_Store_first_free : List Str := ["self", "place"]
theorem sc_Store_first_free : FnScope n_Store_first_free ["self"] (defScope s_Store_first_free) := ⟨rfl, rfl, rfl, by decide +kernel, rfl, by decide +kernel, by decide +kernel⟩
abbrev s_Store_place_for : Stmt := inClass (top 15) 3
abbrev n_Store_place_for : List Str := ["self", "tile", "place"]
theorem sc_Store_place_for : FnScope n_Store_place_for ["self", "tile"] (defScope s_Store_place_for) := ⟨rfl, rfl, rfl, by decide +kernel, rfl, by decide +kernel, by decide +kernel⟩
abbrev s_Store_keep : Stmt := inClass (top 15) 4
abbrev n_Store_keep : List Str := ["self", "tile", "place"]
theorem sc_Store_keep : FnScope n_Store_keep ["self", "tile"] (defScope s_Store_keep) := ⟨rfl, rfl, rfl, by decide +kernel, rfl, by decide +kernel, by decide +kernel⟩
abbrev s_Store_keep_each : Stmt := inClass (top 15) 5
abbrev n_Store_keep_each : List Str := ["self", "tiles", "places", "tile"]
theorem sc_Store_keep_each : FnScope n_Store_keep_each ["self", "tiles"] (defScope s_Store_keep_each) := ⟨rfl, rfl, rfl, by decide +kernel, rfl, by decide +kernel, by decide +kernel⟩
abbrev s_Store_point_again : Stmt := inClass (top 15) 6
abbrev n_Store_point_again : List Str := ["self", "places", "place"]
theorem sc_Store_point_again : FnScope n_Store_point_again ["self", "places"] (defScope s_Store_point_again) := ⟨rfl, rfl, rfl, by decide +kernel, rfl, by decide +kernel, by decide +kernel⟩
abbrev s_Store_let_go_each : Stmt := inClass (top 15) 7
abbrev n_Store_let_go_each : List Str := ["self", "places", "place"]
theorem sc_Store_let_go_each : FnScope n_Store_let_go_each ["self", "places"] (defScope s_Store_let_go_each) := ⟨rfl, rfl, rfl, by decide +kernel, rfl, by decide +kernel, by decide +kernel⟩
abbrev s_Store_in_use : Stmt := inClass (top 15) 8
abbrev n_Store_in_use : List Str := ["self", "count"]
theorem sc_Store_in_use : FnScope n_Store_in_use ["self"] (defScope s_Store_in_use) := ⟨rfl, rfl, rfl, by decide +kernel, rfl, by decide +kernel, by decide +kernel⟩
abbrev s_Store_how_it_stands : Stmt := inClass (top 15) 9
abbrev n_Store_how_it_stands : List Str := ["self"]
theorem sc_Store_how_it_stands : FnScope n_Store_how_it_stands ["self"] (defScope s_Store_how_it_stands) := ⟨rfl, rfl, rfl, by decide +kernel, rfl, by decide +kernel, by decide +kernel⟩
abbrev s_Picture_init : Stmt := inClass (top 18) 0
abbrev n_Picture_init : List Str := ["self", "wide", "places"]
theorem sc_Picture_init : FnScope n_Picture_init ["self", "wide", "places"] (defScope s_Picture_init) := ⟨rfl, rfl, rfl, by decide +kernel, rfl, by decide +kernel, by decide +kernel⟩
abbrev s_Album_init : Stmt := inClass (top 19) 0
abbrev n_Album_init : List Str := ["self"]
theorem sc_Album_init : FnScope n_Album_init ["self"] (defScope s_Album_init) := ⟨rfl, rfl, rfl, by decide +kernel, rfl, by decide +kernel, by decide +kernel⟩
abbrev s_Album_has_picture : Stmt := inClass (top 19) 1
abbrev n_Album_has_picture : List Str := ["self", "p"]
theorem sc_Album_has_picture : FnScope n_Album_has_picture ["self", "p"] (defScope s_Album_has_picture) := ⟨rfl, rfl, rfl, by decide +kernel, rfl, by decide +kernel, by decide +kernel⟩
abbrev s_Album_places_of_picture : Stmt := inClass (top 19) 2
abbrev n_Album_places_of_picture : List Str := ["self", "p"]
theorem sc_Album_places_of_picture : FnScope n_Album_places_of_picture ["self", "p"] (defScope s_Album_places_of_picture) := ⟨rfl, rfl, rfl, by decide +kernel, rfl, by decide +kernel, by decide +kernel⟩
abbrev s_Album_rows_of_picture : Stmt := inClass (top 19) 3
abbrev n_Album_rows_of_picture : List Str := ["self", "p", "picture", "tiles", "place"]
theorem sc_Album_rows_of_picture : FnScope n_Album_rows_of_picture ["self", "p"] (defScope s_Album_rows_of_picture) := ⟨rfl, rfl, rfl, by decide +kernel, rfl, by decide +kernel, by decide +kernel⟩
abbrev s_Album_drop_picture : Stmt := inClass (top 19) 4
abbrev n_Album_drop_picture : List Str := ["self", "p", "picture", "places"]
theorem sc_Album_drop_picture : FnScope n_Album_drop_picture ["self", "p"] (defScope s_Album_drop_picture) := ⟨rfl, rfl, rfl, by decide +kernel, rfl, by decide +kernel, by decide +kernel⟩
abbrev s_Album_lay_page : Stmt := inClass (top 19) 5
abbrev n_Album_lay_page : List Str := ["self", "p", "wide", "high", "places"]
theorem sc_Album_lay_page : FnScope n_Album_lay_page ["self", "p", "wide", "high"] (defScope s_Album_lay_page) := ⟨rfl, rfl, rfl, by decide +kernel, rfl, by decide +kernel, by decide +kernel⟩
abbrev s_Album_change_picture : Stmt := inClass (top 19) 6
abbrev n_Album_change_picture : List Str := ["self", "p", "rows", "picture", "places"]
theorem sc_Album_change_picture : FnScope n_Album_change_picture ["self", "p", "rows"] (defScope s_Album_change_picture) := ⟨rfl, rfl, rfl, by decide +kernel, rfl, by decide +kernel, by decide +kernel⟩
abbrev s_Album_copy_picture : Stmt := inClass (top 19) 7
abbrev n_Album_copy_picture : List Str := ["self", "p", "q", "picture"]
theorem sc_Album_copy_picture : FnScope n_Album_copy_picture ["self", "p", "q"] (defScope s_Album_copy_picture) := ⟨rfl, rfl, rfl, by decide +kernel, rfl, by decide +kernel, by decide +kernel⟩
abbrev s_Album_has_been_before : Stmt := inClass (top 19) 8
abbrev n_Album_has_been_before : List Str := ["self", "p"]
theorem sc_Album_has_been_before : FnScope n_Album_has_been_before ["self", "p"] (defScope s_Album_has_been_before) := ⟨rfl, rfl, rfl, by decide +kernel, rfl, by decide +kernel, by decide +kernel⟩
abbrev s_Album_step_back : Stmt := inClass (top 19) 9
abbrev n_Album_step_back : List Str := ["self", "p", "picture"]
theorem sc_Album_step_back : FnScope n_Album_step_back ["self", "p"] (defScope s_Album_step_back) := ⟨rfl, rfl, rfl, by decide +kernel, rfl, by decide +kernel, by decide +kernel⟩
abbrev s_is_side : Stmt := top 41
abbrev n_is_side : List Str := ["number"]
theorem sc_is_side : FnScope n_is_side ["number"] (defScope s_is_side) := ⟨rfl, rfl, rfl, by decide +kernel, rfl, by decide +kernel, by decide +kernel⟩
abbrev s_answer_page : Stmt := top 42
abbrev n_answer_page : List Str := ["album", "p", "w", "h"]
theorem sc_answer_page : FnScope n_answer_page ["album", "p", "w", "h"] (defScope s_answer_page) := ⟨rfl, rfl, rfl, by decide +kernel, rfl, by decide +kernel, by decide +kernel⟩
abbrev s_answer_change : Stmt := top 43
abbrev n_answer_change : List Str := ["album", "p", "rows"]
theorem sc_answer_change : FnScope n_answer_change ["album", "p", "rows"] (defScope s_answer_change) := ⟨rfl, rfl, rfl, by decide +kernel, rfl, by decide +kernel, by decide +kernel⟩
abbrev s_answer_box : Stmt := top 44
abbrev n_answer_box : List Str := ["album", "p", "x", "y", "u", "v", "n", "rows"]
theorem sc_answer_box : FnScope n_answer_box ["album", "p", "x", "y", "u", "v", "n"] (defScope s_answer_box) := ⟨rfl, rfl, rfl, by decide +kernel, rfl, by decide +kernel, by decide +kernel⟩
abbrev s_answer_dots : Stmt := top 45
abbrev n_answer_dots : List Str := ["album", "p", "dots", "rows"]
theorem sc_answer_dots : FnScope n_answer_dots ["album", "p", "dots"] (defScope s_answer_dots) := ⟨rfl, rfl, rfl, by decide +kernel, rfl, by decide +kernel, by decide +kernel⟩
abbrev s_answer_shift : Stmt := top 46
abbrev n_answer_shift : List Str := ["album", "p", "n"]
theorem sc_answer_shift : FnScope n_answer_shift ["album", "p", "n"] (defScope s_answer_shift) := ⟨rfl, rfl, rfl, by decide +kernel, rfl, by decide +kernel, by decide +kernel⟩
abbrev s_answer_copy : Stmt := top 47
abbrev n_answer_copy : List Str := ["album", "p", "q"]
theorem sc_answer_copy : FnScope n_answer_copy ["album", "p", "q"] (defScope s_answer_copy) := ⟨rfl, rfl, rfl, by decide +kernel, rfl, by decide +kernel, by decide +kernel⟩
abbrev s_answer_paste : Stmt := top 48
abbrev n_answer_paste : List Str := ["album", "p", "q", "x", "y", "rows"]
theorem sc_answer_paste : FnScope n_answer_paste ["album", "p", "q", "x", "y"] (defScope s_answer_paste) := ⟨rfl, rfl, rfl, by decide +kernel, rfl, by decide +kernel, by decide +kernel⟩
abbrev s_answer_undo : Stmt := top 49
abbrev n_answer_undo : List Str := ["album", "p"]
theorem sc_answer_undo : FnScope n_answer_undo ["album", "p"] (defScope s_answer_undo) := ⟨rfl, rfl, rfl, by decide +kernel, rfl, by decide +kernel, by decide +kernel⟩
abbrev s_answer_close : Stmt := top 50
abbrev n_answer_close : List Str := ["album", "p"]
theorem sc_answer_close : FnScope n_answer_close ["album", "p"] (defScope s_answer_close) := ⟨rfl, rfl, rfl, by decide +kernel, rfl, by decide +kernel, by decide +kernel⟩
abbrev s_answer_cells : Stmt := top 51
abbrev n_answer_cells : List Str := ["album", "p", "rows", "answer", "row"]
theorem sc_answer_cells : FnScope n_answer_cells ["album", "p"] (defScope s_answer_cells) := ⟨rfl, rfl, rfl, by decide +kernel, rfl, by decide +kernel, by decide +kernel⟩
abbrev s_answer_cell : Stmt := top 52
abbrev n_answer_cell : List Str := ["album", "p", "x", "y", "rows"]
theorem sc_answer_cell : FnScope n_answer_cell ["album", "p", "x", "y"] (defScope s_answer_cell) := ⟨rfl, rfl, rfl, by decide +kernel, rfl, by decide +kernel, by decide +kernel⟩
abbrev s_answer_tile : Stmt := top 53
abbrev n_answer_tile : List Str := ["album", "p", "i", "places"]
theorem sc_answer_tile : FnScope n_answer_tile ["album", "p", "i"] (defScope s_answer_tile) := ⟨rfl, rfl, rfl, by decide +kernel, rfl, by decide +kernel, by decide +kernel⟩
abbrev s_same_at : Stmt := top 54
abbrev n_same_at : List Str := ["places", "others", "both", "i"]
theorem sc_same_at : FnScope n_same_at ["places", "others"] (defScope s_same_at) := ⟨rfl, rfl, rfl, by decide +kernel, rfl, by decide +kernel, by decide +kernel⟩
abbrev s_answer_same : Stmt := top 55
abbrev n_answer_same : List Str := ["album", "p", "q", "places", "others"]
theorem sc_answer_same : FnScope n_answer_same ["album", "p", "q"] (defScope s_answer_same) := ⟨rfl, rfl, rfl, by decide +kernel, rfl, by decide +kernel, by decide +kernel⟩
abbrev s_answer_store : Stmt := top 56
abbrev n_answer_store : List Str := ["album", "store"]
theorem sc_answer_store : FnScope n_answer_store ["album"] (defScope s_answer_store) := ⟨rfl, rfl, rfl, by decide +kernel, rfl, by decide +kernel, by decide +kernel⟩
abbrev s_answer_slot : Stmt := top 57
abbrev n_answer_slot : List Str := ["album", "i", "store"]
theorem sc_answer_slot : FnScope n_answer_slot ["album", "i"] (defScope s_answer_slot) := ⟨rfl, rfl, rfl, by decide +kernel, rfl, by decide +kernel, by decide +kernel⟩
abbrev s_answer_changing : Stmt := top 58
abbrev n_answer_changing : List Str := ["album", "call", "given", "row"]
theorem sc_answer_changing : FnScope n_answer_changing ["album", "call", "given", "row"] (defScope s_answer_changing) := ⟨rfl, rfl, rfl, by decide +kernel, rfl, by decide +kernel, by decide +kernel⟩
abbrev s_answer_telling : Stmt := top 59
abbrev n_answer_telling : List Str := ["album", "call", "given"]
theorem sc_answer_telling : FnScope n_answer_telling ["album", "call", "given"] (defScope s_answer_telling) := ⟨rfl, rfl, rfl, by decide +kernel, rfl, by decide +kernel, by decide +kernel⟩
abbrev s_answer_call : Stmt := top 60
abbrev n_answer_call : List Str := ["album", "call", "given", "row"]
theorem sc_answer_call : FnScope n_answer_call ["album", "call", "given", "row"] (defScope s_answer_call) := ⟨rfl, rfl, rfl, by decide +kernel, rfl, by decide +kernel, by decide +kernel⟩
abbrev s_row_at : Stmt := top 61
abbrev n_row_at : List Str := ["calls", "at"]
theorem sc_row_at : FnScope n_row_at ["calls", "at"] (defScope s_row_at) := ⟨rfl, rfl, rfl, by decide +kernel, rfl, by decide +kernel, by decide +kernel⟩
abbrev s_answers : Stmt := top 62
abbrev n_answers : List Str := ["calls", "album", "told", "at", "call", "end", "given", "row", "answer"]
theorem sc_answers : FnScope n_answers ["calls"] (defScope s_answers) := ⟨rfl, rfl, rfl, by decide +kernel, rfl, by decide +kernel, by decide +kernel⟩
structure Ad where
  c_Store : Addr
  c_Picture : Addr
  c_Album : Addr
  a_BLANK_TILE : Addr
  a_WHOLE_NUMBERS : Addr
  f_row_of_cells : Addr
  fd_row_of_cells : FuncData
  f_rows_of_tiles : Addr
  fd_rows_of_tiles : FuncData
  f_tile_at : Addr
  fd_tile_at : FuncData
  f_tiles_of_rows : Addr
  fd_tiles_of_rows : FuncData
  f_has_cell : Addr
  fd_has_cell : FuncData
  f_put_box : Addr
  fd_put_box : FuncData
  f_dots_fit : Addr
  fd_dots_fit : FuncData
  f_put_dots : Addr
  fd_put_dots : FuncData
  f_shifted : Addr
  fd_shifted : FuncData
  f_put_rows : Addr
  fd_put_rows : FuncData
  f_Store_init : Addr
  fd_Store_init : FuncData
  f_Store_is_free : Addr
  fd_Store_is_free : FuncData
  f_Store_first_free : Addr
  fd_Store_first_free : FuncData
  f_Store_place_for : Addr
  fd_Store_place_for : FuncData
  f_Store_keep : Addr
  fd_Store_keep : FuncData
  f_Store_keep_each : Addr
  fd_Store_keep_each : FuncData
  f_Store_point_again : Addr
  fd_Store_point_again : FuncData
  f_Store_let_go_each : Addr
  fd_Store_let_go_each : FuncData
  f_Store_in_use : Addr
  fd_Store_in_use : FuncData
  f_Store_how_it_stands : Addr
  fd_Store_how_it_stands : FuncData
  f_Picture_init : Addr
  fd_Picture_init : FuncData
  f_Album_init : Addr
  fd_Album_init : FuncData
  f_Album_has_picture : Addr
  fd_Album_has_picture : FuncData
  f_Album_places_of_picture : Addr
  fd_Album_places_of_picture : FuncData
  f_Album_rows_of_picture : Addr
  fd_Album_rows_of_picture : FuncData
  f_Album_drop_picture : Addr
  fd_Album_drop_picture : FuncData
  f_Album_lay_page : Addr
  fd_Album_lay_page : FuncData
  f_Album_change_picture : Addr
  fd_Album_change_picture : FuncData
  f_Album_copy_picture : Addr
  fd_Album_copy_picture : FuncData
  f_Album_has_been_before : Addr
  fd_Album_has_been_before : FuncData
  f_Album_step_back : Addr
  fd_Album_step_back : FuncData
  f_is_side : Addr
  fd_is_side : FuncData
  f_answer_page : Addr
  fd_answer_page : FuncData
  f_answer_change : Addr
  fd_answer_change : FuncData
  f_answer_box : Addr
  fd_answer_box : FuncData
  f_answer_dots : Addr
  fd_answer_dots : FuncData
  f_answer_shift : Addr
  fd_answer_shift : FuncData
  f_answer_copy : Addr
  fd_answer_copy : FuncData
  f_answer_paste : Addr
  fd_answer_paste : FuncData
  f_answer_undo : Addr
  fd_answer_undo : FuncData
  f_answer_close : Addr
  fd_answer_close : FuncData
  f_answer_cells : Addr
  fd_answer_cells : FuncData
  f_answer_cell : Addr
  fd_answer_cell : FuncData
  f_answer_tile : Addr
  fd_answer_tile : FuncData
  f_same_at : Addr
  fd_same_at : FuncData
  f_answer_same : Addr
  fd_answer_same : FuncData
  f_answer_store : Addr
  fd_answer_store : FuncData
  f_answer_slot : Addr
  fd_answer_slot : FuncData
  f_answer_changing : Addr
  fd_answer_changing : FuncData
  f_answer_telling : Addr
  fd_answer_telling : FuncData
  f_answer_call : Addr
  fd_answer_call : FuncData
  f_row_at : Addr
  fd_row_at : FuncData
  f_answers : Addr
  fd_answers : FuncData
structure Txt (K : PySem.W.Frag) (mg : Str → Option Value) (A : Ad) : Prop where
  n_len : mg "len" = none
  n_list : mg "list" = none
  n_min : mg "min" = none
  n_range : mg "range" = none
  n_set : mg "set" = none
  n_sum : mg "sum" = none
  n_tuple : mg "tuple" = none
  g_SIDE : ∃ t, mg "SIDE" = some (.int (4) t)
  g_LARGEST_CELL : ∃ t, mg "LARGEST_CELL" = some (.int (255) t)
  g_MOST_BEFORE : ∃ t, mg "MOST_BEFORE" = some (.int (3) t)
  g_PAGE : ∃ t, mg "PAGE" = some (.int (0) t)
  g_BOX : ∃ t, mg "BOX" = some (.int (1) t)
  g_DOTS : ∃ t, mg "DOTS" = some (.int (2) t)
  g_SHIFT : ∃ t, mg "SHIFT" = some (.int (3) t)
  g_COPY : ∃ t, mg "COPY" = some (.int (4) t)
  g_PASTE : ∃ t, mg "PASTE" = some (.int (5) t)
  g_UNDO : ∃ t, mg "UNDO" = some (.int (6) t)
  g_CLOSE : ∃ t, mg "CLOSE" = some (.int (7) t)
  g_CELLS : ∃ t, mg "CELLS" = some (.int (8) t)
  g_CELL : ∃ t, mg "CELL" = some (.int (9) t)
  g_TILE : ∃ t, mg "TILE" = some (.int (10) t)
  g_SAME : ∃ t, mg "SAME" = some (.int (11) t)
  g_STORE : ∃ t, mg "STORE" = some (.int (12) t)
  g_LAST_PICTURE : ∃ t, mg "LAST_PICTURE" = some (.int (3) t)
  g_LONGEST_SIDE : ∃ t, mg "LONGEST_SIDE" = some (.int (4) t)
  g_NO_PICTURE : ∃ t, mg "NO_PICTURE" = some (.int (-1) t)
  g_NOT_AS_TOLD : ∃ t, mg "NOT_AS_TOLD" = some (.int (-2) t)
  g_NOT_BEFORE : ∃ t, mg "NOT_BEFORE" = some (.int (-4) t)
  g_FREE_PLACE : ∃ t, mg "FREE_PLACE" = some (.int (-6) t)
  g_BLANK_TILE : mg "BLANK_TILE" = some (.ref A.a_BLANK_TILE)
  t_BLANK_TILE : ∀ H : Hp, SqT K H A.a_BLANK_TILE [V.int (0), V.int (0), V.int (0), V.int (0), V.int (0), V.int (0), V.int (0), V.int (0), V.int (0), V.int (0), V.int (0), V.int (0), V.int (0), V.int (0), V.int (0), V.int (0)]
  g_WHOLE_NUMBERS : mg "WHOLE_NUMBERS" = some (.ref A.a_WHOLE_NUMBERS)
  t_WHOLE_NUMBERS : ∀ H : Hp, SqT K H A.a_WHOLE_NUMBERS [V.int (3), V.int (6), V.int (1), V.int (2), V.int (2), V.int (4), V.int (1), V.int (1), V.int (1), V.int (3), V.int (2), V.int (2), V.int (0), V.int (1)]
  cl_Store : Cls K A.c_Store
  g_Store : mg "Store" = some (.ref A.c_Store)
  mk_Store : Mk K A.c_Store A.f_Store_init
  no_Store_tiles : NoAttr K A.c_Store "tiles"
  no_Store_counts : NoAttr K A.c_Store "counts"
  cl_Picture : Cls K A.c_Picture
  g_Picture : mg "Picture" = some (.ref A.c_Picture)
  mk_Picture : Mk K A.c_Picture A.f_Picture_init
  no_Picture_wide : NoAttr K A.c_Picture "wide"
  no_Picture_places : NoAttr K A.c_Picture "places"
  no_Picture_before : NoAttr K A.c_Picture "before"
  cl_Album : Cls K A.c_Album
  g_Album : mg "Album" = some (.ref A.c_Album)
  mk_Album : Mk K A.c_Album A.f_Album_init
  no_Album_store : NoAttr K A.c_Album "store"
  no_Album_pictures : NoAttr K A.c_Album "pictures"
  F_row_of_cells : Fun K "row_of_cells" "row_of_cells" s_row_of_cells A.f_row_of_cells A.fd_row_of_cells
  b_row_of_cells : Binds K A.fd_row_of_cells ["tiles", "row"] []
  g_row_of_cells : mg "row_of_cells" = some (.ref A.f_row_of_cells)
  F_rows_of_tiles : Fun K "rows_of_tiles" "rows_of_tiles" s_rows_of_tiles A.f_rows_of_tiles A.fd_rows_of_tiles
  b_rows_of_tiles : Binds K A.fd_rows_of_tiles ["tiles", "wide"] []
  g_rows_of_tiles : mg "rows_of_tiles" = some (.ref A.f_rows_of_tiles)
  F_tile_at : Fun K "tile_at" "tile_at" s_tile_at A.f_tile_at A.fd_tile_at
  b_tile_at : Binds K A.fd_tile_at ["rows", "left", "top"] []
  g_tile_at : mg "tile_at" = some (.ref A.f_tile_at)
  F_tiles_of_rows : Fun K "tiles_of_rows" "tiles_of_rows" s_tiles_of_rows A.f_tiles_of_rows A.fd_tiles_of_rows
  b_tiles_of_rows : Binds K A.fd_tiles_of_rows ["rows"] []
  g_tiles_of_rows : mg "tiles_of_rows" = some (.ref A.f_tiles_of_rows)
  F_has_cell : Fun K "has_cell" "has_cell" s_has_cell A.f_has_cell A.fd_has_cell
  b_has_cell : Binds K A.fd_has_cell ["rows", "x", "y"] []
  g_has_cell : mg "has_cell" = some (.ref A.f_has_cell)
  F_put_box : Fun K "put_box" "put_box" s_put_box A.f_put_box A.fd_put_box
  b_put_box : Binds K A.fd_put_box ["rows", "x", "y", "u", "v", "n"] []
  g_put_box : mg "put_box" = some (.ref A.f_put_box)
  F_dots_fit : Fun K "dots_fit" "dots_fit" s_dots_fit A.f_dots_fit A.fd_dots_fit
  b_dots_fit : Binds K A.fd_dots_fit ["rows", "dots"] []
  g_dots_fit : mg "dots_fit" = some (.ref A.f_dots_fit)
  F_put_dots : Fun K "put_dots" "put_dots" s_put_dots A.f_put_dots A.fd_put_dots
  b_put_dots : Binds K A.fd_put_dots ["rows", "dots"] []
  g_put_dots : mg "put_dots" = some (.ref A.f_put_dots)
  F_shifted : Fun K "shifted" "shifted" s_shifted A.f_shifted A.fd_shifted
  b_shifted : Binds K A.fd_shifted ["rows", "n"] []
  g_shifted : mg "shifted" = some (.ref A.f_shifted)
  F_put_rows : Fun K "put_rows" "put_rows" s_put_rows A.f_put_rows A.fd_put_rows
  b_put_rows : Binds K A.fd_put_rows ["rows", "others", "x", "y"] []
  g_put_rows : mg "put_rows" = some (.ref A.f_put_rows)
  F_Store_init : Fun K "__init__" "Store.__init__" s_Store_init A.f_Store_init A.fd_Store_init
  b_Store_init : Binds K A.fd_Store_init ["self"] []
  F_Store_is_free : Fun K "is_free" "Store.is_free" s_Store_is_free A.f_Store_is_free A.fd_Store_is_free
  b_Store_is_free : Binds K A.fd_Store_is_free ["self", "place"] []
  m_Store_is_free : Meth K A.c_Store "is_free" A.f_Store_is_free
  F_Store_first_free : Fun K "first_free" "Store.first_free" s_Store_first_free A.f_Store_first_free A.fd_Store_first_free
  b_Store_first_free : Binds K A.fd_Store_first_free ["self"] []
  m_Store_first_free : Meth K A.c_Store "first_free" A.f_Store_first_free
  F_Store_place_for : Fun K "place_for" "Store.place_for" s_Store_place_for A.f_Store_place_for A.fd_Store_place_for
  b_Store_place_for : Binds K A.fd_Store_place_for ["self", "tile"] []
  m_Store_place_for : Meth K A.c_Store "place_for" A.f_Store_place_for
  F_Store_keep : Fun K "keep" "Store.keep" s_Store_keep A.f_Store_keep A.fd_Store_keep
  b_Store_keep : Binds K A.fd_Store_keep ["self", "tile"] []
  m_Store_keep : Meth K A.c_Store "keep" A.f_Store_keep
  F_Store_keep_each : Fun K "keep_each" "Store.keep_each" s_Store_keep_each A.f_Store_keep_each A.fd_Store_keep_each
  b_Store_keep_each : Binds K A.fd_Store_keep_each ["self", "tiles"] []
  m_Store_keep_each : Meth K A.c_Store "keep_each" A.f_Store_keep_each
  F_Store_point_again : Fun K "point_again" "Store.point_again" s_Store_point_again A.f_Store_point_again A.fd_Store_point_again
  b_Store_point_again : Binds K A.fd_Store_point_again ["self", "places"] []
  m_Store_point_again : Meth K A.c_Store "point_again" A.f_Store_point_again
  F_Store_let_go_each : Fun K "let_go_each" "Store.let_go_each" s_Store_let_go_each A.f_Store_let_go_each A.fd_Store_let_go_each
  b_Store_let_go_each : Binds K A.fd_Store_let_go_each ["self", "places"] []
  m_Store_let_go_each : Meth K A.c_Store "let_go_each" A.f_Store_let_go_each
  F_Store_in_use : Fun K "in_use" "Store.in_use" s_Store_in_use A.f_Store_in_use A.fd_Store_in_use
  b_Store_in_use : Binds K A.fd_Store_in_use ["self"] []
  m_Store_in_use : Meth K A.c_Store "in_use" A.f_Store_in_use
  F_Store_how_it_stands : Fun K "how_it_stands" "Store.how_it_stands" s_Store_how_it_stands A.f_Store_how_it_stands A.fd_Store_how_it_stands
  b_Store_how_it_stands : Binds K A.fd_Store_how_it_stands ["self"] []
  m_Store_how_it_stands : Meth K A.c_Store "how_it_stands" A.f_Store_how_it_stands
  F_Picture_init : Fun K "__init__" "Picture.__init__" s_Picture_init A.f_Picture_init A.fd_Picture_init
  b_Picture_init : Binds K A.fd_Picture_init ["self", "wide", "places"] []
  F_Album_init : Fun K "__init__" "Album.__init__" s_Album_init A.f_Album_init A.fd_Album_init
  b_Album_init : Binds K A.fd_Album_init ["self"] []
  F_Album_has_picture : Fun K "has_picture" "Album.has_picture" s_Album_has_picture A.f_Album_has_picture A.fd_Album_has_picture
  b_Album_has_picture : Binds K A.fd_Album_has_picture ["self", "p"] []
  m_Album_has_picture : Meth K A.c_Album "has_picture" A.f_Album_has_picture
  F_Album_places_of_picture : Fun K "places_of_picture" "Album.places_of_picture" s_Album_places_of_picture A.f_Album_places_of_picture A.fd_Album_places_of_picture
  b_Album_places_of_picture : Binds K A.fd_Album_places_of_picture ["self", "p"] []
  m_Album_places_of_picture : Meth K A.c_Album "places_of_picture" A.f_Album_places_of_picture
  F_Album_rows_of_picture : Fun K "rows_of_picture" "Album.rows_of_picture" s_Album_rows_of_picture A.f_Album_rows_of_picture A.fd_Album_rows_of_picture
  b_Album_rows_of_picture : Binds K A.fd_Album_rows_of_picture ["self", "p"] []
  m_Album_rows_of_picture : Meth K A.c_Album "rows_of_picture" A.f_Album_rows_of_picture
  F_Album_drop_picture : Fun K "drop_picture" "Album.drop_picture" s_Album_drop_picture A.f_Album_drop_picture A.fd_Album_drop_picture
  b_Album_drop_picture : Binds K A.fd_Album_drop_picture ["self", "p"] []
  m_Album_drop_picture : Meth K A.c_Album "drop_picture" A.f_Album_drop_picture
  F_Album_lay_page : Fun K "lay_page" "Album.lay_page" s_Album_lay_page A.f_Album_lay_page A.fd_Album_lay_page
  b_Album_lay_page : Binds K A.fd_Album_lay_page ["self", "p", "wide", "high"] []
  m_Album_lay_page : Meth K A.c_Album "lay_page" A.f_Album_lay_page
  F_Album_change_picture : Fun K "change_picture" "Album.change_picture" s_Album_change_picture A.f_Album_change_picture A.fd_Album_change_picture
  b_Album_change_picture : Binds K A.fd_Album_change_picture ["self", "p", "rows"] []
  m_Album_change_picture : Meth K A.c_Album "change_picture" A.f_Album_change_picture
  F_Album_copy_picture : Fun K "copy_picture" "Album.copy_picture" s_Album_copy_picture A.f_Album_copy_picture A.fd_Album_copy_picture
  b_Album_copy_picture : Binds K A.fd_Album_copy_picture ["self", "p", "q"] []
  m_Album_copy_picture : Meth K A.c_Album "copy_picture" A.f_Album_copy_picture
  F_Album_has_been_before : Fun K "has_been_before" "Album.has_been_before" s_Album_has_been_before A.f_Album_has_been_before A.fd_Album_has_been_before
  b_Album_has_been_before : Binds K A.fd_Album_has_been_before ["self", "p"] []
  m_Album_has_been_before : Meth K A.c_Album "has_been_before" A.f_Album_has_been_before
  F_Album_step_back : Fun K "step_back" "Album.step_back" s_Album_step_back A.f_Album_step_back A.fd_Album_step_back
  b_Album_step_back : Binds K A.fd_Album_step_back ["self", "p"] []
  m_Album_step_back : Meth K A.c_Album "step_back" A.f_Album_step_back
  F_is_side : Fun K "is_side" "is_side" s_is_side A.f_is_side A.fd_is_side
  b_is_side : Binds K A.fd_is_side ["number"] []
  g_is_side : mg "is_side" = some (.ref A.f_is_side)
  F_answer_page : Fun K "answer_page" "answer_page" s_answer_page A.f_answer_page A.fd_answer_page
  b_answer_page : Binds K A.fd_answer_page ["album", "p", "w", "h"] []
  g_answer_page : mg "answer_page" = some (.ref A.f_answer_page)
  F_answer_change : Fun K "answer_change" "answer_change" s_answer_change A.f_answer_change A.fd_answer_change
  b_answer_change : Binds K A.fd_answer_change ["album", "p", "rows"] []
  g_answer_change : mg "answer_change" = some (.ref A.f_answer_change)
  F_answer_box : Fun K "answer_box" "answer_box" s_answer_box A.f_answer_box A.fd_answer_box
  b_answer_box : Binds K A.fd_answer_box ["album", "p", "x", "y", "u", "v", "n"] []
  g_answer_box : mg "answer_box" = some (.ref A.f_answer_box)
  F_answer_dots : Fun K "answer_dots" "answer_dots" s_answer_dots A.f_answer_dots A.fd_answer_dots
  b_answer_dots : Binds K A.fd_answer_dots ["album", "p", "dots"] []
  g_answer_dots : mg "answer_dots" = some (.ref A.f_answer_dots)
  F_answer_shift : Fun K "answer_shift" "answer_shift" s_answer_shift A.f_answer_shift A.fd_answer_shift
  b_answer_shift : Binds K A.fd_answer_shift ["album", "p", "n"] []
  g_answer_shift : mg "answer_shift" = some (.ref A.f_answer_shift)
  F_answer_copy : Fun K "answer_copy" "answer_copy" s_answer_copy A.f_answer_copy A.fd_answer_copy
  b_answer_copy : Binds K A.fd_answer_copy ["album", "p", "q"] []
  g_answer_copy : mg "answer_copy" = some (.ref A.f_answer_copy)
  F_answer_paste : Fun K "answer_paste" "answer_paste" s_answer_paste A.f_answer_paste A.fd_answer_paste
  b_answer_paste : Binds K A.fd_answer_paste ["album", "p", "q", "x", "y"] []
  g_answer_paste : mg "answer_paste" = some (.ref A.f_answer_paste)
  F_answer_undo : Fun K "answer_undo" "answer_undo" s_answer_undo A.f_answer_undo A.fd_answer_undo
  b_answer_undo : Binds K A.fd_answer_undo ["album", "p"] []
  g_answer_undo : mg "answer_undo" = some (.ref A.f_answer_undo)
  F_answer_close : Fun K "answer_close" "answer_close" s_answer_close A.f_answer_close A.fd_answer_close
  b_answer_close : Binds K A.fd_answer_close ["album", "p"] []
  g_answer_close : mg "answer_close" = some (.ref A.f_answer_close)
  F_answer_cells : Fun K "answer_cells" "answer_cells" s_answer_cells A.f_answer_cells A.fd_answer_cells
  b_answer_cells : Binds K A.fd_answer_cells ["album", "p"] []
  g_answer_cells : mg "answer_cells" = some (.ref A.f_answer_cells)
  F_answer_cell : Fun K "answer_cell" "answer_cell" s_answer_cell A.f_answer_cell A.fd_answer_cell
  b_answer_cell : Binds K A.fd_answer_cell ["album", "p", "x", "y"] []
  g_answer_cell : mg "answer_cell" = some (.ref A.f_answer_cell)
  F_answer_tile : Fun K "answer_tile" "answer_tile" s_answer_tile A.f_answer_tile A.fd_answer_tile
  b_answer_tile : Binds K A.fd_answer_tile ["album", "p", "i"] []
  g_answer_tile : mg "answer_tile" = some (.ref A.f_answer_tile)
  F_same_at : Fun K "same_at" "same_at" s_same_at A.f_same_at A.fd_same_at
  b_same_at : Binds K A.fd_same_at ["places", "others"] []
  g_same_at : mg "same_at" = some (.ref A.f_same_at)
  F_answer_same : Fun K "answer_same" "answer_same" s_answer_same A.f_answer_same A.fd_answer_same
  b_answer_same : Binds K A.fd_answer_same ["album", "p", "q"] []
  g_answer_same : mg "answer_same" = some (.ref A.f_answer_same)
  F_answer_store : Fun K "answer_store" "answer_store" s_answer_store A.f_answer_store A.fd_answer_store
  b_answer_store : Binds K A.fd_answer_store ["album"] []
  g_answer_store : mg "answer_store" = some (.ref A.f_answer_store)
  F_answer_slot : Fun K "answer_slot" "answer_slot" s_answer_slot A.f_answer_slot A.fd_answer_slot
  b_answer_slot : Binds K A.fd_answer_slot ["album", "i"] []
  g_answer_slot : mg "answer_slot" = some (.ref A.f_answer_slot)
  F_answer_changing : Fun K "answer_changing" "answer_changing" s_answer_changing A.f_answer_changing A.fd_answer_changing
  b_answer_changing : Binds K A.fd_answer_changing ["album", "call", "given", "row"] []
  g_answer_changing : mg "answer_changing" = some (.ref A.f_answer_changing)
  F_answer_telling : Fun K "answer_telling" "answer_telling" s_answer_telling A.f_answer_telling A.fd_answer_telling
  b_answer_telling : Binds K A.fd_answer_telling ["album", "call", "given"] []
  g_answer_telling : mg "answer_telling" = some (.ref A.f_answer_telling)
  F_answer_call : Fun K "answer_call" "answer_call" s_answer_call A.f_answer_call A.fd_answer_call
  b_answer_call : Binds K A.fd_answer_call ["album", "call", "given", "row"] []
  g_answer_call : mg "answer_call" = some (.ref A.f_answer_call)
  F_row_at : Fun K "row_at" "row_at" s_row_at A.f_row_at A.fd_row_at
  b_row_at : Binds K A.fd_row_at ["calls", "at"] []
  g_row_at : mg "row_at" = some (.ref A.f_row_at)
  F_answers : Fun K "answers" "answers" s_answers A.f_answers A.fd_answers
  b_answers : Binds K A.fd_answers ["calls"] []
  g_answers : mg "answers" = some (.ref A.f_answers)

end TS
namespace TS
open PySem PySem.Spec PyProof.Rows L2
/-! numbers as values -/
abbrev vi (l : List Nat) : List V := l.map fun (n : Nat) => V.int (n : Int)
theorem vi_get {l : List Nat} {i : Nat} : (vi l)[i]? = (l[i]?).map fun (n : Nat) => V.int (n : Int) := List.getElem?_map
theorem vi_some {l : List Nat} {i n : Nat} (h : l[i]? = some n) : (vi l)[i]? = some (V.int (n : Int)) := by rw [vi_get, h]; rfl
theorem vi_of {l : List Nat} {i : Nat} {v : V} (h : (vi l)[i]? = some v) : ∃ n, l[i]? = some n ∧ v = V.int (n : Int) := by
  rw [vi_get] at h
  cases e : l[i]? with
  | none => rw [e] at h; cases h
  | some n => rw [e] at h; exact ⟨n, rfl, (Option.some.inj h).symm⟩
theorem refs_of {l : List Addr} {i : Nat} {v : V} (h : (l.map V.ref)[i]? = some v) : ∃ a, l[i]? = some a ∧ v = V.ref a := by
  rw [List.getElem?_map] at h
  cases e : l[i]? with
  | none => rw [e] at h; cases h
  | some n => rw [e] at h; exact ⟨n, rfl, (Option.some.inj h).symm⟩
theorem refs_some {l : List Addr} {i : Nat} {a : Addr} (h : l[i]? = some a) : (l.map V.ref)[i]? = some (V.ref a) := by rw [List.getElem?_map, h]; rfl
theorem at_nat {α : Type} {xs : List α} {z : Int} {j : Nat} {v : α} (e : z = (j : Int)) (h : xs[j]? = some v) : atI xs z = some v := by
  subst e; exact atI_nat h
theorem ixN_nat {n j : Nat} (h : j < n) : ixN n (j : Int) = some j := by
  unfold ixN
  rw [if_pos (by omega), if_pos (by omega)]
  rfl
theorem line_eq : sizeLine = 16777216 := rfl
/-! data of a tile -/
def dT (t : List Nat) : PyData := .tuple (t.map fun (n : Nat) => PyData.int (n : Int))
theorem dp_ints {K : PySem.W.Frag} {H : Hp} : ∀ t : List Nat, DpAll K H (vi t) (t.map fun (n : Nat) => PyData.int (n : Int))
  | [] => .nil
  | n :: r => .cons (.int _) (dp_ints r)
theorem eqv_ints : ∀ a b : List Nat, PyData.eqvAll (a.map fun (n : Nat) => PyData.int (n : Int)) (b.map fun (n : Nat) => PyData.int (n : Int)) = decide (a = b)
  | [], [] => by simp [PyData.eqvAll]
  | [], _ :: _ => by simp [PyData.eqvAll]
  | _ :: _, [] => by simp [PyData.eqvAll]
  | x :: a, y :: b => by
    have ih := eqv_ints a b
    simp only [List.map_cons, PyData.eqvAll, PyData.eqv, ih, List.cons.injEq]
    by_cases e : x = y
    · subst e; simp
    · have : ¬ (x : Int) = (y : Int) := by omega
      simp [e, this]
theorem eqv_tile (a b : List Nat) : PyData.eqv (dT a) (dT b) = decide (a = b) := by
  unfold dT; rw [PyData.eqv]; exact eqv_ints a b
/-! the store in the heap -/
def storeF (ta ca : Addr) : List (Str × V) := [("tiles", .ref ta), ("counts", .ref ca)]
theorem sF_tiles (ta ca : Addr) : (storeF ta ca).lookup ("tiles" : Str) = some (.ref ta) := lk_here
theorem sF_counts (ta ca : Addr) : (storeF ta ca).lookup ("counts" : Str) = some (.ref ca) := (lk_past (by decide +kernel)).trans lk_here
theorem sF_no {ta ca : Addr} {m : Str} (h1 : (m == ("tiles" : Str)) = false) (h2 : (m == ("counts" : Str)) = false) : (storeF ta ca).lookup m = none := (lk_past h1).trans ((lk_past h2).trans rfl)
theorem sF_new (ta ca : Addr) : putF "counts" (.ref ca) (putF "tiles" (.ref ta) []) = storeF ta ca := (put_past (by decide +kernel)).trans rfl
def TileAt (A : Ad) (H : Hp) (a : Addr) (t : List Nat) : Prop := H a = some (.tup (vi t)) ∨ (a = A.a_BLANK_TILE ∧ t = Ie07.blank)
theorem TileAt.sq {K : PySem.W.Frag} {mg : Str → Option Value} {A : Ad} (T : Txt K mg A) {H : Hp} {a : Addr} {t : List Nat} (h : TileAt A H a t) : SqT K H a (vi t) := by
  rcases h with h | ⟨rfl, rfl⟩
  · exact SqT.of h
  · exact T.t_BLANK_TILE H
theorem TileAt.mono {A : Ad} {H H' : Hp} {a : Addr} {t : List Nat} (h : TileAt A H a t) (k : ∀ b xs, H b = some (.tup xs) → H' b = some (.tup xs)) : TileAt A H' a t := by
  rcases h with h | h
  · exact .inl (k _ _ h)
  · exact .inr h
structure StoreAt (A : Ad) (H : Hp) (st ta ca : Addr) (S : Ie07.Store) : Prop where
  ins : ∃ dx, H st = some (.ins A.c_Store dx (storeF ta ca))
  ne : ta ≠ ca
  til : ∃ ts : List Addr, H ta = some (.lst (ts.map .ref)) ∧ ts.length = S.length ∧ ∀ (i : Nat) (a : Addr) (x : Ie07.Slot), ts[i]? = some a → S[i]? = some x → 0 < x.refs → TileAt A H a x.tile
  cnt : H ca = some (.lst (vi (S.map fun (x : Ie07.Slot) => x.refs)))
/-- all but the store's two lists stands as it was -/
def Kp (ta ca : Addr) (H H' : Hp) : Prop := ∀ b o, H b = some o → b ≠ ta → b ≠ ca → H' b = some o
theorem Kp.refl (ta ca : Addr) (H : Hp) : Kp ta ca H H := fun _ _ h _ _ => h
theorem Kp.trans {ta ca : Addr} {H H1 H2 : Hp} (a : Kp ta ca H H1) (b : Kp ta ca H1 H2) : Kp ta ca H H2 := fun c o h n1 n2 => b c o (a c o h n1 n2) n1 n2
theorem Same.kp {ta ca : Addr} {H H1 : Hp} (a : Same H H1) : Kp ta ca H H1 := fun c o h _ _ => a c o h
theorem StoreAt.neS {A : Ad} {H : Hp} {st ta ca : Addr} {S : Ie07.Store} (s : StoreAt A H st ta ca S) : st ≠ ta ∧ st ≠ ca := by
  obtain ⟨dx, h⟩ := s.ins
  obtain ⟨ts, h1, _⟩ := s.til
  exact ⟨ne_of h h1 (by intro z; cases z), ne_of h s.cnt (by intro z; cases z)⟩
theorem StoreAt.tups {A : Ad} {H : Hp} {st ta ca : Addr} {S : Ie07.Store} (s : StoreAt A H st ta ca S) {H' : Hp} (k : Kp ta ca H H') : ∀ b xs, H b = some (.tup xs) → H' b = some (.tup xs) := fun b xs h => by
  obtain ⟨ts, h1, _⟩ := s.til
  exact k b _ h (ne_of h h1 (by intro z; cases z)) (ne_of h s.cnt (by intro z; cases z))
theorem StoreAt.same {A : Ad} {H H' : Hp} {st ta ca : Addr} {S : Ie07.Store} (s : StoreAt A H st ta ca S) (k : Same H H') : StoreAt A H' st ta ca S := by
  obtain ⟨dx, h⟩ := s.ins
  obtain ⟨ts, h1, h2, h3⟩ := s.til
  exact ⟨⟨dx, k _ _ h⟩, s.ne, ⟨ts, k _ _ h1, h2, fun i a x e1 e2 e3 => (h3 i a x e1 e2 e3).mono fun b xs e => k _ _ e⟩, k _ _ s.cnt⟩
/-! promises -/
def sp_Store_init (K : PySem.W.Frag) (A : Ad) : Sp := fun vs H Q _ => ∃ (p dx : Addr), vs = [.ref p] ∧ H p = some (.ins A.c_Store dx []) ∧
  ∀ (H' : Hp) (ta ca : Addr), StoreAt A H' p ta ca [] → H ta = none → H ca = none → (∀ b o, H b = some o → b ≠ p → H' b = some o) → Q .non H'
def sp_Store_is_free (K : PySem.W.Frag) (A : Ad) : Sp := fun vs H Q _ => ∃ (st ta ca : Addr) (S : Ie07.Store) (z : Int) (i : Nat) (x : Ie07.Slot), vs = [.ref st, .int z] ∧ z = (i : Int) ∧ StoreAt A H st ta ca S ∧ S[i]? = some x ∧
  Q (.bl (decide (x.refs = 0))) H
def sp_Store_first_free (K : PySem.W.Frag) (A : Ad) : Sp := fun vs H Q _ => ∃ (st ta ca : Addr) (S : Ie07.Store), vs = [.ref st] ∧ StoreAt A H st ta ca S ∧ S.length < sizeLine ∧
  Q (.int (((Ie07.firstFree S).getD S.length : Nat) : Int)) H
def sp_Store_place_for (K : PySem.W.Frag) (A : Ad) : Sp := fun vs H Q _ => ∃ (st ta ca t : Addr) (S : Ie07.Store) (x : List Nat), vs = [.ref st, .ref t] ∧ StoreAt A H st ta ca S ∧ S.length < sizeLine ∧ TileAt A H t x ∧
  Q (.int ((placeOf S x : Nat) : Int)) H
def sp_Store_keep (K : PySem.W.Frag) (A : Ad) : Sp := fun vs H Q _ => ∃ (st ta ca t : Addr) (S : Ie07.Store) (x : List Nat), vs = [.ref st, .ref t] ∧ StoreAt A H st ta ca S ∧ S.length < sizeLine ∧ TileAt A H t x ∧
  ∀ H' : Hp, StoreAt A H' st ta ca (Ie07.keep S x).1 → Kp ta ca H H' → Q (.int (((Ie07.keep S x).2 : Nat) : Int)) H'
def sp_Store_keep_each (K : PySem.W.Frag) (A : Ad) : Sp := fun vs H Q _ => ∃ (st ta ca l : Addr) (S : Ie07.Store) (as : List Addr) (ts : List (List Nat)), vs = [.ref st, .ref l] ∧ StoreAt A H st ta ca S ∧ S.length + ts.length ≤ 10000 ∧
  H l = some (.lst (as.map .ref)) ∧ l ≠ ta ∧ l ≠ ca ∧ as.length = ts.length ∧ (∀ (i : Nat) (a : Addr) (x : List Nat), as[i]? = some a → ts[i]? = some x → TileAt A H a x) ∧
  ∀ (H' : Hp) (p : Addr), StoreAt A H' st ta ca (Ie07.keepAll S ts).1 → Kp ta ca H H' → H p = none → H' p = some (.lst (vi (Ie07.keepAll S ts).2)) → Q (.ref p) H'
def sp_Store_point_again (K : PySem.W.Frag) (A : Ad) : Sp := fun vs H Q _ => ∃ (st ta ca l : Addr) (S : Ie07.Store) (ps : List Nat), vs = [.ref st, .ref l] ∧ StoreAt A H st ta ca S ∧
  H l = some (.lst (vi ps)) ∧ l ≠ ca ∧ (∀ i ∈ ps, 0 < refsAt S i) ∧
  ∀ H' : Hp, StoreAt A H' st ta ca (Ie07.moreAll S ps) → Kp ta ca H H' → Q .non H'
def sp_Store_let_go_each (K : PySem.W.Frag) (A : Ad) : Sp := fun vs H Q _ => ∃ (st ta ca l : Addr) (S : Ie07.Store) (ps : List Nat), vs = [.ref st, .ref l] ∧ StoreAt A H st ta ca S ∧
  H l = some (.lst (vi ps)) ∧ l ≠ ca ∧ (∀ i, ps.count i ≤ refsAt S i) ∧
  ∀ H' : Hp, StoreAt A H' st ta ca (Ie07.lessAll S ps) → Kp ta ca H H' → Q .non H'
def sp_Store_in_use (K : PySem.W.Frag) (A : Ad) : Sp := fun vs H Q _ => ∃ (st ta ca : Addr) (S : Ie07.Store), vs = [.ref st] ∧ StoreAt A H st ta ca S ∧ S.length < sizeLine ∧
  ∀ H' : Hp, Same H H' → Q (.int ((Ie07.inUse S : Nat) : Int)) H'
def sp_Store_how_it_stands (K : PySem.W.Frag) (A : Ad) : Sp := fun vs H Q _ => ∃ (st ta ca : Addr) (S : Ie07.Store), vs = [.ref st] ∧ StoreAt A H st ta ca S ∧ S.length < sizeLine ∧
  ∀ (H' : Hp) (p : Addr), Same H H' → H p = none → H' p = some (.lst (vi [Ie07.inUse S, Ie07.pointed S])) → Q (.ref p) H'
section
variable {P : Program} {w : World} {K : PySem.W.Frag} {mg : Str → Option Value} {base : Heap} {A : Ad}
theorem ok_Store_init (T : Txt K mg A) : FnOk P w K mg base CX0 1 A.f_Store_init A.fd_Store_init ["self"] (sp_Store_init K A) := by
  refine T.F_Store_init.ok sc_Store_init (fun vs H Q E h => ?_) (fun cdv Ar outer s H vs Q E hr h => ?_)
  · obtain ⟨p, dx, rfl, _⟩ := h
    rfl
  · obtain ⟨p, dx, rfl, hp, k⟩ := h
    refine ⟨_, (pss_cons (ps_fld (pv 0) (pe_lst pa_nil) rfl)
      (pss_one (ps_fld (pv 0) (pe_lst pa_nil) rfl))), ?_⟩
    refine ⟨Nat.zero_le _, fun l hl => ?_⟩
    have npl : p ≠ l := ne_of_none hp hl
    refine ⟨_, rfl, p, A.c_Store, dx, [], rfl, (by rw [upd_ne npl]; exact hp), T.cl_Store, T.no_Store_tiles, (by show 0 < 1000; decide), ?_⟩
    refine ⟨Nat.zero_le _, fun m hm => ?_⟩
    have npm : m ≠ p := fun q => by rw [q, upd_same] at hm; cases hm
    have hm1 : upd H l (HO.lst []) m = none := by rw [upd_ne npm] at hm; exact hm
    have nlm : m ≠ l := fun q => by rw [q, upd_same] at hm1; cases hm1
    have hm2 : H m = none := by rw [upd_ne nlm] at hm1; exact hm1
    refine ⟨_, rfl, p, A.c_Store, dx, _, rfl, (by rw [upd_ne npm.symm, upd_same]), T.cl_Store, T.no_Store_counts, (by show 1 < 1000; decide), ?_⟩
    refine k _ l m ⟨⟨dx, ?_⟩, nlm.symm, ⟨[], ?_, rfl, fun i a x e => by simp at e⟩, ?_⟩ hl hm2 fun b o e hb => ?_
    · rw [upd_same]; exact congrArg (fun q => some (HO.ins A.c_Store dx q)) (sF_new l m)
    · rw [upd_ne npl.symm, upd_ne nlm.symm, upd_ne npl.symm, upd_same]; rfl
    · rw [upd_ne npm, upd_same]; rfl
    · rw [upd_ne hb, upd_ne (ne_of_none e hm2), upd_ne hb, upd_ne (ne_of_none e hl)]; exact e
end
end TS
namespace TS
open PySem PySem.Spec PyProof.Rows L2
theorem find_some {α : Type} {p : α → Bool} {l : List α} {i : Nat} {x : α} (h : l[i]? = some x) (hp : p x = true) (hn : ∀ (j : Nat) (y : α), j < i → l[j]? = some y → p y = false) : l.findIdx? p = some i := by
  obtain ⟨hi, e⟩ := List.getElem?_eq_some_iff.mp h
  rw [List.findIdx?_eq_some_iff_getElem]
  refine ⟨hi, by rw [e]; exact hp, fun j hj => ?_⟩
  have hjl : j < l.length := by omega
  have := hn j l[j] hj (List.getElem?_eq_getElem hjl)
  rw [this]; exact Bool.false_ne_true
theorem find_none {α : Type} {p : α → Bool} {l : List α} (hn : ∀ (j : Nat) (y : α), l[j]? = some y → p y = false) : l.findIdx? p = none := by
  rw [List.findIdx?_eq_none_iff]
  intro x hx
  obtain ⟨j, hj⟩ := List.getElem?_of_mem hx
  exact hn j x hj
theorem free_some {S : Ie07.Store} {i : Nat} {x : Ie07.Slot} (h : S[i]? = some x) (hp : x.refs = 0) (hn : ∀ (j : Nat) (y : Ie07.Slot), j < i → S[j]? = some y → y.refs ≠ 0) : Ie07.firstFree S = some i :=
  find_some h (by simp [hp]) fun j y hj e => by simp [hn j y hj e]
theorem free_none {S : Ie07.Store} (hn : ∀ (j : Nat) (y : Ie07.Slot), j < S.length → S[j]? = some y → y.refs ≠ 0) : Ie07.firstFree S = none :=
  find_none fun j y e => by simp [hn j y (List.getElem?_eq_some_iff.mp e).1 e]
theorem tile_some {S : Ie07.Store} {t : List Nat} {i : Nat} {x : Ie07.Slot} (h : S[i]? = some x) (hp : 0 < x.refs) (ht : x.tile = t) (hn : ∀ (j : Nat) (y : Ie07.Slot), j < i → S[j]? = some y → ¬ (0 < y.refs ∧ y.tile = t)) : Ie07.findTile S t = some i :=
  find_some h (by simp [hp, ht]) fun j y hj e => by
    have := hn j y hj e
    by_cases q : 0 < y.refs
    · have : ¬ y.tile = t := fun z => this ⟨q, z⟩
      simp [this]
    · simp [q]
theorem tile_none {S : Ie07.Store} {t : List Nat} (hn : ∀ (j : Nat) (y : Ie07.Slot), j < S.length → S[j]? = some y → ¬ (0 < y.refs ∧ y.tile = t)) : Ie07.findTile S t = none :=
  find_none fun j y e => by
    have := hn j y (List.getElem?_eq_some_iff.mp e).1 e
    by_cases q : 0 < y.refs
    · have : ¬ y.tile = t := fun z => this ⟨q, z⟩
      simp [this]
    · simp [q]
theorem refs_get {S : Ie07.Store} {i : Nat} {x : Ie07.Slot} (h : S[i]? = some x) : (vi (S.map fun (x : Ie07.Slot) => x.refs))[i]? = some (V.int (x.refs : Int)) := vi_some (by rw [List.getElem?_map, h]; rfl)
theorem slot_at {S : Ie07.Store} {i : Nat} (h : i < S.length) : ∃ x, S[i]? = some x := ⟨S[i], List.getElem?_eq_getElem h⟩
theorem refs_len (S : Ie07.Store) : (vi (S.map fun (x : Ie07.Slot) => x.refs)).length = S.length := by simp
theorem lay_ints : ∀ l : List Nat, PyData.canLayAll0 (l.map fun (n : Nat) => PyData.int (n : Int)) = true ∧ PyData.depthAll (l.map fun (n : Nat) => PyData.int (n : Int)) = 0
  | [] => by simp [PyData.canLayAll0, PyData.depthAll]
  | x :: r => by
    obtain ⟨h1, h2⟩ := lay_ints r
    simp [PyData.canLayAll0, PyData.depthAll, PyData.canLay0, PyData.depth, h1, h2]
theorem shaped_tile (t : List Nat) : SeqAt.shaped (dT t) = true := by
  obtain ⟨h1, h2⟩ := lay_ints t
  simp [SeqAt.shaped, dT, PyData.canLay0, PyData.depth, h1, h2]
section
variable {P : Program} {w : World} {K : PySem.W.Frag} {mg : Str → Option Value} {base : Heap} {A : Ad}
theorem ok_Store_is_free (T : Txt K mg A) : FnOk P w K mg base CX0 1 A.f_Store_is_free A.fd_Store_is_free ["self", "place"] (sp_Store_is_free K A) := by
  refine T.F_Store_is_free.ok sc_Store_is_free (fun vs H Q E h => ?_) (fun cdv Ar outer s H vs Q E hr h => ?_)
  · obtain ⟨st, ta, ca, S, z, i, x, rfl, _⟩ := h
    rfl
  · obtain ⟨st, ta, ca, S, z, i, x, rfl, hz, sa, hx, q⟩ := h
    obtain ⟨dx, hi⟩ := sa.ins
    have hc := sa.cnt
    refine ⟨_, (pss_one (ps_ret (pe_cmpR op_eq (pe_ix ix_list (pe_fld (pv 0) rfl) (pv 1) (fun _ _ => rfl)) pe_int (nomark _)))), ?_⟩
    refine ⟨_, rfl, st, A.c_Store, dx, _, _, rfl, hi, T.cl_Store, T.no_Store_counts, sF_counts _ _, _, rfl, ca, _, _, _, rfl, rfl, SqL.of hc, at_nat hz (refs_get hx), rfl, ?_⟩
    have e : decide (V.int (x.refs : Int) = V.int 0) = decide (x.refs = 0) := decide_eq_decide.mpr ⟨fun z => by injection z with z; omega, fun z => by rw [z]; rfl⟩
    rw [← e] at q
    exact q
theorem ok_Store_first_free (T : Txt K mg A) : FnOk P w K mg base CX0 2 A.f_Store_first_free A.fd_Store_first_free ["self"] (sp_Store_first_free K A) := by
  refine T.F_Store_first_free.ok sc_Store_first_free (fun vs H Q E h => ?_) (fun cdv Ar outer s H vs Q E hr h => ?_)
  · obtain ⟨st, ta, ca, S, rfl, _⟩ := h
    rfl
  · obtain ⟨st, ta, ca, S, rfl, sa, hl, q⟩ := h
    obtain ⟨dx, hi⟩ := sa.ins
    have hc := sa.cnt
    refine ⟨_, (pss_cons (ps_for PassesOwn.never rfl (pi_range1 (by rfl) T.n_range (pa_cons (pe_callB call_len_seq (by rfl) T.n_len (by decide +kernel) (pa_cons (pe_fld (pv 0) rfl) pa_nil)) pa_nil)) (pg_name (i := 1) sc_Store_first_free.nd rfl (Or.inl rfl))
      (pss_one (ps_if (pt_val (pe_meth (pv 0) T.cl_Store T.m_Store_is_free (ok_Store_is_free T) (hr.mono (by decide)) T.b_Store_is_free .nil pass0 (pa_cons (pv 1) pa_nil))) (pss_one (ps_ret (pv 1))) pss_nil)))
      (pss_one (ps_ret (pe_callB call_len_seq (by rfl) T.n_len (by decide +kernel) (pa_cons (pe_fld (pv 0) rfl) pa_nil))))), ?_⟩
    refine ⟨_, rfl, st, A.c_Store, dx, _, _, rfl, hi, T.cl_Store, T.no_Store_counts, sF_counts _ _, ca, _, rfl, .inl (SqL.of hc), (S.length : Int), by rw [refs_len], by omega, by rw [line_eq] at hl; omega, ?_⟩
    refine for_range (lo := 0) (n := S.length) (fun i σ H' => H' = H ∧ (∃ v, σ = [some (.ref st), v]) ∧ ∀ (j : Nat) (y : Ie07.Slot), j < i → S[j]? = some y → y.refs ≠ 0) ⟨rfl, ⟨_, rfl⟩, fun j y hj => by omega⟩ ?_ ?_
    · rintro i σ H' hi' ⟨rfl, ⟨v, rfl⟩, inv⟩
      obtain ⟨x, hx⟩ := slot_at hi'
      refine ⟨_, rfl, st, dx, _, rfl, hi, sF_no (by decide +kernel) (by decide +kernel), _, rfl, st, ta, ca, S, _, i, x, rfl, by omega, sa, hx, _, rfl, ?_⟩
      refine ite2 (fun c => ?_) (fun c => ?_)
      · have c0 : x.refs = 0 := of_decide_eq_true c
        refine ⟨_, rfl, ?_⟩
        rw [free_some hx c0 inv] at q
        have e : (0 + (i : Int)) = (i : Int) := by omega
        rw [e]
        exact q
      · refine ⟨rfl, ⟨_, rfl⟩, fun j y hj e => ?_⟩
        by_cases z : j = i
        · subst z
          rw [hx] at e
          cases e
          intro z
          exact c (decide_eq_true z)
        · exact inv j y (by omega) e
    · rintro σ H' ⟨rfl, ⟨v, rfl⟩, inv⟩
      refine ⟨_, rfl, st, A.c_Store, dx, _, _, rfl, hi, T.cl_Store, T.no_Store_counts, sF_counts _ _, ca, _, rfl, .inl (SqL.of hc), ?_⟩
      rw [free_none inv] at q
      rw [refs_len]
      exact q
theorem ok_Store_place_for (T : Txt K mg A) : FnOk P w K mg base CX0 3 A.f_Store_place_for A.fd_Store_place_for ["self", "tile"] (sp_Store_place_for K A) := by
  refine T.F_Store_place_for.ok sc_Store_place_for (fun vs H Q E h => ?_) (fun cdv Ar outer s H vs Q E hr h => ?_)
  · obtain ⟨st, ta, ca, t, S, x, rfl, _⟩ := h
    rfl
  · obtain ⟨st, ta, ca, t, S, tx, rfl, sa, hl, ht, q⟩ := h
    obtain ⟨dx, hi⟩ := sa.ins
    obtain ⟨ts, htl, hlen, htt⟩ := sa.til
    have hc := sa.cnt
    refine ⟨_, (pss_cons (ps_for PassesOwn.never rfl (pi_range1 (by rfl) T.n_range (pa_cons (pe_callB call_len_seq (by rfl) T.n_len (by decide +kernel) (pa_cons (pe_fld (pv 0) rfl) pa_nil)) pa_nil)) (pg_name (i := 2) sc_Store_place_for.nd rfl (Or.inl rfl))
      (pss_one (ps_if (PW.pt (pw_and (pt_not (pt_val (pe_meth (pv 0) T.cl_Store T.m_Store_is_free (ok_Store_is_free T) (hr.mono (by decide)) T.b_Store_is_free .nil pass0 (pa_cons (pv 2) pa_nil)))) (pw_and1 (pt_cmpR (op_eqD hr.units) (pe_ix ix_list (pe_fld (pv 0) rfl) (pv 2) (fun _ _ => rfl)) (pv 1) (nomark _))))) (pss_one (ps_ret (pv 2))) pss_nil)))
      (pss_one (ps_ret (pe_meth0 (pv 0) T.cl_Store T.m_Store_first_free (ok_Store_first_free T) (hr.mono (by decide)) T.b_Store_first_free .nil pass0)))), ?_⟩
    refine ⟨_, rfl, st, A.c_Store, dx, _, _, rfl, hi, T.cl_Store, T.no_Store_tiles, sF_tiles _ _, ta, _, rfl, .inl (SqL.of htl), (S.length : Int), by rw [List.length_map, hlen], by omega, by rw [line_eq] at hl; omega, ?_⟩
    refine for_range (lo := 0) (n := S.length) (fun i σ H' => H' = H ∧ (∃ v, σ = [some (.ref st), some (.ref t), v]) ∧ ∀ (j : Nat) (y : Ie07.Slot), j < i → S[j]? = some y → ¬ (0 < y.refs ∧ y.tile = tx)) ⟨rfl, ⟨_, rfl⟩, fun j y hj => by omega⟩ ?_ ?_
    · rintro i σ H' hi' ⟨rfl, ⟨v, rfl⟩, inv⟩
      obtain ⟨x, hx⟩ := slot_at hi'
      obtain ⟨a, ha⟩ : ∃ a, ts[i]? = some a := ⟨ts[i], List.getElem?_eq_getElem (by omega)⟩
      have e0 : (0 + (i : Int)) = (i : Int) := by omega
      have next : ¬ (0 < x.refs ∧ x.tile = tx) → ∀ (j : Nat) (y : Ie07.Slot), j < i + 1 → S[j]? = some y → ¬ (0 < y.refs ∧ y.tile = tx) := fun nx j y hj e => by
        by_cases z : j = i
        · subst z
          rw [hx] at e
          cases e
          exact nx
        · exact inv j y (by omega) e
      refine ⟨_, rfl, st, dx, _, rfl, hi, sF_no (by decide +kernel) (by decide +kernel), _, rfl, st, ta, ca, S, _, i, x, rfl, by omega, sa, hx, _, rfl, ?_⟩
      by_cases c : 0 < x.refs
      · have c0 := c
        refine if_true_of (by simp; omega) ?_
        refine ⟨_, rfl, st, A.c_Store, dx, _, _, rfl, hi, T.cl_Store, T.no_Store_tiles, sF_tiles _ _, _, rfl, ta, _, _, _, rfl, rfl, SqL.of htl, at_nat (by omega) (refs_some ha), _, rfl, dT x.tile, dT tx, .tup ((htt i a x ha hx c0).sq T) (dp_ints _), .tup (ht.sq T) (dp_ints _), shaped_tile _, shaped_tile _, _, rfl, ?_⟩
        rw [eqv_tile]
        refine ite2 (fun c1 => ?_) (fun c1 => ?_)
        · refine ⟨_, rfl, ?_⟩
          have e1 : placeOf S tx = i := by
            unfold placeOf
            rw [tile_some hx c0 (of_decide_eq_true c1) inv]
            rfl
          rw [e1] at q
          rw [e0]
          exact q
        · exact ⟨rfl, ⟨_, rfl⟩, next fun z => c1 (decide_eq_true z.2)⟩
      · refine if_false_of (by simp; omega) ?_
        refine if_false_of rfl ?_
        exact ⟨rfl, ⟨_, rfl⟩, next fun z => c z.1⟩
    · rintro σ H' ⟨rfl, ⟨v, rfl⟩, inv⟩
      refine ⟨_, rfl, st, dx, _, rfl, hi, sF_no (by decide +kernel) (by decide +kernel), st, ta, ca, S, rfl, sa, hl, ?_⟩
      have e1 : placeOf S tx = (Ie07.firstFree S).getD S.length := by
        unfold placeOf
        rw [tile_none inv]
        rfl
      rw [e1] at q
      exact q
end
end TS
namespace TS
open PySem PySem.Spec PyProof.Rows L2
theorem map_set' {α β : Type} (f : α → β) (l : List α) (i : Nat) (x : α) : (l.set i x).map f = (l.map f).set i (f x) := List.map_set
theorem vi_set (l : List Nat) (i n : Nat) : vi (l.set i n) = (vi l).set i (V.int (n : Int)) := List.map_set
/-- one count is another -/
theorem StoreAt.recount {A : Ad} {H : Hp} {st ta ca : Addr} {S : Ie07.Store} (sa : StoreAt A H st ta ca S) {i : Nat} {y z : Ie07.Slot} (h : S[i]? = some y) (hz : 0 < z.refs → z.tile = y.tile ∧ 0 < y.refs) {v : V} (ev : v = .int (z.refs : Int)) :
    StoreAt A (upd H ca (.lst ((vi (S.map fun (x : Ie07.Slot) => x.refs)).set i v))) st ta ca (S.set i z) := by
  obtain ⟨dx, hi⟩ := sa.ins
  obtain ⟨ts, htl, hlen, htt⟩ := sa.til
  obtain ⟨nst, nsc⟩ := sa.neS
  have hc := sa.cnt
  have tup : ∀ b xs, H b = some (.tup xs) → upd H ca (.lst ((vi (S.map fun (x : Ie07.Slot) => x.refs)).set i v)) b = some (.tup xs) := fun b xs e => by
    rw [upd_ne (ne_of e hc (by intro z; cases z))]
    exact e
  refine ⟨⟨dx, (upd_ne nsc).trans hi⟩, sa.ne, ⟨ts, (upd_ne sa.ne).trans htl, by rw [List.length_set]; exact hlen, fun j a x e1 e2 e3 => ?_⟩, ?_⟩
  · refine TileAt.mono ?_ tup
    obtain ⟨hl, _⟩ := List.getElem?_eq_some_iff.mp h
    by_cases e : j = i
    · subst e
      rw [List.getElem?_set_self hl] at e2
      cases e2
      obtain ⟨q1, q2⟩ := hz e3
      rw [q1]
      exact htt j a y e1 h q2
    · rw [List.getElem?_set_ne (fun q => e q.symm)] at e2
      exact htt j a x e1 e2 e3
  · rw [upd_same, map_set', vi_set, ev]
theorem take_more {α : Type} {l : List α} {i : Nat} {x : α} (h : l[i]? = some x) : l.take (i + 1) = l.take i ++ [x] := by
  rw [List.take_add_one, h]; rfl
section
variable {P : Program} {w : World} {K : PySem.W.Frag} {mg : Str → Option Value} {base : Heap} {A : Ad}
theorem ok_Store_keep (T : Txt K mg A) : FnOk P w K mg base CX0 4 A.f_Store_keep A.fd_Store_keep ["self", "tile"] (sp_Store_keep K A) := by
  refine T.F_Store_keep.ok sc_Store_keep (fun vs H Q E h => ?_) (fun cdv Ar outer s H vs Q E hr h => ?_)
  · obtain ⟨st, ta, ca, t, S, x, rfl, _⟩ := h
    rfl
  · obtain ⟨st, ta, ca, t, S, tx, rfl, sa, hl, ht, q⟩ := h
    obtain ⟨dx, hi⟩ := sa.ins
    obtain ⟨ts, htl, hlen, htt⟩ := sa.til
    obtain ⟨nst, nsc⟩ := sa.neS
    have ntc := sa.ne
    have hc := sa.cnt
    refine ⟨_, (pss_cons (ps_set (i := 2) sc_Store_keep.nd rfl (Or.inl rfl) (pe_meth (pv 0) T.cl_Store T.m_Store_place_for (ok_Store_place_for T) (hr.mono (by decide)) T.b_Store_place_for .nil pass0 (pa_cons (pv 1) pa_nil)))
      (C8.pss_cut (ps_if (pt_cmpR op_eq (pv 2) (pe_callB call_len_seq (by rfl) T.n_len (by decide +kernel) (pa_cons (pe_fld (pv 0) rfl) pa_nil)) (nomark _)) (pss_cons (ps_expr (pe_bm PySem.F.plainAttrs_list PySem.F.slot_list_append PySem.F.type_list_append mt_append (pe_fld (pv 0) rfl) (pa_cons (pv 1) pa_nil)))
      (pss_one (ps_expr (pe_bm PySem.F.plainAttrs_list PySem.F.slot_list_append PySem.F.type_list_append mt_append (pe_fld (pv 0) rfl) (pa_cons pe_int pa_nil))))) pss_nil)
      (pss_cons (ps_asg (pv 1) (pg_sub (pe_fld (pv 0) rfl) (pv 2) set_list))
      (pss_cons (ps_augS (pe_fld (pv 0) rfl) (pv 2) get_list pe_int ip_add set_list)
      (pss_one (ps_ret (pv 2))))))), ?_⟩
    refine ⟨_, rfl, st, dx, _, rfl, hi, sF_no (by decide +kernel) (by decide +kernel), _, rfl, st, ta, ca, t, S, tx, rfl, sa, hl, ht, ?_⟩
    -- behind the if: a place in both lists, the tile there of no matter
    refine ⟨fun σ' H' => σ' = [some (.ref st), some (.ref t), some (.int ((placeOf S tx : Nat) : Int))] ∧ ∃ (ts1 : List Addr) (S1 : Ie07.Store) (y : Ie07.Slot),
      H' st = some (.ins A.c_Store dx (storeF ta ca)) ∧ H' ta = some (.lst (ts1.map .ref)) ∧ H' ca = some (.lst (vi (S1.map fun (x : Ie07.Slot) => x.refs))) ∧ ts1.length = S1.length ∧ S1[placeOf S tx]? = some y ∧
      (∀ (i : Nat) (a : Addr) (x : Ie07.Slot), i ≠ placeOf S tx → ts1[i]? = some a → S1[i]? = some x → 0 < x.refs → TileAt A H a x.tile) ∧ Kp ta ca H H' ∧ S1.set (placeOf S tx) ⟨tx, y.refs + 1⟩ = (Ie07.keep S tx).1 ∧ (Ie07.keep S tx).2 = placeOf S tx, ?_, ?_⟩
    · refine ⟨_, rfl, _, rfl, st, A.c_Store, dx, _, _, rfl, hi, T.cl_Store, T.no_Store_tiles, sF_tiles _ _, ta, _, rfl, .inl (SqL.of htl), rfl, _, rfl, ?_⟩
      rw [List.length_map, hlen]
      refine ite2 (fun c => ?_) (fun c => ?_)
      · have e : placeOf S tx = S.length := by
          have := of_decide_eq_true c
          injection this with this
          omega
        refine ⟨_, rfl, st, A.c_Store, dx, _, _, rfl, hi, T.cl_Store, T.no_Store_tiles, sF_tiles _ _, .inl ⟨rfl, _, SqL.of htl⟩, _, rfl, ta, _, _, rfl, rfl, htl, by rw [List.length_map, hlen]; exact hl, ?_⟩
        refine ⟨_, rfl, st, A.c_Store, dx, _, _, rfl, (upd_ne nst).trans hi, T.cl_Store, T.no_Store_counts, sF_counts _ _, .inl ⟨rfl, _, SqL.of ((upd_ne ntc.symm).trans hc)⟩, ca, _, _, rfl, rfl, (upd_ne ntc.symm).trans hc, by rw [refs_len]; exact hl, ?_⟩
        refine ⟨rfl, ts ++ [t], S ++ [⟨tx, 0⟩], ⟨tx, 0⟩, ?_, ?_, ?_, ?_, ?_, ?_, ?_, ?_, ?_⟩
        · rw [upd_ne nsc, upd_ne nst]; exact hi
        · rw [upd_ne ntc, upd_same]; simp
        · rw [upd_same]; simp
        · simp [hlen]
        · rw [e]; simp
        · intro i a x ni e1 e2 e3
          have hil : i < S.length := by
            have := (List.getElem?_eq_some_iff.mp e2).1
            simp at this
            omega
          rw [List.getElem?_append_left (by omega)] at e1
          rw [List.getElem?_append_left hil] at e2
          exact htt i a x e1 e2 e3
        · intro b o e1 n1 n2
          rw [upd_ne n2, upd_ne n1]
          exact e1
        · rcases keep_cases S tx with ⟨i, y, h1, _, h2, h3⟩ | ⟨h1, h2⟩
          · have := (List.getElem?_eq_some_iff.mp h1).1
            omega
          · rw [h2, e]
            simp
        · rcases keep_cases S tx with ⟨i, y, h1, _, h2, h3⟩ | ⟨h1, h2⟩
          · have := (List.getElem?_eq_some_iff.mp h1).1
            omega
          · rw [h2, e]
      · have e : placeOf S tx ≠ S.length := fun z => c (decide_eq_true (by rw [z]))
        rcases keep_cases S tx with ⟨i, y, h1, _, h2, h3⟩ | ⟨h1, h2⟩
        · refine ⟨rfl, ts, S, y, hi, htl, hc, hlen, by rw [h2]; exact h1, fun i a x _ e1 e2 e3 => htt i a x e1 e2 e3, Kp.refl _ _ _, ?_, ?_⟩
          · rw [h3, h2]
          · rw [h3, h2]
        · exact absurd h1 e
    · rintro σ' H1 ⟨rfl, ts1, S1, y, g1, g2, g3, g4, g5, g6, g7, g8, g9⟩
      have hpl : placeOf S tx < S1.length := (List.getElem?_eq_some_iff.mp g5).1
      refine ⟨_, rfl, _, rfl, st, A.c_Store, dx, _, _, rfl, g1, T.cl_Store, T.no_Store_tiles, sF_tiles _ _, _, rfl, ta, _, _, _, rfl, rfl, g2, ixN_nat (by rw [List.length_map]; omega), ?_⟩
      refine ⟨_, rfl, st, A.c_Store, dx, _, _, rfl, (upd_ne nst).trans g1, T.cl_Store, T.no_Store_counts, sF_counts _ _, _, rfl, ca, _, _, _, rfl, rfl, SqL.of ((upd_ne ntc.symm).trans g3), refs_get g5, _, _, rfl, rfl, ca, _, _, _, rfl, rfl, (upd_ne ntc.symm).trans g3, ixN_nat (by rw [refs_len]; exact hpl), ?_⟩
      refine ⟨_, rfl, ?_⟩
      simp only [g9] at q
      have tup : ∀ b xs, H b = some (.tup xs) → upd (upd H1 ta (.lst ((ts1.map V.ref).set (placeOf S tx) (.ref t)))) ca (.lst ((vi (S1.map fun (x : Ie07.Slot) => x.refs)).set (placeOf S tx) (.int ((y.refs : Int) + 1)))) b = some (.tup xs) := fun b xs e => by
        have n1 : b ≠ ta := ne_of e htl (by intro z; cases z)
        have n2 : b ≠ ca := ne_of e hc (by intro z; cases z)
        rw [upd_ne n2, upd_ne n1]
        exact g7 b _ e n1 n2
      refine q _ ⟨⟨dx, ?_⟩, ntc, ⟨ts1.set (placeOf S tx) t, ?_, ?_, ?_⟩, ?_⟩ fun b o e n1 n2 => ?_
      · rw [upd_ne nsc, upd_ne nst]; exact g1
      · rw [upd_ne ntc, upd_same, map_set']
      · rw [← g8]; simp [g4]
      · intro i a x e1 e2 e3
        refine TileAt.mono ?_ tup
        rw [← g8] at e2
        by_cases z : i = placeOf S tx
        · subst z
          rw [List.getElem?_set_self (by omega)] at e1 e2
          cases e1
          cases e2
          exact ht
        · rw [List.getElem?_set_ne (fun q => z q.symm)] at e1 e2
          exact g6 i a x z e1 e2 e3
      · rw [upd_same, ← g8, map_set', vi_set]
        rfl
      · rw [upd_ne n2, upd_ne n1]
        exact g7 b o e n1 n2
theorem ok_Store_keep_each (T : Txt K mg A) : FnOk P w K mg base CX0 5 A.f_Store_keep_each A.fd_Store_keep_each ["self", "tiles"] (sp_Store_keep_each K A) := by
  refine T.F_Store_keep_each.ok sc_Store_keep_each (fun vs H Q E h => ?_) (fun cdv Ar outer s H vs Q E hr h => ?_)
  · obtain ⟨st, ta, ca, l, S, as, ts, rfl, _⟩ := h
    rfl
  · obtain ⟨st, ta, ca, l, S, as, ts, rfl, sa, hsz, hl, nlt, nlc, hlen, htt, q⟩ := h
    obtain ⟨ts0, htl0, _⟩ := sa.til
    refine ⟨_, (pss_cons (ps_set (i := 2) sc_Store_keep_each.nd rfl (Or.inl rfl) (pe_lst pa_nil))
      (pss_cons (ps_for PassesOwn.never rfl (pi_list (pv 1)) (pg_name (i := 3) sc_Store_keep_each.nd rfl (Or.inl rfl))
      (pss_one (ps_expr (pe_bm PySem.F.plainAttrs_list PySem.F.slot_list_append PySem.F.type_list_append mt_append (pv 2) (pa_cons (pe_meth (pv 0) T.cl_Store T.m_Store_keep (ok_Store_keep T) (hr.mono (by decide)) T.b_Store_keep .nil pass0 (pa_cons (pv 3) pa_nil)) pa_nil)))))
      (pss_one (ps_ret (pv 2))))), ?_⟩
    refine ⟨Nat.zero_le _, fun p hp => ?_⟩
    have npl : l ≠ p := ne_of_none hl hp
    have npt : p ≠ ta := (ne_of_none htl0 hp).symm
    have npc : p ≠ ca := (ne_of_none sa.cnt hp).symm
    have s0 : Same H (upd H p (HO.lst [])) := fun b o e => (upd_ne (ne_of_none e hp)).trans e
    refine ⟨_, rfl, l, rfl, ⟨_, SqL.of (s0 _ _ hl)⟩, for_list (K := K) (a := l) (xs := as.map V.ref) (fun i σ H' => (∃ v, σ = [some (.ref st), some (.ref l), some (.ref p), v]) ∧ StoreAt A H' st ta ca (Ie07.keepAll S (ts.take i)).1 ∧ Kp ta ca H H' ∧ H' p = some (.lst (vi (Ie07.keepAll S (ts.take i)).2)))
      ⟨⟨_, rfl⟩, sa.same s0, Same.kp s0, upd_same⟩ (fun i σ H' _ ⟨_, _, k, _⟩ => SqL.of (k _ _ hl nlt nlc)) ?_ ?_⟩
    · rintro i y σ H' hi ⟨⟨v, rfl⟩, s1, k1, hp1⟩
      obtain ⟨a, ha, rfl⟩ := refs_of hi
      have hia : i < as.length := (List.getElem?_eq_some_iff.mp ha).1
      obtain ⟨x, hx⟩ : ∃ x, ts[i]? = some x := ⟨ts[i], List.getElem?_eq_getElem (by omega)⟩
      obtain ⟨dx, hi1⟩ := s1.ins
      have hK := keepAll_len (ts.take i) S
      have hti : (ts.take i).length ≤ ts.length := by simp; omega
      refine ⟨_, rfl, .inl ⟨rfl, _, SqL.of hp1⟩, _, rfl, st, dx, _, rfl, hi1, sF_no (by decide +kernel) (by decide +kernel), _, rfl, st, ta, ca, a, _, x, rfl, s1, by rw [line_eq]; omega, (htt i a x ha hx).mono (sa.tups k1), fun H2 s2 k2 => ?_⟩
      refine ⟨p, _, _, rfl, rfl, k2 _ _ hp1 npt npc, by rw [line_eq]; simp only [List.length_map]; omega, ?_⟩
      have e1 := keepAll_snoc (ts.take i) S x
      rw [← take_more hx] at e1
      rw [e1]
      have ntp : ta ≠ p := npt.symm
      refine ⟨⟨_, rfl⟩, ?_, fun b o e n1 n2 => ?_, ?_⟩
      · obtain ⟨dx2, g1⟩ := s2.ins
        obtain ⟨ts2, g2, g3, g4⟩ := s2.til
        have hp2 := k2 _ _ hp1 npt npc
        have nsp : st ≠ p := ne_of g1 hp2 (by intro z; cases z)
        refine ⟨⟨dx2, (upd_ne nsp).trans g1⟩, s2.ne, ⟨ts2, (upd_ne ntp).trans g2, g3, fun j a x e1 e2 e3 => (g4 j a x e1 e2 e3).mono fun b xs e => (upd_ne (ne_of e hp2 (by intro z; cases z))).trans e⟩, (upd_ne npc.symm).trans s2.cnt⟩
      · rw [upd_ne (ne_of_none e hp)]
        exact k2 _ _ (k1 _ _ e n1 n2) n1 n2
      · rw [upd_same]; simp
    · rintro σ H' ⟨⟨v, rfl⟩, s1, k1, hp1⟩
      rw [List.length_map, hlen, List.take_length] at s1 hp1
      exact ⟨_, rfl, q _ p s1 k1 hp hp1⟩
theorem ok_Store_point_again (T : Txt K mg A) : FnOk P w K mg base CX0 1 A.f_Store_point_again A.fd_Store_point_again ["self", "places"] (sp_Store_point_again K A) := by
  refine T.F_Store_point_again.ok sc_Store_point_again (fun vs H Q E h => ?_) (fun cdv Ar outer s H vs Q E hr h => ?_)
  · obtain ⟨st, ta, ca, l, S, ps, rfl, _⟩ := h
    rfl
  · obtain ⟨st, ta, ca, l, S, ps, rfl, sa, hl, nlc, hps, q⟩ := h
    refine ⟨_, (pss_one (ps_for PassesOwn.never rfl (pi_list (pv 1)) (pg_name (i := 2) sc_Store_point_again.nd rfl (Or.inl rfl))
      (pss_one (ps_augS (pe_fld (pv 0) rfl) (pv 2) get_list pe_int ip_add set_list)))), ?_⟩
    refine ⟨_, rfl, l, rfl, ⟨_, SqL.of hl⟩, for_list (K := K) (a := l) (xs := vi ps) (fun i σ H' => (∃ v, σ = [some (.ref st), some (.ref l), v]) ∧ StoreAt A H' st ta ca (Ie07.moreAll S (ps.take i)) ∧ ∀ b o, H b = some o → b ≠ ca → H' b = some o)
      ⟨⟨_, rfl⟩, sa, fun b o e _ => e⟩ (fun i σ H' _ ⟨_, _, k⟩ => SqL.of (k _ _ hl nlc)) ?_ ?_⟩
    · rintro i y σ H' hi ⟨⟨v, rfl⟩, s1, k1⟩
      obtain ⟨j, hj, rfl⟩ := vi_of hi
      obtain ⟨dx, hi1⟩ := s1.ins
      obtain ⟨x, hx, hx0⟩ := refsAt_pos (hps j (List.mem_of_getElem? hj))
      have hx1 := moreAll_get (ps.take i) S j
      rw [hx] at hx1
      have hlt := (List.getElem?_eq_some_iff.mp hx1).1
      refine ⟨_, rfl, st, A.c_Store, dx, _, _, rfl, hi1, T.cl_Store, T.no_Store_counts, sF_counts _ _, _, rfl, ca, _, _, _, rfl, rfl, SqL.of s1.cnt, refs_get hx1, _, _, rfl, rfl, ca, _, _, _, rfl, rfl, s1.cnt, ixN_nat (by rw [refs_len]; exact hlt), ?_⟩
      rw [take_more hj, moreAll_snoc]
      refine ⟨⟨_, rfl⟩, ?_, fun b o e n => (upd_ne n).trans (k1 b o e n)⟩
      unfold Ie07.more
      rw [mod_set hx1]
      refine s1.recount hx1 ?_ ?_
      · exact fun _ => ⟨rfl, Nat.lt_of_lt_of_le hx0 (Nat.le_add_right _ _)⟩
      · rfl
    · rintro σ H' ⟨⟨v, rfl⟩, s1, k1⟩
      rw [List.length_map, List.take_length] at s1
      exact q _ s1 fun b o e _ n => k1 b o e n
theorem ok_Store_let_go_each (T : Txt K mg A) : FnOk P w K mg base CX0 1 A.f_Store_let_go_each A.fd_Store_let_go_each ["self", "places"] (sp_Store_let_go_each K A) := by
  refine T.F_Store_let_go_each.ok sc_Store_let_go_each (fun vs H Q E h => ?_) (fun cdv Ar outer s H vs Q E hr h => ?_)
  · obtain ⟨st, ta, ca, l, S, ps, rfl, _⟩ := h
    rfl
  · obtain ⟨st, ta, ca, l, S, ps, rfl, sa, hl, nlc, hps, q⟩ := h
    refine ⟨_, (pss_one (ps_for PassesOwn.never rfl (pi_list (pv 1)) (pg_name (i := 2) sc_Store_let_go_each.nd rfl (Or.inl rfl))
      (pss_one (ps_augS (pe_fld (pv 0) rfl) (pv 2) get_list pe_int ip_sub set_list)))), ?_⟩
    refine ⟨_, rfl, l, rfl, ⟨_, SqL.of hl⟩, for_list (K := K) (a := l) (xs := vi ps) (fun i σ H' => (∃ v, σ = [some (.ref st), some (.ref l), v]) ∧ StoreAt A H' st ta ca (Ie07.lessAll S (ps.take i)) ∧ ∀ b o, H b = some o → b ≠ ca → H' b = some o)
      ⟨⟨_, rfl⟩, sa, fun b o e _ => e⟩ (fun i σ H' _ ⟨_, _, k⟩ => SqL.of (k _ _ hl nlc)) ?_ ?_⟩
    · rintro i y σ H' hi ⟨⟨v, rfl⟩, s1, k1⟩
      obtain ⟨j, hj, rfl⟩ := vi_of hi
      obtain ⟨dx, hi1⟩ := s1.ins
      have hcnt : (ps.take i).count j + 1 ≤ refsAt S j := by
        have h1 : (ps.take (i + 1)).count j ≤ ps.count j := (List.take_sublist _ _).count_le _
        have h2 := hps j
        rw [take_more hj, List.count_append] at h1
        simp at h1
        omega
      have hr1 : 0 < refsAt (Ie07.lessAll S (ps.take i)) j := by rw [lessAll_refs]; omega
      obtain ⟨x, hx1, hx0⟩ := refsAt_pos hr1
      have hlt := (List.getElem?_eq_some_iff.mp hx1).1
      refine ⟨_, rfl, st, A.c_Store, dx, _, _, rfl, hi1, T.cl_Store, T.no_Store_counts, sF_counts _ _, _, rfl, ca, _, _, _, rfl, rfl, SqL.of s1.cnt, refs_get hx1, _, _, rfl, rfl, ca, _, _, _, rfl, rfl, s1.cnt, ixN_nat (by rw [refs_len]; exact hlt), ?_⟩
      rw [take_more hj, lessAll_snoc]
      refine ⟨⟨_, rfl⟩, ?_, fun b o e n => (upd_ne n).trans (k1 b o e n)⟩
      unfold Ie07.less
      rw [mod_set hx1]
      by_cases c : x.refs ≤ 1
      · rw [if_pos c]
        refine s1.recount hx1 (fun z => absurd z (Nat.lt_irrefl 0)) ?_
        have : x.refs = 1 := by omega
        rw [this]; rfl
      · rw [if_neg c]
        refine s1.recount hx1 ?_ ?_
        · exact fun z => ⟨rfl, hx0⟩
        show V.int ((x.refs : Int) - 1) = V.int ((x.refs - 1 : Nat) : Int)
        congr 1
        omega
    · rintro σ H' ⟨⟨v, rfl⟩, s1, k1⟩
      rw [List.length_map, List.take_length] at s1
      exact q _ s1 fun b o e _ n => k1 b o e n
end
end TS
namespace TS
open PySem PySem.Spec PyProof.Rows L2
theorem use_len (S : Ie07.Store) : ((S.map fun (x : Ie07.Slot) => x.refs).filter fun n => decide (0 < n)).length = Ie07.inUse S := by
  unfold Ie07.inUse
  rw [List.filter_map, List.length_map]
  rfl
theorem foldl_sum : ∀ (l : List Nat) (a : Nat), ((l.foldl (fun a b => a + b) a : Nat) : Int) = (a : Int) + (l.map fun (n : Nat) => (n : Int)).sum
  | [], a => by simp
  | x :: l, a => by
    have := foldl_sum l (a + x)
    simp only [List.foldl_cons, List.map_cons, List.sum_cons]
    rw [this]
    omega
section
variable {P : Program} {w : World} {K : PySem.W.Frag} {mg : Str → Option Value} {base : Heap} {A : Ad}
theorem ok_Store_in_use (T : Txt K mg A) : FnOk P w K mg base CX0 1 A.f_Store_in_use A.fd_Store_in_use ["self"] (sp_Store_in_use K A) := by
  refine T.F_Store_in_use.ok sc_Store_in_use (fun vs H Q E h => ?_) (fun cdv Ar outer s H vs Q E hr h => ?_)
  · obtain ⟨st, ta, ca, S, rfl, _⟩ := h
    rfl
  · obtain ⟨st, ta, ca, S, rfl, sa, hl, q⟩ := h
    obtain ⟨dx, hi⟩ := sa.ins
    have hc := sa.cnt
    refine ⟨_, (pss_one (ps_ret (pe_callB call_len_seq (by rfl) T.n_len (by decide +kernel) (pa_cons (pe_lc (own := [("count", 1)]) (g := gName 1) (te := (tVar 1)) (tt := tTest (tOp (rI0 fun i j => .bl (decide (j < i))) (tVar 1) (tC (.int 0)))) (by rfl) sc_Store_in_use.nd (pi_list (pe_fld (pv 0) rfl)) (blkOk_by (own := [("count", 1)]) (N := n_Store_in_use) (sc := defScope s_Store_in_use) (by decide +kernel)) (fun _ _ _ _ _ => pg_name (i := 1) sc_Store_in_use.nd rfl (Or.inl rfl)) (fun _ _ _ _ _ => by exact (pts_one (pt_cmpR op_gt (pv 1) pe_int (nomark _)))) (fun _ _ _ _ _ => by exact (pv 1))) pa_nil)))), ?_⟩
    refine ⟨_, rfl, st, A.c_Store, dx, _, _, rfl, hi, T.cl_Store, T.no_Store_counts, sF_counts _ _, ca, rfl, ⟨_, SqL.of hc⟩, fun D hD => ?_⟩
    have ncD : ca ≠ D := ne_of_none hc hD
    refine lc_list (K := K) (a := ca) (xs := vi (S.map fun (x : Ie07.Slot) => x.refs)) (fun i H' => Same H H' ∧ H' D = some (.lst (vi (((S.map fun (x : Ie07.Slot) => x.refs).take i).filter fun n => decide (0 < n)))))
      ⟨fun b o e => (upd_ne (ne_of_none e hD)).trans e, upd_same⟩ (fun i H' _ ⟨k, _⟩ => SqL.of (k _ _ hc)) ?_ ?_
    · rintro i y H' hi' ⟨k, hd⟩
      obtain ⟨n, hn, rfl⟩ := vi_of hi'
      refine ⟨rfl, _, rfl, _, _, rfl, rfl, _, rfl, ?_⟩
      have et := take_more hn
      rw [et, List.filter_append]
      refine ite2 (fun c => ?_) (fun c => ?_)
      · have c0 : 0 < n := by have := of_decide_eq_true c; omega
        refine ⟨_, rfl, _, hd, ?_, fun b o e => (upd_ne (ne_of_none e hD)).trans (k b o e), ?_⟩
        · rw [List.length_map]
          have h1 := List.length_filter_le (fun n => decide (0 < n)) ((S.map fun (x : Ie07.Slot) => x.refs).take i)
          have h2 : ((S.map fun (x : Ie07.Slot) => x.refs).take i).length ≤ S.length := by simp; omega
          omega
        · rw [upd_same]; simp [c0]
      · have c0 : ¬ 0 < n := fun z => c (decide_eq_true (by omega))
        refine ⟨k, ?_⟩
        rw [hd]; simp [c0]
    · rintro H' ⟨k, hd⟩
      rw [List.length_map, List.take_length] at hd
      refine ⟨D, _, rfl, .inl (SqL.of hd), ?_⟩
      rw [List.length_map, use_len]
      exact q H' k
theorem ok_Store_how_it_stands (T : Txt K mg A) : FnOk P w K mg base CX0 2 A.f_Store_how_it_stands A.fd_Store_how_it_stands ["self"] (sp_Store_how_it_stands K A) := by
  refine T.F_Store_how_it_stands.ok sc_Store_how_it_stands (fun vs H Q E h => ?_) (fun cdv Ar outer s H vs Q E hr h => ?_)
  · obtain ⟨st, ta, ca, S, rfl, _⟩ := h
    rfl
  · obtain ⟨st, ta, ca, S, rfl, sa, hl, q⟩ := h
    obtain ⟨dx, hi⟩ := sa.ins
    have hc := sa.cnt
    refine ⟨_, (pss_one (ps_ret (pe_lst (pa_cons (pe_meth0 (pv 0) T.cl_Store T.m_Store_in_use (ok_Store_in_use T) (hr.mono (by decide)) T.b_Store_in_use .nil pass0) (pa_cons (pe_callB (cr_sum rfl) (by rfl) T.n_sum (by decide +kernel) (pa_cons (pe_fld (pv 0) rfl) pa_nil)) pa_nil))))), ?_⟩
    refine ⟨_, rfl, st, dx, _, rfl, hi, sF_no (by decide +kernel) (by decide +kernel), st, ta, ca, S, rfl, sa, hl, fun H1 k1 => ?_⟩
    refine ⟨_, rfl, st, A.c_Store, dx, _, _, rfl, k1 _ _ hi, T.cl_Store, T.no_Store_counts, sF_counts _ _, ca, S.map fun (x : Ie07.Slot) => (x.refs : Int), rfl, ?_, (by show 2 ≤ sizeLine; decide), fun p hp => ?_⟩
    · have := k1 _ _ hc
      refine SqL.of ?_
      rw [this]
      show some (HO.lst (List.map _ (List.map _ S))) = _
      rw [List.map_map, List.map_map]
      rfl
    · refine q _ p (fun b o e => (upd_ne (ne_of_none (k1 _ _ e) hp)).trans (k1 _ _ e)) (k1.free hp) ?_
      rw [upd_same]
      have e : (S.map fun (x : Ie07.Slot) => (x.refs : Int)).sum = ((Ie07.pointed S : Nat) : Int) := by
        unfold Ie07.pointed
        rw [foldl_sum, List.map_map]
        simp [Function.comp_def]
      rw [e]
      rfl
end
end TS
namespace TS
open PySem PySem.Spec PyProof.Rows L2
theorem vi_append (a b : List Nat) : vi (a ++ b) = vi a ++ vi b := List.map_append
theorem cutV_nat (xs : List V) (a b : Nat) : cutV xs (some (a : Int)) (some (b : Int)) = (xs.drop a).take (b - a) := by
  unfold cutV
  rw [HT.sIx_nat, HT.sIx_nat]
  apply List.ext_getElem?
  intro i
  rw [List.getElem?_take, List.getElem?_take, List.getElem?_drop, List.getElem?_drop]
  by_cases h1 : i < b - a
  · rw [if_pos h1]
    by_cases h2 : a + i < xs.length
    · rw [if_pos (by omega), show min a xs.length = a by omega]
    · have e : xs[a + i]? = none := List.getElem?_eq_none_iff.mpr (by omega)
      rw [e]
      split
      · exact List.getElem?_eq_none_iff.mpr (by omega)
      · rfl
  · rw [if_neg h1]
    split
    · exact List.getElem?_eq_none_iff.mpr (by omega)
    · rfl
theorem cutV_from (xs : List V) (a : Nat) : cutV xs (some (a : Int)) none = xs.drop a := by
  unfold cutV
  rw [HT.sIx_nat, HT.sIx_none]
  apply List.ext_getElem?
  intro i
  rw [List.getElem?_take, List.getElem?_drop, List.getElem?_drop]
  by_cases h2 : a + i < xs.length
  · rw [if_pos (by omega), show min a xs.length = a by omega]
  · have e : xs[a + i]? = none := List.getElem?_eq_none_iff.mpr (by omega)
    rw [e]
    split
    · exact List.getElem?_eq_none_iff.mpr (by omega)
    · rfl
theorem cutV_to (xs : List V) (b : Nat) : cutV xs none (some (b : Int)) = xs.take b := by
  unfold cutV
  rw [HT.sIx_nat, HT.sIx_none, List.drop_zero, Nat.sub_zero, Nat.min_comm, List.take_eq_take_iff]
  omega
theorem vi_drop (l : List Nat) (a : Nat) : (vi l).drop a = vi (l.drop a) := List.map_drop.symm
theorem vi_take (l : List Nat) (a : Nat) : (vi l).take a = vi (l.take a) := List.map_take.symm
/-! cells in rows, in the heap -/
abbrev rowN (w : Nat) (f : Nat → Nat → Nat) (y : Nat) : List Nat := (List.range w).map fun x => f x y
structure GridAt (H0 H : Hp) (g : Addr) (w h : Nat) (f : Nat → Nat → Nat) : Prop where
  same : Same H0 H
  new : H0 g = none
  ex : ∃ rs : List Addr, H g = some (.lst (rs.map .ref)) ∧ rs.length = h ∧ rs.Nodup ∧ g ∉ rs ∧ (∀ r ∈ rs, H0 r = none) ∧ ∀ (y : Nat) (r : Addr), rs[y]? = some r → H r = some (.lst (vi (rowN w f y)))
def GridRd (H : Hp) (g : Addr) (w h : Nat) (f : Nat → Nat → Nat) : Prop := ∃ rs : List Addr, H g = some (.lst (rs.map .ref)) ∧ rs.length = h ∧ ∀ (y : Nat) (r : Addr), rs[y]? = some r → H r = some (.lst (vi (rowN w f y)))
theorem GridAt.rd {H0 H : Hp} {g : Addr} {w h : Nat} {f : Nat → Nat → Nat} (G : GridAt H0 H g w h f) : GridRd H g w h f := by
  obtain ⟨rs, h1, h2, _, _, _, h3⟩ := G.ex
  exact ⟨rs, h1, h2, h3⟩
theorem GridRd.same {H H' : Hp} {g : Addr} {w h : Nat} {f : Nat → Nat → Nat} (G : GridRd H g w h f) (s : Same H H') : GridRd H' g w h f := by
  obtain ⟨rs, h1, h2, h3⟩ := G
  exact ⟨rs, s _ _ h1, h2, fun y r e => s _ _ (h3 y r e)⟩
theorem rowN_congr {w y : Nat} {f g : Nat → Nat → Nat} (e : ∀ x, x < w → f x y = g x y) : rowN w f y = rowN w g y := List.map_congr_left fun x hx => e x (List.mem_range.mp hx)
theorem GridRd.congr {H : Hp} {g : Addr} {w h : Nat} {f f' : Nat → Nat → Nat} (G : GridRd H g w h f) (e : ∀ x y, x < w → y < h → f x y = f' x y) : GridRd H g w h f' := by
  obtain ⟨rs, h1, h2, h3⟩ := G
  refine ⟨rs, h1, h2, fun y r q => ?_⟩
  have hy : y < h := by have := (List.getElem?_eq_some_iff.mp q).1; omega
  rw [h3 y r q, rowN_congr fun x hx => e x y hx hy]
theorem GridAt.congr {H0 H : Hp} {g : Addr} {w h : Nat} {f f' : Nat → Nat → Nat} (G : GridAt H0 H g w h f) (e : ∀ x y, x < w → y < h → f x y = f' x y) : GridAt H0 H g w h f' := by
  obtain ⟨rs, h1, h2, h3, h4, h5, h6⟩ := G.ex
  refine ⟨G.same, G.new, rs, h1, h2, h3, h4, h5, fun y r q => ?_⟩
  have hy : y < h := by have := (List.getElem?_eq_some_iff.mp q).1; omega
  rw [h6 y r q, rowN_congr fun x hx => e x y hx hy]
theorem GridAt.later {H0 H H' : Hp} {g : Addr} {w h : Nat} {f : Nat → Nat → Nat} (G : GridAt H0 H g w h f) (s : Same H H') : GridAt H0 H' g w h f := by
  obtain ⟨rs, h1, h2, h3, h4, h5, h6⟩ := G.ex
  exact ⟨G.same.trans s, G.new, rs, s _ _ h1, h2, h3, h4, h5, fun y r q => s _ _ (h6 y r q)⟩
/-- a row more -/
theorem GridAt.push {H0 H H' : Hp} {g r : Addr} {w k : Nat} {f : Nat → Nat → Nat} (G : GridAt H0 H g w k f) (s : Same H H') (nr : H r = none) (hr : H' r = some (.lst (vi (rowN w f k)))) :
    ∃ xs : List V, H' g = some (.lst xs) ∧ xs.length = k ∧ GridAt H0 (upd H' g (.lst (xs ++ [.ref r]))) g w (k + 1) f := by
  obtain ⟨rs, h1, h2, h3, h4, h5, h6⟩ := G.ex
  have nrg : g ≠ r := ne_of_none h1 nr
  have nrr : r ∉ rs := fun m => by
    obtain ⟨y, hy⟩ := List.getElem?_of_mem m
    rw [h6 y r hy] at nr
    cases nr
  refine ⟨rs.map .ref, s _ _ h1, by rw [List.length_map]; exact h2, fun b o e => ?_, G.new, rs ++ [r], ?_, ?_, ?_, ?_, ?_, ?_⟩
  · have nb : b ≠ g := ne_of_none e G.new
    rw [upd_ne nb]
    exact s _ _ (G.same _ _ e)
  · rw [upd_same]; simp
  · simp [h2]
  · rw [List.nodup_append]
    refine ⟨h3, by simp, fun a ha b hb => ?_⟩
    simp at hb
    subst hb
    exact fun z => nrr (z ▸ ha)
  · simp only [List.mem_append, List.mem_singleton, not_or]
    exact ⟨h4, nrg⟩
  · intro b hb
    simp only [List.mem_append, List.mem_singleton] at hb
    rcases hb with hb | rfl
    · exact h5 b hb
    · exact G.same.free nr
  · intro y b e
    have nbg : b ≠ g := fun z => by
      subst z
      have := List.mem_of_getElem? e
      simp only [List.mem_append, List.mem_singleton] at this
      rcases this with m | m
      · exact h4 m
      · exact nrg m
    rw [upd_ne nbg]
    by_cases hy : y < rs.length
    · rw [List.getElem?_append_left hy] at e
      exact s _ _ (h6 y b e)
    · have := (List.getElem?_eq_some_iff.mp e).1
      simp at this
      have e2 : y = rs.length := by omega
      subst e2
      simp at e
      subst e
      rw [h2]
      exact hr
/-! promises -/
def sp_row_of_cells (K : PySem.W.Frag) (A : Ad) : Sp := fun vs H Q _ => ∃ (l : Addr) (row : Nat) (as : List Addr) (ts : List (List Nat)), vs = [.ref l, .int (row : Int)] ∧ row < 4 ∧ H l = some (.lst (as.map .ref)) ∧ as.length = ts.length ∧ ts.length ≤ 1000 ∧
  (∀ (i : Nat) (a : Addr) (x : List Nat), as[i]? = some a → ts[i]? = some x → TileAt A H a x) ∧ (∀ t ∈ ts, t.length = 16) ∧
  ∀ (H' : Hp) (p : Addr), Same H H' → H p = none → H' p = some (.lst (vi (rowCells ts row))) → Q (.ref p) H'
def sp_rows_of_tiles (K : PySem.W.Frag) (A : Ad) : Sp := fun vs H Q _ => ∃ (l : Addr) (w h : Nat) (as : List Addr) (ts : List (List Nat)), vs = [.ref l, .int (w : Int)] ∧ 0 < w ∧ w ≤ 4 ∧ h ≤ 4 ∧ H l = some (.lst (as.map .ref)) ∧ as.length = ts.length ∧ ts.length = w * h ∧
  (∀ (i : Nat) (a : Addr) (x : List Nat), as[i]? = some a → ts[i]? = some x → TileAt A H a x) ∧ (∀ t ∈ ts, t.length = 16) ∧
  ∀ (H' : Hp) (p : Addr), GridAt H H' p (4 * w) (4 * h) (cellT ts w) → Q (.ref p) H'
def sp_tile_at (K : PySem.W.Frag) (A : Ad) : Sp := fun vs H Q _ => ∃ (g : Addr) (w h left top : Nat) (f : Nat → Nat → Nat), vs = [.ref g, .int (left : Int), .int (top : Int)] ∧ GridRd H g w h f ∧ left + 4 ≤ w ∧ top + 4 ≤ h ∧
  ∀ (H' : Hp) (p : Addr), Same H H' → H p = none → H' p = some (.tup (vi (tileOf f left top))) → Q (.ref p) H'
def sp_tiles_of_rows (K : PySem.W.Frag) (A : Ad) : Sp := fun vs H Q _ => ∃ (g : Addr) (wd hg : Nat) (f : Nat → Nat → Nat), vs = [.ref g] ∧ GridRd H g (4 * wd) (4 * hg) f ∧ 0 < wd ∧ wd ≤ 4 ∧ 0 < hg ∧ hg ≤ 4 ∧
  ∀ (H' : Hp) (p : Addr) (as : List Addr), Same H H' → H p = none → H' p = some (.lst (as.map .ref)) → as.length = wd * hg → (∀ (i : Nat) (a : Addr) (x : List Nat), as[i]? = some a → (tilesOf f wd hg)[i]? = some x → TileAt A H' a x) → Q (.ref p) H'
def sp_has_cell (K : PySem.W.Frag) (A : Ad) : Sp := fun vs H Q _ => ∃ (g : Addr) (w h x y : Nat) (f : Nat → Nat → Nat), vs = [.ref g, .int (x : Int), .int (y : Int)] ∧ GridRd H g w h f ∧ 0 < h ∧ Q (.bl (decide (y < h) && decide (x < w))) H
section
variable {P : Program} {w : World} {K : PySem.W.Frag} {mg : Str → Option Value} {base : Heap} {A : Ad}
theorem ok_row_of_cells (T : Txt K mg A) : FnOk P w K mg base CX0 1 A.f_row_of_cells A.fd_row_of_cells ["tiles", "row"] (sp_row_of_cells K A) := by
  refine T.F_row_of_cells.ok sc_row_of_cells (fun vs H Q E h => ?_) (fun cdv Ar outer s H vs Q E hr h => ?_)
  · obtain ⟨l, row, as, ts, rfl, _⟩ := h
    rfl
  · obtain ⟨l, row, as, ts, rfl, hrow, hl, hlen, hsz, htt, h16, q⟩ := h
    refine ⟨_, (pss_cons (ps_set (i := 2) sc_row_of_cells.nd rfl (Or.inl rfl) (pe_lst pa_nil))
      (pss_cons (ps_for PassesOwn.never rfl (pi_list (pv 0)) (pg_name (i := 3) sc_row_of_cells.nd rfl (Or.inl rfl))
      (pss_one (ps_expr (pe_bm PySem.F.plainAttrs_list PySem.F.slot_list_extend PySem.F.type_list_extend mt_extendT (pv 2) (pa_cons (pe_slice sl_tup (pv 3) (po_some (pe_op op_mul (pv 1) (pe_gint (by rfl) T.g_SIDE))) (po_some (pe_op op_mul (pe_op op_add (pv 1) pe_int) (pe_gint (by rfl) T.g_SIDE)))) pa_nil)))))
      (pss_one (ps_ret (pv 2))))), ?_⟩
    refine ⟨Nat.zero_le _, fun p hp => ?_⟩
    have s0 : Same H (upd H p (HO.lst [])) := fun b o e => (upd_ne (ne_of_none e hp)).trans e
    refine ⟨_, rfl, l, rfl, ⟨_, SqL.of (s0 _ _ hl)⟩, for_list (K := K) (a := l) (xs := as.map V.ref) (fun i σ H' => (∃ v, σ = [some (.ref l), some (.int (row : Int)), some (.ref p), v]) ∧ Same H H' ∧ H' p = some (.lst (vi (rowCells (ts.take i) row))))
      ⟨⟨_, rfl⟩, s0, upd_same⟩ (fun i σ H' _ ⟨_, k, _⟩ => SqL.of (k _ _ hl)) ?_ ?_⟩
    · rintro i y σ H' hi ⟨⟨v, rfl⟩, k1, hp1⟩
      obtain ⟨a, ha, rfl⟩ := refs_of hi
      have hia : i < as.length := (List.getElem?_eq_some_iff.mp ha).1
      obtain ⟨x, hx⟩ : ∃ x, ts[i]? = some x := ⟨ts[i], List.getElem?_eq_getElem (by omega)⟩
      have hx16 : x.length = 16 := h16 x (List.mem_of_getElem? hx)
      have ht : SqT K H' a (vi x) := ((htt i a x ha hx).mono fun b xs e => k1 _ _ e).sq T
      have hle : (rowCells (ts.take i) row).length ≤ 4000 := by
        rw [rowCells_eq _ row hrow fun t ht => h16 t (List.mem_of_mem_take ht)]
        simp
        omega
      refine ⟨_, rfl, .inl ⟨rfl, _, SqL.of hp1⟩, _, rfl, _, rfl, _, _, rfl, rfl, .inl ⟨by omega, by omega⟩, _, rfl, _, rfl, _, _, rfl, rfl, _, _, rfl, rfl, .inl ⟨by omega, by omega⟩, _, rfl, a, _, rfl, ht, ?_, fun m hm => ?_⟩
      · rw [List.length_map, hx16, show (row : Int) * 4 = ((row * 4 : Nat) : Int) by omega, show ((row : Int) + 1) * 4 = ((row * 4 + 4 : Nat) : Int) by omega, HT.sIx_nat, HT.sIx_nat]
        omega
      · have npm : p ≠ m := ne_of_none hp1 hm
        refine ⟨p, m, _, _, rfl, rfl, (upd_ne npm).trans hp1, SqT.of upd_same, ?_, ⟨_, rfl⟩, fun b o e => ?_, ?_⟩
        · have h1 := cutV_length (vi x) (some ((row : Int) * 4)) (some (((row : Int) + 1) * 4))
          rw [List.length_map, line_eq]
          simp only [List.length_map] at h1
          omega
        · have nbp : b ≠ p := ne_of_none e hp
          rw [upd_ne nbp, upd_ne (ne_of_none (k1 _ _ e) hm)]
          exact k1 _ _ e
        · rw [upd_same, take_more hx, rowCells_snoc, vi_append, show (row : Int) * 4 = ((row * 4 : Nat) : Int) by omega, show ((row : Int) + 1) * 4 = ((row * 4 + 4 : Nat) : Int) by omega, cutV_nat, vi_drop, vi_take, show row * 4 + 4 - row * 4 = 4 by omega]
    · rintro σ H' ⟨⟨v, rfl⟩, k1, hp1⟩
      rw [List.length_map, hlen, List.take_length] at hp1
      exact ⟨_, rfl, q _ p k1 hp hp1⟩
end
end TS
namespace TS
open PySem PySem.Spec PyProof.Rows L2
theorem rg_size {c n : Nat} (hc : 0 < c) : Builtin.Range.rangeSize 0 ((c * n : Nat) : Int) (c : Int) = (n : Int) := by
  unfold Builtin.Range.rangeSize
  rw [if_pos (by omega)]
  by_cases h : n = 0
  · subst h; simp
  · have hp : 0 < c * n := Nat.mul_pos hc (by omega)
    rw [if_pos (by omega)]
    have e : ((c * n : Nat) : Int) - 0 - 1 = ((c * n - 1 : Nat) : Int) := by omega
    rw [e]
    have : (c * n - 1) / c = n - 1 := by
      obtain ⟨m, rfl⟩ : ∃ m, n = m + 1 := ⟨n - 1, by omega⟩
      rw [Nat.mul_add, Nat.mul_one, Nat.add_sub_assoc hc, Nat.mul_add_div hc, Nat.div_eq_of_lt (by omega)]
      omega
    rw [← Int.natCast_ediv, this]
    omega
theorem rg_up {c n : Nat} (hc : 0 < c) (h1 : c < 1000) (h2 : c * n < 1000000) : RgC 0 ((c * n : Nat) : Int) (c : Int) n := by
  have hn : n < 1000000 := by
    have : 1 * n ≤ c * n := Nat.mul_le_mul_right n hc
    omega
  refine ⟨by omega, by omega, ?_, rg_size hc⟩
  unfold Builtin.Range.small
  rw [rg_size hc]
  generalize c * n = m at h2 ⊢
  simp only [Builtin.Range.rangeFitsLong, Bool.and_eq_true, Bool.or_eq_true, decide_eq_true_eq, beq_iff_eq]
  rw [if_pos (by omega)]
  simp only [Bool.and_eq_true, decide_eq_true_eq]
  omega
theorem slice_refs (l : List Addr) {a b : Nat} {x y : Int} (hx : x = (a : Int)) (hy : y = (b : Int)) : cutV (l.map V.ref) (some x) (some y) = ((l.drop a).take (b - a)).map V.ref := by
  subst hx hy; rw [cutV_nat, List.map_take, List.map_drop]
theorem slice_vi (l : List Nat) {a b : Nat} {x y : Int} (hx : x = (a : Int)) (hy : y = (b : Int)) : cutV (vi l) (some x) (some y) = vi ((l.drop a).take (b - a)) := by
  subst hx hy; rw [cutV_nat, vi_drop, vi_take]
theorem row_cut {w left y : Nat} {f : Nat → Nat → Nat} (h : left + 4 ≤ w) : ((rowN w f y).drop left).take (left + 4 - left) = (List.range 4).map fun k => f (left + k) y := by
  rw [show left + 4 - left = 4 by omega, cut4 (by simp; omega)]
  apply List.map_congr_left
  intro k hk
  have hk : k < 4 := List.mem_range.mp hk
  have : left + k < w := by omega
  simp [List.getD, this]
theorem tile_rows (f : Nat → Nat → Nat) (left top i : Nat) : ((List.range (4 * i)).map fun k => f (left + k % 4) (top + k / 4)) ++ ((List.range 4).map fun k => f (left + k) (top + i)) = (List.range (4 * (i + 1))).map fun k => f (left + k % 4) (top + k / 4) := by
  rw [show 4 * (i + 1) = 4 * i + 4 by omega, range_add, List.map_append, List.map_map]
  congr 1
  apply List.map_congr_left
  intro k hk
  have hk : k < 4 := List.mem_range.mp hk
  have e1 : (4 * i + k) % 4 = k := by omega
  have e2 : (4 * i + k) / 4 = i := by omega
  simp [e1, e2]
theorem tiles_ix {wd i j : Nat} (hj : j < wd) : (i * wd + j) % wd = j ∧ (i * wd + j) / wd = i := by
  have hw : 0 < wd := by omega
  constructor
  · rw [Nat.mul_comm, Nat.mul_add_mod, Nat.mod_eq_of_lt hj]
  · rw [Nat.mul_comm, Nat.mul_add_div hw, Nat.div_eq_of_lt hj]; omega
section
variable {P : Program} {w : World} {K : PySem.W.Frag} {mg : Str → Option Value} {base : Heap} {A : Ad}
theorem ok_rows_of_tiles (T : Txt K mg A) : FnOk P w K mg base CX0 2 A.f_rows_of_tiles A.fd_rows_of_tiles ["tiles", "wide"] (sp_rows_of_tiles K A) := by
  refine T.F_rows_of_tiles.ok sc_rows_of_tiles (fun vs H Q E h => ?_) (fun cdv Ar outer s H vs Q E hr h => ?_)
  · obtain ⟨l, w, h, as, ts, rfl, _⟩ := h
    rfl
  · obtain ⟨l, w, h, as, ts, rfl, hw0, hw4, hh4, hl, hlen, hts, htt, h16, q⟩ := h
    have hwh : w * h ≤ 16 := Nat.le_trans (Nat.mul_le_mul hw4 hh4) (by decide)
    refine ⟨_, (pss_cons (ps_set (i := 2) sc_rows_of_tiles.nd rfl (Or.inl rfl) (pe_lst pa_nil))
      (pss_cons (ps_for PassesOwn.never rfl (pi_range3 (by rfl) T.n_range (pa_cons pe_int (pa_cons (pe_callB call_len_seq (by rfl) T.n_len (by decide +kernel) (pa_cons (pv 0) pa_nil)) (pa_cons (pv 1) pa_nil)))) (pg_name (i := 3) sc_rows_of_tiles.nd rfl (Or.inl rfl))
      (pss_one (ps_for PassesOwn.never rfl (pi_range1 (by rfl) T.n_range (pa_cons (pe_gint (by rfl) T.g_SIDE) pa_nil)) (pg_name (i := 4) sc_rows_of_tiles.nd rfl (Or.inl rfl))
      (pss_one (ps_expr (pe_bm PySem.F.plainAttrs_list PySem.F.slot_list_append PySem.F.type_list_append mt_append (pv 2) (pa_cons (pe_call (ok_row_of_cells T) (hr.mono (by decide)) (by rfl) T.g_row_of_cells T.F_row_of_cells.kp T.b_row_of_cells .nil pass0 (pa_cons (pe_slice sl_list (pv 0) (po_some (pv 3)) (po_some (pe_op op_add (pv 3) (pv 1)))) (pa_cons (pv 4) pa_nil))) pa_nil)))))))
      (pss_one (ps_ret (pv 2))))), ?_⟩
    refine ⟨Nat.zero_le _, fun p hp => ?_⟩
    have s0 : Same H (upd H p (HO.lst [])) := fun b o e => (upd_ne (ne_of_none e hp)).trans e
    refine ⟨_, rfl, l, _, rfl, .inl (SqL.of (s0 _ _ hl)), _, rfl, 0, ((w * h : Nat) : Int), (w : Int), h, by rw [List.length_map, hlen, hts], rg_up hw0 (by omega) (by omega), ?_⟩
    refine for_rangeC (lo := 0) (c := (w : Int)) (n := h) (fun i σ H' => (∃ v1 v2, σ = [some (.ref l), some (.int (w : Int)), some (.ref p), v1, v2]) ∧ GridAt H H' p (4 * w) (4 * i) (cellT ts w)) ?_ ?_ ?_
    · exact ⟨⟨_, _, rfl⟩, s0, hp, [], upd_same, rfl, List.nodup_nil, by simp, by simp, fun y r e => by simp at e⟩
    · rintro i σ H1 hi ⟨⟨v1, v2, rfl⟩, G1⟩
      have hiw : i * w + w ≤ w * h := by
        have : (i + 1) * w ≤ h * w := Nat.mul_le_mul_right w hi
        rw [Nat.add_mul, Nat.one_mul] at this
        rw [Nat.mul_comm w h]
        exact this
      refine ⟨4, rfl, by decide, by decide, ?_⟩
      refine for_range (lo := 0) (n := 4) (fun j σ H' => (∃ v2, σ = [some (.ref l), some (.int (w : Int)), some (.ref p), some (.int (0 + (i : Int) * (w : Int))), v2]) ∧ GridAt H H' p (4 * w) (4 * i + j) (cellT ts w)) ?_ ?_ ?_
      · exact ⟨⟨_, rfl⟩, G1⟩
      · rintro j σ H2 hj ⟨⟨v2, rfl⟩, G2⟩
        obtain ⟨rs, g1, g2, _⟩ := G2.ex
        refine ⟨_, rfl, .inl ⟨rfl, _, SqL.of g1⟩, _, rfl, _, rfl, _, rfl, _, rfl, _, rfl, _, _, rfl, rfl, _, rfl, l, _, rfl, SqL.of (G2.same _ _ hl), fun m hm => ?_⟩
        have sm : Same H2 (upd H2 m (HO.lst (cutV (List.map V.ref as) (some (0 + ↑i * ↑w)) (some (0 + ↑i * ↑w + ↑w))))) := fun b o e => (upd_ne (ne_of_none e hm)).trans e
        refine ⟨_, rfl, m, j, (as.drop (i * w)).take (i * w + w - i * w), (ts.drop (i * w)).take (i * w + w - i * w), ?_, hj, ?_, by simp [hlen], by simp; omega, ?_, fun t ht => h16 t (List.mem_of_mem_drop (List.mem_of_mem_take ht)), fun H3 r s3 nr h3 => ?_⟩
        · rw [show (0 : Int) + (j : Int) = (j : Int) by omega]
          rfl
        · rw [upd_same, slice_refs as (a := i * w) (b := i * w + w) (by push_cast; omega) (by push_cast; omega)]
        · intro k a x e1 e2
          rw [List.getElem?_take] at e1 e2
          split at e1
          · rename_i hk
            rw [if_pos hk, List.getElem?_drop] at e2
            rw [List.getElem?_drop] at e1
            exact (htt _ a x e1 e2).mono fun b xs e => sm _ _ (G2.same _ _ e)
          · cases e1
        · rw [show i * w + w - i * w = w by omega, rowCells_grid hj (by omega) h16] at h3
          have nrm : H2 r = none := sm.free nr
          obtain ⟨xs, k1, k2, k3⟩ := G2.push (sm.trans s3) nrm h3
          exact ⟨p, xs, _, rfl, rfl, k1, by rw [line_eq]; omega, ⟨_, rfl⟩, k3⟩
      · rintro σ H2 ⟨⟨v2, rfl⟩, G2⟩
        exact ⟨⟨_, _, rfl⟩, G2⟩
    · rintro σ H1 ⟨⟨v1, v2, rfl⟩, G1⟩
      exact ⟨_, rfl, q _ p G1⟩
theorem ok_tile_at (T : Txt K mg A) : FnOk P w K mg base CX0 1 A.f_tile_at A.fd_tile_at ["rows", "left", "top"] (sp_tile_at K A) := by
  refine T.F_tile_at.ok sc_tile_at (fun vs H Q E h => ?_) (fun cdv Ar outer s H vs Q E hr h => ?_)
  · obtain ⟨g, w, h, left, top, f, rfl, _⟩ := h
    rfl
  · obtain ⟨g, w, h, left, top, f, rfl, ⟨rs, hg, hrl, hrow⟩, hlw, hth, q⟩ := h
    refine ⟨_, (pss_cons (ps_set (i := 3) sc_tile_at.nd rfl (Or.inl rfl) (pe_lst pa_nil))
      (pss_cons (ps_for PassesOwn.never rfl (pi_list (pe_slice sl_list (pv 0) (po_some (pv 2)) (po_some (pe_op op_add (pv 2) (pe_gint (by rfl) T.g_SIDE))))) (pg_name (i := 4) sc_tile_at.nd rfl (Or.inl rfl))
      (pss_one (ps_expr (pe_bm PySem.F.plainAttrs_list PySem.F.slot_list_extend PySem.F.type_list_extend mt_extend (pv 3) (pa_cons (pe_slice sl_list (pv 4) (po_some (pv 1)) (po_some (pe_op op_add (pv 1) (pe_gint (by rfl) T.g_SIDE)))) pa_nil)))))
      (pss_one (ps_ret (pe_callTy call_tuple_of (by rfl) T.n_tuple (by decide +kernel) (pa_cons (pv 3) pa_nil)))))), ?_⟩
    refine ⟨Nat.zero_le _, fun p hp => ?_⟩
    have s0 : Same H (upd H p (HO.lst [])) := fun b o e => (upd_ne (ne_of_none e hp)).trans e
    refine ⟨_, rfl, _, rfl, _, rfl, _, rfl, _, _, rfl, rfl, _, rfl, g, _, rfl, SqL.of (s0 _ _ hg), fun m hm => ?_⟩
    have e4 : cutV (List.map V.ref rs) (some (top : Int)) (some ((top : Int) + 4)) = ((rs.drop top).take (top + 4 - top)).map V.ref := slice_refs rs rfl (by push_cast; omega)
    rw [e4]
    have npm : p ≠ m := ne_of_none upd_same hm
    have hm0 : H m = none := s0.free hm
    refine ⟨m, rfl, ⟨_, SqL.of upd_same⟩, for_list (K := K) (a := m) (xs := ((rs.drop top).take (top + 4 - top)).map V.ref) (fun i σ H' => (∃ v, σ = [some (.ref g), some (.int (left : Int)), some (.int (top : Int)), some (.ref p), v]) ∧ Same H H' ∧ H' m = some (.lst (((rs.drop top).take (top + 4 - top)).map V.ref)) ∧
      H' p = some (.lst (vi ((List.range (4 * i)).map fun k => f (left + k % 4) (top + k / 4)))))
      ⟨⟨_, rfl⟩, fun b o e => (upd_ne (ne_of_none e hm0)).trans (s0 _ _ e), upd_same, (upd_ne npm).trans upd_same⟩ (fun i σ H' _ ⟨_, _, k, _⟩ => SqL.of k) ?_ ?_⟩
    · rintro i y σ H' hi ⟨⟨v, rfl⟩, k1, km, kp⟩
      obtain ⟨r, hr1, rfl⟩ := refs_of hi
      rw [List.getElem?_take] at hr1
      split at hr1
      · rename_i hi4
        rw [List.getElem?_drop] at hr1
        have hrr := k1 _ _ (hrow _ _ hr1)
        refine ⟨_, rfl, .inl ⟨rfl, _, SqL.of kp⟩, _, rfl, _, rfl, _, rfl, _, rfl, _, _, rfl, rfl, _, rfl, r, _, rfl, SqL.of hrr, fun n hn => ?_⟩
        rw [slice_vi _ (a := left) (b := left + 4) rfl (by push_cast; omega), row_cut hlw]
        have npn : p ≠ n := ne_of_none kp hn
        have nmn : m ≠ n := ne_of_none km hn
        refine ⟨p, n, _, _, rfl, rfl, (upd_ne npn).trans kp, upd_same, by simp only [List.length_map, List.length_range, line_eq]; omega, ⟨_, rfl⟩, fun b o e => ?_, ?_, ?_⟩
        · rw [upd_ne (ne_of_none e hp), upd_ne (ne_of_none (k1 _ _ e) hn)]
          exact k1 _ _ e
        · rw [upd_ne npm.symm, upd_ne nmn]
          exact km
        · rw [upd_same, ← vi_append, tile_rows]
      · cases hr1
    · rintro σ H' ⟨⟨v, rfl⟩, k1, km, kp⟩
      have e5 : (((rs.drop top).take (top + 4 - top)).map V.ref).length = 4 := by simp; omega
      rw [e5] at kp
      refine ⟨_, rfl, p, _, rfl, .inl ⟨SqL.of kp, fun n hn => ?_⟩⟩
      exact q _ n (fun b o e => (upd_ne (ne_of_none (k1 _ _ e) hn)).trans (k1 _ _ e)) (k1.free hn) upd_same
theorem ok_has_cell (T : Txt K mg A) : FnOk P w K mg base CX0 1 A.f_has_cell A.fd_has_cell ["rows", "x", "y"] (sp_has_cell K A) := by
  refine T.F_has_cell.ok sc_has_cell (fun vs H Q E h => ?_) (fun cdv Ar outer s H vs Q E hr h => ?_)
  · obtain ⟨g, w, h, x, y, f, rfl, _⟩ := h
    rfl
  · obtain ⟨g, w, h, x, y, f, rfl, ⟨rs, hg, hrl, hrow⟩, hh, q⟩ := h
    refine ⟨_, (pss_one (ps_ret (pe_and (pe_cmpR op_lt (pv 2) (pe_callB call_len_seq (by rfl) T.n_len (by decide +kernel) (pa_cons (pv 0) pa_nil)) (nomark _)) (pe_one (pe_cmpR op_lt (pv 1) (pe_callB call_len_seq (by rfl) T.n_len (by decide +kernel) (pa_cons (pe_ix ix_list (pv 0) pe_int (fun _ _ => rfl)) pa_nil)) (nomark _)))))), ?_⟩
    obtain ⟨r, hr0⟩ : ∃ r, rs[0]? = some r := ⟨rs[0], List.getElem?_eq_getElem (by omega)⟩
    refine ⟨_, rfl, _, rfl, g, _, rfl, .inl (SqL.of hg), _, _, rfl, rfl, _, rfl, ?_⟩
    have e1 : decide ((y : Int) < ((rs.map V.ref).length : Nat)) = decide (y < h) := by rw [List.length_map, hrl]; exact decide_eq_decide.mpr (by omega)
    rw [e1]
    by_cases c : y < h
    · rw [decide_eq_true c] at q ⊢
      refine iteT ⟨_, rfl, _, rfl, g, _, _, _, rfl, rfl, SqL.of hg, at_nat (j := 0) rfl (refs_some hr0), r, _, rfl, .inl (SqL.of (hrow 0 r hr0)), _, _, rfl, rfl, ?_⟩
      have e2 : decide ((x : Int) < ((vi (rowN w f 0)).length : Nat)) = decide (x < w) := by simp
      show Q (V.bl (decide ((x : Int) < ((vi (rowN w f 0)).length : Nat)))) H
      rw [e2]
      rw [Bool.true_and] at q
      exact q
    · rw [decide_eq_false c] at q ⊢
      exact iteF q
theorem ok_tiles_of_rows (T : Txt K mg A) : FnOk P w K mg base CX0 2 A.f_tiles_of_rows A.fd_tiles_of_rows ["rows"] (sp_tiles_of_rows K A) := by
  refine T.F_tiles_of_rows.ok sc_tiles_of_rows (fun vs H Q E h => ?_) (fun cdv Ar outer s H vs Q E hr h => ?_)
  · obtain ⟨g, wd, hg, f, rfl, _⟩ := h
    rfl
  · obtain ⟨g, wd, hg, f, rfl, G, hw0, hw4, hh0, hh4, q⟩ := h
    obtain ⟨rs, hgr, hrl, hrow⟩ := id G
    have hwh : wd * hg ≤ 16 := Nat.le_trans (Nat.mul_le_mul hw4 hh4) (by decide)
    obtain ⟨r0, hr0⟩ : ∃ r, rs[0]? = some r := ⟨rs[0], List.getElem?_eq_getElem (by omega)⟩
    refine ⟨_, (pss_cons (ps_set (i := 1) sc_tiles_of_rows.nd rfl (Or.inl rfl) (pe_lst pa_nil))
      (pss_cons (ps_for PassesOwn.never rfl (pi_range3 (by rfl) T.n_range (pa_cons pe_int (pa_cons (pe_callB call_len_seq (by rfl) T.n_len (by decide +kernel) (pa_cons (pv 0) pa_nil)) (pa_cons (pe_gint (by rfl) T.g_SIDE) pa_nil)))) (pg_name (i := 2) sc_tiles_of_rows.nd rfl (Or.inl rfl))
      (pss_one (ps_for PassesOwn.never rfl (pi_range3 (by rfl) T.n_range (pa_cons pe_int (pa_cons (pe_callB call_len_seq (by rfl) T.n_len (by decide +kernel) (pa_cons (pe_ix ix_list (pv 0) pe_int (fun _ _ => rfl)) pa_nil)) (pa_cons (pe_gint (by rfl) T.g_SIDE) pa_nil)))) (pg_name (i := 3) sc_tiles_of_rows.nd rfl (Or.inl rfl))
      (pss_one (ps_expr (pe_bm PySem.F.plainAttrs_list PySem.F.slot_list_append PySem.F.type_list_append mt_append (pv 1) (pa_cons (pe_call (ok_tile_at T) (hr.mono (by decide)) (by rfl) T.g_tile_at T.F_tile_at.kp T.b_tile_at .nil pass0 (pa_cons (pv 0) (pa_cons (pv 3) (pa_cons (pv 2) pa_nil)))) pa_nil)))))))
      (pss_one (ps_ret (pv 1))))), ?_⟩
    refine ⟨Nat.zero_le _, fun p hp => ?_⟩
    have s0 : Same H (upd H p (HO.lst [])) := fun b o e => (upd_ne (ne_of_none e hp)).trans e
    refine ⟨_, rfl, g, _, rfl, .inl (SqL.of (s0 _ _ hgr)), 0, ((4 * hg : Nat) : Int), ((4 : Nat) : Int), hg, by rw [List.length_map, hrl]; rfl, rg_up (by decide) (by decide) (by omega), ?_⟩
    refine for_rangeC (lo := 0) (c := ((4 : Nat) : Int)) (n := hg) (fun i σ H' => (∃ v1 v2, σ = [some (.ref g), some (.ref p), v1, v2]) ∧ Same H H' ∧ ∃ as : List Addr, H' p = some (.lst (as.map .ref)) ∧ as.length = i * wd ∧ ∀ (k : Nat) (a : Addr), as[k]? = some a → H' a = some (.tup (vi (tileOf f (k % wd * 4) (k / wd * 4))))) ?_ ?_ ?_
    · exact ⟨⟨_, _, rfl⟩, s0, [], upd_same, by simp, fun k a e => by simp at e⟩
    · rintro i σ H1 hi ⟨⟨v1, v2, rfl⟩, s1, as1, p1, l1, c1⟩
      refine ⟨_, rfl, g, _, _, _, rfl, rfl, SqL.of (s1 _ _ hgr), at_nat (j := 0) rfl (refs_some hr0), r0, _, rfl, .inl (SqL.of (s1 _ _ (hrow 0 r0 hr0))), 0, ((4 * wd : Nat) : Int), ((4 : Nat) : Int), wd, by simp, rg_up (by decide) (by decide) (by omega), ?_⟩
      refine for_rangeC (lo := 0) (c := ((4 : Nat) : Int)) (n := wd) (fun j σ H' => (∃ v2, σ = [some (.ref g), some (.ref p), some (.int (0 + (i : Int) * ((4 : Nat) : Int))), v2]) ∧ Same H H' ∧ ∃ as : List Addr, H' p = some (.lst (as.map .ref)) ∧ as.length = i * wd + j ∧ ∀ (k : Nat) (a : Addr), as[k]? = some a → H' a = some (.tup (vi (tileOf f (k % wd * 4) (k / wd * 4))))) ?_ ?_ ?_
      · exact ⟨⟨_, rfl⟩, s1, as1, p1, l1, c1⟩
      · rintro j σ H2 hj ⟨⟨v2, rfl⟩, s2, as2, p2, l2, c2⟩
        refine ⟨_, rfl, .inl ⟨rfl, _, SqL.of p2⟩, _, rfl, _, rfl, _, rfl, g, 4 * wd, 4 * hg, 4 * j, 4 * i, f, ?_, G.same s2, by omega, by omega, fun H3 t s3 nt ht => ?_⟩
        · rw [show (0 : Int) + (j : Int) * ((4 : Nat) : Int) = ((4 * j : Nat) : Int) by push_cast; omega, show (0 : Int) + (i : Int) * ((4 : Nat) : Int) = ((4 * i : Nat) : Int) by push_cast; omega]
          rfl
        · have hl3 : i * wd + j < 16 := by
            have : (i + 1) * wd ≤ hg * wd := Nat.mul_le_mul_right wd hi
            rw [Nat.add_mul, Nat.one_mul, Nat.mul_comm hg wd] at this
            omega
          have hp3 := s3 _ _ p2
          refine ⟨p, _, _, rfl, rfl, hp3, by rw [List.length_map, line_eq]; omega, ⟨_, rfl⟩, fun b o e => ?_, as2 ++ [t], ?_, ?_, fun k a e => ?_⟩
          · rw [upd_ne (ne_of_none e hp)]
            exact s3 _ _ (s2 _ _ e)
          · rw [upd_same]; simp
          · simp [l2]; omega
          · have nap : ∀ a xs, H3 a = some (.tup xs) → a ≠ p := fun a xs e => ne_of e hp3 (by intro z; cases z)
            by_cases hk : k < as2.length
            · rw [List.getElem?_append_left hk] at e
              have := s3 _ _ (c2 k a e)
              rw [upd_ne (nap _ _ this)]
              exact this
            · have := (List.getElem?_eq_some_iff.mp e).1
              simp at this
              have e2 : k = as2.length := by omega
              subst e2
              simp at e
              subst e
              rw [upd_ne (nap _ _ ht), l2]
              obtain ⟨q1, q2⟩ := tiles_ix (i := i) hj
              rw [q1, q2, Nat.mul_comm j 4, Nat.mul_comm i 4]
              exact ht
      · rintro σ H2 ⟨⟨v2, rfl⟩, s2, as2, p2, l2, c2⟩
        exact ⟨⟨_, _, rfl⟩, s2, as2, p2, by rw [l2, Nat.add_mul, Nat.one_mul], c2⟩
    · rintro σ H1 ⟨⟨v1, v2, rfl⟩, s1, as1, p1, l1, c1⟩
      refine ⟨_, rfl, q _ p as1 s1 hp p1 (by rw [l1, Nat.mul_comm]) fun i a x e1 e2 => .inl ?_⟩
      rw [c1 i a e1]
      have hi : i < wd * hg := by
        have := (List.getElem?_eq_some_iff.mp e1).1
        rw [l1, Nat.mul_comm] at this
        exact this
      unfold tilesOf at e2
      rw [List.getElem?_map, List.getElem?_range hi] at e2
      cases e2
      rfl
end
end TS
namespace TS
open PySem PySem.Spec PyProof.Rows L2
def putC (f : Nat → Nat → Nat) (x y n : Nat) : Nat → Nat → Nat := fun a b => if a = x ∧ b = y then n else f a b
theorem row_put {w x y n : Nat} {f : Nat → Nat → Nat} (hx : x < w) : (vi (rowN w f y)).set x (V.int (n : Int)) = vi (rowN w (putC f x y n) y) := by
  rw [← vi_set]
  congr 1
  apply List.ext_getElem?
  intro i
  rw [List.getElem?_set]
  by_cases hi : i < w
  · by_cases e : x = i
    · subst e
      simp [hi, putC]
    · have e2 : ¬ i = x := fun z => e z.symm
      simp [hi, putC, e, e2]
  · have h1 : (rowN w f y)[i]? = none := by rw [List.getElem?_eq_none_iff]; simp; omega
    have h2 : (rowN w (putC f x y n) y)[i]? = none := by rw [List.getElem?_eq_none_iff]; simp; omega
    have e : ¬ x = i := by omega
    rw [if_neg e, h1, h2]
/-- a cell is put -/
theorem GridAt.put {H0 H : Hp} {g : Addr} {w h : Nat} {f : Nat → Nat → Nat} (G : GridAt H0 H g w h f) {x y : Nat} (hx : x < w) (hy : y < h) (n : Nat) : ∃ (rs : List Addr) (r : Addr), H g = some (.lst (rs.map .ref)) ∧ rs[y]? = some r ∧ H r = some (.lst (vi (rowN w f y))) ∧
    GridAt H0 (upd H r (.lst ((vi (rowN w f y)).set x (V.int (n : Int))))) g w h (putC f x y n) := by
  obtain ⟨rs, h1, h2, h3, h4, h5, h6⟩ := G.ex
  have hy' : y < rs.length := by omega
  have hr : rs[y]? = some rs[y] := List.getElem?_eq_getElem hy'
  have hm : rs[y] ∈ rs := List.getElem_mem hy'
  have ngr : g ≠ rs[y] := fun z => h4 (z ▸ hm)
  refine ⟨rs, rs[y], h1, hr, h6 y _ hr, fun b o e => ?_, G.new, rs, (upd_ne ngr).trans h1, h2, h3, h4, h5, fun z r e => ?_⟩
  · have : b ≠ rs[y] := fun q => by rw [q, h5 _ hm] at e; cases e
    rw [upd_ne this]
    exact G.same _ _ e
  · by_cases hz : z = y
    · subst hz
      rw [hr] at e
      cases e
      rw [upd_same, row_put hx]
    · have nr : r ≠ rs[y] := fun q => hz (nd_ix h3 (q ▸ e) hr)
      rw [upd_ne nr, h6 z r e]
      congr 3
      exact rowN_congr fun a ha => by unfold putC; rw [if_neg (fun q => hz q.2)]
def sp_put_box (K : PySem.W.Frag) (A : Ad) : Sp := fun vs H Q _ => ∃ (H0 : Hp) (g : Addr) (w h x y u v n : Nat) (f : Nat → Nat → Nat), vs = [.ref g, .int (x : Int), .int (y : Int), .int (u : Int), .int (v : Int), .int (n : Int)] ∧ GridAt H0 H g w h f ∧ 0 < h ∧ w ≤ 1000 ∧ h ≤ 1000 ∧ x < 2 ^ 40 ∧ y < 2 ^ 40 ∧
  ∀ H' : Hp, GridAt H0 H' g w h (fun a b => if Ie07.inBox x y u v a b then n else f a b) → Q .non H'
def sp_dots_fit (K : PySem.W.Frag) (A : Ad) : Sp := fun vs H Q _ => ∃ (g d : Addr) (w h : Nat) (f : Nat → Nat → Nat) (l : List Nat), vs = [.ref g, .ref d] ∧ GridRd H g w h f ∧ 0 < h ∧ H d = some (.lst (vi l)) ∧ l.length ≤ 20000 ∧ Q (.bl (fits w h l)) H
def sp_put_dots (K : PySem.W.Frag) (A : Ad) : Sp := fun vs H Q _ => ∃ (H0 : Hp) (g d : Addr) (w h : Nat) (f : Nat → Nat → Nat) (l : List Nat) (ds : List (Nat × Nat × Nat)), vs = [.ref g, .ref d] ∧ GridAt H0 H g w h f ∧ H0 d = some (.lst (vi l)) ∧ l.length ≤ 20000 ∧ Ie07.dotsOf l = some ds ∧ ds.all (dotIn w h) = true ∧
  ∀ H' : Hp, GridAt H0 H' g w h (dotPut f ds) → Q .non H'
def sp_shifted (K : PySem.W.Frag) (A : Ad) : Sp := fun vs H Q _ => ∃ (g : Addr) (w h n : Nat) (f : Nat → Nat → Nat), vs = [.ref g, .int (n : Int)] ∧ GridRd H g w h f ∧ 0 < w ∧ w ≤ 1000 ∧ h ≤ 1000 ∧
  ∀ (H' : Hp) (p : Addr), GridAt H H' p w h (fun a b => f ((a + w - n % w) % w) b) → Q (.ref p) H'
def sp_put_rows (K : PySem.W.Frag) (A : Ad) : Sp := fun vs H Q _ => ∃ (H0 : Hp) (g o : Addr) (w h x y w2 h2 : Nat) (f f2 : Nat → Nat → Nat), vs = [.ref g, .ref o, .int (x : Int), .int (y : Int)] ∧ GridAt H0 H g w h f ∧ 0 < h ∧ GridRd H0 o w2 h2 f2 ∧ w2 ≤ 1000 ∧ h2 ≤ 1000 ∧
  ∀ H' : Hp, GridAt H0 H' g w h (fun a b => if x ≤ a ∧ a < x + w2 ∧ y ≤ b ∧ b < y + h2 then (if f2 (a - x) (b - y) = 0 then f a b else f2 (a - x) (b - y)) else f a b) → Q .non H'
section
variable {P : Program} {w : World} {K : PySem.W.Frag} {mg : Str → Option Value} {base : Heap} {A : Ad}
theorem ok_put_box (T : Txt K mg A) : FnOk P w K mg base CX0 1 A.f_put_box A.fd_put_box ["rows", "x", "y", "u", "v", "n"] (sp_put_box K A) := by
  refine T.F_put_box.ok sc_put_box (fun vs H Q E h => ?_) (fun cdv Ar outer s H vs Q E hr h => ?_)
  · obtain ⟨H0, g, w, h, x, y, u, v, n, f, rfl, _⟩ := h
    rfl
  · obtain ⟨H0, g, w, h, x, y, u, v, n, f, rfl, G, hh0, hw, hh, hx, hy, q⟩ := h
    obtain ⟨rs, hg, hrl, hrow⟩ := G.rd
    obtain ⟨r0, hr0⟩ : ∃ r, rs[0]? = some r := ⟨rs[0], List.getElem?_eq_getElem (by omega)⟩
    refine ⟨_, (pss_cons (ps_set (i := 6) sc_put_box.nd rfl (Or.inl rfl) (pe_callB (call_min2 rfl) (by rfl) T.n_min (by decide +kernel) (pa_cons (pe_op op_add (pv 1) (pv 3)) (pa_cons (pe_callB call_len_seq (by rfl) T.n_len (by decide +kernel) (pa_cons (pe_ix ix_list (pv 0) pe_int (fun _ _ => rfl)) pa_nil)) pa_nil))))
      (pss_cons (ps_set (i := 7) sc_put_box.nd rfl (Or.inl rfl) (pe_callB (call_min2 rfl) (by rfl) T.n_min (by decide +kernel) (pa_cons (pe_op op_add (pv 2) (pv 4)) (pa_cons (pe_callB call_len_seq (by rfl) T.n_len (by decide +kernel) (pa_cons (pv 0) pa_nil)) pa_nil))))
      (pss_one (ps_for PassesOwn.never rfl (pi_range2 (by rfl) T.n_range (pa_cons (pv 2) (pa_cons (pv 7) pa_nil))) (pg_name (i := 8) sc_put_box.nd rfl (Or.inl rfl))
      (pss_one (ps_for PassesOwn.never rfl (pi_range2 (by rfl) T.n_range (pa_cons (pv 1) (pa_cons (pv 6) pa_nil))) (pg_name (i := 9) sc_put_box.nd rfl (Or.inl rfl))
      (pss_one (ps_asg (pv 5) (pg_sub (pe_ix ix_list (pv 0) (pv 8) (fun _ _ => rfl)) (pv 9) set_list))))))))), ?_⟩
    refine ⟨_, rfl, _, rfl, _, _, rfl, rfl, _, rfl, g, _, _, _, rfl, rfl, SqL.of hg, at_nat (j := 0) rfl (refs_some hr0), r0, _, rfl, .inl (SqL.of (hrow 0 r0 hr0)), _, _, rfl, ?_⟩
    have eR : (if (((vi (rowN w f 0)).length : Nat) : Int) < (x : Int) + (u : Int) then (((vi (rowN w f 0)).length : Nat) : Int) else (x : Int) + (u : Int)) = ((min (x + u) w : Nat) : Int) := by
      rw [show (vi (rowN w f 0)).length = w by simp]
      split <;> omega
    rw [eR]
    refine ⟨_, rfl, _, rfl, _, _, rfl, rfl, _, rfl, g, _, rfl, .inl (SqL.of hg), _, _, rfl, ?_⟩
    have eB : (if (((rs.map V.ref).length : Nat) : Int) < (y : Int) + (v : Int) then (((rs.map V.ref).length : Nat) : Int) else (y : Int) + (v : Int)) = ((min (y + v) h : Nat) : Int) := by
      rw [List.length_map, hrl]
      split <;> omega
    rw [eB]
    generalize hR : min (x + u) w = R
    generalize hB : min (y + v) h = B
    refine ⟨_, rfl, _, rfl, _, _, rfl, ⟨by omega, by omega, by omega, by omega⟩, ?_⟩
    refine for_range (lo := (y : Int)) (n := ((B : Int) - (y : Int)).toNat) (fun i σ H' => (∃ v1 v2, σ = [some (.ref g), some (.int (x : Int)), some (.int (y : Int)), some (.int (u : Int)), some (.int (v : Int)), some (.int (n : Int)), some (.int (R : Int)), some (.int (B : Int)), v1, v2]) ∧
      GridAt H0 H' g w h (fun a b => if x ≤ a ∧ a < R ∧ y ≤ b ∧ b < y + i then n else f a b)) ?_ ?_ ?_
    · exact ⟨⟨_, _, rfl⟩, G.congr fun a b _ _ => by rw [if_neg (by omega)]⟩
    · rintro i σ H1 hi ⟨⟨v1, v2, rfl⟩, G1⟩
      refine ⟨_, rfl, _, rfl, _, _, rfl, ⟨by omega, by omega, by omega, by omega⟩, ?_⟩
      refine for_range (lo := (x : Int)) (n := ((R : Int) - (x : Int)).toNat) (fun j σ H' => (∃ v2, σ = [some (.ref g), some (.int (x : Int)), some (.int (y : Int)), some (.int (u : Int)), some (.int (v : Int)), some (.int (n : Int)), some (.int (R : Int)), some (.int (B : Int)), some (.int ((y : Int) + (i : Int))), v2]) ∧
        GridAt H0 H' g w h (fun a b => if x ≤ a ∧ y ≤ b ∧ ((a < R ∧ b < y + i) ∨ (b = y + i ∧ a < x + j)) then n else f a b)) ?_ ?_ ?_
      · refine ⟨⟨_, rfl⟩, G1.congr fun a b _ _ => ?_⟩
        have : (x ≤ a ∧ a < R ∧ y ≤ b ∧ b < y + i) ↔ (x ≤ a ∧ y ≤ b ∧ ((a < R ∧ b < y + i) ∨ (b = y + i ∧ a < x + 0))) := by omega
        simp only [this]
      · rintro j σ H2 hj ⟨⟨v2, rfl⟩, G2⟩
        obtain ⟨rs2, r, k1, k2, k3, k4⟩ := G2.put (x := x + j) (y := y + i) (by omega) (by omega) n
        refine ⟨_, rfl, _, rfl, _, rfl, g, _, _, _, rfl, rfl, SqL.of k1, at_nat (by push_cast; rfl) (refs_some k2), _, rfl, r, _, _, x + j, rfl, rfl, k3, ?_, ⟨_, rfl⟩, k4.congr fun a b _ _ => ?_⟩
        · rw [show ((x : Int) + (j : Int)) = ((x + j : Nat) : Int) by push_cast; rfl]
          exact ixN_nat (by simp; omega)
        · unfold putC
          by_cases c1 : a = x + j ∧ b = y + i
          · rw [if_pos c1, if_pos (by omega)]
          · rw [if_neg c1]
            have : (x ≤ a ∧ y ≤ b ∧ ((a < R ∧ b < y + i) ∨ (b = y + i ∧ a < x + j))) ↔ (x ≤ a ∧ y ≤ b ∧ ((a < R ∧ b < y + i) ∨ (b = y + i ∧ a < x + (j + 1)))) := by omega
            simp only [this]
      · rintro σ H2 ⟨⟨v2, rfl⟩, G2⟩
        refine ⟨⟨_, _, rfl⟩, G2.congr fun a b ha hb => ?_⟩
        have : (x ≤ a ∧ y ≤ b ∧ ((a < R ∧ b < y + i) ∨ (b = y + i ∧ a < x + ((R : Int) - (x : Int)).toNat))) ↔ (x ≤ a ∧ a < R ∧ y ≤ b ∧ b < y + (i + 1)) := by omega
        simp only [this]
    · rintro σ H1 ⟨⟨v1, v2, rfl⟩, G1⟩
      refine q _ (G1.congr fun a b ha hb => ?_)
      have : (x ≤ a ∧ a < R ∧ y ≤ b ∧ b < y + ((B : Int) - (y : Int)).toNat) ↔ Ie07.inBox x y u v a b = true := by
        unfold Ie07.inBox
        simp only [Bool.and_eq_true, decide_eq_true_eq]
        omega
      simp only [this]
theorem ok_dots_fit (T : Txt K mg A) : FnOk P w K mg base CX0 2 A.f_dots_fit A.fd_dots_fit ["rows", "dots"] (sp_dots_fit K A) := by
  refine T.F_dots_fit.ok sc_dots_fit (fun vs H Q E h => ?_) (fun cdv Ar outer s H vs Q E hr h => ?_)
  · obtain ⟨g, d, w, h, f, l, rfl, _⟩ := h
    rfl
  · obtain ⟨g, d, w, h, f, l, rfl, G, hh0, hd, hl, q⟩ := h
    refine ⟨_, (pss_cons (ps_if (pt_cmpR op_ne (pe_op op_mod (pe_callB call_len_seq (by rfl) T.n_len (by decide +kernel) (pa_cons (pv 1) pa_nil)) pe_int) pe_int (nomark _)) (pss_one (ps_ret pe_bl)) pss_nil)
      (pss_cons (ps_for PassesOwn.never rfl (pi_range3 (by rfl) T.n_range (pa_cons pe_int (pa_cons (pe_callB call_len_seq (by rfl) T.n_len (by decide +kernel) (pa_cons (pv 1) pa_nil)) (pa_cons pe_int pa_nil)))) (pg_name (i := 2) sc_dots_fit.nd rfl (Or.inl rfl))
      (pss_one (ps_if (PW.pt (pw_or (pt_not (pt_val (pe_call (ok_has_cell T) (hr.mono (by decide)) (by rfl) T.g_has_cell T.F_has_cell.kp T.b_has_cell .nil pass0 (pa_cons (pv 0) (pa_cons (pe_ix ix_list (pv 1) (pv 2) (fun _ _ => rfl)) (pa_cons (pe_ix ix_list (pv 1) (pe_op op_add (pv 2) pe_int) (fun _ _ => rfl)) pa_nil)))))) (pw_or1 (pt_cmpR op_gt (pe_ix ix_list (pv 1) (pe_op op_add (pv 2) pe_int) (fun _ _ => rfl)) (pe_gint (by rfl) T.g_LARGEST_CELL) (nomark _))))) (pss_one (ps_ret pe_bl)) pss_nil)))
      (pss_one (ps_ret pe_bl)))), ?_⟩
    refine ⟨_, rfl, d, _, rfl, .inl (SqL.of hd), _, _, rfl, rfl, (by show (0 : Int) < 3; decide), rfl, _, rfl, ?_⟩
    have e0 : (!decide (V.int (((vi l).length : Nat) % 3 : Int) = V.int 0)) = !decide (l.length % 3 = 0) := by
      rw [List.length_map]
      congr 1
      refine decide_eq_decide.mpr ⟨fun z => ?_, fun z => ?_⟩
      · injection z with z; omega
      · congr 1; omega
    rw [e0]
    unfold fits at q
    cases hds : Ie07.dotsOf l with
    | none =>
      rw [hds] at q
      have := (dotsOf_none l).mp hds
      exact if_true_of (by simp [this]) q
    | some ds =>
      rw [hds] at q
      replace q : Q (.bl (ds.all (dotIn w h))) H := q
      obtain ⟨hlen, hget⟩ := dotsOf_get l ds hds
      refine if_false_of (by simp [hlen]) ?_
      refine ⟨_, rfl, d, _, rfl, .inl (SqL.of hd), 0, ((3 * ds.length : Nat) : Int), ((3 : Nat) : Int), ds.length, by rw [List.length_map, hlen]; rfl, rg_up (by decide) (by decide) (by omega), ?_⟩
      refine for_rangeC (lo := 0) (c := ((3 : Nat) : Int)) (n := ds.length) (fun i σ H' => H' = H ∧ (∃ v, σ = [some (.ref g), some (.ref d), v]) ∧ ∀ (k : Nat) (e : Nat × Nat × Nat), k < i → ds[k]? = some e → dotIn w h e = true) ⟨rfl, ⟨_, rfl⟩, fun k e hk => by omega⟩ ?_ ?_
      · rintro i σ H' hi ⟨rfl, ⟨v, rfl⟩, inv⟩
        obtain ⟨e, he⟩ : ∃ e, ds[i]? = some e := ⟨ds[i], List.getElem?_eq_getElem hi⟩
        obtain ⟨g1, g2, g3⟩ := hget i e he
        refine ⟨_, rfl, _, rfl, _, rfl, d, _, _, _, rfl, rfl, SqL.of hd, at_nat (j := 3 * i) (by push_cast; omega) (vi_some g1), _, rfl, _, rfl, _, _, rfl, rfl, d, _, _, _, rfl, rfl, SqL.of hd, at_nat (j := 3 * i + 1) (by push_cast; omega) (vi_some g2), g, w, h, e.1, e.2.1, f, rfl, G, hh0, _, rfl, ?_⟩
        by_cases c1 : dotIn w h e = true
        · have c2 := c1
          unfold dotIn at c2
          simp only [Bool.and_eq_true, decide_eq_true_eq] at c2
          refine if_false_of (by simp [c2]) ?_
          refine ⟨_, rfl, _, rfl, _, _, rfl, rfl, d, _, _, _, rfl, rfl, SqL.of hd, at_nat (j := 3 * i + 2) (by push_cast; omega) (vi_some g3), _, _, rfl, rfl, _, rfl, ?_⟩
          refine if_false_of (decide_eq_false (by omega)) ?_
          refine ⟨rfl, ⟨_, rfl⟩, fun k x hk hx => ?_⟩
          by_cases z : k = i
          · subst z
            rw [he] at hx
            cases hx
            exact c1
          · exact inv k x (by omega) hx
        · have ef : ds.all (dotIn w h) = false := by
            rw [List.all_eq_false]
            exact ⟨e, List.mem_of_getElem? he, c1⟩
          rw [ef] at q
          by_cases c2 : (decide (e.2.1 < h) && decide (e.1 < w)) = true
          · refine if_false_of (by rw [c2]; rfl) ?_
            refine ⟨_, rfl, _, rfl, _, _, rfl, rfl, d, _, _, _, rfl, rfl, SqL.of hd, at_nat (j := 3 * i + 2) (by push_cast; omega) (vi_some g3), _, _, rfl, rfl, _, rfl, ?_⟩
            refine if_true_of (decide_eq_true ?_) q
            unfold dotIn at c1
            simp only [Bool.and_eq_true, decide_eq_true_eq] at c1 c2
            omega
          · refine if_true_of (by simp only [Bool.not_eq_true] at c2; rw [c2]; rfl) ?_
            exact iteT q
      · rintro σ H' ⟨rfl, ⟨v, rfl⟩, inv⟩
        have et : ds.all (dotIn w h) = true := by
          rw [List.all_eq_true]
          intro x hx
          obtain ⟨k, hk⟩ := List.getElem?_of_mem hx
          exact inv k x (List.getElem?_eq_some_iff.mp hk).1 hk
        rw [et] at q
        exact q
theorem ok_put_dots (T : Txt K mg A) : FnOk P w K mg base CX0 1 A.f_put_dots A.fd_put_dots ["rows", "dots"] (sp_put_dots K A) := by
  refine T.F_put_dots.ok sc_put_dots (fun vs H Q E h => ?_) (fun cdv Ar outer s H vs Q E hr h => ?_)
  · obtain ⟨H0, g, d, w, h, f, l, ds, rfl, _⟩ := h
    rfl
  · obtain ⟨H0, g, d, w, h, f, l, ds, rfl, G, hd, hl, hds, hall, q⟩ := h
    obtain ⟨hlen, hget⟩ := dotsOf_get l ds hds
    refine ⟨_, (pss_one (ps_for PassesOwn.never rfl (pi_range3 (by rfl) T.n_range (pa_cons pe_int (pa_cons (pe_callB call_len_seq (by rfl) T.n_len (by decide +kernel) (pa_cons (pv 1) pa_nil)) (pa_cons pe_int pa_nil)))) (pg_name (i := 2) sc_put_dots.nd rfl (Or.inl rfl))
      (pss_one (ps_asg (pe_ix ix_list (pv 1) (pe_op op_add (pv 2) pe_int) (fun _ _ => rfl)) (pg_sub (pe_ix ix_list (pv 0) (pe_ix ix_list (pv 1) (pe_op op_add (pv 2) pe_int) (fun _ _ => rfl)) (fun _ _ => rfl)) (pe_ix ix_list (pv 1) (pv 2) (fun _ _ => rfl)) set_list))))), ?_⟩
    refine ⟨_, rfl, d, _, rfl, .inl (SqL.of (G.same _ _ hd)), 0, ((3 * ds.length : Nat) : Int), ((3 : Nat) : Int), ds.length, by rw [List.length_map, hlen]; rfl, rg_up (by decide) (by decide) (by omega), ?_⟩
    refine for_rangeC (lo := 0) (c := ((3 : Nat) : Int)) (n := ds.length) (fun i σ H' => (∃ v, σ = [some (.ref g), some (.ref d), v]) ∧ GridAt H0 H' g w h (dotPut f (ds.take i))) ⟨⟨_, rfl⟩, G⟩ ?_ ?_
    · rintro i σ H1 hi ⟨⟨v, rfl⟩, G1⟩
      obtain ⟨e, he⟩ : ∃ e, ds[i]? = some e := ⟨ds[i], List.getElem?_eq_getElem hi⟩
      obtain ⟨g1, g2, g3⟩ := hget i e he
      have hin := List.all_eq_true.mp hall e (List.mem_of_getElem? he)
      unfold dotIn at hin
      simp only [Bool.and_eq_true, decide_eq_true_eq] at hin
      have hd1 := G1.same _ _ hd
      obtain ⟨rs2, r, k1, k2, k3, k4⟩ := G1.put (x := e.1) (y := e.2.1) hin.1 hin.2.1 e.2.2
      refine ⟨_, rfl, _, rfl, _, _, rfl, rfl, d, _, _, _, rfl, rfl, SqL.of hd1, at_nat (j := 3 * i + 2) (by push_cast; omega) (vi_some g3), _, rfl, _, rfl, _, rfl, _, _, rfl, rfl, d, _, _, _, rfl, rfl, SqL.of hd1, at_nat (j := 3 * i + 1) (by push_cast; omega) (vi_some g2), g, _, _, _, rfl, rfl, SqL.of k1, at_nat rfl (refs_some k2), _, rfl, _, rfl, d, _, _, _, rfl, rfl, SqL.of hd1, at_nat (j := 3 * i) (by push_cast; omega) (vi_some g1), r, _, _, e.1, rfl, rfl, k3, ixN_nat (by simp; omega), ⟨_, rfl⟩, ?_⟩
      rw [take_more he, dotPut_snoc]
      refine k4.congr fun a b _ _ => ?_
      unfold putC
      have : (a = e.1 ∧ b = e.2.1) ↔ (e.1 = a ∧ e.2.1 = b) := by omega
      simp only [this]
    · rintro σ H1 ⟨⟨v, rfl⟩, G1⟩
      rw [List.take_length] at G1
      exact q _ G1
theorem row_shift {w n y : Nat} {f : Nat → Nat → Nat} (hw : 0 < w) : (rowN w f y).drop (w - n % w) ++ (rowN w f y).take (w - n % w) = rowN w (fun a b => f ((a + w - n % w) % w) b) y := by
  have hn : n % w < w := Nat.mod_lt _ hw
  apply List.ext_getElem?
  intro i
  by_cases h1 : i < n % w
  · rw [List.getElem?_append_left (by simp; omega), List.getElem?_drop]
    have e1 : w - n % w + i < w := by omega
    have e2 : i < w := by omega
    have e3 : (i + w - n % w) % w = w - n % w + i := by rw [Nat.mod_eq_of_lt (by omega)]; omega
    simp [e1, e2, e3]
  · by_cases h2 : i < w
    · rw [List.getElem?_append_right (by simp; omega), List.getElem?_take]
      have e0 : (List.drop (w - n % w) (rowN w f y)).length = n % w := by simp; omega
      rw [e0, if_pos (by omega)]
      have e1 : i - n % w < w := by omega
      have e3 : (i + w - n % w) % w = i - n % w := by
        rw [show i + w - n % w = (i - n % w) + w by omega, Nat.add_mod_right, Nat.mod_eq_of_lt e1]
      simp [e1, h2, e3]
    · rw [List.getElem?_eq_none_iff.mpr (by simp; omega), List.getElem?_eq_none_iff.mpr (by simp; omega)]
theorem ok_shifted (T : Txt K mg A) : FnOk P w K mg base CX0 1 A.f_shifted A.fd_shifted ["rows", "n"] (sp_shifted K A) := by
  refine T.F_shifted.ok sc_shifted (fun vs H Q E h => ?_) (fun cdv Ar outer s H vs Q E hr h => ?_)
  · obtain ⟨g, w, h, n, f, rfl, _⟩ := h
    rfl
  · obtain ⟨g, w, h, n, f, rfl, ⟨rs, hg, hrl, hrow⟩, hw0, hw, hh, q⟩ := h
    have hn : n % w < w := Nat.mod_lt _ hw0
    refine ⟨_, (pss_cons (ps_set (i := 2) sc_shifted.nd rfl (Or.inl rfl) (pe_lst pa_nil))
      (pss_cons (ps_for PassesOwn.never rfl (pi_list (pv 0)) (pg_name (i := 3) sc_shifted.nd rfl (Or.inl rfl))
      (pss_cons (ps_set (i := 4) sc_shifted.nd rfl (Or.inl rfl) (pe_op op_sub (pe_callB call_len_seq (by rfl) T.n_len (by decide +kernel) (pa_cons (pv 3) pa_nil)) (pe_op op_mod (pv 1) (pe_callB call_len_seq (by rfl) T.n_len (by decide +kernel) (pa_cons (pv 3) pa_nil)))))
      (pss_one (ps_expr (pe_bm PySem.F.plainAttrs_list PySem.F.slot_list_append PySem.F.type_list_append mt_append (pv 2) (pa_cons (pe_op op_cat (pe_slice sl_list (pv 3) (po_some (pv 4)) po_none) (pe_slice sl_list (pv 3) po_none (po_some (pv 4)))) pa_nil))))))
      (pss_one (ps_ret (pv 2))))), ?_⟩
    refine ⟨Nat.zero_le _, fun p hp => ?_⟩
    have s0 : Same H (upd H p (HO.lst [])) := fun b o e => (upd_ne (ne_of_none e hp)).trans e
    refine ⟨_, rfl, g, rfl, ⟨_, SqL.of (s0 _ _ hg)⟩, for_list (K := K) (a := g) (xs := rs.map V.ref) (fun i σ H' => (∃ v1 v2, σ = [some (.ref g), some (.int (n : Int)), some (.ref p), v1, v2]) ∧ GridAt H H' p w i (fun a b => f ((a + w - n % w) % w) b))
      ⟨⟨_, _, rfl⟩, s0, hp, [], upd_same, rfl, List.nodup_nil, by simp, by simp, fun y r e => by simp at e⟩ (fun i σ H' _ ⟨_, G⟩ => SqL.of (G.same _ _ hg)) ?_ ?_⟩
    · rintro i y σ H1 hi ⟨⟨v1, v2, rfl⟩, G1⟩
      obtain ⟨r, hr1, rfl⟩ := refs_of hi
      have hir : i < rs.length := (List.getElem?_eq_some_iff.mp hr1).1
      have hrr := G1.same _ _ (hrow _ _ hr1)
      have hrlen : (vi (rowN w f i)).length = w := by simp
      refine ⟨_, rfl, r, _, rfl, .inl (SqL.of hrr), _, rfl, _, rfl, r, _, rfl, .inl (SqL.of hrr), _, _, rfl, rfl, (by rw [hrlen]; omega), _, _, rfl, rfl, ?_⟩
      have ec : (fun (i j : Int) => V.int (i - j)) (((vi (rowN w f i)).length : Nat) : Int) ((n : Int) % (((vi (rowN w f i)).length : Nat) : Int)) = V.int ((w - n % w : Nat) : Int) := by
        show V.int ((((vi (rowN w f i)).length : Nat) : Int) - (n : Int) % (((vi (rowN w f i)).length : Nat) : Int)) = V.int ((w - n % w : Nat) : Int)
        rw [hrlen]
        congr 1
        omega
      rw [ec]
      obtain ⟨rs1, g1, g2, _⟩ := G1.ex
      refine ⟨_, rfl, .inl ⟨rfl, _, SqL.of g1⟩, _, rfl, _, rfl, _, rfl, r, _, rfl, SqL.of hrr, fun m hm => ?_⟩
      rw [cutV_from, vi_drop]
      have sm : Same H1 (upd H1 m (HO.lst (vi ((rowN w f i).drop (w - n % w))))) := fun b o e => (upd_ne (ne_of_none e hm)).trans e
      refine ⟨_, rfl, _, rfl, _, rfl, r, _, rfl, SqL.of (sm _ _ hrr), fun m2 hm2 => ?_⟩
      rw [cutV_to, vi_take]
      have nm : m ≠ m2 := ne_of_none upd_same hm2
      have sm2 := fun b o (e : (upd H1 m (HO.lst (vi ((rowN w f i).drop (w - n % w))))) b = some o) => (upd_ne (o := HO.lst (vi ((rowN w f i).take (w - n % w)))) (ne_of_none e hm2)).trans e
      refine ⟨m, m2, _, _, rfl, rfl, (upd_ne nm).trans upd_same, upd_same, by simp only [List.length_map, List.length_drop, List.length_take, List.length_range, line_eq]; omega, fun m3 hm3 => ?_⟩
      rw [← vi_append, row_shift hw0]
      have sm3 := fun b o e => (upd_ne (o := HO.lst (vi (rowN w (fun a b => f ((a + w - n % w) % w) b) i))) (ne_of_none (sm2 b o e) hm3)).trans (sm2 b o e)
      have nm3 : H1 m3 = none := by
        cases e : H1 m3 with
        | none => rfl
        | some o => rw [sm2 _ _ (sm _ _ e)] at hm3; cases hm3
      obtain ⟨xs, k1, k2, k3⟩ := G1.push (r := m3) (fun b o e => sm3 b o (sm b o e)) nm3 upd_same
      exact ⟨p, xs, _, rfl, rfl, k1, by rw [line_eq]; omega, ⟨_, _, rfl⟩, k3⟩
    · rintro σ H1 ⟨⟨v1, v2, rfl⟩, G1⟩
      rw [List.length_map, hrl] at G1
      exact ⟨_, rfl, q _ p G1⟩
theorem ok_put_rows (T : Txt K mg A) : FnOk P w K mg base CX0 2 A.f_put_rows A.fd_put_rows ["rows", "others", "x", "y"] (sp_put_rows K A) := by
  refine T.F_put_rows.ok sc_put_rows (fun vs H Q E h => ?_) (fun cdv Ar outer s H vs Q E hr h => ?_)
  · obtain ⟨H0, g, o, w, h, x, y, w2, h2, f, f2, rfl, _⟩ := h
    rfl
  · obtain ⟨H0, g, o, w, h, x, y, w2, h2, f, f2, rfl, G, hh0, ⟨rs2, ho, hrl, hrow⟩, hw2, hh2, q⟩ := h
    refine ⟨_, (pss_one (ps_for PassesOwn.never rfl (pi_range1 (by rfl) T.n_range (pa_cons (pe_callB call_len_seq (by rfl) T.n_len (by decide +kernel) (pa_cons (pv 1) pa_nil)) pa_nil)) (pg_name (i := 4) sc_put_rows.nd rfl (Or.inl rfl))
      (pss_one (ps_for PassesOwn.never rfl (pi_range1 (by rfl) T.n_range (pa_cons (pe_callB call_len_seq (by rfl) T.n_len (by decide +kernel) (pa_cons (pe_ix ix_list (pv 1) (pv 4) (fun _ _ => rfl)) pa_nil)) pa_nil)) (pg_name (i := 5) sc_put_rows.nd rfl (Or.inl rfl))
      (pss_one (ps_if (PW.pt (pw_and (pt_cmpR op_ne (pe_ix ix_list (pe_ix ix_list (pv 1) (pv 4) (fun _ _ => rfl)) (pv 5) (fun _ _ => rfl)) pe_int (nomark _)) (pw_and1 (pt_val (pe_call (ok_has_cell T) (hr.mono (by decide)) (by rfl) T.g_has_cell T.F_has_cell.kp T.b_has_cell .nil pass0 (pa_cons (pv 0) (pa_cons (pe_op op_add (pv 2) (pv 5)) (pa_cons (pe_op op_add (pv 3) (pv 4)) pa_nil)))))))) (pss_one (ps_asg (pe_ix ix_list (pe_ix ix_list (pv 1) (pv 4) (fun _ _ => rfl)) (pv 5) (fun _ _ => rfl)) (pg_sub (pe_ix ix_list (pv 0) (pe_op op_add (pv 3) (pv 4)) (fun _ _ => rfl)) (pe_op op_add (pv 2) (pv 5)) set_list))) pss_nil)))))), ?_⟩
    refine ⟨_, rfl, o, _, rfl, .inl (SqL.of (G.same _ _ ho)), (h2 : Int), by rw [List.length_map, hrl], by omega, by omega, ?_⟩
    refine for_range (lo := 0) (n := h2) (fun j σ H' => (∃ v1 v2, σ = [some (.ref g), some (.ref o), some (.int (x : Int)), some (.int (y : Int)), v1, v2]) ∧
      GridAt H0 H' g w h (fun a b => if x ≤ a ∧ a < x + w2 ∧ y ≤ b ∧ b < y + j then (if f2 (a - x) (b - y) = 0 then f a b else f2 (a - x) (b - y)) else f a b)) ?_ ?_ ?_
    · exact ⟨⟨_, _, rfl⟩, G.congr fun a b _ _ => by rw [if_neg (by omega)]⟩
    · rintro j σ H1 hj ⟨⟨v1, v2, rfl⟩, G1⟩
      obtain ⟨r, hr1⟩ : ∃ r, rs2[j]? = some r := ⟨rs2[j], List.getElem?_eq_getElem (by omega)⟩
      have e0 : (0 : Int) + (j : Int) = (j : Int) := by omega
      refine ⟨_, rfl, _, rfl, o, _, _, _, rfl, rfl, SqL.of (G1.same _ _ ho), at_nat e0 (refs_some hr1), r, _, rfl, .inl (SqL.of (G1.same _ _ (hrow j r hr1))), (w2 : Int), by simp, by omega, by omega, ?_⟩
      refine for_range (lo := 0) (n := w2) (fun i σ H' => (∃ v2, σ = [some (.ref g), some (.ref o), some (.int (x : Int)), some (.int (y : Int)), some (.int (0 + (j : Int))), v2]) ∧
        GridAt H0 H' g w h (fun a b => if x ≤ a ∧ a < x + w2 ∧ y ≤ b ∧ (b < y + j ∨ (b = y + j ∧ a < x + i)) then (if f2 (a - x) (b - y) = 0 then f a b else f2 (a - x) (b - y)) else f a b)) ?_ ?_ ?_
      · refine ⟨⟨_, rfl⟩, G1.congr fun a b _ _ => ?_⟩
        have : (x ≤ a ∧ a < x + w2 ∧ y ≤ b ∧ b < y + j) ↔ (x ≤ a ∧ a < x + w2 ∧ y ≤ b ∧ (b < y + j ∨ (b = y + j ∧ a < x + 0))) := by omega
        simp only [this]
      · rintro i σ H2 hi ⟨⟨v2, rfl⟩, G2⟩
        have e1 : (0 : Int) + (i : Int) = (i : Int) := by omega
        have ho2 := G2.same _ _ ho
        have hr2 := G2.same _ _ (hrow j r hr1)
        have hcell : (vi (rowN w2 f2 j))[i]? = some (V.int (f2 i j : Int)) := vi_some (by simp [hi])
        refine ⟨_, rfl, _, rfl, o, _, _, _, rfl, rfl, SqL.of ho2, at_nat e0 (refs_some hr1), _, rfl, r, _, _, _, rfl, rfl, SqL.of hr2, at_nat e1 hcell, rfl, _, rfl, ?_⟩
        have next0 : f2 i j = 0 ∨ ¬ (y + j < h ∧ x + i < w) → ∀ a b, a < w → b < h → (if x ≤ a ∧ a < x + w2 ∧ y ≤ b ∧ (b < y + j ∨ (b = y + j ∧ a < x + i)) then (if f2 (a - x) (b - y) = 0 then f a b else f2 (a - x) (b - y)) else f a b) =
            (if x ≤ a ∧ a < x + w2 ∧ y ≤ b ∧ (b < y + j ∨ (b = y + j ∧ a < x + (i + 1))) then (if f2 (a - x) (b - y) = 0 then f a b else f2 (a - x) (b - y)) else f a b) := fun c a b ha hb => by
          by_cases c1 : a = x + i ∧ b = y + j
          · obtain ⟨rfl, rfl⟩ := c1
            rcases c with c | c
            · rw [if_neg (by omega), if_pos (by omega)]
              have : f2 (x + i - x) (y + j - y) = 0 := by rw [show x + i - x = i by omega, show y + j - y = j by omega]; exact c
              rw [if_pos this]
            · omega
          · have : (x ≤ a ∧ a < x + w2 ∧ y ≤ b ∧ (b < y + j ∨ (b = y + j ∧ a < x + i))) ↔ (x ≤ a ∧ a < x + w2 ∧ y ≤ b ∧ (b < y + j ∨ (b = y + j ∧ a < x + (i + 1)))) := by omega
            simp only [this]
        by_cases c : f2 i j = 0
        · refine if_false_of (by rw [c]; rfl) ?_
          exact iteF ⟨⟨_, rfl⟩, G2.congr (next0 (.inl c))⟩
        · refine if_true_of ?_ ?_
          · have : ¬ V.int (f2 i j : Int) = V.int 0 := fun z => by injection z with z; omega
            rw [decide_eq_false this]
            rfl
          refine ⟨_, rfl, _, rfl, _, rfl, _, _, rfl, rfl, _, rfl, _, rfl, _, _, rfl, rfl, g, w, h, x + i, y + j, _, ?_, G2.rd, hh0, _, rfl, ?_⟩
          · rw [e0, e1]
            simp
          by_cases c2 : y + j < h ∧ x + i < w
          · refine if_true_of (by simp [c2]) ?_
            obtain ⟨rs3, r3, k1, k2, k3, k4⟩ := G2.put (x := x + i) (y := y + j) c2.2 c2.1 (f2 i j)
            refine ⟨_, rfl, _, rfl, o, _, _, _, rfl, rfl, SqL.of ho2, at_nat e0 (refs_some hr1), _, rfl, r, _, _, _, rfl, rfl, SqL.of hr2, at_nat e1 hcell, _, rfl, _, rfl, _, rfl, _, _, rfl, rfl, g, _, _, _, rfl, rfl, SqL.of k1, at_nat (by push_cast; omega) (refs_some k2), _, rfl, _, rfl, _, _, rfl, rfl, r3, _, _, x + i, rfl, rfl, k3, ?_, ⟨_, rfl⟩, k4.congr fun a b ha hb => ?_⟩
            · rw [show (x : Int) + (0 + (i : Int)) = ((x + i : Nat) : Int) by push_cast; omega]
              exact ixN_nat (by simp; omega)
            · unfold putC
              by_cases c1 : a = x + i ∧ b = y + j
              · rw [if_pos c1, if_pos (by omega)]
                obtain ⟨rfl, rfl⟩ := c1
                rw [show x + i - x = i by omega, show y + j - y = j by omega, if_neg c]
              · rw [if_neg c1]
                have : (x ≤ a ∧ a < x + w2 ∧ y ≤ b ∧ (b < y + j ∨ (b = y + j ∧ a < x + i))) ↔ (x ≤ a ∧ a < x + w2 ∧ y ≤ b ∧ (b < y + j ∨ (b = y + j ∧ a < x + (i + 1)))) := by omega
                simp only [this]
          · refine if_false_of (by simp only [Bool.and_eq_false_iff, decide_eq_false_iff_not]; omega) ?_
            exact ⟨⟨_, rfl⟩, G2.congr (next0 (.inr c2))⟩
      · rintro σ H2 ⟨⟨v2, rfl⟩, G2⟩
        refine ⟨⟨_, _, rfl⟩, G2.congr fun a b ha hb => ?_⟩
        have : (x ≤ a ∧ a < x + w2 ∧ y ≤ b ∧ (b < y + j ∨ (b = y + j ∧ a < x + w2))) ↔ (x ≤ a ∧ a < x + w2 ∧ y ≤ b ∧ b < y + (j + 1)) := by omega
        simp only [this]
    · rintro σ H1 ⟨⟨v1, v2, rfl⟩, G1⟩
      exact q _ G1
end
end TS
namespace TS
open PySem PySem.Spec PyProof.Rows L2
/-! pictures in the heap. O tells whose an address is: 0, 1 the store's lists, 2 the album, 3 the store, 4 the dict, 5 a row of places, 10 + 2 p the picture p, 11 + 2 p how it was before -/
def picF (w : Nat) (pl b : Addr) : List (Str × V) := [("wide", .int (w : Int)), ("places", .ref pl), ("before", .ref b)]
theorem pF_wide (w : Nat) (pl b : Addr) : (picF w pl b).lookup ("wide" : Str) = some (.int (w : Int)) := lk_here
theorem pF_places (w : Nat) (pl b : Addr) : (picF w pl b).lookup ("places" : Str) = some (.ref pl) := (lk_past (by decide +kernel)).trans lk_here
theorem pF_before (w : Nat) (pl b : Addr) : (picF w pl b).lookup ("before" : Str) = some (.ref b) := (lk_past (by decide +kernel)).trans ((lk_past (by decide +kernel)).trans lk_here)
theorem pF_new (w : Nat) (pl b : Addr) : putF "before" (.ref b) (putF "places" (.ref pl) (putF "wide" (.int (w : Int)) [])) = picF w pl b := by
  have e : putF "places" (.ref pl) (putF "wide" (.int (w : Int)) []) = ([("wide", V.int (w : Int)), ("places", V.ref pl)] : List (Str × V)) := (put_past (by decide +kernel)).trans rfl
  rw [e]
  exact (put_past (by decide +kernel)).trans (congrArg _ ((put_past (by decide +kernel)).trans rfl))
theorem pF_put (w : Nat) (pl pl' b : Addr) : putF "places" (.ref pl') (picF w pl b) = picF w pl' b := (put_past (by decide +kernel)).trans (congrArg _ put_here)
def albF (st di : Addr) : List (Str × V) := [("store", .ref st), ("pictures", .ref di)]
theorem aF_store (st di : Addr) : (albF st di).lookup ("store" : Str) = some (.ref st) := lk_here
theorem aF_pictures (st di : Addr) : (albF st di).lookup ("pictures" : Str) = some (.ref di) := (lk_past (by decide +kernel)).trans lk_here
theorem aF_no {st di : Addr} {m : Str} (h1 : (m == ("store" : Str)) = false) (h2 : (m == ("pictures" : Str)) = false) : (albF st di).lookup m = none := (lk_past h1).trans ((lk_past h2).trans rfl)
theorem aF_new (st di : Addr) : putF "pictures" (.ref di) (putF "store" (.ref st) []) = albF st di := (put_past (by decide +kernel)).trans rfl
abbrev Own := Addr → Option Nat
structure PicAt (A : Ad) (O : Own) (H : Hp) (p : Nat) (a : Addr) (q : Ie07.Pic) : Prop where
  role : O a = some (10 + 2 * p)
  ex : ∃ (dx pl b : Addr) (olds : List Addr), H a = some (.ins A.c_Picture dx (picF q.w pl b)) ∧ O pl = some 5 ∧ H pl = some (.lst (vi q.at_)) ∧ O b = some (11 + 2 * p) ∧ H b = some (.lst (olds.map .ref)) ∧
    olds.length = q.old.length ∧ ∀ (i : Nat) (r : Addr) (l : List Nat), olds[i]? = some r → q.old[i]? = some l → O r = some 5 ∧ H r = some (.lst (vi l))
structure Ax where
  al : Addr
  st : Addr
  ta : Addr
  ca : Addr
  di : Addr
structure AlbumAt (A : Ad) (O : Own) (H : Hp) (x : Ax) (n : Nat) (s : Ie07.St) : Prop where
  ins : ∃ dx, H x.al = some (.ins A.c_Album dx (albF x.st x.di))
  ral : O x.al = some 2
  rst : O x.st = some 3
  rta : O x.ta = some 0
  rca : O x.ca = some 1
  rdi : O x.di = some 4
  sto : StoreAt A H x.st x.ta x.ca s.store
  own : ∀ b, O b ≠ none → H b ≠ none
  few : s.store.length ≤ 100 * n
  dic : ∃ kvs : List (Key × V), H x.di = some (.dK kvs) ∧ kvs.length ≤ n ∧ ∀ p : Nat, (s.pic p = none → valV kvs (Sum.inl (p : Int)) = none) ∧ ∀ q, s.pic p = some q → ∃ a, valV kvs (Sum.inl (p : Int)) = some (.ref a) ∧ PicAt A O H p a q
def Ext (O : Own) (H : Hp) (O' : Own) (H' : Hp) : Prop := ∀ b o, H b = some o → O b = none → H' b = some o ∧ O' b = none
theorem Ext.trans {O O1 O2 : Own} {H H1 H2 : Hp} (a : Ext O H O1 H1) (b : Ext O1 H1 O2 H2) : Ext O H O2 H2 := fun c o h n => by
  obtain ⟨h1, n1⟩ := a c o h n
  exact b c o h1 n1
theorem Ext.of_same {O : Own} {H H' : Hp} (s : Same H H') : Ext O H O H' := fun b o h n => ⟨s b o h, n⟩
theorem Ext.refl (O : Own) (H : Hp) : Ext O H O H := fun b o h n => ⟨h, n⟩
section
variable {A : Ad} {O O' : Own} {H H' : Hp} {x : Ax} {n p : Nat} {s : Ie07.St} {q : Ie07.Pic} {a : Addr}
theorem PicAt.mono (h : PicAt A O H p a q) (ho : ∀ b r, O b = some r → O' b = some r) (hh : ∀ b o, H b = some o → (O b = some 5 ∨ O b = some (10 + 2 * p) ∨ O b = some (11 + 2 * p)) → H' b = some o) : PicAt A O' H' p a q := by
  obtain ⟨dx, pl, b, olds, h1, h2, h3, h4, h5, h6, h7⟩ := h.ex
  refine ⟨ho _ _ h.role, dx, pl, b, olds, hh _ _ h1 (.inr (.inl h.role)), ho _ _ h2, hh _ _ h3 (.inl h2), ho _ _ h4, hh _ _ h5 (.inr (.inr h4)), h6, fun i r l e1 e2 => ?_⟩
  obtain ⟨k1, k2⟩ := h7 i r l e1 e2
  exact ⟨ho _ _ k1, hh _ _ k2 (.inl k1)⟩
theorem role_ne {b c : Addr} {i j : Nat} (h1 : O b = some i) (h2 : O c = some j) (h : i ≠ j) : b ≠ c := fun e => by
  rw [e, h2] at h1
  exact h (Option.some.inj h1).symm
theorem free_ne {b c : Addr} {j : Nat} (h1 : O b = none) (h2 : O c = some j) : b ≠ c := fun e => by
  rw [e, h2] at h1
  cases h1
theorem AlbumAt.fresh (a : AlbumAt A O H x n s) {b : Addr} (h : H b = none) : O b = none := by
  cases e : O b with
  | none => rfl
  | some r => exact absurd h (a.own b (by rw [e]; exact fun z => by cases z))
/-- the store has changed, nothing else that was -/
theorem AlbumAt.store (a : AlbumAt A O H x n s) {S' : Ie07.Store} {m : Nat} (k : Kp x.ta x.ca H H') (sa : StoreAt A H' x.st x.ta x.ca S') (hm : S'.length ≤ 100 * m) (hnm : n ≤ m) : AlbumAt A O H' x m ⟨S', s.pics⟩ := by
  obtain ⟨dx, hi⟩ := a.ins
  obtain ⟨kvs, hd, hl, hp⟩ := a.dic
  have kk : ∀ b o r, H b = some o → O b = some r → r ≠ 0 → r ≠ 1 → H' b = some o := fun b o r h1 h2 n0 n1 => k b o h1 (role_ne h2 a.rta n0) (role_ne h2 a.rca n1)
  refine ⟨⟨dx, kk _ _ _ hi a.ral (by decide) (by decide)⟩, a.ral, a.rst, a.rta, a.rca, a.rdi, sa, fun b hb => ?_, hm, kvs, kk _ _ _ hd a.rdi (by decide) (by decide), by omega, fun p => ⟨(hp p).1, fun q hq => ?_⟩⟩
  · by_cases e1 : b = x.ta
    · obtain ⟨ts, h1, _⟩ := sa.til
      rw [e1, h1]; exact fun z => by cases z
    · by_cases e2 : b = x.ca
      · rw [e2, sa.cnt]; exact fun z => by cases z
      · cases e : H b with
        | none => exact absurd e (a.own b hb)
        | some o => rw [k b o e e1 e2]; exact fun z => by cases z
  · obtain ⟨c, h1, h2⟩ := (hp p).2 q hq
    refine ⟨c, h1, h2.mono (fun _ _ e => e) fun b o e hr => ?_⟩
    rcases hr with hr | hr | hr
    · exact kk b o _ e hr (by decide) (by decide)
    · exact kk b o _ e hr (by omega) (by omega)
    · exact kk b o _ e hr (by omega) (by omega)
theorem AlbumAt.ext_kp (a : AlbumAt A O H x n s) (k : Kp x.ta x.ca H H') : Ext O H O H' := fun b o h hn => ⟨k b o h (free_ne hn a.rta) (free_ne hn a.rca), hn⟩
theorem AlbumAt.same (a : AlbumAt A O H x n s) (k : Same H H') : AlbumAt A O H' x n s := a.store (Same.kp k) (a.sto.same k) a.few (Nat.le_refl _)
theorem AlbumAt.up (a : AlbumAt A O H x n s) {m : Nat} (h : n ≤ m) : AlbumAt A O H x m s := a.store (Kp.refl _ _ _) a.sto (by have := a.few; omega) h
/-- what is not the album's may change -/
theorem AlbumAt.frame (a : AlbumAt A O H x n s) (k : ∀ b o, H b = some o → O b ≠ none → H' b = some o) (kt : ∀ b xs, H b = some (.tup xs) → H' b = some (.tup xs)) : AlbumAt A O H' x n s := by
  obtain ⟨dx, hi⟩ := a.ins
  obtain ⟨kvs, hd, hl, hp⟩ := a.dic
  have kk : ∀ b o r, H b = some o → O b = some r → H' b = some o := fun b o r h1 h2 => k b o h1 (by rw [h2]; exact fun z => by cases z)
  obtain ⟨dxs, hs⟩ := a.sto.ins
  obtain ⟨ts, h1, h2, h3⟩ := a.sto.til
  refine ⟨⟨dx, kk _ _ _ hi a.ral⟩, a.ral, a.rst, a.rta, a.rca, a.rdi, ⟨⟨dxs, kk _ _ _ hs a.rst⟩, a.sto.ne, ⟨ts, kk _ _ _ h1 a.rta, h2, fun i b y e1 e2 e3 => (h3 i b y e1 e2 e3).mono kt⟩, kk _ _ _ a.sto.cnt a.rca⟩, fun b hb => ?_, a.few, kvs, kk _ _ _ hd a.rdi, hl, fun p => ⟨(hp p).1, fun q hq => ?_⟩⟩
  · cases e : H b with
    | none => exact absurd e (a.own b hb)
    | some o => rw [k b o e hb]; exact fun z => by cases z
  · obtain ⟨c, g1, g2⟩ := (hp p).2 q hq
    exact ⟨c, g1, g2.mono (fun _ _ e => e) fun b o e hr => by rcases hr with hr | hr | hr <;> exact kk b o _ e hr⟩
/-- one picture is edited in its place -/
theorem AlbumAt.edit (a : AlbumAt A O H x n s) (hq : s.pic p = some q) {c : Addr} (hc : ∀ kvs, H x.di = some (.dK kvs) → valV kvs (Sum.inl (p : Int)) = some (.ref c)) {q' : Ie07.Pic} (ho : ∀ b r, O b = some r → O' b = some r) (hO : ∀ b, O' b ≠ none → H' b ≠ none)
    (kk : ∀ b o, H b = some o → O b ≠ some (10 + 2 * p) → O b ≠ some (11 + 2 * p) → H' b = some o) (kt : ∀ b xs, H b = some (.tup xs) → H' b = some (.tup xs)) (h' : PicAt A O' H' p c q') : AlbumAt A O' H' x n ⟨s.store, s.pics.set p (some q')⟩ := by
  obtain ⟨dx, hi⟩ := a.ins
  obtain ⟨kvs, hd, hl, hp⟩ := a.dic
  have k2 : ∀ b o r, H b = some o → O b = some r → r ≠ 10 + 2 * p → r ≠ 11 + 2 * p → H' b = some o := fun b o r h1 h2 n0 n1 => kk b o h1 (by rw [h2]; exact fun z => n0 (Option.some.inj z)) (by rw [h2]; exact fun z => n1 (Option.some.inj z))
  obtain ⟨dxs, hs⟩ := a.sto.ins
  obtain ⟨ts, h1, h2, h3⟩ := a.sto.til
  obtain ⟨c0, g0, g1⟩ := (hp p).2 q hq
  obtain ⟨dx0, pl0, b0, olds0, e1, e2, e3, e4, e5, _⟩ := g1.ex
  refine ⟨⟨dx, k2 _ _ _ hi a.ral (by omega) (by omega)⟩, ho _ _ a.ral, ho _ _ a.rst, ho _ _ a.rta, ho _ _ a.rca, ho _ _ a.rdi, ⟨⟨dxs, k2 _ _ _ hs a.rst (by omega) (by omega)⟩, a.sto.ne, ⟨ts, k2 _ _ _ h1 a.rta (by omega) (by omega), h2, fun i b y f1 f2 f3 => (h3 i b y f1 f2 f3).mono fun b xs e => ?_⟩, k2 _ _ _ a.sto.cnt a.rca (by omega) (by omega)⟩, hO, a.few, kvs, k2 _ _ _ hd a.rdi (by omega) (by omega), hl, fun r => ?_⟩
  · exact kt b xs e
  · rw [pic_set (pic_lt hq)]
    by_cases e : r = p
    · subst e
      rw [if_pos rfl]
      exact ⟨fun z => (by cases z), fun y hy => (by cases hy; exact ⟨c, hc kvs hd, h'⟩)⟩
    · rw [if_neg e]
      refine ⟨(hp r).1, fun y hy => ?_⟩
      obtain ⟨d, f1, f2⟩ := (hp r).2 y hy
      refine ⟨d, f1, f2.mono ho fun b o f3 hr => ?_⟩
      rcases hr with hr | hr | hr
      · exact k2 b o _ f3 hr (by omega) (by omega)
      · exact k2 b o _ f3 hr (by omega) (by omega)
      · exact k2 b o _ f3 hr (by omega) (by omega)
end
end TS
namespace TS
open PySem PySem.Spec PyProof.Rows L2
theorem valV_drop (k j : Key) : ∀ kvs : List (Key × V), valV (dropK kvs k) j = if j = k then none else valV kvs j
  | [] => by by_cases e : j = k <;> simp [dropK, valV, e]
  | r :: kvs => by
    have ih := valV_drop k j kvs
    by_cases e1 : r.1 = k
    · rw [dropK_pos e1, ih]
      by_cases e2 : j = k
      · rw [if_pos e2, if_pos e2]
      · rw [if_neg e2, if_neg e2, valV_neg (fun z => e2 (z.symm.trans e1))]
    · rw [dropK_neg e1]
      by_cases e3 : r.1 = j
      · rw [valV_pos e3, if_neg (fun z => e1 (e3.trans z)), valV_pos e3]
      · rw [valV_neg e3, ih, valV_neg e3]
theorem putK_len (kvs : List (Key × V)) (k : Key) (v : V) : (putK kvs k v).length ≤ kvs.length + 1 := by
  unfold putK
  split
  · simp
  · simp
theorem key_inj {a b : Nat} : (Sum.inl (a : Int) : Key) = Sum.inl (b : Int) ↔ a = b := by
  constructor
  · intro h; injection h with h; omega
  · intro h; rw [h]
def KeepO (O : Own) (H H' : Hp) : Prop := ∀ b o, H b = some o → O b ≠ some 0 → O b ≠ some 1 → O b ≠ some 4 → H' b = some o
theorem KeepO.ext {O : Own} {H H' : Hp} (k : KeepO O H H') : Ext O H O H' := fun b o h n => ⟨k b o h (by rw [n]; exact fun z => by cases z) (by rw [n]; exact fun z => by cases z) (by rw [n]; exact fun z => by cases z), n⟩
section
variable {A : Ad} {O O' : Own} {H H' : Hp} {x : Ax} {n p : Nat} {s : Ie07.St} {q : Ie07.Pic} {a : Addr}
theorem AlbumAt.neT (a : AlbumAt A O H x n s) : ∀ b xs, H b = some (.tup xs) → b ≠ x.di := fun b xs h => by
  obtain ⟨kvs, hd, _⟩ := a.dic
  exact ne_of h hd (by intro z; cases z)
/-- the picture is out of the dict -/
theorem AlbumAt.unput (a : AlbumAt A O H x n s) {kvs : List (Key × V)} (hd : H x.di = some (.dK kvs)) (hq : s.pic p = some q) : AlbumAt A O (upd H x.di (.dK (dropK kvs (Sum.inl (p : Int))))) x n ⟨s.store, s.pics.set p none⟩ := by
  obtain ⟨dx, hi⟩ := a.ins
  obtain ⟨kvs', hd', hl, hp⟩ := a.dic
  rw [hd] at hd'
  cases hd'
  have kk : ∀ b o r, H b = some o → O b = some r → r ≠ 4 → upd H x.di (.dK (dropK kvs (Sum.inl (p : Int)))) b = some o := fun b o r h1 h2 n0 => (upd_ne (role_ne h2 a.rdi n0)).trans h1
  obtain ⟨dxs, hs⟩ := a.sto.ins
  obtain ⟨ts, h1, h2, h3⟩ := a.sto.til
  refine ⟨⟨dx, kk _ _ _ hi a.ral (by decide)⟩, a.ral, a.rst, a.rta, a.rca, a.rdi, ⟨⟨dxs, kk _ _ _ hs a.rst (by decide)⟩, a.sto.ne, ⟨ts, kk _ _ _ h1 a.rta (by decide), h2, fun i b y e1 e2 e3 => (h3 i b y e1 e2 e3).mono fun b xs e => (upd_ne (a.neT b xs e)).trans e⟩, kk _ _ _ a.sto.cnt a.rca (by decide)⟩, fun b hb => ?_, a.few, _, upd_same, Nat.le_trans (dropK_le _ _) hl, fun r => ?_⟩
  · by_cases e : b = x.di
    · rw [e, upd_same]; exact fun z => by cases z
    · rw [upd_ne e]; exact a.own b hb
  · rw [pic_set (pic_lt hq), valV_drop]
    by_cases e : r = p
    · subst e
      rw [if_pos rfl, if_pos rfl]
      exact ⟨fun _ => rfl, fun y hy => (by cases hy)⟩
    · rw [if_neg e, if_neg (fun z => e (key_inj.mp z))]
      refine ⟨(hp r).1, fun y hy => ?_⟩
      obtain ⟨d, f1, f2⟩ := (hp r).2 y hy
      refine ⟨d, f1, f2.mono (fun _ _ e => e) fun b o f3 hr => ?_⟩
      rcases hr with hr | hr | hr
      · exact kk b o _ f3 hr (by omega)
      · exact kk b o _ f3 hr (by omega)
      · exact kk b o _ f3 hr (by omega)
end
/-! promises -/
def sp_Picture_init (K : PySem.W.Frag) (A : Ad) : Sp := fun vs H Q _ => ∃ (a dx pl : Addr) (w : Nat), vs = [.ref a, .int (w : Int), .ref pl] ∧ H a = some (.ins A.c_Picture dx []) ∧
  ∀ (H' : Hp) (b : Addr), H' a = some (.ins A.c_Picture dx (picF w pl b)) → H' b = some (.lst []) → H b = none → (∀ c o, H c = some o → c ≠ a → H' c = some o) → Q .non H'
def sp_Album_init (K : PySem.W.Frag) (A : Ad) : Sp := fun vs H Q _ => ∃ (al dx : Addr), vs = [.ref al] ∧ H al = some (.ins A.c_Album dx []) ∧
  ∀ (H' : Hp) (O : Own) (x : Ax), x.al = al → AlbumAt A O H' x 0 Ie07.init → (∀ b o, H b = some o → b ≠ al → H' b = some o ∧ O b = none) → Q .non H'
def sp_Album_has_picture (K : PySem.W.Frag) (A : Ad) : Sp := fun vs H Q _ => ∃ (O : Own) (x : Ax) (n p : Nat) (s : Ie07.St), vs = [.ref x.al, .int (p : Int)] ∧ AlbumAt A O H x n s ∧ Q (.bl (s.pic p).isSome) H
def sp_Album_has_been_before (K : PySem.W.Frag) (A : Ad) : Sp := fun vs H Q _ => ∃ (O : Own) (x : Ax) (n p : Nat) (s : Ie07.St) (q : Ie07.Pic), vs = [.ref x.al, .int (p : Int)] ∧ AlbumAt A O H x n s ∧ s.pic p = some q ∧ Q (.bl (decide (0 < q.old.length))) H
def sp_Album_rows_of_picture (K : PySem.W.Frag) (A : Ad) : Sp := fun vs H Q _ => ∃ (O : Own) (x : Ax) (n p : Nat) (s : Ie07.St) (q : Ie07.Pic), vs = [.ref x.al, .int (p : Int)] ∧ AlbumAt A O H x n s ∧ Good s ∧ s.pic p = some q ∧
  ∀ (H' : Hp) (g : Addr), GridAt H H' g (4 * q.w) (4 * q.h) (Ie07.cellOf s.store q.w q.at_) → Q (.ref g) H'
def sp_Album_drop_picture (K : PySem.W.Frag) (A : Ad) : Sp := fun vs H Q _ => ∃ (O : Own) (x : Ax) (n p : Nat) (s : Ie07.St), vs = [.ref x.al, .int (p : Int)] ∧ AlbumAt A O H x n s ∧ (∀ i, cntP i (s.pic p) ≤ refsAt s.store i) ∧
  ∀ H' : Hp, AlbumAt A O H' x n (dropS s p) → KeepO O H H' → Q .non H'
section
variable {P : Program} {w : World} {K : PySem.W.Frag} {mg : Str → Option Value} {base : Heap} {A : Ad}
theorem ok_Picture_init (T : Txt K mg A) : FnOk P w K mg base CX0 1 A.f_Picture_init A.fd_Picture_init ["self", "wide", "places"] (sp_Picture_init K A) := by
  refine T.F_Picture_init.ok sc_Picture_init (fun vs H Q E h => ?_) (fun cdv Ar outer s H vs Q E hr h => ?_)
  · obtain ⟨a, dx, pl, w, rfl, _⟩ := h
    rfl
  · obtain ⟨a, dx, pl, w, rfl, ha, q⟩ := h
    refine ⟨_, (pss_cons (ps_fld (pv 0) (pv 1) rfl)
      (pss_cons (ps_fld (pv 0) (pv 2) rfl)
      (pss_one (ps_fld (pv 0) (pe_lst pa_nil) rfl)))), ?_⟩
    refine ⟨_, rfl, _, rfl, a, A.c_Picture, dx, [], rfl, ha, T.cl_Picture, T.no_Picture_wide, (by show 0 < 1000; decide), ?_⟩
    refine ⟨_, rfl, _, rfl, a, A.c_Picture, dx, _, rfl, upd_same, T.cl_Picture, T.no_Picture_places, (by show 1 < 1000; decide), ?_⟩
    refine ⟨Nat.zero_le _, fun b hb => ?_⟩
    have nab : a ≠ b := ne_of_none upd_same hb
    have hb0 : H b = none := by rw [upd_ne nab.symm, upd_ne nab.symm] at hb; exact hb
    refine ⟨_, rfl, a, A.c_Picture, dx, _, rfl, (upd_ne nab).trans upd_same, T.cl_Picture, T.no_Picture_before, ?_, ?_⟩
    · have e : putF "places" (.ref pl) (putF "wide" (.int (w : Int)) []) = ([("wide", V.int (w : Int)), ("places", V.ref pl)] : List (Str × V)) := (put_past (by decide +kernel)).trans rfl
      rw [e]
      show 2 < 1000
      decide
    · refine q _ b ?_ ?_ hb0 fun c o e nc => ?_
      · rw [upd_same]; exact congrArg (fun z => some (HO.ins A.c_Picture dx z)) (pF_new w pl b)
      · rw [upd_ne nab.symm, upd_same]
      · rw [upd_ne nc, upd_ne (ne_of_none e hb0), upd_ne nc, upd_ne nc]; exact e
theorem ok_Album_init (T : Txt K mg A) : FnOk P w K mg base CX0 3 A.f_Album_init A.fd_Album_init ["self"] (sp_Album_init K A) := by
  refine T.F_Album_init.ok sc_Album_init (fun vs H Q E h => ?_) (fun cdv Ar outer s H vs Q E hr h => ?_)
  · obtain ⟨al, dx, rfl, _⟩ := h
    rfl
  · obtain ⟨al, dx, rfl, ha, q⟩ := h
    refine ⟨_, (pss_cons (ps_fld (pv 0) (pe_make0 T.mk_Store (ok_Store_init T) (hr.mono (by decide)) (by rfl) T.g_Store T.b_Store_init .nil pass0) rfl)
      (pss_one (ps_fld (pv 0) pe_dnewK rfl))), ?_⟩
    intro st dxs nst ndxs nes
    have nast : al ≠ st := ne_of_none ha nst
    have nad : al ≠ dxs := ne_of_none ha ndxs
    refine ⟨st, dxs, rfl, upd_same, fun H1 ta ca sa nta nca k1 => ⟨rfl, ?_⟩⟩
    have keep1 : ∀ b o, H b = some o → H1 b = some o := fun b o e => k1 b o (by rw [upd_ne (ne_of_none e nst), upd_ne (ne_of_none e ndxs)]; exact e) (ne_of_none e nst)
    have hal1 := keep1 _ _ ha
    have new : ∀ c, (upd (upd H dxs (.own st)) st (.ins A.c_Store dxs [])) c = none → H c = none := fun c e => by
      cases z : H c with
      | none => rfl
      | some o =>
        rw [upd_ne (ne_of_none z nst), upd_ne (ne_of_none z ndxs), z] at e
        cases e
    refine ⟨_, rfl, al, A.c_Album, dx, [], rfl, hal1, T.cl_Album, T.no_Album_store, (by show 0 < 1000; decide), ?_⟩
    intro di hdi
    have nadi : al ≠ di := ne_of_none upd_same hdi
    have hdi1 : H1 di = none := by rw [upd_ne nadi.symm] at hdi; exact hdi
    refine ⟨_, rfl, al, A.c_Album, dx, _, rfl, (upd_ne nadi).trans upd_same, T.cl_Album, T.no_Album_pictures, (by show 1 < 1000; decide), ?_⟩
    obtain ⟨dxs', hst1⟩ := sa.ins
    obtain ⟨ts, hta1, hts, htt⟩ := sa.til
    have hca1 := sa.cnt
    obtain ⟨n1, n2⟩ := sa.neS
    have n3 : al ≠ ta := ne_of hal1 hta1 (by intro z; cases z)
    have n4 : al ≠ ca := ne_of hal1 hca1 (by intro z; cases z)
    have n5 : st ≠ di := ne_of_none hst1 hdi1
    have n6 : ta ≠ di := ne_of_none hta1 hdi1
    have n7 : ca ≠ di := ne_of_none hca1 hdi1
    have kk : ∀ b o, H1 b = some o → b ≠ al → upd (upd (upd H1 al (.ins A.c_Album dx (putF "store" (.ref st) []))) di (.dK [])) al (.ins A.c_Album dx (putF "pictures" (.ref di) (putF "store" (.ref st) []))) b = some o := fun b o e na => by
      rw [upd_ne na, upd_ne (ne_of_none e hdi1), upd_ne na]
      exact e
    have ndx : ∀ b xs, H1 b = some (.tup xs) → b ≠ al := fun b xs e => ne_of e hal1 (by intro z; cases z)
    refine q _ (fun b => if b = al then some 2 else if b = st then some 3 else if b = ta then some 0 else if b = ca then some 1 else if b = di then some 4 else none) ⟨al, st, ta, ca, di⟩ rfl ?_ fun b o e na => ?_
    · refine ⟨⟨dx, ?_⟩, ?_, ?_, ?_, ?_, ?_, ⟨⟨dxs', kk _ _ hst1 nast.symm⟩, sa.ne, ⟨ts, kk _ _ hta1 n3.symm, hts, fun i b y e1 e2 e3 => (htt i b y e1 e2 e3).mono fun b xs e => kk _ _ e (ndx b xs e)⟩, kk _ _ hca1 n4.symm⟩, ?_, Nat.le_refl _, [], ?_, Nat.le_refl _, fun p => ⟨fun _ => rfl, fun y hy => by rw [init_pic] at hy; cases hy⟩⟩
      · rw [upd_same]; exact congrArg (fun z => some (HO.ins A.c_Album dx z)) (aF_new st di)
      · simp
      · simp [nast.symm]
      · simp [n3.symm, n1.symm]
      · simp [n4.symm, n2.symm, sa.ne.symm]
      · simp [nadi.symm, n5.symm, n6.symm, n7.symm]
      · intro b hb z
        by_cases e1 : b = al
        · rw [e1, upd_same] at z; cases z
        · by_cases e2 : b = st
          · rw [e2, kk _ _ hst1 nast.symm] at z; cases z
          · by_cases e3 : b = ta
            · rw [e3, kk _ _ hta1 n3.symm] at z; cases z
            · by_cases e4 : b = ca
              · rw [e4, kk _ _ hca1 n4.symm] at z; cases z
              · by_cases e5 : b = di
                · rw [e5, upd_ne nadi.symm, upd_same] at z; cases z
                · simp [e1, e2, e3, e4, e5] at hb
      · show upd _ al _ di = _
        rw [upd_ne nadi.symm, upd_same]
    · refine ⟨kk _ _ (keep1 _ _ e) na, ?_⟩
      have e2 : b ≠ st := ne_of_none e nst
      have e3 : b ≠ ta := ne_of_none e (new ta nta)
      have e4 : b ≠ ca := ne_of_none e (new ca nca)
      have e5 : b ≠ di := ne_of_none (keep1 _ _ e) hdi1
      simp [na, e2, e3, e4, e5]
theorem ok_Album_has_picture (T : Txt K mg A) : FnOk P w K mg base CX0 1 A.f_Album_has_picture A.fd_Album_has_picture ["self", "p"] (sp_Album_has_picture K A) := by
  refine T.F_Album_has_picture.ok sc_Album_has_picture (fun vs H Q E h => ?_) (fun cdv Ar outer s H vs Q E hr h => ?_)
  · obtain ⟨O, x, n, p, s, rfl, _⟩ := h
    rfl
  · obtain ⟨O, x, n, p, s, rfl, a, q⟩ := h
    obtain ⟨dx, hi⟩ := a.ins
    obtain ⟨kvs, hd, hl, hp⟩ := a.dic
    refine ⟨_, (pss_one (ps_ret (pe_cmp (pc_din (hu_of hr) (pv 1) (pe_fld (pv 0) rfl)) rfl))), ?_⟩
    refine ⟨_, rfl, _, rfl, x.al, A.c_Album, dx, _, _, rfl, hi, T.cl_Album, T.no_Album_pictures, aF_pictures _ _, x.di, _, rfl, DGet.k (k := Sum.inl (p : Int)) hd, ?_⟩
    cases e : s.pic p with
    | none =>
      rw [(hp p).1 e]
      rw [e] at q
      exact q
    | some y =>
      obtain ⟨c, h1, _⟩ := (hp p).2 y e
      rw [h1]
      rw [e] at q
      exact q
theorem ok_Album_has_been_before (T : Txt K mg A) : FnOk P w K mg base CX0 1 A.f_Album_has_been_before A.fd_Album_has_been_before ["self", "p"] (sp_Album_has_been_before K A) := by
  refine T.F_Album_has_been_before.ok sc_Album_has_been_before (fun vs H Q E h => ?_) (fun cdv Ar outer s H vs Q E hr h => ?_)
  · obtain ⟨O, x, n, p, s, q, rfl, _⟩ := h
    rfl
  · obtain ⟨O, x, n, p, s, y, rfl, a, hy, q⟩ := h
    obtain ⟨dx, hi⟩ := a.ins
    obtain ⟨kvs, hd, hl, hp⟩ := a.dic
    obtain ⟨c, h1, h2⟩ := (hp p).2 y hy
    obtain ⟨dxp, pl, b, olds, g1, g2, g3, g4, g5, g6, g7⟩ := h2.ex
    refine ⟨_, (pss_one (ps_ret (pe_cmpR op_gt (pe_callB call_len_seq (by rfl) T.n_len (by decide +kernel) (pa_cons (pe_fld (pe_dget (hu_of hr) (pe_fld (pv 0) rfl) (pv 1) (fun _ _ => rfl)) rfl) pa_nil)) pe_int (nomark _)))), ?_⟩
    have dg : DGet H x.di (kV (Sum.inl (p : Int))) (some (.ref c)) := by rw [← h1]; exact DGet.k hd
    refine ⟨_, rfl, x.al, A.c_Album, dx, _, _, rfl, hi, T.cl_Album, T.no_Album_pictures, aF_pictures _ _, _, rfl, x.di, _, rfl, dg, c, A.c_Picture, dxp, _, _, rfl, g1, T.cl_Picture, T.no_Picture_before, pF_before _ _ _, b, _, rfl, .inl (SqL.of g5), _, _, rfl, rfl, ?_⟩
    have e : decide ((0 : Int) < (((olds.map V.ref).length : Nat) : Int)) = decide (0 < y.old.length) := by
      rw [List.length_map, g6]
      exact decide_eq_decide.mpr (by omega)
    show Q (V.bl (decide ((0 : Int) < (((olds.map V.ref).length : Nat) : Int)))) H
    rw [e]
    exact q
end
end TS
namespace TS
open PySem PySem.Spec PyProof.Rows L2
theorem KeepO.at {O : Own} {H H1 : Hp} (k1 : KeepO O H H1) {r : Addr} {o : HO} {k : Nat} (hr : O r = some k) (n0 : k ≠ 0) (n1 : k ≠ 1) (n4 : k ≠ 4) (ho : H r = some o) : H1 r = some o :=
  k1 r o ho (by rw [hr]; exact fun z => n0 (Option.some.inj z)) (by rw [hr]; exact fun z => n1 (Option.some.inj z)) (by rw [hr]; exact fun z => n4 (Option.some.inj z))
theorem lc_yes {σ : L2.St} {H : Hp} {R : Bool → Hp → Prop} (h : R true H) : tYes σ H R := h
section
variable {P : Program} {w : World} {K : PySem.W.Frag} {mg : Str → Option Value} {base : Heap} {A : Ad}
theorem ok_Album_rows_of_picture (T : Txt K mg A) : FnOk P w K mg base CX0 3 A.f_Album_rows_of_picture A.fd_Album_rows_of_picture ["self", "p"] (sp_Album_rows_of_picture K A) := by
  refine T.F_Album_rows_of_picture.ok sc_Album_rows_of_picture (fun vs H Q E h => ?_) (fun cdv Ar outer s H vs Q E hr h => ?_)
  · obtain ⟨O, x, n, p, s, q, rfl, _⟩ := h
    rfl
  · obtain ⟨O, x, n, p, s, y, rfl, a, gd, hy, q⟩ := h
    obtain ⟨dx, hi⟩ := a.ins
    obtain ⟨kvs, hd, hl, hp⟩ := a.dic
    obtain ⟨c, h1, h2⟩ := (hp p).2 y hy
    obtain ⟨dxp, pl, b, olds, g1, g2, g3, g4, g5, g6, g7⟩ := h2.ex
    obtain ⟨dxs, hst⟩ := a.sto.ins
    obtain ⟨ts, htl, hts, htt⟩ := a.sto.til
    have ok := gd.pics p y hy
    have hwh : y.w * y.h ≤ 16 := Nat.le_trans (Nat.mul_le_mul ok.w4 ok.h4) (by decide)
    have dg : DGet H x.di (kV (Sum.inl (p : Int))) (some (.ref c)) := by rw [← h1]; exact DGet.k hd
    refine ⟨_, (pss_cons (ps_set (i := 2) sc_Album_rows_of_picture.nd rfl (Or.inl rfl) (pe_dget (hu_of hr) (pe_fld (pv 0) rfl) (pv 1) (fun _ _ => rfl)))
      (pss_cons (ps_setLc (i := 3) (own := [("place", 4)]) (g := gName 4) (te := (tOp (rIxL K) (tFld K (tFld K (tVar 0) "store") "tiles") (tVar 4))) (tt := tYes) (by rfl) sc_Album_rows_of_picture.nd rfl rfl (sw_true rfl rfl rfl (by decide +kernel)) (pi_list (pe_fld (pv 2) rfl)) (blkOk_by (own := [("place", 4)]) (N := n_Album_rows_of_picture) (sc := defScope s_Album_rows_of_picture) (by decide +kernel)) (fun _ _ _ _ _ => pg_name (i := 4) sc_Album_rows_of_picture.nd rfl (Or.inl rfl)) (fun _ _ _ _ _ => by exact pts_nil) (fun _ _ _ _ _ => by exact (pe_ix ix_list (pe_fld (pe_fld (pv 0) rfl) rfl) (pv 4) (fun _ _ => rfl))))
      (pss_one (ps_ret (pe_call (ok_rows_of_tiles T) (hr.mono (by decide)) (by rfl) T.g_rows_of_tiles T.F_rows_of_tiles.kp T.b_rows_of_tiles .nil pass0 (pa_cons (pv 3) (pa_cons (pe_fld (pv 2) rfl) pa_nil))))))), ?_⟩
    refine ⟨_, rfl, x.al, A.c_Album, dx, _, _, rfl, hi, T.cl_Album, T.no_Album_pictures, aF_pictures _ _, _, rfl, x.di, _, rfl, dg, ?_⟩
    refine ⟨_, rfl, c, A.c_Picture, dxp, _, _, rfl, g1, T.cl_Picture, T.no_Picture_places, pF_places _ _ _, pl, rfl, ⟨_, SqL.of g3⟩, fun D hD => ?_⟩
    refine lc_list (K := K) (a := pl) (xs := vi y.at_) (fun i H' => Same H H' ∧ ∃ as : List Addr, H' D = some (.lst (as.map .ref)) ∧ as.length = i ∧ ∀ (k : Nat) (e : Addr), as[k]? = some e → ∃ j, y.at_[k]? = some j ∧ ts[j]? = some e)
      ⟨fun b o e => (upd_ne (ne_of_none e hD)).trans e, [], upd_same, rfl, fun k e z => by simp at z⟩ (fun i H' _ ⟨k, _⟩ => SqL.of (k _ _ g3)) ?_ ?_
    · rintro i v H' hv ⟨k, as, e1, e2, e3⟩
      obtain ⟨j, hj, rfl⟩ := vi_of hv
      obtain ⟨z, hz, hz0⟩ := refsAt_pos (gd.at_pos hy (List.mem_of_getElem? hj))
      have hjl : j < ts.length := by rw [hts]; exact (List.getElem?_eq_some_iff.mp hz).1
      have hia : i < y.at_.length := (List.getElem?_eq_some_iff.mp hj).1
      have htj : ts[j]? = some ts[j] := List.getElem?_eq_getElem hjl
      refine ⟨rfl, lc_yes ?_⟩
      rw [if_pos rfl]
      refine ⟨_, rfl, x.al, A.c_Album, dx, _, _, rfl, k _ _ hi, T.cl_Album, T.no_Album_store, aF_store _ _, x.st, A.c_Store, dxs, _, _, rfl, k _ _ hst, T.cl_Store, T.no_Store_tiles, sF_tiles _ _, _, rfl, x.ta, _, _, _, rfl, rfl, SqL.of (k _ _ htl), at_nat rfl (refs_some htj), _, e1, ?_, ?_, as ++ [ts[j]], ?_, ?_, ?_⟩
      · rw [List.length_map, e2, line_eq, ← ok.len] at *
        omega
      · exact fun b o e => (upd_ne (ne_of_none e hD)).trans (k _ _ e)
      · rw [upd_same]; simp
      · simp [e2]
      · intro m e hm
        by_cases hml : m < as.length
        · rw [List.getElem?_append_left hml] at hm
          exact e3 m e hm
        · have := (List.getElem?_eq_some_iff.mp hm).1
          simp at this
          have em : m = as.length := by omega
          subst em
          simp at hm
          subst hm
          exact ⟨j, by rw [e2]; exact hj, htj⟩
    · rintro H' ⟨k, as, e1, e2, e3⟩
      rw [List.length_map] at e2
      refine ⟨_, rfl, _, rfl, c, A.c_Picture, dxp, _, _, rfl, k _ _ g1, T.cl_Picture, T.no_Picture_wide, pF_wide _ _ _, D, y.w, y.h, as, y.at_.map (Ie07.tileAt s.store), rfl, ok.w1, ok.w4, ok.h4, e1, by rw [List.length_map]; exact e2, by rw [List.length_map]; exact ok.len, ?_, ?_, ?_⟩
      · intro i e t h3 h4
        obtain ⟨j, h5, h6⟩ := e3 i e h3
        rw [List.getElem?_map, h5] at h4
        cases h4
        obtain ⟨z, hz, hz0⟩ := refsAt_pos (gd.at_pos hy (List.mem_of_getElem? h5))
        have et : Ie07.tileAt s.store j = z.tile := by
          unfold Ie07.tileAt
          rw [List.getD_eq_getElem?_getD, hz]
          rfl
        rw [et]
        exact (htt j e z h6 hz hz0).mono fun b xs e => k _ _ e
      · intro t ht
        obtain ⟨j, hj, rfl⟩ := List.mem_map.mp ht
        exact gd.tile16 hy j hj
      · intro H2 g G
        refine q _ g ?_
        obtain ⟨rs, k1, k2, k3, k4, k5, k6⟩ := G.ex
        have G2 : GridAt H H2 g (4 * y.w) (4 * y.h) (cellT (y.at_.map (Ie07.tileAt s.store)) y.w) := ⟨k.trans G.same, k.free G.new, rs, k1, k2, k3, k4, fun r hr => k.free (k5 r hr), k6⟩
        refine G2.congr fun a b ha hb => cellT_cellOf _ _ _ _ _ ?_
        rw [ok.len]
        have h6 : b / 4 < y.h := by omega
        have h7 : (b / 4 + 1) * y.w ≤ y.h * y.w := Nat.mul_le_mul_right _ h6
        rw [Nat.add_mul, Nat.one_mul, Nat.mul_comm y.h y.w] at h7
        omega
theorem ok_Album_drop_picture (T : Txt K mg A) : FnOk P w K mg base CX0 2 A.f_Album_drop_picture A.fd_Album_drop_picture ["self", "p"] (sp_Album_drop_picture K A) := by
  refine T.F_Album_drop_picture.ok sc_Album_drop_picture (fun vs H Q E h => ?_) (fun cdv Ar outer s H vs Q E hr h => ?_)
  · obtain ⟨O, x, n, p, s, rfl, _⟩ := h
    rfl
  · obtain ⟨O, x, n, p, s, rfl, a, hcnt, q⟩ := h
    obtain ⟨dx, hi⟩ := a.ins
    obtain ⟨kvs, hd, hl, hp⟩ := a.dic
    refine ⟨_, (pss_one (ps_if (pt_cmp (pc_din (hu_of hr) (pv 1) (pe_fld (pv 0) rfl))) (pss_cons (ps_set (i := 2) sc_Album_drop_picture.nd rfl (Or.inl rfl) (pe_dpop1 (pe_fld (pv 0) rfl) (pv 1) ⟨rfl, rfl, rfl, rfl⟩))
      (pss_cons (ps_expr (pe_meth (pe_fld (pv 0) rfl) T.cl_Store T.m_Store_let_go_each (ok_Store_let_go_each T) (hr.mono (by decide)) T.b_Store_let_go_each .nil pass0 (pa_cons (pe_fld (pv 2) rfl) pa_nil)))
      (pss_one (ps_for PassesOwn.never rfl (pi_list (pe_fld (pv 2) rfl)) (pg_name (i := 3) sc_Album_drop_picture.nd rfl (Or.inl rfl))
      (pss_one (ps_expr (pe_meth (pe_fld (pv 0) rfl) T.cl_Store T.m_Store_let_go_each (ok_Store_let_go_each T) (hr.mono (by decide)) T.b_Store_let_go_each .nil pass0 (pa_cons (pv 3) pa_nil)))))))) pss_nil)), ?_⟩
    refine ⟨_, rfl, _, rfl, x.al, A.c_Album, dx, _, _, rfl, hi, T.cl_Album, T.no_Album_pictures, aF_pictures _ _, x.di, _, rfl, DGet.k (k := Sum.inl (p : Int)) hd, _, rfl, ?_⟩
    cases e : s.pic p with
    | none =>
      rw [(hp p).1 e]
      rw [dropS_none e] at q
      exact iteF (q H a fun b o h _ _ _ => h)
    | some y =>
      rw [dropS_some e] at q
      rw [e] at hcnt
      obtain ⟨c, h1, h2⟩ := (hp p).2 y e
      obtain ⟨dxp, pl, b, olds, g1, g2, g3, g4, g5, g6, g7⟩ := h2.ex
      have a1 := a.unput hd e
      have kk : KeepO O H (upd H x.di (.dK (dropK kvs (Sum.inl (p : Int))))) := fun b o h _ _ n4 => (upd_ne (fun z => n4 (by rw [z]; exact a.rdi))).trans h
      have role5 : ∀ {r : Addr}, O r = some 5 → r ≠ x.ca := fun h => role_ne h a.rca (by decide)
      rw [h1]
      refine iteT ?_
      refine ⟨_, rfl, x.al, A.c_Album, dx, _, _, rfl, hi, T.cl_Album, T.no_Album_pictures, aF_pictures _ _, x.di, rfl, .inl ⟨_, .inl hd⟩, _, rfl, kvs, Sum.inl (p : Int), .ref c, hd, rfl, h1, ?_⟩
      obtain ⟨dx1, hi1⟩ := a1.ins
      obtain ⟨dxs1, hst1⟩ := a1.sto.ins
      refine ⟨_, rfl, x.al, A.c_Album, dx1, _, _, rfl, hi1, T.cl_Album, T.no_Album_store, aF_store _ _, x.st, dxs1, _, rfl, hst1, sF_no (by decide +kernel) (by decide +kernel), _, rfl, c, A.c_Picture, dxp, _, _, rfl, kk.at h2.role (by omega) (by omega) (by omega) g1, T.cl_Picture, T.no_Picture_places, pF_places _ _ _, x.st, x.ta, x.ca, pl, s.store, y.at_, rfl, a1.sto, kk.at g2 (by decide) (by decide) (by decide) g3, role5 g2, ?_, fun H2 sa2 k2 => ?_⟩
      · intro i
        have := hcnt i
        simp [cntP, cntL] at this
        omega
      have few := a.few
      have a2 := a1.store (m := n) k2 sa2 (by rw [lessAll_len]; exact few) (Nat.le_refl _)
      have kk2 : KeepO O H H2 := fun b o h n0 n1 n4 => k2 b o (kk b o h n0 n1 n4) (fun z => n0 (by rw [z]; exact a.rta)) (fun z => n1 (by rw [z]; exact a.rca))
      refine ⟨_, rfl, c, A.c_Picture, dxp, _, _, rfl, kk2.at h2.role (by omega) (by omega) (by omega) g1, T.cl_Picture, T.no_Picture_before, pF_before _ _ _, b, rfl, ⟨_, SqL.of (kk2.at g4 (by omega) (by omega) (by omega) g5)⟩, ?_⟩
      refine for_list (K := K) (a := b) (xs := olds.map V.ref) (fun i σ H' => (∃ v, σ = [some (.ref x.al), some (.int (p : Int)), some (.ref c), v]) ∧ AlbumAt A O H' x n ⟨(y.old.take i).foldl Ie07.lessAll (Ie07.lessAll s.store y.at_), s.pics.set p none⟩ ∧ KeepO O H H')
        ⟨⟨_, rfl⟩, a2, kk2⟩ (fun i σ H' _ ⟨_, _, k⟩ => SqL.of (k.at g4 (by omega) (by omega) (by omega) g5)) ?_ ?_
      · rintro i v σ H3 hv ⟨⟨v0, rfl⟩, a3, k3⟩
        obtain ⟨r, hr1, rfl⟩ := refs_of hv
        have hir : i < olds.length := (List.getElem?_eq_some_iff.mp hr1).1
        obtain ⟨l, hl1⟩ : ∃ l, y.old[i]? = some l := ⟨y.old[i], List.getElem?_eq_getElem (by omega)⟩
        obtain ⟨r5, hrl⟩ := g7 i r l hr1 hl1
        obtain ⟨dx3, hi3⟩ := a3.ins
        obtain ⟨dxs3, hst3⟩ := a3.sto.ins
        refine ⟨_, rfl, x.al, A.c_Album, dx3, _, _, rfl, hi3, T.cl_Album, T.no_Album_store, aF_store _ _, x.st, dxs3, _, rfl, hst3, sF_no (by decide +kernel) (by decide +kernel), _, rfl, x.st, x.ta, x.ca, r, _, l, rfl, a3.sto, k3.at r5 (by decide) (by decide) (by decide) hrl, role5 r5, ?_, fun H4 sa4 k4 => ?_⟩
        · intro j
          have h3 := hcnt j
          have h4 : cntP j (some y) = y.at_.count j + cntL j y.old := by simp [cntP, cntL]
          have h5 : cntL j (y.old.take i) + l.count j ≤ cntL j y.old := by
            have h6 := cntL_take_drop j (i + 1) y.old
            rw [take_more hl1] at h6
            have h7 : cntL j (y.old.take i ++ [l]) = cntL j (y.old.take i) + l.count j := by simp [cntL]
            omega
          show l.count j ≤ refsAt ((y.old.take i).foldl Ie07.lessAll (Ie07.lessAll s.store y.at_)) j
          rw [lessL_refs, lessAll_refs]
          omega
        · refine ⟨⟨_, rfl⟩, ?_, fun b o h n0 n1 n4 => k4 b o (k3 b o h n0 n1 n4) (fun z => n0 (by rw [z]; exact a.rta)) (fun z => n1 (by rw [z]; exact a.rca))⟩
          rw [take_more hl1, lessL_snoc]
          exact a3.store (m := n) k4 sa4 (by rw [lessAll_len]; exact a3.few) (Nat.le_refl _)
      · rintro σ H3 ⟨⟨v0, rfl⟩, a3, k3⟩
        rw [List.length_map, g6, List.take_length] at a3
        exact q _ a3 k3
end
end TS
namespace TS
open PySem PySem.Spec PyProof.Rows L2
section
variable {A : Ad} {O O' : Own} {H H' : Hp} {x : Ax} {n p : Nat} {s : Ie07.St} {q : Ie07.Pic} {a : Addr}
def putO (O : Own) (p : Nat) (c b pl : Addr) : Own := fun z => if z = c then some (10 + 2 * p) else if z = b then some (11 + 2 * p) else if z = pl then some 5 else O z
/-- a new picture comes into the dict -/
theorem AlbumAt.putPic (a : AlbumAt A O H x n s) (hp : p < s.pics.length) {c b pl dx : Addr} {w h : Nat} {l : List Nat} (hc : H c = some (.ins A.c_Picture dx (picF w pl b))) (hb : H b = some (.lst [])) (hpl : H pl = some (.lst (vi l)))
    (oc : O c = none) (ob : O b = none) (opl : O pl = none) (nbp : b ≠ pl) {kvs : List (Key × V)} (hd : H x.di = some (.dK kvs)) :
    AlbumAt A (putO O p c b pl) (upd H x.di (.dK (putK kvs (Sum.inl (p : Int)) (.ref c)))) x (n + 1) ⟨s.store, s.pics.set p (some ⟨w, h, l, []⟩)⟩ := by
  obtain ⟨dxa, hi⟩ := a.ins
  obtain ⟨kvs', hd', hl, hpp⟩ := a.dic
  rw [hd] at hd'
  cases hd'
  have ncb : c ≠ b := ne_of hc hb (by intro z; cases z)
  have ncl : c ≠ pl := ne_of hc hpl (by intro z; cases z)
  have ho : ∀ z r, O z = some r → putO O p c b pl z = some r := fun z r e => by
    unfold putO
    rw [if_neg (free_ne oc e).symm, if_neg (free_ne ob e).symm, if_neg (free_ne opl e).symm]
    exact e
  have kk : ∀ b o r, H b = some o → O b = some r → r ≠ 4 → upd H x.di (.dK (putK kvs (Sum.inl (p : Int)) (.ref c))) b = some o := fun b o r h1 h2 n0 => (upd_ne (role_ne h2 a.rdi n0)).trans h1
  have kn : ∀ b o, H b = some o → O b = none → upd H x.di (.dK (putK kvs (Sum.inl (p : Int)) (.ref c))) b = some o := fun b o h1 h2 => (upd_ne (free_ne h2 a.rdi)).trans h1
  obtain ⟨dxs, hs⟩ := a.sto.ins
  obtain ⟨ts, h1, h2, h3⟩ := a.sto.til
  refine ⟨⟨dxa, kk _ _ _ hi a.ral (by decide)⟩, ho _ _ a.ral, ho _ _ a.rst, ho _ _ a.rta, ho _ _ a.rca, ho _ _ a.rdi, ⟨⟨dxs, kk _ _ _ hs a.rst (by decide)⟩, a.sto.ne, ⟨ts, kk _ _ _ h1 a.rta (by decide), h2, fun i b y e1 e2 e3 => (h3 i b y e1 e2 e3).mono fun b xs e => (upd_ne (a.neT b xs e)).trans e⟩, kk _ _ _ a.sto.cnt a.rca (by decide)⟩, fun z hz => ?_, by have := a.few; show s.store.length ≤ _; omega, _, upd_same, Nat.le_trans (putK_len _ _ _) (by omega), fun r => ?_⟩
  · by_cases e0 : z = x.di
    · rw [e0, upd_same]; exact fun z => by cases z
    · rw [upd_ne e0]
      by_cases e1 : z = c
      · rw [e1, hc]; exact fun z => by cases z
      · by_cases e2 : z = b
        · rw [e2, hb]; exact fun z => by cases z
        · by_cases e3 : z = pl
          · rw [e3, hpl]; exact fun z => by cases z
          · refine a.own z ?_
            unfold putO at hz
            rw [if_neg e1, if_neg e2, if_neg e3] at hz
            exact hz
  · rw [pic_set hp, valV_put]
    by_cases e : r = p
    · subst e
      rw [if_pos rfl, if_pos rfl]
      refine ⟨fun z => (by cases z), fun y hy => ?_⟩
      cases hy
      refine ⟨c, rfl, ?_, dx, pl, b, [], kn _ _ hc oc, ?_, kn _ _ hpl opl, ?_, kn _ _ hb ob, rfl, fun i r l e => by simp at e⟩
      · unfold putO; rw [if_pos rfl]
      · unfold putO; rw [if_neg ncl.symm, if_neg nbp.symm, if_pos rfl]
      · unfold putO; rw [if_neg ncb.symm, if_pos rfl]
    · rw [if_neg e, if_neg (fun z => e (key_inj.mp z))]
      refine ⟨(hpp r).1, fun y hy => ?_⟩
      obtain ⟨d, f1, f2⟩ := (hpp r).2 y hy
      refine ⟨d, f1, f2.mono ho fun b o f3 hr => ?_⟩
      rcases hr with hr | hr | hr
      · exact kk b o _ f3 hr (by omega)
      · exact kk b o _ f3 hr (by omega)
      · exact kk b o _ f3 hr (by omega)
theorem putO_none {c b pl z : Addr} (h : O z = none) (e1 : z ≠ c) (e2 : z ≠ b) (e3 : z ≠ pl) : putO O p c b pl z = none := by
  unfold putO
  rw [if_neg e1, if_neg e2, if_neg e3]
  exact h
end
def sp_Album_lay_page (K : PySem.W.Frag) (A : Ad) : Sp := fun vs H Q _ => ∃ (O : Own) (x : Ax) (n p w h : Nat) (s : Ie07.St), vs = [.ref x.al, .int (p : Int), .int (w : Int), .int (h : Int)] ∧ AlbumAt A O H x n s ∧ Good s ∧ n ≤ 90 ∧ p < 4 ∧ 1 ≤ w ∧ w ≤ 4 ∧ 1 ≤ h ∧ h ≤ 4 ∧
  ∀ (H' : Hp) (O' : Own), AlbumAt A O' H' x (n + 2) (pageS s p w h) → Ext O H O' H' → Q .non H'
def sp_Album_copy_picture (K : PySem.W.Frag) (A : Ad) : Sp := fun vs H Q _ => ∃ (O : Own) (x : Ax) (n p k : Nat) (s : Ie07.St) (y : Ie07.Pic), vs = [.ref x.al, .int (p : Int), .int (k : Int)] ∧ AlbumAt A O H x n s ∧ Good s ∧ n ≤ 90 ∧ k < 4 ∧ p ≠ k ∧ s.pic p = some y ∧
  ∀ (H' : Hp) (O' : Own), AlbumAt A O' H' x (n + 2) (copyS s k y) → Ext O H O' H' → Q .non H'
section
variable {P : Program} {w : World} {K : PySem.W.Frag} {mg : Str → Option Value} {base : Heap} {A : Ad}
theorem rep_refs (a : Addr) (k : Nat) : (List.replicate k [V.ref a]).flatten = (List.replicate k a).map V.ref := by
  induction k with
  | zero => rfl
  | succ k ih => rw [List.replicate_succ, List.flatten_cons, ih, List.replicate_succ]; rfl
theorem ok_Album_lay_page (T : Txt K mg A) : FnOk P w K mg base CX0 6 A.f_Album_lay_page A.fd_Album_lay_page ["self", "p", "wide", "high"] (sp_Album_lay_page K A) := by
  refine T.F_Album_lay_page.ok sc_Album_lay_page (fun vs H Q E h => ?_) (fun cdv Ar outer s H vs Q E hr h => ?_)
  · obtain ⟨O, x, n, p, w, h, s, rfl, _⟩ := h
    rfl
  · obtain ⟨O, x, n, p, w, h, s, rfl, a, gd, hn, hp4, hw1, hw4, hh1, hh4, q⟩ := h
    obtain ⟨dx, hi⟩ := a.ins
    have hwh : w * h ≤ 16 := Nat.le_trans (Nat.mul_le_mul hw4 hh4) (by decide)
    refine ⟨_, (pss_cons (ps_expr (pe_meth (pv 0) T.cl_Album T.m_Album_drop_picture (ok_Album_drop_picture T) (hr.mono (by decide)) T.b_Album_drop_picture .nil pass0 (pa_cons (pv 1) pa_nil)))
      (pss_cons (ps_set (i := 4) sc_Album_lay_page.nd rfl (Or.inl rfl) (pe_meth (pe_fld (pv 0) rfl) T.cl_Store T.m_Store_keep_each (ok_Store_keep_each T) (hr.mono (by decide)) T.b_Store_keep_each .nil pass0 (pa_cons (pe_op op_rep (pe_lst (pa_cons (pe_glob (v := .ref A.a_BLANK_TILE) (by rfl) T.g_BLANK_TILE rfl) pa_nil)) (pe_op op_mul (pv 2) (pv 3))) pa_nil)))
      (pss_one (ps_dput (hu_of hr) (pe_fld (pv 0) rfl) (pv 1) (pe_make T.mk_Picture (ok_Picture_init T) (hr.mono (by decide)) (by rfl) T.g_Picture T.b_Picture_init .nil pass0 (pa_cons (pv 2) (pa_cons (pv 4) pa_nil))) rfl)))), ?_⟩
    refine ⟨_, rfl, x.al, dx, _, rfl, hi, aF_no (by decide +kernel) (by decide +kernel), _, rfl, O, x, n, p, s, rfl, a, fun i => by rw [gd.refs]; exact cntP_le i, fun H1 a1 k1 => ?_⟩
    obtain ⟨dx1, hi1⟩ := a1.ins
    obtain ⟨dxs1, hst1⟩ := a1.sto.ins
    obtain ⟨ts1, hta1, _⟩ := a1.sto.til
    have hca1 := a1.sto.cnt
    refine ⟨_, rfl, x.al, A.c_Album, dx1, _, _, rfl, hi1, T.cl_Album, T.no_Album_store, aF_store _ _, x.st, dxs1, _, rfl, hst1, sF_no (by decide +kernel) (by decide +kernel), (by show 1 ≤ sizeLine; decide), fun m hm => ?_⟩
    refine ⟨_, rfl, _, rfl, _, _, rfl, rfl, .inl ⟨by omega, by omega⟩, m, _, _, rfl, rfl, upd_same, by rw [← Int.natCast_mul]; omega, by rw [← Int.natCast_mul]; omega, ?_, fun m2 hm2 => ?_⟩
    · rw [← Int.natCast_mul, Int.toNat_natCast, line_eq]
      simp
      omega
    · rw [← Int.natCast_mul, Int.toNat_natCast, rep_refs]
      have sm : Same H1 (upd H1 m (HO.lst [V.ref A.a_BLANK_TILE])) := fun b o e => (upd_ne (ne_of_none e hm)).trans e
      have sm2 : Same H1 (upd (upd H1 m (HO.lst [V.ref A.a_BLANK_TILE])) m2 (HO.lst ((List.replicate (w * h) A.a_BLANK_TILE).map V.ref))) := fun b o e => (upd_ne (ne_of_none (sm _ _ e) hm2)).trans (sm _ _ e)
      have hm20 : H1 m2 = none := sm.free hm2
      have hfew := a1.few
      refine ⟨x.st, x.ta, x.ca, m2, (dropS s p).store, List.replicate (w * h) A.a_BLANK_TILE, List.replicate (w * h) Ie07.blank, rfl, a1.sto.same sm2, by simp only [List.length_replicate]; omega, upd_same, (ne_of_none hta1 hm20).symm, (ne_of_none hca1 hm20).symm, by simp, ?_, fun H3 pl sa3 k3 npl hpl => ?_⟩
      · intro i b t e1 e2
        have h1 := List.eq_of_mem_replicate (List.mem_of_getElem? e1)
        have h2 := List.eq_of_mem_replicate (List.mem_of_getElem? e2)
        exact .inr ⟨h1, h2⟩
      · have hlen := keepAll_len (List.replicate (w * h) Ie07.blank) (dropS s p).store
        rw [List.length_replicate] at hlen
        have k13 : Kp x.ta x.ca H1 H3 := Kp.trans (Same.kp sm2) k3
        have a3 := a1.store (m := n + 1) k13 sa3 (by omega) (by omega)
        have npl1 : H1 pl = none := by
          cases z : H1 pl with
          | none => rfl
          | some o => rw [sm2 _ _ z] at npl; cases npl
        have opl : O pl = none := a1.fresh npl1
        obtain ⟨dx3, hi3⟩ := a3.ins
        obtain ⟨kvs3, hd3, hl3, _⟩ := a3.dic
        refine ⟨_, rfl, _, rfl, fun c dxc nc ndxc nec => ?_⟩
        have sc : Same H3 (upd (upd H3 dxc (.own c)) c (.ins A.c_Picture dxc [])) := fun b o e => by
          rw [upd_ne (ne_of_none e nc), upd_ne (ne_of_none e ndxc)]
          exact e
        refine ⟨c, dxc, pl, w, rfl, upd_same, fun H4 b e1 e2 nb k4 => ⟨rfl, ?_⟩⟩
        have s34 : Same H3 H4 := fun z o e => k4 z o (sc z o e) (ne_of_none e nc)
        have nb3 : H3 b = none := sc.free nb
        have a4 := a3.same s34
        refine ⟨_, rfl, x.al, A.c_Album, dx3, _, _, rfl, s34 _ _ hi3, T.cl_Album, T.no_Album_pictures, aF_pictures _ _, _, rfl, x.di, _, rfl, DPut.k (k := Sum.inl (p : Int)) (s34 _ _ hd3) (by rw [line_eq]; omega), ?_⟩
        have nbpl : b ≠ pl := (ne_of_none hpl nb3).symm
        have hp' : p < (dropS s p).pics.length := by rw [(dropS_len s p).2, gd.four]; exact hp4
        have a5 := a4.putPic (p := p) (h := h) hp' e1 e2 (s34 _ _ hpl) (a3.fresh nc) (a3.fresh nb3) opl nbpl (s34 _ _ hd3)
        refine q _ (putO O p c b pl) ?_ fun z o e on => ?_
        · have e6 := dropS_set s p (some ⟨w, h, (Ie07.keepAll (dropS s p).store (List.replicate (w * h) Ie07.blank)).2, []⟩)
          unfold pageS
          rw [← e6]
          exact a5
        · have h1 := k1.ext z o e on
          have h3 := k13 z o h1.1 (free_ne on a.rta) (free_ne on a.rca)
          refine ⟨(upd_ne (free_ne on a.rdi)).trans (s34 _ _ h3), putO_none on (ne_of_none h3 nc) (ne_of_none h3 nb3) (ne_of_none h1.1 npl1)⟩
theorem ok_Album_copy_picture (T : Txt K mg A) : FnOk P w K mg base CX0 3 A.f_Album_copy_picture A.fd_Album_copy_picture ["self", "p", "q"] (sp_Album_copy_picture K A) := by
  refine T.F_Album_copy_picture.ok sc_Album_copy_picture (fun vs H Q E h => ?_) (fun cdv Ar outer s H vs Q E hr h => ?_)
  · obtain ⟨O, x, n, p, k, s, y, rfl, _⟩ := h
    rfl
  · obtain ⟨O, x, n, p, k, s, y, rfl, a, gd, hn, hk4, hpk, hy, q⟩ := h
    obtain ⟨dx, hi⟩ := a.ins
    obtain ⟨kvs, hd, hl, hp⟩ := a.dic
    obtain ⟨c, h1, h2⟩ := (hp p).2 y hy
    obtain ⟨dxp, pl, b, olds, g1, g2, g3, g4, g5, g6, g7⟩ := h2.ex
    obtain ⟨dxs, hst⟩ := a.sto.ins
    have dg : DGet H x.di (kV (Sum.inl (p : Int))) (some (.ref c)) := by rw [← h1]; exact DGet.k hd
    refine ⟨_, (pss_cons (ps_set (i := 3) sc_Album_copy_picture.nd rfl (Or.inl rfl) (pe_dget (hu_of hr) (pe_fld (pv 0) rfl) (pv 1) (fun _ _ => rfl)))
      (pss_cons (ps_expr (pe_meth (pe_fld (pv 0) rfl) T.cl_Store T.m_Store_point_again (ok_Store_point_again T) (hr.mono (by decide)) T.b_Store_point_again .nil pass0 (pa_cons (pe_fld (pv 3) rfl) pa_nil)))
      (pss_cons (ps_expr (pe_meth (pv 0) T.cl_Album T.m_Album_drop_picture (ok_Album_drop_picture T) (hr.mono (by decide)) T.b_Album_drop_picture .nil pass0 (pa_cons (pv 2) pa_nil)))
      (pss_one (ps_dput (hu_of hr) (pe_fld (pv 0) rfl) (pv 2) (pe_make T.mk_Picture (ok_Picture_init T) (hr.mono (by decide)) (by rfl) T.g_Picture T.b_Picture_init .nil pass0 (pa_cons (pe_fld (pv 3) rfl) (pa_cons (pe_callTy call_list_of (by rfl) T.n_list (by decide +kernel) (pa_cons (pe_fld (pv 3) rfl) pa_nil)) pa_nil))) rfl))))), ?_⟩
    refine ⟨_, rfl, x.al, A.c_Album, dx, _, _, rfl, hi, T.cl_Album, T.no_Album_pictures, aF_pictures _ _, _, rfl, x.di, _, rfl, dg, ?_⟩
    refine ⟨_, rfl, x.al, A.c_Album, dx, _, _, rfl, hi, T.cl_Album, T.no_Album_store, aF_store _ _, x.st, dxs, _, rfl, hst, sF_no (by decide +kernel) (by decide +kernel), _, rfl, c, A.c_Picture, dxp, _, _, rfl, g1, T.cl_Picture, T.no_Picture_places, pF_places _ _ _, x.st, x.ta, x.ca, pl, s.store, y.at_, rfl, a.sto, g3, role_ne g2 a.rca (by decide), fun i hi => gd.at_pos hy hi, fun H1 sa1 k1 => ?_⟩
    have a1 := a.store (m := n) k1 sa1 (by rw [moreAll_len]; exact a.few) (Nat.le_refl _)
    have kk1 : KeepO O H H1 := fun b o h n0 n1 n4 => k1 b o h (fun z => n0 (by rw [z]; exact a.rta)) (fun z => n1 (by rw [z]; exact a.rca))
    obtain ⟨dx1, hi1⟩ := a1.ins
    refine ⟨_, rfl, x.al, dx1, _, rfl, hi1, aF_no (by decide +kernel) (by decide +kernel), _, rfl, O, x, n, k, _, rfl, a1, fun i => ?_, fun H2 a2 k2 => ?_⟩
    · show cntP i (s.pic k) ≤ refsAt (Ie07.moreAll s.store y.at_) i
      have h5 := cntP_le (s := s) (p := k) i
      rw [← gd.refs] at h5
      by_cases hi : i < s.store.length
      · rw [moreAll_refs _ _ _ hi]
        omega
      · have e1 : refsAt s.store i = 0 := by unfold refsAt; rw [List.getElem?_eq_none_iff.mpr (by omega)]; rfl
        omega
    · have kk2 : KeepO O H H2 := fun b o h n0 n1 n4 => k2 b o (kk1 b o h n0 n1 n4) n0 n1 n4
      obtain ⟨dx2, hi2⟩ := a2.ins
      obtain ⟨kvs2, hd2, hl2, _⟩ := a2.dic
      have hc2 := kk2.at h2.role (by omega) (by omega) (by omega) g1
      have hpl2 := kk2.at g2 (by decide) (by decide) (by decide) g3
      refine ⟨_, rfl, c, A.c_Picture, dxp, _, _, rfl, hc2, T.cl_Picture, T.no_Picture_wide, pF_wide _ _ _, _, rfl, c, A.c_Picture, dxp, _, _, rfl, hc2, T.cl_Picture, T.no_Picture_places, pF_places _ _ _, pl, _, rfl, .inl (SqL.of hpl2), fun pl' npl' => ?_⟩
      have sp' : Same H2 (upd H2 pl' (HO.lst (vi y.at_))) := fun b o e => (upd_ne (ne_of_none e npl')).trans e
      have a3 := a2.same sp'
      refine fun c' dxc nc ndxc nec => ?_
      have sc : Same (upd H2 pl' (HO.lst (vi y.at_))) (upd (upd (upd H2 pl' (HO.lst (vi y.at_))) dxc (.own c')) c' (.ins A.c_Picture dxc [])) := fun b o e => by
        rw [upd_ne (ne_of_none e nc), upd_ne (ne_of_none e ndxc)]
        exact e
      refine ⟨c', dxc, pl', y.w, rfl, upd_same, fun H4 b' e1 e2 nb k4 => ⟨rfl, ?_⟩⟩
      have s34 : Same (upd H2 pl' (HO.lst (vi y.at_))) H4 := fun z o e => k4 z o (sc z o e) (ne_of_none e nc)
      have nb3 := sc.free nb
      have a4 := a3.same s34
      refine ⟨_, rfl, x.al, A.c_Album, dx2, _, _, rfl, s34 _ _ (sp' _ _ hi2), T.cl_Album, T.no_Album_pictures, aF_pictures _ _, _, rfl, x.di, _, rfl, DPut.k (k := Sum.inl (k : Int)) (s34 _ _ (sp' _ _ hd2)) (by rw [line_eq]; omega), ?_⟩
      have hp' : k < (dropS ⟨Ie07.moreAll s.store y.at_, s.pics⟩ k).pics.length := by rw [(dropS_len _ k).2]; show k < s.pics.length; rw [gd.four]; exact hk4
      have a5 := a4.putPic (p := k) (h := y.h) hp' e1 e2 (s34 _ _ upd_same) (a3.fresh nc) (a3.fresh nb3) (a2.fresh npl') (ne_of_none upd_same nb3).symm (s34 _ _ (sp' _ _ hd2))
      refine q _ (putO O k c' b' pl') ?_ fun z o e on => ?_
      · have e6 := dropS_set ⟨Ie07.moreAll s.store y.at_, s.pics⟩ k (some { y with old := [] })
        unfold copyS
        have e7 : s.pics.set k (some { y with old := [] }) = (dropS ⟨Ie07.moreAll s.store y.at_, s.pics⟩ k).pics.set k (some { y with old := [] }) := e6.symm
        rw [e7]
        exact a5.up (by omega)
      · have h3 := kk2.ext z o e on
        refine ⟨(upd_ne (free_ne on a.rdi)).trans (s34 _ _ (sp' _ _ h3.1)), putO_none on (ne_of_none (sp' _ _ h3.1) nc) (ne_of_none (sp' _ _ h3.1) nb3) (ne_of_none h3.1 npl')⟩
end
end TS
namespace TS
open PySem PySem.Spec PyProof.Rows L2
def sp_Album_change_picture (K : PySem.W.Frag) (A : Ad) : Sp := fun vs H Q _ => ∃ (O : Own) (x : Ax) (n p : Nat) (g : Addr) (s : Ie07.St) (y : Ie07.Pic) (f : Nat → Nat → Nat), vs = [.ref x.al, .int (p : Int), .ref g] ∧ AlbumAt A O H x n s ∧ Good s ∧ n ≤ 90 ∧ s.pic p = some y ∧ GridRd H g (4 * y.w) (4 * y.h) f ∧
  ∀ (H' : Hp) (O' : Own), AlbumAt A O' H' x (n + 2) (Ie07.changed s p y (tilesOf f y.w y.h)) → Ext O H O' H' → Q .non H'
def sp_Album_step_back (K : PySem.W.Frag) (A : Ad) : Sp := fun vs H Q _ => ∃ (O : Own) (x : Ax) (n p : Nat) (s : Ie07.St) (y : Ie07.Pic) (o : List Nat) (r : List (List Nat)), vs = [.ref x.al, .int (p : Int)] ∧ AlbumAt A O H x n s ∧ Good s ∧ s.pic p = some y ∧ y.old = o :: r ∧
  ∀ (H' : Hp), AlbumAt A O H' x n (undoS s p y o r) → Ext O H O H' → Q .non H'
section
variable {P : Program} {w : World} {K : PySem.W.Frag} {mg : Str → Option Value} {base : Heap} {A : Ad}
theorem ok_Album_step_back (T : Txt K mg A) : FnOk P w K mg base CX0 2 A.f_Album_step_back A.fd_Album_step_back ["self", "p"] (sp_Album_step_back K A) := by
  refine T.F_Album_step_back.ok sc_Album_step_back (fun vs H Q E h => ?_) (fun cdv Ar outer s H vs Q E hr h => ?_)
  · obtain ⟨O, x, n, p, s, y, o, r, rfl, _⟩ := h
    rfl
  · obtain ⟨O, x, n, p, s, y, o, r, rfl, a, gd, hy, hor, q⟩ := h
    obtain ⟨dx, hi⟩ := a.ins
    obtain ⟨kvs, hd, hl, hp⟩ := a.dic
    obtain ⟨c, h1, h2⟩ := (hp p).2 y hy
    obtain ⟨dxp, pl, b, olds, g1, g2, g3, g4, g5, g6, g7⟩ := h2.ex
    obtain ⟨dxs, hst⟩ := a.sto.ins
    have dg : DGet H x.di (kV (Sum.inl (p : Int))) (some (.ref c)) := by rw [← h1]; exact DGet.k hd
    have ok := gd.pics p y hy
    refine ⟨_, (pss_cons (ps_set (i := 2) sc_Album_step_back.nd rfl (Or.inl rfl) (pe_dget (hu_of hr) (pe_fld (pv 0) rfl) (pv 1) (fun _ _ => rfl)))
      (pss_cons (ps_expr (pe_meth (pe_fld (pv 0) rfl) T.cl_Store T.m_Store_let_go_each (ok_Store_let_go_each T) (hr.mono (by decide)) T.b_Store_let_go_each .nil pass0 (pa_cons (pe_fld (pv 2) rfl) pa_nil)))
      (pss_one (ps_fld (pv 2) (pe_bm PySem.F.plainAttrs_list PySem.F.slot_list_pop PySem.F.type_list_pop mt_popAt (pe_fld (pv 2) rfl) (pa_cons pe_int pa_nil)) rfl)))), ?_⟩
    refine ⟨_, rfl, x.al, A.c_Album, dx, _, _, rfl, hi, T.cl_Album, T.no_Album_pictures, aF_pictures _ _, _, rfl, x.di, _, rfl, dg, ?_⟩
    refine ⟨_, rfl, x.al, A.c_Album, dx, _, _, rfl, hi, T.cl_Album, T.no_Album_store, aF_store _ _, x.st, dxs, _, rfl, hst, sF_no (by decide +kernel) (by decide +kernel), _, rfl, c, A.c_Picture, dxp, _, _, rfl, g1, T.cl_Picture, T.no_Picture_places, pF_places _ _ _, x.st, x.ta, x.ca, pl, s.store, y.at_, rfl, a.sto, g3, role_ne g2 a.rca (by decide), fun i => ?_, fun H1 sa1 k1 => ?_⟩
    · have h5 := cntP_le (s := s) (p := p) i
      rw [← gd.refs, hy] at h5
      simp [cntP, cntL] at h5
      omega
    · have a1 := a.store (m := n) k1 sa1 (by rw [lessAll_len]; exact a.few) (Nat.le_refl _)
      have kk1 : KeepO O H H1 := fun b o h n0 n1 n4 => k1 b o h (fun z => n0 (by rw [z]; exact a.rta)) (fun z => n1 (by rw [z]; exact a.rca))
      have hc1 := kk1.at h2.role (by omega) (by omega) (by omega) g1
      have hb1 := kk1.at g4 (by omega) (by omega) (by omega) g5
      rw [hor] at g6
      obtain ⟨ro, olds', rfl⟩ : ∃ a l, olds = a :: l := by
        cases olds with
        | nil => simp at g6
        | cons a l => exact ⟨a, l, rfl⟩
      obtain ⟨q1, q2⟩ := g7 0 ro o rfl (by rw [hor]; rfl)
      have nbc : b ≠ c := role_ne g4 h2.role (by omega)
      have nrb : ro ≠ b := role_ne q1 g4 (by omega)
      have nrc : ro ≠ c := role_ne q1 h2.role (by omega)
      refine ⟨_, rfl, c, A.c_Picture, dxp, _, _, rfl, hc1, T.cl_Picture, T.no_Picture_before, pF_before _ _ _, .inl ⟨rfl, _, SqL.of hb1⟩, b, _, 0, 0, V.ref ro, rfl, rfl, hb1, by decide, by decide, ?_, rfl, ?_⟩
      · have := PySem.seqIndex_of (k := 0) (n := ((ro :: olds').map V.ref).length) (by decide) (by simp)
        exact this
      refine ⟨_, rfl, c, A.c_Picture, dxp, _, rfl, (upd_ne nbc.symm).trans hc1, T.cl_Picture, T.no_Picture_places, (by show 3 < 1000; decide), ?_⟩
      rw [pF_put]
      have kn : ∀ z ob, H1 z = some ob → z ≠ c → z ≠ b → upd (upd H1 b (HO.lst (((ro :: olds').map V.ref).eraseIdx 0))) c (HO.ins A.c_Picture dxp (picF y.w ro b)) z = some ob := fun z ob e nc nb => by
        rw [upd_ne nc, upd_ne nb]
        exact e
      refine q _ ?_ fun z ob e on => ?_
      · refine a1.edit (s := ⟨Ie07.lessAll s.store y.at_, s.pics⟩) (q := y) hy (c := c) (fun kvs' e => ?_) (fun _ _ e => e) (fun z hz => ?_) (fun z ob e n1 n2 => kn z ob e (fun w => n1 (by rw [w]; exact h2.role)) (fun w => n2 (by rw [w]; exact g4))) (fun z xs e => kn z _ e (ne_of e hc1 (by intro w; cases w)) (ne_of e hb1 (by intro w; cases w))) ?_
        · obtain ⟨kvs1, hd1, _⟩ := a1.dic
          have hd0 : H1 x.di = some (.dK kvs) := k1 _ _ hd (role_ne a.rdi a.rta (by decide)) (role_ne a.rdi a.rca (by decide))
          rw [hd0] at e
          cases e
          exact h1
        · by_cases e1 : z = c
          · rw [e1, upd_same]; exact fun w => by cases w
          · by_cases e2 : z = b
            · rw [e2, upd_ne nbc, upd_same]; exact fun w => by cases w
            · rw [upd_ne e1, upd_ne e2]; exact a1.own z hz
        · refine ⟨h2.role, dxp, ro, b, olds', upd_same, q1, ?_, g4, ?_, by simpa using g6, fun i r' l e1 e2 => ?_⟩
          · exact kn _ _ (kk1.at q1 (by decide) (by decide) (by decide) q2) nrc nrb
          · rw [upd_ne nbc, upd_same]; rfl
          · obtain ⟨f1, f2⟩ := g7 (i + 1) r' l (by simpa using e1) (by rw [hor]; simpa using e2)
            exact ⟨f1, kn _ _ (kk1.at f1 (by decide) (by decide) (by decide) f2) (role_ne f1 h2.role (by omega)) (role_ne f1 g4 (by omega))⟩
      · have h3 := kk1.ext z ob e on
        exact ⟨kn _ _ h3.1 (free_ne on h2.role) (free_ne on g4), on⟩
theorem ok_Album_change_picture (T : Txt K mg A) : FnOk P w K mg base CX0 6 A.f_Album_change_picture A.fd_Album_change_picture ["self", "p", "rows"] (sp_Album_change_picture K A) := by
  refine T.F_Album_change_picture.ok sc_Album_change_picture (fun vs H Q E h => ?_) (fun cdv Ar outer s H vs Q E hr h => ?_)
  · obtain ⟨O, x, n, p, g, s, y, f, rfl, _⟩ := h
    rfl
  · obtain ⟨O, x, n, p, g, s, y, f, rfl, a, gd, hn, hy, G, q⟩ := h
    obtain ⟨dx, hi⟩ := a.ins
    obtain ⟨kvs, hd, hl, hp⟩ := a.dic
    obtain ⟨c, h1, h2⟩ := (hp p).2 y hy
    obtain ⟨dxp, pl, b, olds, g1, g2, g3, g4, g5, g6, g7⟩ := h2.ex
    obtain ⟨dxs, hst⟩ := a.sto.ins
    obtain ⟨tsa, hta, _⟩ := a.sto.til
    have hca := a.sto.cnt
    have dg : DGet H x.di (kV (Sum.inl (p : Int))) (some (.ref c)) := by rw [← h1]; exact DGet.k hd
    have ok := gd.pics p y hy
    have hwh : y.w * y.h ≤ 16 := Nat.le_trans (Nat.mul_le_mul ok.w4 ok.h4) (by decide)
    obtain ⟨tl1, tl2⟩ := tilesOf_len f y.w y.h
    have hfew := a.few
    refine ⟨_, (pss_cons (ps_set (i := 3) sc_Album_change_picture.nd rfl (Or.inl rfl) (pe_dget (hu_of hr) (pe_fld (pv 0) rfl) (pv 1) (fun _ _ => rfl)))
      (pss_cons (ps_set (i := 4) sc_Album_change_picture.nd rfl (Or.inl rfl) (pe_meth (pe_fld (pv 0) rfl) T.cl_Store T.m_Store_keep_each (ok_Store_keep_each T) (hr.mono (by decide)) T.b_Store_keep_each .nil pass0 (pa_cons (pe_call (ok_tiles_of_rows T) (hr.mono (by decide)) (by rfl) T.g_tiles_of_rows T.F_tiles_of_rows.kp T.b_tiles_of_rows .nil pass0 (pa_cons (pv 2) pa_nil)) pa_nil)))
      (pss_cons (ps_expr (pe_bm PySem.F.plainAttrs_list PySem.F.slot_list_insert PySem.F.type_list_insert mt_insert (pe_fld (pv 3) rfl) (pa_cons pe_int (pa_cons (pe_fld (pv 3) rfl) pa_nil))))
      (pss_cons (ps_fld (pv 3) (pv 4) rfl)
      (pss_one (ps_if (pt_cmpR op_gt (pe_callB call_len_seq (by rfl) T.n_len (by decide +kernel) (pa_cons (pe_fld (pv 3) rfl) pa_nil)) (pe_gint (by rfl) T.g_MOST_BEFORE) (nomark _)) (pss_one (ps_expr (pe_meth (pe_fld (pv 0) rfl) T.cl_Store T.m_Store_let_go_each (ok_Store_let_go_each T) (hr.mono (by decide)) T.b_Store_let_go_each .nil pass0 (pa_cons (pe_bm0 PySem.F.plainAttrs_list PySem.F.slot_list_pop PySem.F.type_list_pop mt_pop (pe_fld (pv 3) rfl)) pa_nil)))) pss_nil)))))), ?_⟩
    refine ⟨_, rfl, x.al, A.c_Album, dx, _, _, rfl, hi, T.cl_Album, T.no_Album_pictures, aF_pictures _ _, _, rfl, x.di, _, rfl, dg, ?_⟩
    refine ⟨_, rfl, x.al, A.c_Album, dx, _, _, rfl, hi, T.cl_Album, T.no_Album_store, aF_store _ _, x.st, dxs, _, rfl, hst, sF_no (by decide +kernel) (by decide +kernel), _, rfl, g, y.w, y.h, f, rfl, G, ok.w1, ok.w4, ok.h1, ok.h4, fun H1 m as s1 nm hm has hti => ?_⟩
    have a1 := a.same s1
    refine ⟨x.st, x.ta, x.ca, m, s.store, as, tilesOf f y.w y.h, rfl, a1.sto, by omega, hm, (ne_of_none hta nm).symm, (ne_of_none hca nm).symm, by omega, hti, fun H2 pl' sa2 k2 npl hpl' => ?_⟩
    have hlen := keepAll_len (tilesOf f y.w y.h) s.store
    have a2 := a1.store (m := n + 1) k2 sa2 (by omega) (by omega)
    have k02 : Kp x.ta x.ca H H2 := Kp.trans (Same.kp s1) k2
    have kk2 : KeepO O H H2 := fun b o h n0 n1 n4 => k02 b o h (fun z => n0 (by rw [z]; exact a.rta)) (fun z => n1 (by rw [z]; exact a.rca))
    have npl0 : H pl' = none := s1.free npl
    have opl : O pl' = none := a.fresh npl0
    have hc2 := kk2.at h2.role (by omega) (by omega) (by omega) g1
    have hb2 := kk2.at g4 (by omega) (by omega) (by omega) g5
    have nbc : b ≠ c := role_ne g4 h2.role (by omega)
    refine ⟨_, rfl, c, A.c_Picture, dxp, _, _, rfl, hc2, T.cl_Picture, T.no_Picture_before, pF_before _ _ _, .inl ⟨rfl, _, SqL.of hb2⟩, _, rfl, c, A.c_Picture, dxp, _, _, rfl, hc2, T.cl_Picture, T.no_Picture_places, pF_places _ _ _, b, _, 0, V.ref pl, rfl, rfl, hb2, by rw [List.length_map, line_eq, g6]; have := ok.few; omega, by decide, by decide, ?_⟩
    have ei : (List.take (Int.toNat 0) (olds.map V.ref) ++ [V.ref pl] ++ List.drop (Int.toNat 0) (olds.map V.ref)) = (pl :: olds).map V.ref := by simp
    rw [ei]
    refine ⟨_, rfl, _, rfl, c, A.c_Picture, dxp, _, rfl, (upd_ne nbc.symm).trans hc2, T.cl_Picture, T.no_Picture_places, (by show 3 < 1000; decide), ?_⟩
    rw [pF_put]
    -- the picture as it is now, with all that was before
    have kn : ∀ z ob, H2 z = some ob → z ≠ c → z ≠ b → upd (upd H2 b (HO.lst ((pl :: olds).map V.ref))) c (HO.ins A.c_Picture dxp (picF y.w pl' b)) z = some ob := fun z ob e nc nb => by
      rw [upd_ne nc, upd_ne nb]
      exact e
    generalize hH4 : upd (upd H2 b (HO.lst ((pl :: olds).map V.ref))) c (HO.ins A.c_Picture dxp (picF y.w pl' b)) = H4 at kn ⊢
    have hc4 : H4 c = some (HO.ins A.c_Picture dxp (picF y.w pl' b)) := by rw [← hH4, upd_same]
    have hb4 : H4 b = some (HO.lst ((pl :: olds).map V.ref)) := by rw [← hH4, upd_ne nbc, upd_same]
    have ho : ∀ z r, O z = some r → (fun z => if z = pl' then some 5 else O z) z = some r := fun z r e => by
      show (if z = pl' then some 5 else O z) = some r
      rw [if_neg (free_ne opl e).symm]
      exact e
    have rold : ∀ (i : Nat) (r : Addr) (l : List Nat), (pl :: olds)[i]? = some r → (y.at_ :: y.old)[i]? = some l → O r = some 5 ∧ H r = some (.lst (vi l)) := fun i r l e1 e2 => by
      cases i with
      | zero =>
        simp at e1 e2
        subst e1 e2
        exact ⟨g2, g3⟩
      | succ i => exact g7 i r l (by simpa using e1) (by simpa using e2)
    have a4 : AlbumAt A (fun z => if z = pl' then some 5 else O z) H4 x (n + 1) ⟨(Ie07.keepAll s.store (tilesOf f y.w y.h)).1, s.pics.set p (some { y with at_ := (Ie07.keepAll s.store (tilesOf f y.w y.h)).2, old := y.at_ :: y.old })⟩ := by
      refine a2.edit (s := ⟨(Ie07.keepAll s.store (tilesOf f y.w y.h)).1, s.pics⟩) (q := y) hy (c := c) (fun kvs' e => ?_) ho (fun z hz => ?_) (fun z ob e n1 n2 => kn z ob e (fun w => n1 (by rw [w]; exact h2.role)) (fun w => n2 (by rw [w]; exact g4))) (fun z xs e => kn z _ e (ne_of e hc2 (by intro w; cases w)) (ne_of e hb2 (by intro w; cases w))) ?_
      · have hd0 : H2 x.di = some (.dK kvs) := k02 _ _ hd (role_ne a.rdi a.rta (by decide)) (role_ne a.rdi a.rca (by decide))
        rw [hd0] at e
        cases e
        exact h1
      · by_cases e1 : z = c
        · rw [e1, hc4]; exact fun w => by cases w
        · by_cases e2 : z = b
          · rw [e2, hb4]; exact fun w => by cases w
          · by_cases e3 : z = pl'
            · rw [e3, kn _ _ hpl' (free_ne opl h2.role) (free_ne opl g4)]; exact fun w => by cases w
            · have hz' : O z ≠ none := by
                have hz2 : (if z = pl' then some 5 else O z) ≠ none := hz
                rw [if_neg e3] at hz2
                exact hz2
              cases e : H2 z with
              | none => exact absurd e (a2.own z hz')
              | some ob => rw [kn z ob e e1 e2]; exact fun w => by cases w
      · refine ⟨ho _ _ h2.role, dxp, pl', b, pl :: olds, hc4, ?_, kn _ _ hpl' (free_ne opl h2.role) (free_ne opl g4), ho _ _ g4, hb4, by simp [g6], fun i r l e1 e2 => ?_⟩
        · show (if pl' = pl' then some 5 else O pl') = some 5
          rw [if_pos rfl]
        · obtain ⟨f1, f2⟩ := rold i r l e1 e2
          exact ⟨ho _ _ f1, kn _ _ (kk2.at f1 (by decide) (by decide) (by decide) f2) (role_ne f1 h2.role (by omega)) (role_ne f1 g4 (by omega))⟩
    have x4 : Ext O H (fun z => if z = pl' then some 5 else O z) H4 := fun z ob e on => by
      have h3 := kk2.ext z ob e on
      refine ⟨kn _ _ h3.1 (free_ne on h2.role) (free_ne on g4), ?_⟩
      show (if z = pl' then some 5 else O z) = none
      rw [if_neg (ne_of_none e npl0)]
      exact on
    refine ⟨_, rfl, c, A.c_Picture, dxp, _, _, rfl, hc4, T.cl_Picture, T.no_Picture_before, pF_before _ _ _, b, _, rfl, .inl (SqL.of hb4), _, _, rfl, rfl, _, rfl, ?_⟩
    have el : (((pl :: olds).map V.ref).length : Nat) = y.old.length + 1 := by simp [g6]
    rw [el]
    by_cases c3 : y.old.length = 3
    · refine if_true_of (decide_eq_true (by omega)) ?_
      -- the last of what was before is let go
      obtain ⟨dx4, hi4⟩ := a4.ins
      obtain ⟨dxs4, hst4⟩ := a4.sto.ins
      obtain ⟨r3, hr3⟩ : ∃ r, (pl :: olds)[3]? = some r := ⟨(pl :: olds)[3]'(by simp; omega), List.getElem?_eq_getElem _⟩
      obtain ⟨l3, hl3⟩ : ∃ l, (y.at_ :: y.old)[3]? = some l := ⟨(y.at_ :: y.old)[3]'(by simp; omega), List.getElem?_eq_getElem _⟩
      obtain ⟨r5, r6⟩ := rold 3 r3 l3 hr3 hl3
      have nr3b : r3 ≠ b := role_ne r5 g4 (by omega)
      have nr3c : r3 ≠ c := role_ne r5 h2.role (by omega)
      have hr34 : H4 r3 = some (.lst (vi l3)) := kn _ _ (kk2.at r5 (by decide) (by decide) (by decide) r6) nr3c nr3b
      have etk : ((pl :: olds).map V.ref).dropLast = ((pl :: olds).take 3).map V.ref := by
        rw [List.dropLast_eq_take, el, c3, List.map_take]
      refine ⟨_, rfl, x.al, A.c_Album, dx4, _, _, rfl, hi4, T.cl_Album, T.no_Album_store, aF_store _ _, x.st, dxs4, _, rfl, hst4, sF_no (by decide +kernel) (by decide +kernel), _, rfl, c, A.c_Picture, dxp, _, _, rfl, hc4, T.cl_Picture, T.no_Picture_before, pF_before _ _ _, .inl ⟨rfl, _, SqL.of hb4⟩, b, _, V.ref r3, rfl, rfl, hb4, ?_, ?_⟩
      · rw [el, c3]
        exact refs_some hr3
      · rw [etk]
        have kn5 : ∀ z ob, H4 z = some ob → z ≠ b → upd H4 b (HO.lst (((pl :: olds).take 3).map V.ref)) z = some ob := fun z ob e nb => (upd_ne nb).trans e
        have a5 : AlbumAt A (fun z => if z = pl' then some 5 else O z) (upd H4 b (HO.lst (((pl :: olds).take 3).map V.ref))) x (n + 1) ⟨(Ie07.keepAll s.store (tilesOf f y.w y.h)).1, (s.pics.set p (some { y with at_ := (Ie07.keepAll s.store (tilesOf f y.w y.h)).2, old := y.at_ :: y.old })).set p (some { y with at_ := (Ie07.keepAll s.store (tilesOf f y.w y.h)).2, old := (y.at_ :: y.old).take 3 })⟩ := by
          refine a4.edit (q := { y with at_ := (Ie07.keepAll s.store (tilesOf f y.w y.h)).2, old := y.at_ :: y.old }) ?_ (c := c) (fun kvs' e => ?_) (fun _ _ e => e) (fun z hz => ?_) (fun z ob e n1 n2 => kn5 z ob e (fun w => n2 (by rw [w]; exact ho _ _ g4))) (fun z xs e => kn5 z _ e (ne_of e hb4 (by intro w; cases w))) ?_
          · rw [pic_set (pic_lt hy), if_pos rfl]
          · have hd0 : H2 x.di = some (.dK kvs) := k02 _ _ hd (role_ne a.rdi a.rta (by decide)) (role_ne a.rdi a.rca (by decide))
            have hd4 : H4 x.di = some (.dK kvs) := kn _ _ hd0 (role_ne a.rdi h2.role (by omega)) (role_ne a.rdi g4 (by omega))
            rw [hd4] at e
            cases e
            exact h1
          · by_cases e2 : z = b
            · rw [e2, upd_same]; exact fun w => by cases w
            · rw [upd_ne e2]; exact a4.own z hz
          · refine ⟨ho _ _ h2.role, dxp, pl', b, (pl :: olds).take 3, kn5 _ _ hc4 nbc.symm, ?_, kn5 _ _ (kn _ _ hpl' (free_ne opl h2.role) (free_ne opl g4)) (free_ne opl g4), ho _ _ g4, upd_same, by simp [g6], fun i r l e1 e2 => ?_⟩
            · show (if pl' = pl' then some 5 else O pl') = some 5
              rw [if_pos rfl]
            · rw [List.getElem?_take] at e1 e2
              split at e1
              · rename_i h3
                rw [if_pos h3] at e2
                obtain ⟨f1, f2⟩ := rold i r l e1 e2
                exact ⟨ho _ _ f1, kn5 _ _ (kn _ _ (kk2.at f1 (by decide) (by decide) (by decide) f2) (role_ne f1 h2.role (by omega)) (role_ne f1 g4 (by omega))) (role_ne f1 g4 (by omega))⟩
              · cases e1
        refine ⟨x.st, x.ta, x.ca, r3, _, l3, rfl, a5.sto, kn5 _ _ hr34 nr3b, role_ne r5 a.rca (by decide), fun i => ?_, fun H6 sa6 k6 => ?_⟩
        · show l3.count i ≤ refsAt (Ie07.keepAll s.store (tilesOf f y.w y.h)).1 i
          rw [keepAll_refs]
          have h5 := cntP_le (s := s) (p := p) i
          rw [← gd.refs, hy] at h5
          have h6 : l3.count i ≤ cntP i (some y) := by
            have h7 := cntL_take_drop i 3 (y.at_ :: y.old)
            have h8 : (y.at_ :: y.old).drop 3 = [l3] := by
              apply List.ext_getElem?
              intro j
              rw [List.getElem?_drop]
              cases j with
              | zero => exact hl3
              | succ j => rw [List.getElem?_eq_none_iff.mpr (by simp; omega)]; simp
            rw [h8] at h7
            have h9 : cntL i [l3] = l3.count i := by simp [cntL]
            have h10 : cntP i (some y) = cntL i (y.at_ :: y.old) := rfl
            omega
          omega
        · have a6 := a5.store (m := n + 1) k6 sa6 (by rw [lessAll_len]; exact a5.few) (Nat.le_refl _)
          refine q _ (fun z => if z = pl' then some 5 else O z) ?_ (x4.trans fun z ob e on => ?_)
          · have h8 : (y.at_ :: y.old).drop 3 = [l3] := by
              apply List.ext_getElem?
              intro j
              rw [List.getElem?_drop]
              cases j with
              | zero => exact hl3
              | succ j => rw [List.getElem?_eq_none_iff.mpr (by simp; omega)]; simp
            have e8 : Ie07.changed s p y (tilesOf f y.w y.h) = ⟨Ie07.lessAll (Ie07.keepAll s.store (tilesOf f y.w y.h)).1 l3, (s.pics.set p (some { y with at_ := (Ie07.keepAll s.store (tilesOf f y.w y.h)).2, old := y.at_ :: y.old })).set p (some { y with at_ := (Ie07.keepAll s.store (tilesOf f y.w y.h)).2, old := (y.at_ :: y.old).take 3 })⟩ := by
              unfold Ie07.changed
              simp only [Ie07.KEPT, h8, List.foldl_cons, List.foldl_nil, List.set_set]
            rw [e8]
            exact a6.up (by omega)
          · exact ⟨k6 _ _ (kn5 _ _ e (free_ne (O := fun z => if z = pl' then some 5 else O z) on (ho _ _ g4))) (free_ne (O := fun z => if z = pl' then some 5 else O z) on (ho _ _ a.rta)) (free_ne (O := fun z => if z = pl' then some 5 else O z) on (ho _ _ a.rca)), on⟩
    · refine if_false_of (decide_eq_false (by have := ok.few; omega)) ?_
      have h3 := ok.few
      refine q _ _ ?_ x4
      have e8 : Ie07.changed s p y (tilesOf f y.w y.h) = ⟨(Ie07.keepAll s.store (tilesOf f y.w y.h)).1, s.pics.set p (some { y with at_ := (Ie07.keepAll s.store (tilesOf f y.w y.h)).2, old := y.at_ :: y.old })⟩ := by
        unfold Ie07.changed
        have hk : (y.at_ :: y.old).length ≤ Ie07.KEPT := by show y.old.length + 1 ≤ 3; omega
        simp only [List.drop_eq_nil_of_le hk, List.take_of_length_le hk, List.foldl_nil]
      rw [e8]
      exact a4.up (by omega)
end
end TS
namespace TS
open PySem PySem.Spec PyProof.Rows L2
/-- what a call's answer is wanted for: the specification's state, its numbers in a new list -/
def AnsQ (A : Ad) (O : Own) (H : Hp) (x : Ax) (n : Nat) (r : Ie07.St × List Int) (Q : VK) : Prop :=
  ∀ (H' : Hp) (O' : Own) (l : Addr), AlbumAt A O' H' x (n + 2) r.1 → Ext O H O' H' → (∀ b o, H b = some o → O b = none → b ≠ l) → H' l = some (.lst (r.2.map V.int)) → Q (.ref l) H'
theorem AnsQ.no {A : Ad} {O : Own} {H : Hp} {x : Ax} {n : Nat} {s : Ie07.St} {r : Ie07.St × List Int} {Q : VK} (q : AnsQ A O H x n r Q) {z : Int} (e : r = (s, [z])) {H1 : Hp} (k : Same H H1) (a : AlbumAt A O H x n s) {l : Addr} (hl : H1 l = none) : Q (.ref l) (upd H1 l (.lst [.int z])) := by
  subst e
  have k2 : Same H (upd H1 l (.lst [.int z])) := fun b o h => (upd_ne (ne_of_none (k b o h) hl)).trans (k b o h)
  exact q _ O l ((a.same k2).up (by omega)) (Ext.of_same k2) (fun b o h _ => ne_of_none (k b o h) hl) upd_same
/-- an answer that changes nothing -/
theorem AnsQ.tell {A : Ad} {O : Own} {H : Hp} {x : Ax} {n : Nat} {s : Ie07.St} {r : Ie07.St × List Int} {Q : VK} (q : AnsQ A O H x n r Q) {zs : List Int} (e : r = (s, zs)) {H1 : Hp} (k : Same H H1) (a : AlbumAt A O H x n s) {l : Addr} (hl : H l = none) (h1 : H1 l = some (.lst (zs.map V.int))) : Q (.ref l) H1 := by
  subst e
  exact q _ O l ((a.same k).up (by omega)) (Ext.of_same k) (fun b o h _ => ne_of_none h hl) h1
/-- how it stands, told behind a change -/
theorem AnsQ.stands {A : Ad} {O O1 : Own} {H H1 : Hp} {x : Ax} {n : Nat} {s1 : Ie07.St} {r : Ie07.St × List Int} {Q : VK} (q : AnsQ A O H x n r Q) (e : r = Ie07.told s1) (a : AlbumAt A O1 H1 x (n + 2) s1) (k : Ext O H O1 H1) {H2 : Hp} {l : Addr} (k2 : Same H1 H2) (hl : H1 l = none)
    (h2 : H2 l = some (.lst (vi [Ie07.inUse s1.store, Ie07.pointed s1.store]))) : Q (.ref l) H2 := by
  subst e
  exact q _ O1 l (a.same k2) (k.trans (Ext.of_same k2)) (fun b o h ho => ne_of_none (k b o h ho).1 hl) h2
def sp_is_side (K : PySem.W.Frag) (A : Ad) : Sp := fun vs H Q _ => ∃ (n : Nat), vs = [.int (n : Int)] ∧ Q (.bl (decide (1 ≤ n ∧ n ≤ 4))) H
def sp_answer_page (K : PySem.W.Frag) (A : Ad) : Sp := fun vs H Q _ => ∃ (O : Own) (x : Ax) (n p w h : Nat) (s : Ie07.St), vs = [.ref x.al, .int (p : Int), .int (w : Int), .int (h : Int)] ∧ AlbumAt A O H x n s ∧ Good s ∧ n ≤ 90 ∧ AnsQ A O H x n (Ie07.step s (.page p w h)) Q
def sp_answer_change (K : PySem.W.Frag) (A : Ad) : Sp := fun vs H Q _ => ∃ (O : Own) (x : Ax) (n p : Nat) (g : Addr) (s : Ie07.St) (y : Ie07.Pic) (f : Nat → Nat → Nat), vs = [.ref x.al, .int (p : Int), .ref g] ∧ AlbumAt A O H x n s ∧ Good s ∧ n ≤ 90 ∧ s.pic p = some y ∧ GridRd H g (4 * y.w) (4 * y.h) f ∧
  AnsQ A O H x n (Ie07.told (Ie07.changed s p y (tilesOf f y.w y.h))) Q
def sp_answer_box (K : PySem.W.Frag) (A : Ad) : Sp := fun vs H Q _ => ∃ (O : Own) (x : Ax) (n p a b u v z : Nat) (s : Ie07.St), vs = [.ref x.al, .int (p : Int), .int (a : Int), .int (b : Int), .int (u : Int), .int (v : Int), .int (z : Int)] ∧ AlbumAt A O H x n s ∧ Good s ∧ n ≤ 90 ∧ a < 2 ^ 40 ∧ b < 2 ^ 40 ∧ AnsQ A O H x n (Ie07.step s (.box p a b u v z)) Q
def sp_answer_dots (K : PySem.W.Frag) (A : Ad) : Sp := fun vs H Q _ => ∃ (O : Own) (x : Ax) (n p : Nat) (d : Addr) (l : List Nat) (s : Ie07.St), vs = [.ref x.al, .int (p : Int), .ref d] ∧ AlbumAt A O H x n s ∧ Good s ∧ n ≤ 90 ∧ H d = some (.lst (vi l)) ∧ l.length ≤ 20000 ∧ AnsQ A O H x n (Ie07.step s (.dots p l)) Q
def sp_answer_shift (K : PySem.W.Frag) (A : Ad) : Sp := fun vs H Q _ => ∃ (O : Own) (x : Ax) (n p z : Nat) (s : Ie07.St), vs = [.ref x.al, .int (p : Int), .int (z : Int)] ∧ AlbumAt A O H x n s ∧ Good s ∧ n ≤ 90 ∧ AnsQ A O H x n (Ie07.step s (.shift p z)) Q
def sp_answer_copy (K : PySem.W.Frag) (A : Ad) : Sp := fun vs H Q _ => ∃ (O : Own) (x : Ax) (n p k : Nat) (s : Ie07.St), vs = [.ref x.al, .int (p : Int), .int (k : Int)] ∧ AlbumAt A O H x n s ∧ Good s ∧ n ≤ 90 ∧ AnsQ A O H x n (Ie07.step s (.copy p k)) Q
def sp_answer_paste (K : PySem.W.Frag) (A : Ad) : Sp := fun vs H Q _ => ∃ (O : Own) (x : Ax) (n p k a b : Nat) (s : Ie07.St), vs = [.ref x.al, .int (p : Int), .int (k : Int), .int (a : Int), .int (b : Int)] ∧ AlbumAt A O H x n s ∧ Good s ∧ n ≤ 90 ∧ AnsQ A O H x n (Ie07.step s (.paste p k a b)) Q
def sp_answer_undo (K : PySem.W.Frag) (A : Ad) : Sp := fun vs H Q _ => ∃ (O : Own) (x : Ax) (n p : Nat) (s : Ie07.St), vs = [.ref x.al, .int (p : Int)] ∧ AlbumAt A O H x n s ∧ Good s ∧ n ≤ 90 ∧ AnsQ A O H x n (Ie07.step s (.undo p)) Q
theorem AlbumAt.line {A : Ad} {O : Own} {H : Hp} {x : Ax} {n : Nat} {s : Ie07.St} (a : AlbumAt A O H x n s) (h : n ≤ 1000) : s.store.length < sizeLine := by
  have := a.few
  rw [line_eq]
  omega
section
variable {P : Program} {w : World} {K : PySem.W.Frag} {mg : Str → Option Value} {base : Heap} {A : Ad}
theorem ok_is_side (T : Txt K mg A) : FnOk P w K mg base CX0 1 A.f_is_side A.fd_is_side ["number"] (sp_is_side K A) := by
  refine T.F_is_side.ok sc_is_side (fun vs H Q E h => ?_) (fun cdv Ar outer s H vs Q E hr h => ?_)
  · obtain ⟨n, rfl, _⟩ := h
    rfl
  · obtain ⟨n, rfl, q⟩ := h
    refine ⟨_, (pss_one (ps_ret (pe_and (pe_cmpR op_le pe_int (pv 0) (nomark _)) (pe_one (pe_cmpR op_le (pv 0) (pe_gint (by rfl) T.g_LONGEST_SIDE) (nomark _)))))), ?_⟩
    refine ⟨_, rfl, _, _, rfl, rfl, _, rfl, ?_⟩
    by_cases c : 1 ≤ n
    · refine if_true_of (decide_eq_true (by omega)) ⟨_, rfl, _, _, rfl, rfl, ?_⟩
      have e : decide (1 ≤ n ∧ n ≤ 4) = decide ((n : Int) ≤ 4) := decide_eq_decide.mpr (by omega)
      rw [e] at q
      exact q
    · refine if_false_of (decide_eq_false (by omega)) ?_
      have e : decide (1 ≤ n ∧ n ≤ 4) = false := decide_eq_false (by omega)
      rw [e] at q
      exact q
theorem ok_answer_page (T : Txt K mg A) : FnOk P w K mg base CX0 7 A.f_answer_page A.fd_answer_page ["album", "p", "w", "h"] (sp_answer_page K A) := by
  refine T.F_answer_page.ok sc_answer_page (fun vs H Q E h => ?_) (fun cdv Ar outer s H vs Q E hr h => ?_)
  · obtain ⟨O, x, n, p, w, h, s, rfl, _⟩ := h
    rfl
  · obtain ⟨O, x, n, p, w, h, s, rfl, a, gd, hn, q⟩ := h
    obtain ⟨dx, hi⟩ := a.ins
    refine ⟨_, (pss_cons (ps_if (pt_cmpR op_gt (pv 1) (pe_gint (by rfl) T.g_LAST_PICTURE) (nomark _)) (pss_one (ps_ret (pe_lst (pa_cons (pe_gint (by rfl) T.g_NO_PICTURE) pa_nil)))) pss_nil)
      (pss_cons (ps_if (PW.pt (pw_or (pt_not (pt_val (pe_call (ok_is_side T) (hr.mono (by decide)) (by rfl) T.g_is_side T.F_is_side.kp T.b_is_side .nil pass0 (pa_cons (pv 2) pa_nil)))) (pw_or1 (pt_not (pt_val (pe_call (ok_is_side T) (hr.mono (by decide)) (by rfl) T.g_is_side T.F_is_side.kp T.b_is_side .nil pass0 (pa_cons (pv 3) pa_nil))))))) (pss_one (ps_ret (pe_lst (pa_cons (pe_gint (by rfl) T.g_NOT_AS_TOLD) pa_nil)))) pss_nil)
      (pss_cons (ps_expr (pe_meth (pv 0) T.cl_Album T.m_Album_lay_page (ok_Album_lay_page T) (hr.mono (by decide)) T.b_Album_lay_page .nil pass0 (pa_cons (pv 1) (pa_cons (pv 2) (pa_cons (pv 3) pa_nil)))))
      (pss_one (ps_ret (pe_meth0 (pe_fld (pv 0) rfl) T.cl_Store T.m_Store_how_it_stands (ok_Store_how_it_stands T) (hr.mono (by decide)) T.b_Store_how_it_stands .nil pass0)))))), ?_⟩
    refine ⟨_, rfl, _, _, rfl, rfl, _, rfl, ?_⟩
    by_cases c : 3 < p
    · refine if_true_of (decide_eq_true (by omega)) ⟨(by show 1 ≤ sizeLine; decide), fun l hl => ?_⟩
      exact q.no (s := s) (by have h1 : Ie07.PICS ≤ p := c; simp only [Ie07.step, h1, if_true]) (Same.refl H) a hl
    · refine if_false_of (decide_eq_false (by omega)) ?_
      have h1 : ¬ Ie07.PICS ≤ p := by show ¬ 4 ≤ p; omega
      refine ⟨_, rfl, w, rfl, _, rfl, ?_⟩
      by_cases cw : 1 ≤ w ∧ w ≤ 4
      · refine if_false_of (by simp [cw]) ⟨_, rfl, h, rfl, _, rfl, ?_⟩
        by_cases ch : 1 ≤ h ∧ h ≤ 4
        · refine if_false_of (by simp [ch]) ?_
          refine ⟨_, rfl, x.al, dx, _, rfl, hi, aF_no (by decide +kernel) (by decide +kernel), _, rfl, _, rfl, _, rfl, O, x, n, p, w, h, s, rfl, a, gd, hn, by omega, cw.1, cw.2, ch.1, ch.2, fun H1 O1 a1 k1 => ?_⟩
          obtain ⟨dx1, hi1⟩ := a1.ins
          obtain ⟨dxs1, hst1⟩ := a1.sto.ins
          refine ⟨_, rfl, x.al, A.c_Album, dx1, _, _, rfl, hi1, T.cl_Album, T.no_Album_store, aF_store _ _, x.st, dxs1, _, rfl, hst1, sF_no (by decide +kernel) (by decide +kernel), x.st, x.ta, x.ca, _, rfl, a1.sto, a1.line (by omega), fun H2 l k2 hl h2 => ?_⟩
          exact q.stands (step_page (by omega) (by omega)) a1 k1 k2 hl h2
        · refine if_true_of (by simp [ch]) ⟨(by show 1 ≤ sizeLine; decide), fun l hl => ?_⟩
          exact q.no (s := s) (by have h2 : w < 1 ∨ 4 < w ∨ h < 1 ∨ 4 < h := by omega
                                  simp only [Ie07.step, h1, h2, if_true, if_false]) (Same.refl H) a hl
      · refine if_true_of (by simp [cw]) ?_
        refine iteT ⟨(by show 1 ≤ sizeLine; decide), fun l hl => ?_⟩
        exact q.no (s := s) (by have h2 : w < 1 ∨ 4 < w ∨ h < 1 ∨ 4 < h := by omega
                                simp only [Ie07.step, h1, h2, if_true, if_false]) (Same.refl H) a hl
theorem ok_answer_change (T : Txt K mg A) : FnOk P w K mg base CX0 7 A.f_answer_change A.fd_answer_change ["album", "p", "rows"] (sp_answer_change K A) := by
  refine T.F_answer_change.ok sc_answer_change (fun vs H Q E h => ?_) (fun cdv Ar outer s H vs Q E hr h => ?_)
  · obtain ⟨O, x, n, p, g, s, y, f, rfl, _⟩ := h
    rfl
  · obtain ⟨O, x, n, p, g, s, y, f, rfl, a, gd, hn, hy, G, q⟩ := h
    obtain ⟨dx, hi⟩ := a.ins
    refine ⟨_, (pss_cons (ps_expr (pe_meth (pv 0) T.cl_Album T.m_Album_change_picture (ok_Album_change_picture T) (hr.mono (by decide)) T.b_Album_change_picture .nil pass0 (pa_cons (pv 1) (pa_cons (pv 2) pa_nil))))
      (pss_one (ps_ret (pe_meth0 (pe_fld (pv 0) rfl) T.cl_Store T.m_Store_how_it_stands (ok_Store_how_it_stands T) (hr.mono (by decide)) T.b_Store_how_it_stands .nil pass0)))), ?_⟩
    refine ⟨_, rfl, x.al, dx, _, rfl, hi, aF_no (by decide +kernel) (by decide +kernel), _, rfl, _, rfl, O, x, n, p, g, s, y, f, rfl, a, gd, hn, hy, G, fun H1 O1 a1 k1 => ?_⟩
    obtain ⟨dx1, hi1⟩ := a1.ins
    obtain ⟨dxs1, hst1⟩ := a1.sto.ins
    refine ⟨_, rfl, x.al, A.c_Album, dx1, _, _, rfl, hi1, T.cl_Album, T.no_Album_store, aF_store _ _, x.st, dxs1, _, rfl, hst1, sF_no (by decide +kernel) (by decide +kernel), x.st, x.ta, x.ca, _, rfl, a1.sto, a1.line (by omega), fun H2 l k2 hl h2 => ?_⟩
    exact q.stands rfl a1 k1 k2 hl h2
theorem ok_answer_undo (T : Txt K mg A) : FnOk P w K mg base CX0 3 A.f_answer_undo A.fd_answer_undo ["album", "p"] (sp_answer_undo K A) := by
  refine T.F_answer_undo.ok sc_answer_undo (fun vs H Q E h => ?_) (fun cdv Ar outer s H vs Q E hr h => ?_)
  · obtain ⟨O, x, n, p, s, rfl, _⟩ := h
    rfl
  · obtain ⟨O, x, n, p, s, rfl, a, gd, hn, q⟩ := h
    obtain ⟨dx, hi⟩ := a.ins
    refine ⟨_, (pss_cons (ps_if (pt_not (pt_val (pe_meth (pv 0) T.cl_Album T.m_Album_has_picture (ok_Album_has_picture T) (hr.mono (by decide)) T.b_Album_has_picture .nil pass0 (pa_cons (pv 1) pa_nil)))) (pss_one (ps_ret (pe_lst (pa_cons (pe_gint (by rfl) T.g_NO_PICTURE) pa_nil)))) pss_nil)
      (pss_cons (ps_if (pt_not (pt_val (pe_meth (pv 0) T.cl_Album T.m_Album_has_been_before (ok_Album_has_been_before T) (hr.mono (by decide)) T.b_Album_has_been_before .nil pass0 (pa_cons (pv 1) pa_nil)))) (pss_one (ps_ret (pe_lst (pa_cons (pe_gint (by rfl) T.g_NOT_BEFORE) pa_nil)))) pss_nil)
      (pss_cons (ps_expr (pe_meth (pv 0) T.cl_Album T.m_Album_step_back (ok_Album_step_back T) (hr.mono (by decide)) T.b_Album_step_back .nil pass0 (pa_cons (pv 1) pa_nil)))
      (pss_one (ps_ret (pe_meth0 (pe_fld (pv 0) rfl) T.cl_Store T.m_Store_how_it_stands (ok_Store_how_it_stands T) (hr.mono (by decide)) T.b_Store_how_it_stands .nil pass0)))))), ?_⟩
    refine ⟨_, rfl, x.al, dx, _, rfl, hi, aF_no (by decide +kernel) (by decide +kernel), _, rfl, O, x, n, p, s, rfl, a, _, rfl, ?_⟩
    cases hq : s.pic p with
    | none =>
      refine if_true_of rfl ⟨(by show 1 ≤ sizeLine; decide), fun l hl => ?_⟩
      exact q.no (step_none hq).2.2.2.2.2.1 (Same.refl H) a hl
    | some y =>
      refine if_false_of rfl ?_
      refine ⟨_, rfl, x.al, dx, _, rfl, hi, aF_no (by decide +kernel) (by decide +kernel), _, rfl, O, x, n, p, s, y, rfl, a, hq, _, rfl, ?_⟩
      cases ho : y.old with
      | nil =>
        refine if_true_of rfl ⟨(by show 1 ≤ sizeLine; decide), fun l hl => ?_⟩
        exact q.no (step_undo_no hq ho) (Same.refl H) a hl
      | cons o r =>
        refine if_false_of (by simp) ?_
        refine ⟨_, rfl, x.al, dx, _, rfl, hi, aF_no (by decide +kernel) (by decide +kernel), _, rfl, O, x, n, p, s, y, o, r, rfl, a, gd, hq, ho, fun H1 a1 k1 => ?_⟩
        obtain ⟨dx1, hi1⟩ := a1.ins
        obtain ⟨dxs1, hst1⟩ := a1.sto.ins
        refine ⟨_, rfl, x.al, A.c_Album, dx1, _, _, rfl, hi1, T.cl_Album, T.no_Album_store, aF_store _ _, x.st, dxs1, _, rfl, hst1, sF_no (by decide +kernel) (by decide +kernel), x.st, x.ta, x.ca, _, rfl, a1.sto, a1.line (by omega), fun H2 l k2 hl h2 => ?_⟩
        exact q.stands (step_undo hq ho) (a1.up (by omega)) k1 k2 hl h2
theorem ok_answer_copy (T : Txt K mg A) : FnOk P w K mg base CX0 4 A.f_answer_copy A.fd_answer_copy ["album", "p", "q"] (sp_answer_copy K A) := by
  refine T.F_answer_copy.ok sc_answer_copy (fun vs H Q E h => ?_) (fun cdv Ar outer s H vs Q E hr h => ?_)
  · obtain ⟨O, x, n, p, k, s, rfl, _⟩ := h
    rfl
  · obtain ⟨O, x, n, p, k, s, rfl, a, gd, hn, q⟩ := h
    obtain ⟨dx, hi⟩ := a.ins
    refine ⟨_, (pss_cons (ps_if (pt_not (pt_val (pe_meth (pv 0) T.cl_Album T.m_Album_has_picture (ok_Album_has_picture T) (hr.mono (by decide)) T.b_Album_has_picture .nil pass0 (pa_cons (pv 1) pa_nil)))) (pss_one (ps_ret (pe_lst (pa_cons (pe_gint (by rfl) T.g_NO_PICTURE) pa_nil)))) pss_nil)
      (pss_cons (ps_if (PW.pt (pw_or (pt_cmpR op_gt (pv 2) (pe_gint (by rfl) T.g_LAST_PICTURE) (nomark _)) (pw_or1 (pt_cmpR op_eq (pv 2) (pv 1) (nomark _))))) (pss_one (ps_ret (pe_lst (pa_cons (pe_gint (by rfl) T.g_NOT_AS_TOLD) pa_nil)))) pss_nil)
      (pss_cons (ps_expr (pe_meth (pv 0) T.cl_Album T.m_Album_copy_picture (ok_Album_copy_picture T) (hr.mono (by decide)) T.b_Album_copy_picture .nil pass0 (pa_cons (pv 1) (pa_cons (pv 2) pa_nil))))
      (pss_one (ps_ret (pe_meth0 (pe_fld (pv 0) rfl) T.cl_Store T.m_Store_how_it_stands (ok_Store_how_it_stands T) (hr.mono (by decide)) T.b_Store_how_it_stands .nil pass0)))))), ?_⟩
    refine ⟨_, rfl, x.al, dx, _, rfl, hi, aF_no (by decide +kernel) (by decide +kernel), _, rfl, O, x, n, p, s, rfl, a, _, rfl, ?_⟩
    cases hq : s.pic p with
    | none =>
      refine if_true_of rfl ⟨(by show 1 ≤ sizeLine; decide), fun l hl => ?_⟩
      exact q.no ((step_none hq).2.2.2.1 _) (Same.refl H) a hl
    | some y =>
      refine if_false_of rfl ?_
      refine ⟨_, rfl, _, _, rfl, rfl, _, rfl, ?_⟩
      by_cases c : 3 < k
      · refine if_true_of (decide_eq_true (by omega)) ?_
        refine iteT ⟨(by show 1 ≤ sizeLine; decide), fun l hl => ?_⟩
        exact q.no (s := s) (by have h1 : Ie07.PICS ≤ k ∨ p = k := .inl c
                                simp only [Ie07.step, hq, h1, if_true]) (Same.refl H) a hl
      · refine if_false_of (decide_eq_false (by omega)) ?_
        refine ⟨_, rfl, _, rfl, rfl, _, rfl, ?_⟩
        by_cases ck : k = p
        · refine if_true_of (by rw [ck]; simp) ⟨(by show 1 ≤ sizeLine; decide), fun l hl => ?_⟩
          exact q.no (s := s) (by have h1 : Ie07.PICS ≤ k ∨ p = k := .inr ck.symm
                                  simp only [Ie07.step, hq, h1, if_true]) (Same.refl H) a hl
        · refine if_false_of (decide_eq_false (fun z => by injection z with z; omega)) ?_
          refine ⟨_, rfl, x.al, dx, _, rfl, hi, aF_no (by decide +kernel) (by decide +kernel), _, rfl, _, rfl, O, x, n, p, k, s, y, rfl, a, gd, hn, by omega, fun z => ck z.symm, hq, fun H1 O1 a1 k1 => ?_⟩
          obtain ⟨dx1, hi1⟩ := a1.ins
          obtain ⟨dxs1, hst1⟩ := a1.sto.ins
          refine ⟨_, rfl, x.al, A.c_Album, dx1, _, _, rfl, hi1, T.cl_Album, T.no_Album_store, aF_store _ _, x.st, dxs1, _, rfl, hst1, sF_no (by decide +kernel) (by decide +kernel), x.st, x.ta, x.ca, _, rfl, a1.sto, a1.line (by omega), fun H2 l k2 hl h2 => ?_⟩
          exact q.stands (step_copy hq (by omega) (fun z => ck z.symm)) a1 k1 k2 hl h2
end
end TS
namespace TS
open PySem PySem.Spec PyProof.Rows L2
theorem AnsQ.later {A : Ad} {O : Own} {H H2 : Hp} {x : Ax} {n : Nat} {r : Ie07.St × List Int} {Q : VK} (q : AnsQ A O H x n r Q) (k : Same H H2) : AnsQ A O H2 x n r Q :=
  fun H' O' l a e nl hl => q H' O' l a (fun b o h ho => e b o (k b o h) ho) (fun b o h ho => nl b o (k b o h) ho) hl
/-- two grids, one made behind the other: the first may be changed while the second stands -/
theorem GridAt.rebase {H H1 H2 : Hp} {g o : Addr} {w h w2 h2 : Nat} {f f2 : Nat → Nat → Nat} (G : GridAt H H1 g w h f) (G2 : GridAt H1 H2 o w2 h2 f2) : ∃ H0 : Hp, Same H H0 ∧ GridAt H0 H2 g w h f ∧ GridRd H0 o w2 h2 f2 := by
  obtain ⟨rs, e1, e2, e3, e4, e5, e6⟩ := G.ex
  obtain ⟨rs2, k1, k2, k3, k4, k5, k6⟩ := G2.ex
  have G1 := G.later G2.same
  obtain ⟨rs', e1', e2', e3', e4', e5', e6'⟩ := G1.ex
  have trk : ∀ r ∈ rs, ∃ ob, H1 r = some ob := fun r hr => by
    obtain ⟨y, hy⟩ := List.getElem?_of_mem hr
    exact ⟨_, e6 y r hy⟩
  have out : ∀ b, H1 b = none → b ∉ rs ∧ b ≠ g := fun b hb => ⟨fun m => (by obtain ⟨ob, e⟩ := trk b m; rw [hb] at e; cases e), fun z => (by rw [z, e1] at hb; cases hb)⟩
  refine ⟨fun b => if b ∈ rs ∨ b = g then none else H2 b, fun b ob hb => ?_, ⟨fun b ob hb => ?_, ?_, rs, G2.same _ _ e1, e2, e3, e4, fun r hr => ?_, fun y r hy => G2.same _ _ (e6 y r hy)⟩, rs2, ?_, k2, fun y r hy => ?_⟩
  · have : ¬ (b ∈ rs ∨ b = g) := by
      rintro (m | m)
      · rw [e5 b m] at hb; cases hb
      · rw [m, G.new] at hb; cases hb
    show (if b ∈ rs ∨ b = g then none else H2 b) = some ob
    rw [if_neg this]
    exact G2.same _ _ (G.same _ _ hb)
  · have hb : (if b ∈ rs ∨ b = g then none else H2 b) = some ob := hb
    split at hb
    · cases hb
    · exact hb
  · show (if g ∈ rs ∨ g = g then none else H2 g) = none
    rw [if_pos (.inr rfl)]
  · show (if r ∈ rs ∨ r = g then none else H2 r) = none
    rw [if_pos (.inl hr)]
  · show (if o ∈ rs ∨ o = g then none else H2 o) = _
    obtain ⟨n1, n2⟩ := out o G2.new
    rw [if_neg (by rintro (m | m); exact n1 m; exact n2 m)]
    exact k1
  · show (if r ∈ rs ∨ r = g then none else H2 r) = _
    obtain ⟨n1, n2⟩ := out r (k5 r (List.mem_of_getElem? hy))
    rw [if_neg (by rintro (m | m); exact n1 m; exact n2 m)]
    exact k6 y r hy
section
variable {P : Program} {w : World} {K : PySem.W.Frag} {mg : Str → Option Value} {base : Heap} {A : Ad}
theorem ok_answer_box (T : Txt K mg A) : FnOk P w K mg base CX0 8 A.f_answer_box A.fd_answer_box ["album", "p", "x", "y", "u", "v", "n"] (sp_answer_box K A) := by
  refine T.F_answer_box.ok sc_answer_box (fun vs H Q E h => ?_) (fun cdv Ar outer s H vs Q E hr h => ?_)
  · obtain ⟨O, x, n, p, a, b, u, v, z, s, rfl, _⟩ := h
    rfl
  · obtain ⟨O, x, n, p, c, d, u, v, z, s, rfl, a, gd, hn, hc, hd, q⟩ := h
    obtain ⟨dx, hi⟩ := a.ins
    refine ⟨_, (pss_cons (ps_if (pt_not (pt_val (pe_meth (pv 0) T.cl_Album T.m_Album_has_picture (ok_Album_has_picture T) (hr.mono (by decide)) T.b_Album_has_picture .nil pass0 (pa_cons (pv 1) pa_nil)))) (pss_one (ps_ret (pe_lst (pa_cons (pe_gint (by rfl) T.g_NO_PICTURE) pa_nil)))) pss_nil)
      (pss_cons (ps_if (pt_cmpR op_gt (pv 6) (pe_gint (by rfl) T.g_LARGEST_CELL) (nomark _)) (pss_one (ps_ret (pe_lst (pa_cons (pe_gint (by rfl) T.g_NOT_AS_TOLD) pa_nil)))) pss_nil)
      (pss_cons (ps_set (i := 7) sc_answer_box.nd rfl (Or.inl rfl) (pe_meth (pv 0) T.cl_Album T.m_Album_rows_of_picture (ok_Album_rows_of_picture T) (hr.mono (by decide)) T.b_Album_rows_of_picture .nil pass0 (pa_cons (pv 1) pa_nil)))
      (pss_cons (ps_expr (pe_call (ok_put_box T) (hr.mono (by decide)) (by rfl) T.g_put_box T.F_put_box.kp T.b_put_box .nil pass0 (pa_cons (pv 7) (pa_cons (pv 2) (pa_cons (pv 3) (pa_cons (pv 4) (pa_cons (pv 5) (pa_cons (pv 6) pa_nil))))))))
      (pss_one (ps_ret (pe_call (ok_answer_change T) (hr.mono (by decide)) (by rfl) T.g_answer_change T.F_answer_change.kp T.b_answer_change .nil pass0 (pa_cons (pv 0) (pa_cons (pv 1) (pa_cons (pv 7) pa_nil)))))))))), ?_⟩
    refine ⟨_, rfl, x.al, dx, _, rfl, hi, aF_no (by decide +kernel) (by decide +kernel), _, rfl, O, x, n, p, s, rfl, a, _, rfl, ?_⟩
    cases hq : s.pic p with
    | none =>
      refine if_true_of rfl ⟨(by show 1 ≤ sizeLine; decide), fun l hl => ?_⟩
      exact q.no ((step_none hq).1 _ _ _ _ _) (Same.refl H) a hl
    | some y =>
      refine if_false_of rfl ?_
      refine ⟨_, rfl, _, _, rfl, rfl, _, rfl, ?_⟩
      by_cases cz : 255 < z
      · refine if_true_of (decide_eq_true (by omega)) ⟨(by show 1 ≤ sizeLine; decide), fun l hl => ?_⟩
        exact q.no (s := s) (by simp only [Ie07.step, hq, cz, if_true]) (Same.refl H) a hl
      · refine if_false_of (decide_eq_false (by omega)) ?_
        have ok := gd.pics p y hq
        have e1 := ok.w1
        have e2 := ok.w4
        have e3 := ok.h1
        have e4 := ok.h4
        refine ⟨_, rfl, x.al, dx, _, rfl, hi, aF_no (by decide +kernel) (by decide +kernel), _, rfl, O, x, n, p, s, y, rfl, a, gd, hq, fun H1 g G => ?_⟩
        refine ⟨_, rfl, _, rfl, _, rfl, _, rfl, _, rfl, _, rfl, H, g, 4 * y.w, 4 * y.h, c, d, u, v, z, _, rfl, G, by omega, by omega, by omega, hc, hd, fun H2 G2 => ?_⟩
        refine ⟨_, rfl, _, rfl, _, rfl, O, x, n, p, g, s, y, _, rfl, a.same G2.same, gd, hn, hq, G2.rd, ?_⟩
        rw [← step_box gd hq (by omega)]
        exact q.later G2.same
theorem ok_answer_dots (T : Txt K mg A) : FnOk P w K mg base CX0 8 A.f_answer_dots A.fd_answer_dots ["album", "p", "dots"] (sp_answer_dots K A) := by
  refine T.F_answer_dots.ok sc_answer_dots (fun vs H Q E h => ?_) (fun cdv Ar outer s H vs Q E hr h => ?_)
  · obtain ⟨O, x, n, p, d, l, s, rfl, _⟩ := h
    rfl
  · obtain ⟨O, x, n, p, d, l, s, rfl, a, gd, hn, hd, hl, q⟩ := h
    obtain ⟨dx, hi⟩ := a.ins
    refine ⟨_, (pss_cons (ps_if (pt_not (pt_val (pe_meth (pv 0) T.cl_Album T.m_Album_has_picture (ok_Album_has_picture T) (hr.mono (by decide)) T.b_Album_has_picture .nil pass0 (pa_cons (pv 1) pa_nil)))) (pss_one (ps_ret (pe_lst (pa_cons (pe_gint (by rfl) T.g_NO_PICTURE) pa_nil)))) pss_nil)
      (pss_cons (ps_set (i := 3) sc_answer_dots.nd rfl (Or.inl rfl) (pe_meth (pv 0) T.cl_Album T.m_Album_rows_of_picture (ok_Album_rows_of_picture T) (hr.mono (by decide)) T.b_Album_rows_of_picture .nil pass0 (pa_cons (pv 1) pa_nil)))
      (pss_cons (ps_if (pt_not (pt_val (pe_call (ok_dots_fit T) (hr.mono (by decide)) (by rfl) T.g_dots_fit T.F_dots_fit.kp T.b_dots_fit .nil pass0 (pa_cons (pv 3) (pa_cons (pv 2) pa_nil))))) (pss_one (ps_ret (pe_lst (pa_cons (pe_gint (by rfl) T.g_NOT_AS_TOLD) pa_nil)))) pss_nil)
      (pss_cons (ps_expr (pe_call (ok_put_dots T) (hr.mono (by decide)) (by rfl) T.g_put_dots T.F_put_dots.kp T.b_put_dots .nil pass0 (pa_cons (pv 3) (pa_cons (pv 2) pa_nil))))
      (pss_one (ps_ret (pe_call (ok_answer_change T) (hr.mono (by decide)) (by rfl) T.g_answer_change T.F_answer_change.kp T.b_answer_change .nil pass0 (pa_cons (pv 0) (pa_cons (pv 1) (pa_cons (pv 3) pa_nil)))))))))), ?_⟩
    refine ⟨_, rfl, x.al, dx, _, rfl, hi, aF_no (by decide +kernel) (by decide +kernel), _, rfl, O, x, n, p, s, rfl, a, _, rfl, ?_⟩
    cases hq : s.pic p with
    | none =>
      refine if_true_of rfl ⟨(by show 1 ≤ sizeLine; decide), fun l hl => ?_⟩
      exact q.no ((step_none hq).2.1 _) (Same.refl H) a hl
    | some y =>
      refine if_false_of rfl ?_
      have ok := gd.pics p y hq
      have e1 := ok.w1
      have e2 := ok.w4
      have e3 := ok.h1
      have e4 := ok.h4
      refine ⟨_, rfl, x.al, dx, _, rfl, hi, aF_no (by decide +kernel) (by decide +kernel), _, rfl, O, x, n, p, s, y, rfl, a, gd, hq, fun H1 g G => ?_⟩
      refine ⟨_, rfl, _, rfl, g, d, 4 * y.w, 4 * y.h, _, l, rfl, G.rd, by omega, G.same _ _ hd, hl, _, rfl, ?_⟩
      cases hf : fits (4 * y.w) (4 * y.h) l with
      | false =>
        refine if_true_of rfl ⟨(by show 1 ≤ sizeLine; decide), fun l hl => ?_⟩
        exact q.no (step_dots_no hq hf) G.same a hl
      | true =>
        refine if_false_of rfl ?_
        have hf2 := hf
        unfold fits at hf2
        cases hds : Ie07.dotsOf l with
        | none => rw [hds] at hf2; cases hf2
        | some ds =>
          rw [hds] at hf2
          refine ⟨_, rfl, _, rfl, H, g, d, 4 * y.w, 4 * y.h, _, l, ds, rfl, G, hd, hl, hds, hf2, fun H2 G2 => ?_⟩
          refine ⟨_, rfl, _, rfl, _, rfl, O, x, n, p, g, s, y, _, rfl, a.same G2.same, gd, hn, hq, G2.rd, ?_⟩
          rw [← step_dots gd hq hds hf2]
          exact q.later G2.same
theorem ok_answer_shift (T : Txt K mg A) : FnOk P w K mg base CX0 8 A.f_answer_shift A.fd_answer_shift ["album", "p", "n"] (sp_answer_shift K A) := by
  refine T.F_answer_shift.ok sc_answer_shift (fun vs H Q E h => ?_) (fun cdv Ar outer s H vs Q E hr h => ?_)
  · obtain ⟨O, x, n, p, z, s, rfl, _⟩ := h
    rfl
  · obtain ⟨O, x, n, p, z, s, rfl, a, gd, hn, q⟩ := h
    obtain ⟨dx, hi⟩ := a.ins
    refine ⟨_, (pss_cons (ps_if (pt_not (pt_val (pe_meth (pv 0) T.cl_Album T.m_Album_has_picture (ok_Album_has_picture T) (hr.mono (by decide)) T.b_Album_has_picture .nil pass0 (pa_cons (pv 1) pa_nil)))) (pss_one (ps_ret (pe_lst (pa_cons (pe_gint (by rfl) T.g_NO_PICTURE) pa_nil)))) pss_nil)
      (pss_one (ps_ret (pe_call (ok_answer_change T) (hr.mono (by decide)) (by rfl) T.g_answer_change T.F_answer_change.kp T.b_answer_change .nil pass0 (pa_cons (pv 0) (pa_cons (pv 1) (pa_cons (pe_call (ok_shifted T) (hr.mono (by decide)) (by rfl) T.g_shifted T.F_shifted.kp T.b_shifted .nil pass0 (pa_cons (pe_meth (pv 0) T.cl_Album T.m_Album_rows_of_picture (ok_Album_rows_of_picture T) (hr.mono (by decide)) T.b_Album_rows_of_picture .nil pass0 (pa_cons (pv 1) pa_nil)) (pa_cons (pv 2) pa_nil))) pa_nil))))))), ?_⟩
    refine ⟨_, rfl, x.al, dx, _, rfl, hi, aF_no (by decide +kernel) (by decide +kernel), _, rfl, O, x, n, p, s, rfl, a, _, rfl, ?_⟩
    cases hq : s.pic p with
    | none =>
      refine if_true_of rfl ⟨(by show 1 ≤ sizeLine; decide), fun l hl => ?_⟩
      exact q.no ((step_none hq).2.2.1 _) (Same.refl H) a hl
    | some y =>
      refine if_false_of rfl ?_
      have ok := gd.pics p y hq
      have e1 := ok.w1
      have e2 := ok.w4
      have e3 := ok.h1
      have e4 := ok.h4
      refine ⟨_, rfl, _, rfl, _, rfl, x.al, dx, _, rfl, hi, aF_no (by decide +kernel) (by decide +kernel), _, rfl, O, x, n, p, s, y, rfl, a, gd, hq, fun H1 g G => ?_⟩
      refine ⟨_, rfl, g, 4 * y.w, 4 * y.h, z, _, rfl, G.rd, by omega, by omega, by omega, fun H2 g2 G2 => ?_⟩
      have k2 : Same H H2 := G.same.trans G2.same
      refine ⟨O, x, n, p, g2, s, y, _, rfl, a.same k2, gd, hn, hq, G2.rd, ?_⟩
      rw [← step_shift gd hq]
      exact q.later k2
theorem ok_answer_paste (T : Txt K mg A) : FnOk P w K mg base CX0 8 A.f_answer_paste A.fd_answer_paste ["album", "p", "q", "x", "y"] (sp_answer_paste K A) := by
  refine T.F_answer_paste.ok sc_answer_paste (fun vs H Q E h => ?_) (fun cdv Ar outer s H vs Q E hr h => ?_)
  · obtain ⟨O, x, n, p, k, c, d, s, rfl, _⟩ := h
    rfl
  · obtain ⟨O, x, n, p, k, c, d, s, rfl, a, gd, hn, q⟩ := h
    obtain ⟨dx, hi⟩ := a.ins
    refine ⟨_, (pss_cons (ps_if (PW.pt (pw_or (pt_not (pt_val (pe_meth (pv 0) T.cl_Album T.m_Album_has_picture (ok_Album_has_picture T) (hr.mono (by decide)) T.b_Album_has_picture .nil pass0 (pa_cons (pv 1) pa_nil)))) (pw_or1 (pt_not (pt_val (pe_meth (pv 0) T.cl_Album T.m_Album_has_picture (ok_Album_has_picture T) (hr.mono (by decide)) T.b_Album_has_picture .nil pass0 (pa_cons (pv 2) pa_nil))))))) (pss_one (ps_ret (pe_lst (pa_cons (pe_gint (by rfl) T.g_NO_PICTURE) pa_nil)))) pss_nil)
      (pss_cons (ps_if (pt_cmpR op_eq (pv 1) (pv 2) (nomark _)) (pss_one (ps_ret (pe_lst (pa_cons (pe_gint (by rfl) T.g_NOT_AS_TOLD) pa_nil)))) pss_nil)
      (pss_cons (ps_set (i := 5) sc_answer_paste.nd rfl (Or.inl rfl) (pe_meth (pv 0) T.cl_Album T.m_Album_rows_of_picture (ok_Album_rows_of_picture T) (hr.mono (by decide)) T.b_Album_rows_of_picture .nil pass0 (pa_cons (pv 2) pa_nil)))
      (pss_cons (ps_expr (pe_call (ok_put_rows T) (hr.mono (by decide)) (by rfl) T.g_put_rows T.F_put_rows.kp T.b_put_rows .nil pass0 (pa_cons (pv 5) (pa_cons (pe_meth (pv 0) T.cl_Album T.m_Album_rows_of_picture (ok_Album_rows_of_picture T) (hr.mono (by decide)) T.b_Album_rows_of_picture .nil pass0 (pa_cons (pv 1) pa_nil)) (pa_cons (pv 3) (pa_cons (pv 4) pa_nil))))))
      (pss_one (ps_ret (pe_call (ok_answer_change T) (hr.mono (by decide)) (by rfl) T.g_answer_change T.F_answer_change.kp T.b_answer_change .nil pass0 (pa_cons (pv 0) (pa_cons (pv 2) (pa_cons (pv 5) pa_nil)))))))))), ?_⟩
    refine ⟨_, rfl, x.al, dx, _, rfl, hi, aF_no (by decide +kernel) (by decide +kernel), _, rfl, O, x, n, p, s, rfl, a, _, rfl, ?_⟩
    cases hq : s.pic p with
    | none =>
      refine if_true_of rfl ?_
      refine iteT ⟨(by show 1 ≤ sizeLine; decide), fun l hl => ?_⟩
      exact q.no ((step_none hq).2.2.2.2.1 _ _ _) (Same.refl H) a hl
    | some y =>
      refine if_false_of rfl ?_
      refine ⟨_, rfl, x.al, dx, _, rfl, hi, aF_no (by decide +kernel) (by decide +kernel), _, rfl, O, x, n, k, s, rfl, a, _, rfl, ?_⟩
      cases hk : s.pic k with
      | none =>
        refine if_true_of rfl ⟨(by show 1 ≤ sizeLine; decide), fun l hl => ?_⟩
        exact q.no ((step_none2 hk).1 _ _) (Same.refl H) a hl
      | some b =>
        refine if_false_of rfl ?_
        refine ⟨_, rfl, _, rfl, rfl, _, rfl, ?_⟩
        by_cases ck : p = k
        · refine if_true_of (by rw [ck]; simp) ⟨(by show 1 ≤ sizeLine; decide), fun l hl => ?_⟩
          exact q.no (s := s) (by simp only [Ie07.step, hq, hk, ck, if_true]) (Same.refl H) a hl
        · refine if_false_of (decide_eq_false (fun z => by injection z with z; omega)) ?_
          have ok := gd.pics p y hq
          have e1 := ok.w1
          have e2 := ok.w4
          have e3 := ok.h1
          have e4 := ok.h4
          have okb := gd.pics k b hk
          have f1 := okb.w1
          have f2 := okb.w4
          have f3 := okb.h1
          have f4 := okb.h4
          refine ⟨_, rfl, x.al, dx, _, rfl, hi, aF_no (by decide +kernel) (by decide +kernel), _, rfl, O, x, n, k, s, b, rfl, a, gd, hk, fun H1 g G => ?_⟩
          refine ⟨_, rfl, _, rfl, x.al, dx, _, rfl, G.same _ _ hi, aF_no (by decide +kernel) (by decide +kernel), _, rfl, O, x, n, p, s, y, rfl, a.same G.same, gd, hq, fun H2 o G2 => ?_⟩
          obtain ⟨H0, s0, G3, G4⟩ := G.rebase G2
          refine ⟨_, rfl, _, rfl, H0, g, o, 4 * b.w, 4 * b.h, c, d, 4 * y.w, 4 * y.h, _, _, rfl, G3, by omega, G4, by omega, by omega, fun H3 G5 => ?_⟩
          have k3 : Same H H3 := s0.trans G5.same
          refine ⟨_, rfl, _, rfl, _, rfl, O, x, n, k, g, s, b, _, rfl, a.same k3, gd, hn, hk, G5.rd, ?_⟩
          rw [← step_paste gd hq hk ck]
          exact q.later k3
end
end TS
namespace TS
open PySem PySem.Spec PyProof.Rows L2
/-! the calls that tell, and close -/
theorem int_ci (l : List Nat) : (ci l).map V.int = vi l := by
  rw [List.map_map]; rfl
theorem AnsQ.new {A : Ad} {O : Own} {H : Hp} {x : Ax} {n : Nat} {s : Ie07.St} {r : Ie07.St × List Int} {Q : VK} (q : AnsQ A O H x n r Q) {zs : List Nat} (e : r = (s, ci zs)) {H1 : Hp} (k : Same H H1) (a : AlbumAt A O H x n s) {l : Addr} (hl : H1 l = none) {vs : List V} (ev : vs = vi zs) : Q (.ref l) (upd H1 l (.lst vs)) := by
  subst ev
  refine q.tell e (fun b o h => (upd_ne (ne_of_none (k b o h) hl)).trans (k b o h)) a (k.free hl) ?_
  rw [upd_same, int_ci]
theorem flat_len (f : Nat → List Nat) (k : Nat) (h : ∀ j, (f j).length = k) : ∀ i, ((List.range i).flatMap f).length = i * k
  | 0 => by simp
  | i + 1 => by
    rw [List.range_succ, List.flatMap_append, List.length_append, flat_len f k h i, Nat.succ_mul]
    simp [h]
theorem side4 (n : Nat) : n * Ie07.SIDE = 4 * n := Nat.mul_comm _ _
theorem step_cells {s : Ie07.St} {p : Nat} {q : Ie07.Pic} (hq : s.pic p = some q) : Ie07.step s (.cells p) = (s, ci (4 * q.w :: 4 * q.h :: (List.range (4 * q.h)).flatMap fun y => rowN (4 * q.w) (Ie07.cellOf s.store q.w q.at_) y)) := by
  simp only [Ie07.step, hq, Ie07.cells, side4]
  rfl
theorem step_cell {s : Ie07.St} {p x y : Nat} {q : Ie07.Pic} (hq : s.pic p = some q) (hx : x < 4 * q.w) (hy : y < 4 * q.h) : Ie07.step s (.cell p x y) = (s, ci [Ie07.cellOf s.store q.w q.at_ x y]) := by
  have h : ¬ (4 * q.w ≤ x ∨ 4 * q.h ≤ y) := by omega
  simp only [Ie07.step, hq, side4, h, if_false]
  rfl
theorem step_cell_no {s : Ie07.St} {p x y : Nat} {q : Ie07.Pic} (hq : s.pic p = some q) (h : 4 * q.w ≤ x ∨ 4 * q.h ≤ y) : Ie07.step s (.cell p x y) = (s, [-2]) := by
  simp only [Ie07.step, hq, side4, h, if_true]
theorem step_tile {s : Ie07.St} {p i k : Nat} {q : Ie07.Pic} {z : Ie07.Slot} (hq : s.pic p = some q) (hk : q.at_[i]? = some k) (hz : s.store[k]? = some z) : Ie07.step s (.tile p i) = (s, ci [k, z.refs]) := by
  simp only [Ie07.step, hq, hk, List.getD_eq_getElem?_getD, hz]
  rfl
theorem step_tile_no {s : Ie07.St} {p i : Nat} {q : Ie07.Pic} (hq : s.pic p = some q) (hk : q.at_[i]? = none) : Ie07.step s (.tile p i) = (s, [-2]) := by
  simp only [Ie07.step, hq, hk]
def sameN (a b : List Nat) (m : Nat) : List Nat := (List.range m).filter fun i => a[i]? == b[i]?
theorem sub_len {α : Type} [DecidableEq α] : ∀ (l m : List α), l.Nodup → (∀ x ∈ l, x ∈ m) → l.length ≤ m.length
  | [], _, _, _ => Nat.zero_le _
  | x :: l, m, hn, hs => by
    rw [List.nodup_cons] at hn
    have hx := hs x (.head _)
    have h1 := sub_len l (m.erase x) hn.2 fun y hy => (List.mem_erase_of_ne (fun (z : y = x) => hn.1 (z ▸ hy))).mpr (hs y (.tail _ hy))
    rw [List.length_erase_of_mem hx] at h1
    have := List.length_pos_of_mem hx
    simp only [List.length_cons]
    omega
theorem dups_mem (k : Nat) : ∀ (n : Nat) (l : List Nat), l.length ≤ n → (k ∈ l.eraseDups ↔ k ∈ l)
  | _, [], _ => by simp
  | 0, x :: l, h => by simp at h
  | n + 1, x :: l, h => by
    have h1 : (l.filter fun b => !b == x).length ≤ n := Nat.le_trans (List.length_filter_le _ _) (by simpa using h)
    rw [List.eraseDups_cons, List.mem_cons, dups_mem k n _ h1, List.mem_filter, List.mem_cons]
    by_cases e : k = x
    · simp [e]
    · simp [e]
theorem dups_nodup : ∀ (n : Nat) (l : List Nat), l.length ≤ n → l.eraseDups.Nodup
  | _, [], _ => by simp
  | 0, x :: l, h => by simp at h
  | n + 1, x :: l, h => by
    have h1 : (l.filter fun b => !b == x).length ≤ n := Nat.le_trans (List.length_filter_le _ _) (by simpa using h)
    rw [List.eraseDups_cons, List.nodup_cons]
    refine ⟨fun z => ?_, dups_nodup n _ h1⟩
    rw [dups_mem x n _ h1, List.mem_filter] at z
    simp at z
theorem both_len {a b : List Nat} {L : List Int} (h1 : L.Nodup) (h2 : ∀ k, k ∈ L ↔ k ∈ ci a ∧ k ∈ ci b) : L.length = ((a.filter fun k => b.contains k).eraseDups).length := by
  have hm : ∀ k : Int, k ∈ ci (a.filter fun k => b.contains k).eraseDups ↔ k ∈ L := fun k => by
    rw [h2 k]
    simp only [List.mem_map]
    constructor
    · rintro ⟨j, hj, rfl⟩
      rw [dups_mem j _ _ (Nat.le_refl _), List.mem_filter, List.contains_iff_mem] at hj
      exact ⟨⟨j, hj.1, rfl⟩, ⟨j, hj.2, rfl⟩⟩
    · rintro ⟨⟨j, hj, rfl⟩, ⟨i, hi, e⟩⟩
      have : i = j := by omega
      subst this
      refine ⟨i, ?_, rfl⟩
      rw [dups_mem i _ _ (Nat.le_refl _), List.mem_filter, List.contains_iff_mem]
      exact ⟨hj, hi⟩
  have hn : (ci (a.filter fun k => b.contains k).eraseDups).Nodup := by
    refine List.Pairwise.map _ (fun x y hxy => ?_) (dups_nodup _ _ (Nat.le_refl _))
    intro z
    exact hxy (by omega)
  have e1 := sub_len L _ h1 fun k hk => (hm k).mpr hk
  have e2 := sub_len _ L hn fun k hk => (hm k).mp hk
  simp only [List.length_map] at e1 e2
  omega
theorem step_same {s : Ie07.St} {p k : Nat} {a b : Ie07.Pic} (ha : s.pic p = some a) (hb : s.pic k = some b) : Ie07.step s (.same p k) = (s, ci [(sameN a.at_ b.at_ (min a.at_.length b.at_.length)).length, ((a.at_.filter fun k => b.at_.contains k).eraseDups).length]) := by
  simp only [Ie07.step, ha, hb]
  rfl
theorem step_store (s : Ie07.St) : Ie07.step s .store = (s, ci (s.store.length :: Ie07.inUse s.store :: s.store.map fun (x : Ie07.Slot) => x.refs)) := rfl
theorem step_slot {s : Ie07.St} {i : Nat} {z : Ie07.Slot} (h : s.store[i]? = some z) : Ie07.step s (.slot i) = if z.refs = 0 then (s, [-6]) else (s, ci z.tile) := by
  by_cases c : z.refs = 0
  · simp only [Ie07.step, h, c, if_true]
  · simp only [Ie07.step, h, c, if_false]
    rfl
theorem step_slot_no {s : Ie07.St} {i : Nat} (h : s.store[i]? = none) : Ie07.step s (.slot i) = (s, [-2]) := by
  simp only [Ie07.step, h]
/-! promises -/
def sp_Album_places_of_picture (K : PySem.W.Frag) (A : Ad) : Sp := fun vs H Q _ => ∃ (O : Own) (x : Ax) (n p : Nat) (s : Ie07.St) (y : Ie07.Pic), vs = [.ref x.al, .int (p : Int)] ∧ AlbumAt A O H x n s ∧ s.pic p = some y ∧
  ∀ l : Addr, H l = none → Q (.ref l) (upd H l (.lst (vi y.at_)))
def sp_same_at (K : PySem.W.Frag) (A : Ad) : Sp := fun vs H Q _ => ∃ (la lb : Addr) (a b : List Nat), vs = [.ref la, .ref lb] ∧ H la = some (.lst (vi a)) ∧ H lb = some (.lst (vi b)) ∧ a.length ≤ 1000 ∧ b.length ≤ 1000 ∧
  ∀ H' : Hp, Same H H' → Q (.int (((sameN a b (min a.length b.length)).length : Nat) : Int)) H'
def sp_answer_close (K : PySem.W.Frag) (A : Ad) : Sp := fun vs H Q _ => ∃ (O : Own) (x : Ax) (n p : Nat) (s : Ie07.St), vs = [.ref x.al, .int (p : Int)] ∧ AlbumAt A O H x n s ∧ Good s ∧ n ≤ 90 ∧ AnsQ A O H x n (Ie07.step s (.close p)) Q
def sp_answer_cells (K : PySem.W.Frag) (A : Ad) : Sp := fun vs H Q _ => ∃ (O : Own) (x : Ax) (n p : Nat) (s : Ie07.St), vs = [.ref x.al, .int (p : Int)] ∧ AlbumAt A O H x n s ∧ Good s ∧ n ≤ 90 ∧ AnsQ A O H x n (Ie07.step s (.cells p)) Q
def sp_answer_cell (K : PySem.W.Frag) (A : Ad) : Sp := fun vs H Q _ => ∃ (O : Own) (x : Ax) (n p a b : Nat) (s : Ie07.St), vs = [.ref x.al, .int (p : Int), .int (a : Int), .int (b : Int)] ∧ AlbumAt A O H x n s ∧ Good s ∧ n ≤ 90 ∧ AnsQ A O H x n (Ie07.step s (.cell p a b)) Q
def sp_answer_tile (K : PySem.W.Frag) (A : Ad) : Sp := fun vs H Q _ => ∃ (O : Own) (x : Ax) (n p i : Nat) (s : Ie07.St), vs = [.ref x.al, .int (p : Int), .int (i : Int)] ∧ AlbumAt A O H x n s ∧ Good s ∧ n ≤ 90 ∧ AnsQ A O H x n (Ie07.step s (.tile p i)) Q
def sp_answer_same (K : PySem.W.Frag) (A : Ad) : Sp := fun vs H Q _ => ∃ (O : Own) (x : Ax) (n p k : Nat) (s : Ie07.St), vs = [.ref x.al, .int (p : Int), .int (k : Int)] ∧ AlbumAt A O H x n s ∧ Good s ∧ n ≤ 90 ∧ AnsQ A O H x n (Ie07.step s (.same p k)) Q
def sp_answer_store (K : PySem.W.Frag) (A : Ad) : Sp := fun vs H Q _ => ∃ (O : Own) (x : Ax) (n : Nat) (s : Ie07.St), vs = [.ref x.al] ∧ AlbumAt A O H x n s ∧ Good s ∧ n ≤ 90 ∧ AnsQ A O H x n (Ie07.step s .store) Q
def sp_answer_slot (K : PySem.W.Frag) (A : Ad) : Sp := fun vs H Q _ => ∃ (O : Own) (x : Ax) (n i : Nat) (s : Ie07.St), vs = [.ref x.al, .int (i : Int)] ∧ AlbumAt A O H x n s ∧ Good s ∧ n ≤ 90 ∧ AnsQ A O H x n (Ie07.step s (.slot i)) Q
section
variable {P : Program} {w : World} {K : PySem.W.Frag} {mg : Str → Option Value} {base : Heap} {A : Ad}
theorem ok_Album_places_of_picture (T : Txt K mg A) : FnOk P w K mg base CX0 1 A.f_Album_places_of_picture A.fd_Album_places_of_picture ["self", "p"] (sp_Album_places_of_picture K A) := by
  refine T.F_Album_places_of_picture.ok sc_Album_places_of_picture (fun vs H Q E h => ?_) (fun cdv Ar outer s H vs Q E hr h => ?_)
  · obtain ⟨O, x, n, p, s, q, rfl, _⟩ := h
    rfl
  · obtain ⟨O, x, n, p, s, y, rfl, a, hy, q⟩ := h
    obtain ⟨dx, hi⟩ := a.ins
    obtain ⟨kvs, hd, hl, hp⟩ := a.dic
    obtain ⟨c, h1, h2⟩ := (hp p).2 y hy
    obtain ⟨dxp, pl, b, olds, g1, g2, g3, g4, g5, g6, g7⟩ := h2.ex
    refine ⟨_, (pss_one (ps_ret (pe_callTy call_list_of (by rfl) T.n_list (by decide +kernel) (pa_cons (pe_fld (pe_dget (hu_of hr) (pe_fld (pv 0) rfl) (pv 1) (fun _ _ => rfl)) rfl) pa_nil)))), ?_⟩
    have dg : DGet H x.di (kV (Sum.inl (p : Int))) (some (.ref c)) := by rw [← h1]; exact DGet.k hd
    exact ⟨_, rfl, x.al, A.c_Album, dx, _, _, rfl, hi, T.cl_Album, T.no_Album_pictures, aF_pictures _ _, _, rfl, x.di, _, rfl, dg, c, A.c_Picture, dxp, _, _, rfl, g1, T.cl_Picture, T.no_Picture_places, pF_places _ _ _, pl, _, rfl, .inl (SqL.of g3), q⟩
theorem ok_same_at (T : Txt K mg A) : FnOk P w K mg base CX0 1 A.f_same_at A.fd_same_at ["places", "others"] (sp_same_at K A) := by
  refine T.F_same_at.ok sc_same_at (fun vs H Q E h => ?_) (fun cdv Ar outer s H vs Q E hr h => ?_)
  · obtain ⟨la, lb, a, b, rfl, _⟩ := h
    rfl
  · obtain ⟨la, lb, a, b, rfl, ha, hb, hla, hlb, q⟩ := h
    refine ⟨_, (pss_cons (ps_set (i := 2) sc_same_at.nd rfl (Or.inl rfl) (pe_callB (call_min2 rfl) (by rfl) T.n_min (by decide +kernel) (pa_cons (pe_callB call_len_seq (by rfl) T.n_len (by decide +kernel) (pa_cons (pv 0) pa_nil)) (pa_cons (pe_callB call_len_seq (by rfl) T.n_len (by decide +kernel) (pa_cons (pv 1) pa_nil)) pa_nil))))
      (pss_one (ps_ret (pe_callB call_len_seq (by rfl) T.n_len (by decide +kernel) (pa_cons (pe_lc (own := [("i", 3)]) (g := gName 3) (te := (tVar 3)) (tt := tTest (tOp rEq (tOp (rIxL K) (tVar 0) (tVar 3)) (tOp (rIxL K) (tVar 1) (tVar 3)))) (by rfl) sc_same_at.nd (pi_range1 (by rfl) T.n_range (pa_cons (pv 2) pa_nil)) (blkOk_by (own := [("i", 3)]) (N := n_same_at) (sc := defScope s_same_at) (by decide +kernel)) (fun _ _ _ _ _ => pg_name (i := 3) sc_same_at.nd rfl (Or.inl rfl)) (fun _ _ _ _ _ => by exact (pts_one (pt_cmpR op_eq (pe_ix ix_list (pv 0) (pv 3) (fun _ _ => rfl)) (pe_ix ix_list (pv 1) (pv 3) (fun _ _ => rfl)) (nomark _)))) (fun _ _ _ _ _ => by exact (pv 3))) pa_nil))))), ?_⟩
    refine ⟨_, rfl, la, _, rfl, .inl (SqL.of ha), _, rfl, lb, _, rfl, .inl (SqL.of hb), _, _, rfl, ?_⟩
    have em : (if (((vi b).length : Nat) : Int) < (((vi a).length : Nat) : Int) then (((vi b).length : Nat) : Int) else (((vi a).length : Nat) : Int)) = ((min a.length b.length : Nat) : Int) := by
      rw [List.length_map, List.length_map]
      split <;> omega
    rw [em]
    generalize hm : min a.length b.length = m at q ⊢
    refine ⟨_, rfl, (m : Int), rfl, by omega, by omega, fun D hD => ?_⟩
    refine lc_range (lo := 0) (n := m) (fun i H' => Same H H' ∧ H' D = some (.lst (vi (sameN a b i)))) ⟨fun b o e => (upd_ne (ne_of_none e hD)).trans e, upd_same⟩ ?_ ?_
    · rintro i H' hi' ⟨k, hd⟩
      obtain ⟨u, hu⟩ : ∃ u, a[i]? = some u := ⟨a[i], List.getElem?_eq_getElem (by omega)⟩
      obtain ⟨v, hv⟩ : ∃ v, b[i]? = some v := ⟨b[i], List.getElem?_eq_getElem (by omega)⟩
      refine ⟨rfl, _, rfl, _, rfl, la, _, _, _, rfl, rfl, SqL.of (k _ _ ha), at_nat (by omega) (vi_some hu), _, rfl, _, rfl, lb, _, _, _, rfl, rfl, SqL.of (k _ _ hb), at_nat (by omega) (vi_some hv), rfl, _, rfl, ?_⟩
      have es : sameN a b (i + 1) = sameN a b i ++ if u = v then [i] else [] := by
        unfold sameN
        rw [List.range_succ, List.filter_append]
        by_cases c : u = v
        · simp [hu, hv, c]
        · simp [hu, hv, c]
      rw [es]
      refine ite2 (fun c => ?_) (fun c => ?_)
      · have c0 : u = v := by
          have := of_decide_eq_true c
          injection this with this
          omega
        refine ⟨_, rfl, _, hd, ?_, fun b o e => (upd_ne (ne_of_none e hD)).trans (k b o e), ?_⟩
        · rw [List.length_map, line_eq]
          have h1 := List.length_filter_le (fun i => a[i]? == b[i]?) (List.range i)
          rw [List.length_range] at h1
          unfold sameN
          omega
        · rw [upd_same, if_pos c0, vi_append, show (0 + (i : Int)) = (i : Int) by omega]
          rfl
      · have c0 : ¬ u = v := fun z => c (decide_eq_true (by rw [z]))
        refine ⟨k, ?_⟩
        rw [hd, if_neg c0, List.append_nil]
    · rintro H' ⟨k, hd⟩
      refine ⟨D, _, rfl, .inl (SqL.of hd), ?_⟩
      rw [List.length_map]
      exact q H' k
theorem ok_answer_close (T : Txt K mg A) : FnOk P w K mg base CX0 3 A.f_answer_close A.fd_answer_close ["album", "p"] (sp_answer_close K A) := by
  refine T.F_answer_close.ok sc_answer_close (fun vs H Q E h => ?_) (fun cdv Ar outer s H vs Q E hr h => ?_)
  · obtain ⟨O, x, n, p, s, rfl, _⟩ := h
    rfl
  · obtain ⟨O, x, n, p, s, rfl, a, gd, hn, q⟩ := h
    obtain ⟨dx, hi⟩ := a.ins
    refine ⟨_, (pss_cons (ps_if (pt_not (pt_val (pe_meth (pv 0) T.cl_Album T.m_Album_has_picture (ok_Album_has_picture T) (hr.mono (by decide)) T.b_Album_has_picture .nil pass0 (pa_cons (pv 1) pa_nil)))) (pss_one (ps_ret (pe_lst (pa_cons (pe_gint (by rfl) T.g_NO_PICTURE) pa_nil)))) pss_nil)
      (pss_cons (ps_expr (pe_meth (pv 0) T.cl_Album T.m_Album_drop_picture (ok_Album_drop_picture T) (hr.mono (by decide)) T.b_Album_drop_picture .nil pass0 (pa_cons (pv 1) pa_nil)))
      (pss_one (ps_ret (pe_meth0 (pe_fld (pv 0) rfl) T.cl_Store T.m_Store_how_it_stands (ok_Store_how_it_stands T) (hr.mono (by decide)) T.b_Store_how_it_stands .nil pass0))))), ?_⟩
    refine ⟨_, rfl, x.al, dx, _, rfl, hi, aF_no (by decide +kernel) (by decide +kernel), _, rfl, O, x, n, p, s, rfl, a, _, rfl, ?_⟩
    cases hq : s.pic p with
    | none =>
      refine if_true_of rfl ⟨(by show 1 ≤ sizeLine; decide), fun l hl => ?_⟩
      exact q.no (step_none hq).2.2.2.2.2.2.1 (Same.refl H) a hl
    | some y =>
      refine if_false_of rfl ?_
      refine ⟨_, rfl, x.al, dx, _, rfl, hi, aF_no (by decide +kernel) (by decide +kernel), _, rfl, O, x, n, p, s, rfl, a, fun i => by rw [gd.refs]; exact cntP_le i, fun H1 a1 k1 => ?_⟩
      obtain ⟨dx1, hi1⟩ := a1.ins
      obtain ⟨dxs1, hst1⟩ := a1.sto.ins
      refine ⟨_, rfl, x.al, A.c_Album, dx1, _, _, rfl, hi1, T.cl_Album, T.no_Album_store, aF_store _ _, x.st, dxs1, _, rfl, hst1, sF_no (by decide +kernel) (by decide +kernel), x.st, x.ta, x.ca, _, rfl, a1.sto, a1.line (by omega), fun H2 l k2 hl h2 => ?_⟩
      exact q.stands (step_close hq) (a1.up (by omega)) k1.ext k2 hl h2
theorem ok_answer_cells (T : Txt K mg A) : FnOk P w K mg base CX0 4 A.f_answer_cells A.fd_answer_cells ["album", "p"] (sp_answer_cells K A) := by
  refine T.F_answer_cells.ok sc_answer_cells (fun vs H Q E h => ?_) (fun cdv Ar outer s H vs Q E hr h => ?_)
  · obtain ⟨O, x, n, p, s, rfl, _⟩ := h
    rfl
  · obtain ⟨O, x, n, p, s, rfl, a, gd, hn, q⟩ := h
    obtain ⟨dx, hi⟩ := a.ins
    refine ⟨_, (pss_cons (ps_if (pt_not (pt_val (pe_meth (pv 0) T.cl_Album T.m_Album_has_picture (ok_Album_has_picture T) (hr.mono (by decide)) T.b_Album_has_picture .nil pass0 (pa_cons (pv 1) pa_nil)))) (pss_one (ps_ret (pe_lst (pa_cons (pe_gint (by rfl) T.g_NO_PICTURE) pa_nil)))) pss_nil)
      (pss_cons (ps_set (i := 2) sc_answer_cells.nd rfl (Or.inl rfl) (pe_meth (pv 0) T.cl_Album T.m_Album_rows_of_picture (ok_Album_rows_of_picture T) (hr.mono (by decide)) T.b_Album_rows_of_picture .nil pass0 (pa_cons (pv 1) pa_nil)))
      (pss_cons (ps_set (i := 3) sc_answer_cells.nd rfl (Or.inl rfl) (pe_lst (pa_cons (pe_callB call_len_seq (by rfl) T.n_len (by decide +kernel) (pa_cons (pe_ix ix_list (pv 2) pe_int (fun _ _ => rfl)) pa_nil)) (pa_cons (pe_callB call_len_seq (by rfl) T.n_len (by decide +kernel) (pa_cons (pv 2) pa_nil)) pa_nil))))
      (pss_cons (ps_for PassesOwn.never rfl (pi_list (pv 2)) (pg_name (i := 4) sc_answer_cells.nd rfl (Or.inl rfl))
      (pss_one (ps_expr (pe_bm PySem.F.plainAttrs_list PySem.F.slot_list_extend PySem.F.type_list_extend mt_extend (pv 3) (pa_cons (pv 4) pa_nil)))))
      (pss_one (ps_ret (pv 3))))))), ?_⟩
    refine ⟨_, rfl, x.al, dx, _, rfl, hi, aF_no (by decide +kernel) (by decide +kernel), _, rfl, O, x, n, p, s, rfl, a, _, rfl, ?_⟩
    cases hq : s.pic p with
    | none =>
      refine if_true_of rfl ⟨(by show 1 ≤ sizeLine; decide), fun l hl => ?_⟩
      exact q.no (step_none hq).2.2.2.2.2.2.2.1 (Same.refl H) a hl
    | some y =>
      refine if_false_of rfl ?_
      have ok := gd.pics p y hq
      have e1 := ok.w1
      have e2 := ok.w4
      have e3 := ok.h1
      have e4 := ok.h4
      refine ⟨_, rfl, x.al, dx, _, rfl, hi, aF_no (by decide +kernel) (by decide +kernel), _, rfl, O, x, n, p, s, y, rfl, a, gd, hq, fun H1 g G => ?_⟩
      obtain ⟨rs, r1, r2, r3⟩ := G.rd
      obtain ⟨c0, hc0⟩ : ∃ c, rs[0]? = some c := ⟨rs[0], List.getElem?_eq_getElem (by omega)⟩
      refine ⟨_, rfl, g, _, _, _, rfl, rfl, SqL.of r1, at_nat (j := 0) rfl (refs_some hc0), c0, _, rfl, .inl (SqL.of (r3 0 c0 hc0)), _, rfl, g, _, rfl, .inl (SqL.of r1), (by show 2 ≤ sizeLine; decide), fun l hl => ?_⟩
      have s1 : Same H1 (upd H1 l (HO.lst [.int (((vi (rowN (4 * y.w) (Ie07.cellOf s.store y.w y.at_) 0)).length : Nat) : Int), .int (((rs.map V.ref).length : Nat) : Int)])) := fun b o e => (upd_ne (ne_of_none e hl)).trans e
      refine ⟨_, rfl, g, rfl, ⟨_, SqL.of (s1 _ _ r1)⟩, for_list (K := K) (a := g) (xs := rs.map V.ref) (fun i σ H' => (∃ v, σ = [some (.ref x.al), some (.int (p : Int)), some (.ref g), some (.ref l), v]) ∧ Same H1 H' ∧ H' l = some (.lst (vi (4 * y.w :: 4 * y.h :: (List.range i).flatMap fun j => rowN (4 * y.w) (Ie07.cellOf s.store y.w y.at_) j))))
        ⟨⟨_, rfl⟩, s1, ?_⟩ (fun i σ H' _ ⟨_, k, _⟩ => SqL.of (k _ _ r1)) ?_ ?_⟩
      · rw [upd_same]
        simp only [List.length_map, List.length_range, r2]
        rfl
      · rintro i z σ H' hiz ⟨⟨v, rfl⟩, k, hl'⟩
        obtain ⟨c, hc, rfl⟩ := refs_of hiz
        have hic : i < rs.length := (List.getElem?_eq_some_iff.mp hc).1
        have hcl : c ≠ l := ne_of_none (r3 i c hc) hl
        have hlen : ((List.range i).flatMap fun j => rowN (4 * y.w) (Ie07.cellOf s.store y.w y.at_) j).length = i * (4 * y.w) := by
          exact flat_len _ (4 * y.w) (fun j => by simp) i
        have hbd : i * (4 * y.w) ≤ 16 * 16 := Nat.mul_le_mul (by omega) (by omega)
        refine ⟨_, rfl, .inl ⟨rfl, _, SqL.of hl'⟩, _, rfl, l, c, _, _, rfl, rfl, hl', k _ _ (r3 i c hc), ?_, ⟨_, rfl⟩, fun b o e => (upd_ne (ne_of_none e hl)).trans (k b o e), ?_⟩
        · rw [line_eq]
          simp only [List.length_map, List.length_cons, List.length_range, hlen]
          omega
        · rw [upd_same, List.range_succ, List.flatMap_append]
          simp
      · rintro σ H' ⟨⟨v, rfl⟩, k, hl'⟩
        rw [List.length_map, r2] at hl'
        refine ⟨_, rfl, ?_⟩
        refine q.tell (step_cells hq) (G.same.trans k) a (G.same.free hl) ?_
        rw [hl', int_ci]
theorem ok_answer_cell (T : Txt K mg A) : FnOk P w K mg base CX0 4 A.f_answer_cell A.fd_answer_cell ["album", "p", "x", "y"] (sp_answer_cell K A) := by
  refine T.F_answer_cell.ok sc_answer_cell (fun vs H Q E h => ?_) (fun cdv Ar outer s H vs Q E hr h => ?_)
  · obtain ⟨O, x, n, p, c, d, s, rfl, _⟩ := h
    rfl
  · obtain ⟨O, x, n, p, c, d, s, rfl, a, gd, hn, q⟩ := h
    obtain ⟨dx, hi⟩ := a.ins
    refine ⟨_, (pss_cons (ps_if (pt_not (pt_val (pe_meth (pv 0) T.cl_Album T.m_Album_has_picture (ok_Album_has_picture T) (hr.mono (by decide)) T.b_Album_has_picture .nil pass0 (pa_cons (pv 1) pa_nil)))) (pss_one (ps_ret (pe_lst (pa_cons (pe_gint (by rfl) T.g_NO_PICTURE) pa_nil)))) pss_nil)
      (pss_cons (ps_set (i := 4) sc_answer_cell.nd rfl (Or.inl rfl) (pe_meth (pv 0) T.cl_Album T.m_Album_rows_of_picture (ok_Album_rows_of_picture T) (hr.mono (by decide)) T.b_Album_rows_of_picture .nil pass0 (pa_cons (pv 1) pa_nil)))
      (pss_cons (ps_if (pt_not (pt_val (pe_call (ok_has_cell T) (hr.mono (by decide)) (by rfl) T.g_has_cell T.F_has_cell.kp T.b_has_cell .nil pass0 (pa_cons (pv 4) (pa_cons (pv 2) (pa_cons (pv 3) pa_nil)))))) (pss_one (ps_ret (pe_lst (pa_cons (pe_gint (by rfl) T.g_NOT_AS_TOLD) pa_nil)))) pss_nil)
      (pss_one (ps_ret (pe_lst (pa_cons (pe_ix ix_list (pe_ix ix_list (pv 4) (pv 3) (fun _ _ => rfl)) (pv 2) (fun _ _ => rfl)) pa_nil))))))), ?_⟩
    refine ⟨_, rfl, x.al, dx, _, rfl, hi, aF_no (by decide +kernel) (by decide +kernel), _, rfl, O, x, n, p, s, rfl, a, _, rfl, ?_⟩
    cases hq : s.pic p with
    | none =>
      refine if_true_of rfl ⟨(by show 1 ≤ sizeLine; decide), fun l hl => ?_⟩
      exact q.no ((step_none hq).2.2.2.2.2.2.2.2.1 _ _) (Same.refl H) a hl
    | some y =>
      refine if_false_of rfl ?_
      have ok := gd.pics p y hq
      have e1 := ok.w1
      have e2 := ok.w4
      have e3 := ok.h1
      have e4 := ok.h4
      refine ⟨_, rfl, x.al, dx, _, rfl, hi, aF_no (by decide +kernel) (by decide +kernel), _, rfl, O, x, n, p, s, y, rfl, a, gd, hq, fun H1 g G => ?_⟩
      refine ⟨_, rfl, _, rfl, _, rfl, g, 4 * y.w, 4 * y.h, c, d, _, rfl, G.rd, by omega, _, rfl, ?_⟩
      by_cases cd : d < 4 * y.h ∧ c < 4 * y.w
      · refine if_false_of (by simp [cd.1, cd.2]) ?_
        obtain ⟨rs, r1, r2, r3⟩ := G.rd
        obtain ⟨c0, hc0⟩ : ∃ c, rs[d]? = some c := ⟨rs[d], List.getElem?_eq_getElem (by omega)⟩
        have hv : (rowN (4 * y.w) (Ie07.cellOf s.store y.w y.at_) d)[c]? = some (Ie07.cellOf s.store y.w y.at_ c d) := by
          rw [List.getElem?_map, List.getElem?_range cd.2]
          rfl
        refine ⟨_, rfl, _, rfl, g, _, _, _, rfl, rfl, SqL.of r1, at_nat rfl (refs_some hc0), _, rfl, c0, _, _, _, rfl, rfl, SqL.of (r3 d c0 hc0), at_nat rfl (vi_some hv), (by show 1 ≤ sizeLine; decide), fun l hl => ?_⟩
        exact q.new (step_cell hq cd.2 cd.1) G.same a hl rfl
      · refine if_true_of ?_ ⟨(by show 1 ≤ sizeLine; decide), fun l hl => ?_⟩
        · by_cases c1 : d < 4 * y.h
          · have c2 : ¬ c < 4 * y.w := fun z => cd ⟨c1, z⟩
            simp [c2]
          · simp [c1]
        · exact q.no (step_cell_no hq (by omega)) G.same a hl
theorem ok_answer_tile (T : Txt K mg A) : FnOk P w K mg base CX0 2 A.f_answer_tile A.fd_answer_tile ["album", "p", "i"] (sp_answer_tile K A) := by
  refine T.F_answer_tile.ok sc_answer_tile (fun vs H Q E h => ?_) (fun cdv Ar outer s H vs Q E hr h => ?_)
  · obtain ⟨O, x, n, p, i, s, rfl, _⟩ := h
    rfl
  · obtain ⟨O, x, n, p, i, s, rfl, a, gd, hn, q⟩ := h
    obtain ⟨dx, hi⟩ := a.ins
    refine ⟨_, (pss_cons (ps_if (pt_not (pt_val (pe_meth (pv 0) T.cl_Album T.m_Album_has_picture (ok_Album_has_picture T) (hr.mono (by decide)) T.b_Album_has_picture .nil pass0 (pa_cons (pv 1) pa_nil)))) (pss_one (ps_ret (pe_lst (pa_cons (pe_gint (by rfl) T.g_NO_PICTURE) pa_nil)))) pss_nil)
      (pss_cons (ps_set (i := 3) sc_answer_tile.nd rfl (Or.inl rfl) (pe_meth (pv 0) T.cl_Album T.m_Album_places_of_picture (ok_Album_places_of_picture T) (hr.mono (by decide)) T.b_Album_places_of_picture .nil pass0 (pa_cons (pv 1) pa_nil)))
      (pss_cons (ps_if (pt_cmpR op_ge (pv 2) (pe_callB call_len_seq (by rfl) T.n_len (by decide +kernel) (pa_cons (pv 3) pa_nil)) (nomark _)) (pss_one (ps_ret (pe_lst (pa_cons (pe_gint (by rfl) T.g_NOT_AS_TOLD) pa_nil)))) pss_nil)
      (pss_one (ps_ret (pe_lst (pa_cons (pe_ix ix_list (pv 3) (pv 2) (fun _ _ => rfl)) (pa_cons (pe_ix ix_list (pe_fld (pe_fld (pv 0) rfl) rfl) (pe_ix ix_list (pv 3) (pv 2) (fun _ _ => rfl)) (fun _ _ => rfl)) pa_nil)))))))), ?_⟩
    refine ⟨_, rfl, x.al, dx, _, rfl, hi, aF_no (by decide +kernel) (by decide +kernel), _, rfl, O, x, n, p, s, rfl, a, _, rfl, ?_⟩
    cases hq : s.pic p with
    | none =>
      refine if_true_of rfl ⟨(by show 1 ≤ sizeLine; decide), fun l hl => ?_⟩
      exact q.no ((step_none hq).2.2.2.2.2.2.2.2.2.1 _) (Same.refl H) a hl
    | some y =>
      refine if_false_of rfl ?_
      refine ⟨_, rfl, x.al, dx, _, rfl, hi, aF_no (by decide +kernel) (by decide +kernel), _, rfl, O, x, n, p, s, y, rfl, a, hq, fun m hm => ?_⟩
      have k1 : Same H (upd H m (HO.lst (vi y.at_))) := fun b o e => (upd_ne (ne_of_none e hm)).trans e
      refine ⟨_, rfl, _, rfl, m, _, rfl, .inl (SqL.of upd_same), _, _, rfl, rfl, _, rfl, ?_⟩
      rw [List.length_map]
      cases hk : y.at_[i]? with
      | none =>
        have hle : y.at_.length ≤ i := List.getElem?_eq_none_iff.mp hk
        refine if_true_of (decide_eq_true (by omega)) ⟨(by show 1 ≤ sizeLine; decide), fun l hl => ?_⟩
        exact q.no (step_tile_no hq hk) k1 a hl
      | some k =>
        have hlt : i < y.at_.length := (List.getElem?_eq_some_iff.mp hk).1
        refine if_false_of (decide_eq_false (by omega)) ?_
        obtain ⟨z, hz, _⟩ := refsAt_pos (gd.at_pos hq (List.mem_of_getElem? hk))
        obtain ⟨dxs, hst⟩ := a.sto.ins
        have hc := a.sto.cnt
        refine ⟨_, rfl, _, rfl, m, _, _, _, rfl, rfl, SqL.of upd_same, at_nat rfl (vi_some hk), _, rfl, x.al, A.c_Album, dx, _, _, rfl, k1 _ _ hi, T.cl_Album, T.no_Album_store, aF_store _ _, x.st, A.c_Store, dxs, _, _, rfl, k1 _ _ hst, T.cl_Store, T.no_Store_counts, sF_counts _ _,
          _, rfl, _, rfl, m, _, _, _, rfl, rfl, SqL.of upd_same, at_nat rfl (vi_some hk), x.ca, _, _, _, rfl, rfl, SqL.of (k1 _ _ hc), at_nat rfl (refs_get hz), (by show 2 ≤ sizeLine; decide), fun l hl => ?_⟩
        exact q.new (step_tile hq hk hz) k1 a hl rfl
theorem ok_answer_same (T : Txt K mg A) : FnOk P w K mg base CX0 2 A.f_answer_same A.fd_answer_same ["album", "p", "q"] (sp_answer_same K A) := by
  refine T.F_answer_same.ok sc_answer_same (fun vs H Q E h => ?_) (fun cdv Ar outer s H vs Q E hr h => ?_)
  · obtain ⟨O, x, n, p, k, s, rfl, _⟩ := h
    rfl
  · obtain ⟨O, x, n, p, k, s, rfl, a, gd, hn, q⟩ := h
    obtain ⟨dx, hi⟩ := a.ins
    refine ⟨_, (pss_cons (ps_if (PW.pt (pw_or (pt_not (pt_val (pe_meth (pv 0) T.cl_Album T.m_Album_has_picture (ok_Album_has_picture T) (hr.mono (by decide)) T.b_Album_has_picture .nil pass0 (pa_cons (pv 1) pa_nil)))) (pw_or1 (pt_not (pt_val (pe_meth (pv 0) T.cl_Album T.m_Album_has_picture (ok_Album_has_picture T) (hr.mono (by decide)) T.b_Album_has_picture .nil pass0 (pa_cons (pv 2) pa_nil))))))) (pss_one (ps_ret (pe_lst (pa_cons (pe_gint (by rfl) T.g_NO_PICTURE) pa_nil)))) pss_nil)
      (pss_cons (ps_set (i := 3) sc_answer_same.nd rfl (Or.inl rfl) (pe_meth (pv 0) T.cl_Album T.m_Album_places_of_picture (ok_Album_places_of_picture T) (hr.mono (by decide)) T.b_Album_places_of_picture .nil pass0 (pa_cons (pv 1) pa_nil)))
      (pss_cons (ps_set (i := 4) sc_answer_same.nd rfl (Or.inl rfl) (pe_meth (pv 0) T.cl_Album T.m_Album_places_of_picture (ok_Album_places_of_picture T) (hr.mono (by decide)) T.b_Album_places_of_picture .nil pass0 (pa_cons (pv 2) pa_nil)))
      (pss_one (ps_ret (pe_lst (pa_cons (pe_call (ok_same_at T) (hr.mono (by decide)) (by rfl) T.g_same_at T.F_same_at.kp T.b_same_at .nil pass0 (pa_cons (pv 3) (pa_cons (pv 4) pa_nil))) (pa_cons (pe_lenAnd (by rfl) T.n_len (by rfl) T.n_set (pv 3) (pv 4)) pa_nil)))))))), ?_⟩
    refine ⟨_, rfl, x.al, dx, _, rfl, hi, aF_no (by decide +kernel) (by decide +kernel), _, rfl, O, x, n, p, s, rfl, a, _, rfl, ?_⟩
    cases hq : s.pic p with
    | none =>
      refine if_true_of rfl ?_
      refine iteT ⟨(by show 1 ≤ sizeLine; decide), fun l hl => ?_⟩
      exact q.no ((step_none hq).2.2.2.2.2.2.2.2.2.2 _) (Same.refl H) a hl
    | some y =>
      refine if_false_of rfl ?_
      refine ⟨_, rfl, x.al, dx, _, rfl, hi, aF_no (by decide +kernel) (by decide +kernel), _, rfl, O, x, n, k, s, rfl, a, _, rfl, ?_⟩
      cases hk : s.pic k with
      | none =>
        refine if_true_of rfl ⟨(by show 1 ≤ sizeLine; decide), fun l hl => ?_⟩
        exact q.no (step_none2 hk).2 (Same.refl H) a hl
      | some z =>
        refine if_false_of rfl ?_
        have ok := gd.pics p y hq
        have okz := gd.pics k z hk
        have ly : y.at_.length ≤ 4 * 4 := by rw [ok.len]; exact Nat.mul_le_mul ok.w4 ok.h4
        have lz : z.at_.length ≤ 4 * 4 := by rw [okz.len]; exact Nat.mul_le_mul okz.w4 okz.h4
        refine ⟨_, rfl, x.al, dx, _, rfl, hi, aF_no (by decide +kernel) (by decide +kernel), _, rfl, O, x, n, p, s, y, rfl, a, hq, fun m hm => ?_⟩
        have k1 : Same H (upd H m (HO.lst (vi y.at_))) := fun b o e => (upd_ne (ne_of_none e hm)).trans e
        refine ⟨_, rfl, x.al, dx, _, rfl, k1 _ _ hi, aF_no (by decide +kernel) (by decide +kernel), _, rfl, O, x, n, k, s, z, rfl, a.same k1, hk, fun m2 hm2 => ?_⟩
        have k2 : Same (upd H m (HO.lst (vi y.at_))) (upd (upd H m (HO.lst (vi y.at_))) m2 (HO.lst (vi z.at_))) := fun b o e => (upd_ne (ne_of_none e hm2)).trans e
        refine ⟨_, rfl, _, rfl, m, m2, y.at_, z.at_, rfl, k2 _ _ upd_same, upd_same, by omega, by omega, fun H3 k3 => ?_⟩
        have g1 : H3 m = some (.lst (vi y.at_)) := k3 _ _ (k2 _ _ upd_same)
        have g2 : H3 m2 = some (.lst (vi z.at_)) := k3 _ _ upd_same
        refine ⟨_, rfl, m, ci y.at_, rfl, by rw [int_ci]; exact SqL.of g1, by rw [List.length_map]; omega, _, rfl, m2, ci z.at_, rfl, by rw [int_ci]; exact SqL.of g2, by rw [List.length_map]; omega, fun L n1 n2 => ⟨(by show 2 ≤ sizeLine; decide), fun l hl => ?_⟩⟩
        rw [both_len n1 n2]
        exact q.new (step_same hq hk) (k1.trans (k2.trans k3)) a hl rfl
theorem ok_answer_store (T : Txt K mg A) : FnOk P w K mg base CX0 2 A.f_answer_store A.fd_answer_store ["album"] (sp_answer_store K A) := by
  refine T.F_answer_store.ok sc_answer_store (fun vs H Q E h => ?_) (fun cdv Ar outer s H vs Q E hr h => ?_)
  · obtain ⟨O, x, n, s, rfl, _⟩ := h
    rfl
  · obtain ⟨O, x, n, s, rfl, a, gd, hn, q⟩ := h
    obtain ⟨dx, hi⟩ := a.ins
    obtain ⟨dxs, hst⟩ := a.sto.ins
    have hc := a.sto.cnt
    refine ⟨_, (pss_cons (ps_set (i := 1) sc_answer_store.nd rfl (Or.inl rfl) (pe_fld (pv 0) rfl))
      (pss_one (ps_ret (pe_op op_cat (pe_lst (pa_cons (pe_callB call_len_seq (by rfl) T.n_len (by decide +kernel) (pa_cons (pe_fld (pv 1) rfl) pa_nil)) (pa_cons (pe_meth0 (pv 1) T.cl_Store T.m_Store_in_use (ok_Store_in_use T) (hr.mono (by decide)) T.b_Store_in_use .nil pass0) pa_nil))) (pe_fld (pv 1) rfl))))), ?_⟩
    refine ⟨_, rfl, x.al, A.c_Album, dx, _, _, rfl, hi, T.cl_Album, T.no_Album_store, aF_store _ _, ?_⟩
    refine ⟨_, rfl, x.st, A.c_Store, dxs, _, _, rfl, hst, T.cl_Store, T.no_Store_counts, sF_counts _ _, x.ca, _, rfl, .inl (SqL.of hc), _, rfl, x.st, dxs, _, rfl, hst, sF_no (by decide +kernel) (by decide +kernel), x.st, x.ta, x.ca, _, rfl, a.sto, a.line (by omega), fun H1 k1 => ?_⟩
    refine ⟨(by show 2 ≤ sizeLine; decide), fun l hl => ?_⟩
    have k2 : ∀ o, Same H (upd H1 l o) := fun o b u e => (upd_ne (ne_of_none (k1 _ _ e) hl)).trans (k1 _ _ e)
    refine ⟨_, rfl, x.st, A.c_Store, dxs, _, _, rfl, k2 _ _ _ hst, T.cl_Store, T.no_Store_counts, sF_counts _ _, l, x.ca, _, _, rfl, rfl, upd_same, k2 _ _ _ hc, ?_, fun m hm => ?_⟩
    · have := a.few
      simp only [List.length_map, List.length_cons, List.length_nil, line_eq]
      omega
    · refine q.new (step_store s) (k2 _) a hm ?_
      rw [refs_len]
      rfl
theorem ok_answer_slot (T : Txt K mg A) : FnOk P w K mg base CX0 2 A.f_answer_slot A.fd_answer_slot ["album", "i"] (sp_answer_slot K A) := by
  refine T.F_answer_slot.ok sc_answer_slot (fun vs H Q E h => ?_) (fun cdv Ar outer s H vs Q E hr h => ?_)
  · obtain ⟨O, x, n, i, s, rfl, _⟩ := h
    rfl
  · obtain ⟨O, x, n, i, s, rfl, a, gd, hn, q⟩ := h
    obtain ⟨dx, hi⟩ := a.ins
    obtain ⟨dxs, hst⟩ := a.sto.ins
    obtain ⟨ts, htl, hlen, htt⟩ := a.sto.til
    have hc := a.sto.cnt
    refine ⟨_, (pss_cons (ps_set (i := 2) sc_answer_slot.nd rfl (Or.inl rfl) (pe_fld (pv 0) rfl))
      (pss_cons (ps_if (pt_cmpR op_ge (pv 1) (pe_callB call_len_seq (by rfl) T.n_len (by decide +kernel) (pa_cons (pe_fld (pv 2) rfl) pa_nil)) (nomark _)) (pss_one (ps_ret (pe_lst (pa_cons (pe_gint (by rfl) T.g_NOT_AS_TOLD) pa_nil)))) pss_nil)
      (pss_cons (ps_if (pt_val (pe_meth (pv 2) T.cl_Store T.m_Store_is_free (ok_Store_is_free T) (hr.mono (by decide)) T.b_Store_is_free .nil pass0 (pa_cons (pv 1) pa_nil))) (pss_one (ps_ret (pe_lst (pa_cons (pe_gint (by rfl) T.g_FREE_PLACE) pa_nil)))) pss_nil)
      (pss_one (ps_ret (pe_callTy call_list_of (by rfl) T.n_list (by decide +kernel) (pa_cons (pe_ix ix_list (pe_fld (pv 2) rfl) (pv 1) (fun _ _ => rfl)) pa_nil))))))), ?_⟩
    refine ⟨_, rfl, x.al, A.c_Album, dx, _, _, rfl, hi, T.cl_Album, T.no_Album_store, aF_store _ _, ?_⟩
    refine ⟨_, rfl, _, rfl, x.st, A.c_Store, dxs, _, _, rfl, hst, T.cl_Store, T.no_Store_counts, sF_counts _ _, x.ca, _, rfl, .inl (SqL.of hc), _, _, rfl, rfl, _, rfl, ?_⟩
    rw [refs_len]
    cases hz : s.store[i]? with
    | none =>
      have hle : s.store.length ≤ i := List.getElem?_eq_none_iff.mp hz
      refine if_true_of (decide_eq_true (by omega)) ⟨(by show 1 ≤ sizeLine; decide), fun l hl => ?_⟩
      exact q.no (step_slot_no hz) (Same.refl H) a hl
    | some z =>
      have hlt : i < s.store.length := (List.getElem?_eq_some_iff.mp hz).1
      refine if_false_of (decide_eq_false (by omega)) ?_
      refine ⟨_, rfl, x.st, dxs, _, rfl, hst, sF_no (by decide +kernel) (by decide +kernel), _, rfl, x.st, x.ta, x.ca, _, _, i, z, rfl, rfl, a.sto, hz, _, rfl, ?_⟩
      by_cases c : z.refs = 0
      · refine if_true_of (decide_eq_true c) ⟨(by show 1 ≤ sizeLine; decide), fun l hl => ?_⟩
        exact q.no (s := s) (by rw [step_slot hz, if_pos c]) (Same.refl H) a hl
      · refine if_false_of (decide_eq_false c) ?_
        obtain ⟨t, ht⟩ : ∃ t, ts[i]? = some t := ⟨ts[i], List.getElem?_eq_getElem (by omega)⟩
        refine ⟨_, rfl, x.st, A.c_Store, dxs, _, _, rfl, hst, T.cl_Store, T.no_Store_tiles, sF_tiles _ _, _, rfl, x.ta, _, _, _, rfl, rfl, SqL.of htl, at_nat rfl (refs_some ht), t, _, rfl, .inr ((htt i t z ht hz (by omega)).sq T), fun l hl => ?_⟩
        exact q.new (s := s) (by rw [step_slot hz, if_neg c]) (Same.refl H) a hl rfl
end
end TS
namespace TS
open PySem PySem.Spec PyProof.Rows L2
def sp_answer_call (K : PySem.W.Frag) (A : Ad) : Sp := fun vs H Q _ => ∃ (O : Own) (x : Ax) (n k : Nat) (gv rw : Addr) (given row : List Nat) (cl : Ie07.Call) (s : Ie07.St), vs = [.ref x.al, .int (k : Int), .ref gv, .ref rw] ∧ AlbumAt A O H x n s ∧ Good s ∧ n ≤ 90 ∧
  H gv = some (.lst (vi given)) ∧ H rw = some (.lst (vi row)) ∧ callN k given row = some cl ∧ (∀ z ∈ given, z < 2 ^ 40) ∧ row.length ≤ 20000 ∧ AnsQ A O H x n (Ie07.step s cl) Q
def sp_answer_changing (K : PySem.W.Frag) (A : Ad) : Sp := fun vs H Q _ => ∃ (O : Own) (x : Ax) (n k : Nat) (gv rw : Addr) (given row : List Nat) (cl : Ie07.Call) (s : Ie07.St), vs = [.ref x.al, .int (k : Int), .ref gv, .ref rw] ∧ k ≤ 7 ∧ AlbumAt A O H x n s ∧ Good s ∧ n ≤ 90 ∧
  H gv = some (.lst (vi given)) ∧ H rw = some (.lst (vi row)) ∧ callN k given row = some cl ∧ (∀ z ∈ given, z < 2 ^ 40) ∧ row.length ≤ 20000 ∧ AnsQ A O H x n (Ie07.step s cl) Q
def sp_answer_telling (K : PySem.W.Frag) (A : Ad) : Sp := fun vs H Q _ => ∃ (O : Own) (x : Ax) (n k : Nat) (gv : Addr) (given : List Nat) (cl : Ie07.Call) (s : Ie07.St), vs = [.ref x.al, .int (k : Int), .ref gv] ∧ 8 ≤ k ∧ AlbumAt A O H x n s ∧ Good s ∧ n ≤ 90 ∧
  H gv = some (.lst (vi given)) ∧ callN k given [] = some cl ∧ AnsQ A O H x n (Ie07.step s cl) Q
theorem callN_row {k : Nat} {given row : List Nat} {cl : Ie07.Call} (h : callN k given row = some cl) (hk : 8 ≤ k) : row = [] := by
  unfold callN at h
  split at h <;> first | rfl | omega | cases h
section
variable {P : Program} {w : World} {K : PySem.W.Frag} {mg : Str → Option Value} {base : Heap} {A : Ad}
theorem ok_answer_changing (T : Txt K mg A) : FnOk P w K mg base CX0 9 A.f_answer_changing A.fd_answer_changing ["album", "call", "given", "row"] (sp_answer_changing K A) := by
  refine T.F_answer_changing.ok sc_answer_changing (fun vs H Q E h => ?_) (fun cdv Ar outer s H vs Q E hr h => ?_)
  · obtain ⟨O, x, n, k, gv, rw, given, row, cl, s, rfl, _⟩ := h
    rfl
  · obtain ⟨O, x, n, k, gv, rw, given, row, cl, s, rfl, hk7, a, gd, hn, hg, hrw, hcn, hgz, hrow, q⟩ := h
    refine ⟨_, (pss_cons (ps_if (pt_cmpR op_eq (pv 1) (pe_gint (by rfl) T.g_PAGE) (nomark _)) (pss_one (ps_ret (pe_call (ok_answer_page T) (hr.mono (by decide)) (by rfl) T.g_answer_page T.F_answer_page.kp T.b_answer_page .nil pass0 (pa_cons (pv 0) (pa_cons (pe_ix ix_list (pv 2) pe_int (fun _ _ => rfl)) (pa_cons (pe_ix ix_list (pv 2) pe_int (fun _ _ => rfl)) (pa_cons (pe_ix ix_list (pv 2) pe_int (fun _ _ => rfl)) pa_nil))))))) pss_nil)
      (pss_cons (ps_if (pt_cmpR op_eq (pv 1) (pe_gint (by rfl) T.g_BOX) (nomark _)) (pss_one (ps_ret (pe_call (ok_answer_box T) (hr.mono (by decide)) (by rfl) T.g_answer_box T.F_answer_box.kp T.b_answer_box .nil pass0 (pa_cons (pv 0) (pa_cons (pe_ix ix_list (pv 2) pe_int (fun _ _ => rfl)) (pa_cons (pe_ix ix_list (pv 2) pe_int (fun _ _ => rfl)) (pa_cons (pe_ix ix_list (pv 2) pe_int (fun _ _ => rfl)) (pa_cons (pe_ix ix_list (pv 2) pe_int (fun _ _ => rfl)) (pa_cons (pe_ix ix_list (pv 2) pe_int (fun _ _ => rfl)) (pa_cons (pe_ix ix_list (pv 2) pe_int (fun _ _ => rfl)) pa_nil)))))))))) pss_nil)
      (pss_cons (ps_if (pt_cmpR op_eq (pv 1) (pe_gint (by rfl) T.g_DOTS) (nomark _)) (pss_one (ps_ret (pe_call (ok_answer_dots T) (hr.mono (by decide)) (by rfl) T.g_answer_dots T.F_answer_dots.kp T.b_answer_dots .nil pass0 (pa_cons (pv 0) (pa_cons (pe_ix ix_list (pv 2) pe_int (fun _ _ => rfl)) (pa_cons (pv 3) pa_nil)))))) pss_nil)
      (pss_cons (ps_if (pt_cmpR op_eq (pv 1) (pe_gint (by rfl) T.g_SHIFT) (nomark _)) (pss_one (ps_ret (pe_call (ok_answer_shift T) (hr.mono (by decide)) (by rfl) T.g_answer_shift T.F_answer_shift.kp T.b_answer_shift .nil pass0 (pa_cons (pv 0) (pa_cons (pe_ix ix_list (pv 2) pe_int (fun _ _ => rfl)) (pa_cons (pe_ix ix_list (pv 2) pe_int (fun _ _ => rfl)) pa_nil)))))) pss_nil)
      (pss_cons (ps_if (pt_cmpR op_eq (pv 1) (pe_gint (by rfl) T.g_COPY) (nomark _)) (pss_one (ps_ret (pe_call (ok_answer_copy T) (hr.mono (by decide)) (by rfl) T.g_answer_copy T.F_answer_copy.kp T.b_answer_copy .nil pass0 (pa_cons (pv 0) (pa_cons (pe_ix ix_list (pv 2) pe_int (fun _ _ => rfl)) (pa_cons (pe_ix ix_list (pv 2) pe_int (fun _ _ => rfl)) pa_nil)))))) pss_nil)
      (pss_cons (ps_if (pt_cmpR op_eq (pv 1) (pe_gint (by rfl) T.g_PASTE) (nomark _)) (pss_one (ps_ret (pe_call (ok_answer_paste T) (hr.mono (by decide)) (by rfl) T.g_answer_paste T.F_answer_paste.kp T.b_answer_paste .nil pass0 (pa_cons (pv 0) (pa_cons (pe_ix ix_list (pv 2) pe_int (fun _ _ => rfl)) (pa_cons (pe_ix ix_list (pv 2) pe_int (fun _ _ => rfl)) (pa_cons (pe_ix ix_list (pv 2) pe_int (fun _ _ => rfl)) (pa_cons (pe_ix ix_list (pv 2) pe_int (fun _ _ => rfl)) pa_nil)))))))) pss_nil)
      (pss_cons (ps_if (pt_cmpR op_eq (pv 1) (pe_gint (by rfl) T.g_UNDO) (nomark _)) (pss_one (ps_ret (pe_call (ok_answer_undo T) (hr.mono (by decide)) (by rfl) T.g_answer_undo T.F_answer_undo.kp T.b_answer_undo .nil pass0 (pa_cons (pv 0) (pa_cons (pe_ix ix_list (pv 2) pe_int (fun _ _ => rfl)) pa_nil))))) pss_nil)
      (pss_one (ps_ret (pe_call (ok_answer_close T) (hr.mono (by decide)) (by rfl) T.g_answer_close T.F_answer_close.kp T.b_answer_close .nil pass0 (pa_cons (pv 0) (pa_cons (pe_ix ix_list (pv 2) pe_int (fun _ _ => rfl)) pa_nil)))))))))))), ?_⟩
    match k, given, row, hcn with
    | 0, [p, w, h], [], hcn =>
      cases hcn
      refine ⟨_, rfl, rfl, _, rfl, if_true_of (by decide) ?_⟩
      exact ⟨_, rfl, _, rfl, gv, _, _, _, rfl, rfl, SqL.of hg, at_nat (j := 0) rfl rfl, _, rfl, gv, _, _, _, rfl, rfl, SqL.of hg, at_nat (j := 1) rfl rfl, _, rfl, gv, _, _, _, rfl, rfl, SqL.of hg, at_nat (j := 2) rfl rfl, O, x, n, p, w, h, s, rfl, a, gd, hn, q⟩
    | 1, [p, c, d, u, v, z], [], hcn =>
      cases hcn
      refine ⟨_, rfl, rfl, _, rfl, if_false_of (by decide) ?_⟩
      refine ⟨_, rfl, rfl, _, rfl, if_true_of (by decide) ?_⟩
      exact ⟨_, rfl, _, rfl, gv, _, _, _, rfl, rfl, SqL.of hg, at_nat (j := 0) rfl rfl, _, rfl, gv, _, _, _, rfl, rfl, SqL.of hg, at_nat (j := 1) rfl rfl, _, rfl, gv, _, _, _, rfl, rfl, SqL.of hg, at_nat (j := 2) rfl rfl, _, rfl, gv, _, _, _, rfl, rfl, SqL.of hg, at_nat (j := 3) rfl rfl, _, rfl, gv, _, _, _, rfl, rfl, SqL.of hg, at_nat (j := 4) rfl rfl, _, rfl, gv, _, _, _, rfl, rfl, SqL.of hg, at_nat (j := 5) rfl rfl, O, x, n, p, c, d, u, v, z, s, rfl, a, gd, hn, hgz c (by simp), hgz d (by simp), q⟩
    | 2, [p], l, hcn =>
      cases hcn
      refine ⟨_, rfl, rfl, _, rfl, if_false_of (by decide) ?_⟩
      refine ⟨_, rfl, rfl, _, rfl, if_false_of (by decide) ?_⟩
      refine ⟨_, rfl, rfl, _, rfl, if_true_of (by decide) ?_⟩
      exact ⟨_, rfl, _, rfl, gv, _, _, _, rfl, rfl, SqL.of hg, at_nat (j := 0) rfl rfl, _, rfl, O, x, n, p, rw, l, s, rfl, a, gd, hn, hrw, by omega, q⟩
    | 3, [p, z], [], hcn =>
      cases hcn
      refine ⟨_, rfl, rfl, _, rfl, if_false_of (by decide) ?_⟩
      refine ⟨_, rfl, rfl, _, rfl, if_false_of (by decide) ?_⟩
      refine ⟨_, rfl, rfl, _, rfl, if_false_of (by decide) ?_⟩
      refine ⟨_, rfl, rfl, _, rfl, if_true_of (by decide) ?_⟩
      exact ⟨_, rfl, _, rfl, gv, _, _, _, rfl, rfl, SqL.of hg, at_nat (j := 0) rfl rfl, _, rfl, gv, _, _, _, rfl, rfl, SqL.of hg, at_nat (j := 1) rfl rfl, O, x, n, p, z, s, rfl, a, gd, hn, q⟩
    | 4, [p, z], [], hcn =>
      cases hcn
      refine ⟨_, rfl, rfl, _, rfl, if_false_of (by decide) ?_⟩
      refine ⟨_, rfl, rfl, _, rfl, if_false_of (by decide) ?_⟩
      refine ⟨_, rfl, rfl, _, rfl, if_false_of (by decide) ?_⟩
      refine ⟨_, rfl, rfl, _, rfl, if_false_of (by decide) ?_⟩
      refine ⟨_, rfl, rfl, _, rfl, if_true_of (by decide) ?_⟩
      exact ⟨_, rfl, _, rfl, gv, _, _, _, rfl, rfl, SqL.of hg, at_nat (j := 0) rfl rfl, _, rfl, gv, _, _, _, rfl, rfl, SqL.of hg, at_nat (j := 1) rfl rfl, O, x, n, p, z, s, rfl, a, gd, hn, q⟩
    | 5, [p, z, c, d], [], hcn =>
      cases hcn
      refine ⟨_, rfl, rfl, _, rfl, if_false_of (by decide) ?_⟩
      refine ⟨_, rfl, rfl, _, rfl, if_false_of (by decide) ?_⟩
      refine ⟨_, rfl, rfl, _, rfl, if_false_of (by decide) ?_⟩
      refine ⟨_, rfl, rfl, _, rfl, if_false_of (by decide) ?_⟩
      refine ⟨_, rfl, rfl, _, rfl, if_false_of (by decide) ?_⟩
      refine ⟨_, rfl, rfl, _, rfl, if_true_of (by decide) ?_⟩
      exact ⟨_, rfl, _, rfl, gv, _, _, _, rfl, rfl, SqL.of hg, at_nat (j := 0) rfl rfl, _, rfl, gv, _, _, _, rfl, rfl, SqL.of hg, at_nat (j := 1) rfl rfl, _, rfl, gv, _, _, _, rfl, rfl, SqL.of hg, at_nat (j := 2) rfl rfl, _, rfl, gv, _, _, _, rfl, rfl, SqL.of hg, at_nat (j := 3) rfl rfl, O, x, n, p, z, c, d, s, rfl, a, gd, hn, q⟩
    | 6, [p], [], hcn =>
      cases hcn
      refine ⟨_, rfl, rfl, _, rfl, if_false_of (by decide) ?_⟩
      refine ⟨_, rfl, rfl, _, rfl, if_false_of (by decide) ?_⟩
      refine ⟨_, rfl, rfl, _, rfl, if_false_of (by decide) ?_⟩
      refine ⟨_, rfl, rfl, _, rfl, if_false_of (by decide) ?_⟩
      refine ⟨_, rfl, rfl, _, rfl, if_false_of (by decide) ?_⟩
      refine ⟨_, rfl, rfl, _, rfl, if_false_of (by decide) ?_⟩
      refine ⟨_, rfl, rfl, _, rfl, if_true_of (by decide) ?_⟩
      exact ⟨_, rfl, _, rfl, gv, _, _, _, rfl, rfl, SqL.of hg, at_nat (j := 0) rfl rfl, O, x, n, p, s, rfl, a, gd, hn, q⟩
    | 7, [p], [], hcn =>
      cases hcn
      refine ⟨_, rfl, rfl, _, rfl, if_false_of (by decide) ?_⟩
      refine ⟨_, rfl, rfl, _, rfl, if_false_of (by decide) ?_⟩
      refine ⟨_, rfl, rfl, _, rfl, if_false_of (by decide) ?_⟩
      refine ⟨_, rfl, rfl, _, rfl, if_false_of (by decide) ?_⟩
      refine ⟨_, rfl, rfl, _, rfl, if_false_of (by decide) ?_⟩
      refine ⟨_, rfl, rfl, _, rfl, if_false_of (by decide) ?_⟩
      refine ⟨_, rfl, rfl, _, rfl, if_false_of (by decide) ?_⟩
      exact ⟨_, rfl, _, rfl, gv, _, _, _, rfl, rfl, SqL.of hg, at_nat (j := 0) rfl rfl, O, x, n, p, s, rfl, a, gd, hn, q⟩
theorem ok_answer_telling (T : Txt K mg A) : FnOk P w K mg base CX0 5 A.f_answer_telling A.fd_answer_telling ["album", "call", "given"] (sp_answer_telling K A) := by
  refine T.F_answer_telling.ok sc_answer_telling (fun vs H Q E h => ?_) (fun cdv Ar outer s H vs Q E hr h => ?_)
  · obtain ⟨O, x, n, k, gv, given, cl, s, rfl, _⟩ := h
    rfl
  · obtain ⟨O, x, n, k, gv, given, cl, s, rfl, hk8, a, gd, hn, hg, hcn, q⟩ := h
    refine ⟨_, (pss_cons (ps_if (pt_cmpR op_eq (pv 1) (pe_gint (by rfl) T.g_CELLS) (nomark _)) (pss_one (ps_ret (pe_call (ok_answer_cells T) (hr.mono (by decide)) (by rfl) T.g_answer_cells T.F_answer_cells.kp T.b_answer_cells .nil pass0 (pa_cons (pv 0) (pa_cons (pe_ix ix_list (pv 2) pe_int (fun _ _ => rfl)) pa_nil))))) pss_nil)
      (pss_cons (ps_if (pt_cmpR op_eq (pv 1) (pe_gint (by rfl) T.g_CELL) (nomark _)) (pss_one (ps_ret (pe_call (ok_answer_cell T) (hr.mono (by decide)) (by rfl) T.g_answer_cell T.F_answer_cell.kp T.b_answer_cell .nil pass0 (pa_cons (pv 0) (pa_cons (pe_ix ix_list (pv 2) pe_int (fun _ _ => rfl)) (pa_cons (pe_ix ix_list (pv 2) pe_int (fun _ _ => rfl)) (pa_cons (pe_ix ix_list (pv 2) pe_int (fun _ _ => rfl)) pa_nil))))))) pss_nil)
      (pss_cons (ps_if (pt_cmpR op_eq (pv 1) (pe_gint (by rfl) T.g_TILE) (nomark _)) (pss_one (ps_ret (pe_call (ok_answer_tile T) (hr.mono (by decide)) (by rfl) T.g_answer_tile T.F_answer_tile.kp T.b_answer_tile .nil pass0 (pa_cons (pv 0) (pa_cons (pe_ix ix_list (pv 2) pe_int (fun _ _ => rfl)) (pa_cons (pe_ix ix_list (pv 2) pe_int (fun _ _ => rfl)) pa_nil)))))) pss_nil)
      (pss_cons (ps_if (pt_cmpR op_eq (pv 1) (pe_gint (by rfl) T.g_SAME) (nomark _)) (pss_one (ps_ret (pe_call (ok_answer_same T) (hr.mono (by decide)) (by rfl) T.g_answer_same T.F_answer_same.kp T.b_answer_same .nil pass0 (pa_cons (pv 0) (pa_cons (pe_ix ix_list (pv 2) pe_int (fun _ _ => rfl)) (pa_cons (pe_ix ix_list (pv 2) pe_int (fun _ _ => rfl)) pa_nil)))))) pss_nil)
      (pss_cons (ps_if (pt_cmpR op_eq (pv 1) (pe_gint (by rfl) T.g_STORE) (nomark _)) (pss_one (ps_ret (pe_call (ok_answer_store T) (hr.mono (by decide)) (by rfl) T.g_answer_store T.F_answer_store.kp T.b_answer_store .nil pass0 (pa_cons (pv 0) pa_nil)))) pss_nil)
      (pss_one (ps_ret (pe_call (ok_answer_slot T) (hr.mono (by decide)) (by rfl) T.g_answer_slot T.F_answer_slot.kp T.b_answer_slot .nil pass0 (pa_cons (pv 0) (pa_cons (pe_ix ix_list (pv 2) pe_int (fun _ _ => rfl)) pa_nil)))))))))), ?_⟩
    match k, given, hcn with
    | 8, [p], hcn =>
      cases hcn
      refine ⟨_, rfl, rfl, _, rfl, if_true_of (by decide) ?_⟩
      exact ⟨_, rfl, _, rfl, gv, _, _, _, rfl, rfl, SqL.of hg, at_nat (j := 0) rfl rfl, O, x, n, p, s, rfl, a, gd, hn, q⟩
    | 9, [p, c, d], hcn =>
      cases hcn
      refine ⟨_, rfl, rfl, _, rfl, if_false_of (by decide) ?_⟩
      refine ⟨_, rfl, rfl, _, rfl, if_true_of (by decide) ?_⟩
      exact ⟨_, rfl, _, rfl, gv, _, _, _, rfl, rfl, SqL.of hg, at_nat (j := 0) rfl rfl, _, rfl, gv, _, _, _, rfl, rfl, SqL.of hg, at_nat (j := 1) rfl rfl, _, rfl, gv, _, _, _, rfl, rfl, SqL.of hg, at_nat (j := 2) rfl rfl, O, x, n, p, c, d, s, rfl, a, gd, hn, q⟩
    | 10, [p, z], hcn =>
      cases hcn
      refine ⟨_, rfl, rfl, _, rfl, if_false_of (by decide) ?_⟩
      refine ⟨_, rfl, rfl, _, rfl, if_false_of (by decide) ?_⟩
      refine ⟨_, rfl, rfl, _, rfl, if_true_of (by decide) ?_⟩
      exact ⟨_, rfl, _, rfl, gv, _, _, _, rfl, rfl, SqL.of hg, at_nat (j := 0) rfl rfl, _, rfl, gv, _, _, _, rfl, rfl, SqL.of hg, at_nat (j := 1) rfl rfl, O, x, n, p, z, s, rfl, a, gd, hn, q⟩
    | 11, [p, z], hcn =>
      cases hcn
      refine ⟨_, rfl, rfl, _, rfl, if_false_of (by decide) ?_⟩
      refine ⟨_, rfl, rfl, _, rfl, if_false_of (by decide) ?_⟩
      refine ⟨_, rfl, rfl, _, rfl, if_false_of (by decide) ?_⟩
      refine ⟨_, rfl, rfl, _, rfl, if_true_of (by decide) ?_⟩
      exact ⟨_, rfl, _, rfl, gv, _, _, _, rfl, rfl, SqL.of hg, at_nat (j := 0) rfl rfl, _, rfl, gv, _, _, _, rfl, rfl, SqL.of hg, at_nat (j := 1) rfl rfl, O, x, n, p, z, s, rfl, a, gd, hn, q⟩
    | 12, [], hcn =>
      cases hcn
      refine ⟨_, rfl, rfl, _, rfl, if_false_of (by decide) ?_⟩
      refine ⟨_, rfl, rfl, _, rfl, if_false_of (by decide) ?_⟩
      refine ⟨_, rfl, rfl, _, rfl, if_false_of (by decide) ?_⟩
      refine ⟨_, rfl, rfl, _, rfl, if_false_of (by decide) ?_⟩
      refine ⟨_, rfl, rfl, _, rfl, if_true_of (by decide) ?_⟩
      exact ⟨_, rfl, O, x, n, s, rfl, a, gd, hn, q⟩
    | 13, [z], hcn =>
      cases hcn
      refine ⟨_, rfl, rfl, _, rfl, if_false_of (by decide) ?_⟩
      refine ⟨_, rfl, rfl, _, rfl, if_false_of (by decide) ?_⟩
      refine ⟨_, rfl, rfl, _, rfl, if_false_of (by decide) ?_⟩
      refine ⟨_, rfl, rfl, _, rfl, if_false_of (by decide) ?_⟩
      refine ⟨_, rfl, rfl, _, rfl, if_false_of (by decide) ?_⟩
      exact ⟨_, rfl, _, rfl, gv, _, _, _, rfl, rfl, SqL.of hg, at_nat (j := 0) rfl rfl, O, x, n, z, s, rfl, a, gd, hn, q⟩
theorem ok_answer_call (T : Txt K mg A) : FnOk P w K mg base CX0 10 A.f_answer_call A.fd_answer_call ["album", "call", "given", "row"] (sp_answer_call K A) := by
  refine T.F_answer_call.ok sc_answer_call (fun vs H Q E h => ?_) (fun cdv Ar outer s H vs Q E hr h => ?_)
  · obtain ⟨O, x, n, k, gv, rw, given, row, cl, s, rfl, _⟩ := h
    rfl
  · obtain ⟨O, x, n, k, gv, rw, given, row, cl, s, rfl, a, gd, hn, hg, hrw, hcn, hgz, hrow, q⟩ := h
    refine ⟨_, (pss_cons (ps_if (pt_cmpR op_le (pv 1) (pe_gint (by rfl) T.g_CLOSE) (nomark _)) (pss_one (ps_ret (pe_call (ok_answer_changing T) (hr.mono (by decide)) (by rfl) T.g_answer_changing T.F_answer_changing.kp T.b_answer_changing .nil pass0 (pa_cons (pv 0) (pa_cons (pv 1) (pa_cons (pv 2) (pa_cons (pv 3) pa_nil))))))) pss_nil)
      (pss_one (ps_ret (pe_call (ok_answer_telling T) (hr.mono (by decide)) (by rfl) T.g_answer_telling T.F_answer_telling.kp T.b_answer_telling .nil pass0 (pa_cons (pv 0) (pa_cons (pv 1) (pa_cons (pv 2) pa_nil))))))), ?_⟩
    refine ⟨_, rfl, _, _, rfl, rfl, _, rfl, ?_⟩
    by_cases c : k ≤ 7
    · refine if_true_of (decide_eq_true (by omega)) ?_
      exact ⟨_, rfl, _, rfl, _, rfl, _, rfl, O, x, n, k, gv, rw, given, row, cl, s, rfl, c, a, gd, hn, hg, hrw, hcn, hgz, hrow, q⟩
    · refine if_false_of (decide_eq_false (by omega)) ?_
      obtain rfl := callN_row hcn (by omega)
      exact ⟨_, rfl, _, rfl, _, rfl, O, x, n, k, gv, given, cl, s, rfl, by omega, a, gd, hn, hg, hcn, q⟩
end
end TS
namespace TS
open PySem PySem.Spec PyProof.Rows L2
theorem int_drop (l : List Int) (a : Nat) : (l.map V.int).drop a = (l.drop a).map V.int := List.map_drop.symm
theorem int_take (l : List Int) (a : Nat) : (l.map V.int).take a = (l.take a).map V.int := List.map_take.symm
/-- the list that is handed in: read, never changed -/
def CallsAt (K : PySem.W.Frag) (O : Own) (H : Hp) (c : Addr) (xs : List V) : Prop := (∃ u, H c = some u ∧ O c = none ∧ ∀ H' : Hp, H' c = some u → SqL K H' c xs) ∨ ∀ H' : Hp, SqL K H' c xs
theorem CallsAt.sq {K : PySem.W.Frag} {O : Own} {H : Hp} {c : Addr} {xs : List V} (h : CallsAt K O H c xs) : SqL K H c xs := by
  rcases h with ⟨u, h1, _, h2⟩ | h
  · exact h2 H h1
  · exact h H
theorem CallsAt.ext {K : PySem.W.Frag} {O O' : Own} {H H' : Hp} {c : Addr} {xs : List V} (h : CallsAt K O H c xs) (e : Ext O H O' H') : CallsAt K O' H' c xs := by
  rcases h with ⟨u, h1, h3, h2⟩ | h
  · exact .inl ⟨u, (e c u h1 h3).1, (e c u h1 h3).2, h2⟩
  · exact .inr h
theorem CallsAt.upd {K : PySem.W.Frag} {O : Own} {H : Hp} {c t : Addr} {o : HO} {xs : List V} (h : CallsAt K O H c xs) (n : c ≠ t) : CallsAt K O (upd H t o) c xs := by
  rcases h with ⟨u, h1, h3, h2⟩ | h
  · exact .inl ⟨u, (upd_ne n).trans h1, h3, h2⟩
  · exact .inr h
theorem CallsAt.of {K : PySem.W.Frag} {H : Hp} {c : Addr} {xs : List V} (h : SqL K H c xs) : (∃ u, H c = some u ∧ ∀ H' : Hp, H' c = some u → SqL K H' c xs) ∨ ∀ H' : Hp, SqL K H' c xs := by
  rcases h with (h | ⟨o, h⟩) | h
  · exact .inl ⟨_, h, fun H' e => SqL.of e⟩
  · exact .inl ⟨_, h, fun H' e => .inl (.inr ⟨o, e⟩)⟩
  · exact .inr fun H' => .inr h
/-- the album stands while a list that is not its own changes -/
theorem AlbumAt.aside {A : Ad} {O : Own} {H : Hp} {x : Ax} {n : Nat} {s : Ie07.St} (a : AlbumAt A O H x n s) {t : Addr} {l l' : List V} (ht : H t = some (.lst l)) (ho : O t = none) : AlbumAt A O (upd H t (.lst l')) x n s :=
  a.frame (fun b o h hb => (upd_ne (fun z => hb (by rw [z]; exact ho))).trans h) fun b xs h => (upd_ne (ne_of h ht (by intro z; cases z))).trans h
def sp_row_at (K : PySem.W.Frag) (A : Ad) : Sp := fun vs H Q _ => ∃ (c : Addr) (k cnt : Nat) (ns : List Int), vs = [.ref c, .int (k : Int)] ∧ SqL K H c (ns.map V.int) ∧ ns[k]? = some (cnt : Int) ∧
  ∀ p : Addr, H p = none → Q (.ref p) (upd H p (.lst (((ns.drop (k + 1)).take cnt).map V.int)))
/-- answers' promise: the specification's list -/
def spTop (K : PySem.W.Frag) : Sp := fun vs H Q _ => ∃ (a : Addr) (ns : List Int), vs = [.ref a] ∧ SqL K H a (ns.map V.int) ∧ ns.length ≤ 12200 ∧ (∀ z ∈ ns, 0 ≤ z ∧ z ≤ 4294967295) ∧ PyIe07.answers_asked ns = true ∧
  ∀ (H' : Hp) (p : Addr), H' p = some (.lst ((PyIe07.answers ns).map V.int)) → Q (.ref p) H'
def sp_answers (K : PySem.W.Frag) (A : Ad) : Sp := spTop K
theorem wn_vals {i m : Nat} (h : wn[i]? = some m) : ([V.int 3, V.int 6, V.int 1, V.int 2, V.int 2, V.int 4, V.int 1, V.int 1, V.int 1, V.int 3, V.int 2, V.int 2, V.int 0, V.int 1] : List V)[i]? = some (V.int (m : Int)) := by
  have e : ([V.int 3, V.int 6, V.int 1, V.int 2, V.int 2, V.int 4, V.int 1, V.int 1, V.int 1, V.int 3, V.int 2, V.int 2, V.int 0, V.int 1] : List V) = vi wn := rfl
  rw [e]
  exact vi_some h
section
variable {P : Program} {w : World} {K : PySem.W.Frag} {mg : Str → Option Value} {base : Heap} {A : Ad}
theorem ok_row_at (T : Txt K mg A) : FnOk P w K mg base CX0 1 A.f_row_at A.fd_row_at ["calls", "at"] (sp_row_at K A) := by
  refine T.F_row_at.ok sc_row_at (fun vs H Q E h => ?_) (fun cdv Ar outer s H vs Q E hr h => ?_)
  · obtain ⟨c, k, cnt, ns, rfl, _⟩ := h
    rfl
  · obtain ⟨c, k, cnt, ns, rfl, hc, hk, q⟩ := h
    have hv : (ns.map V.int)[k]? = some (V.int (cnt : Int)) := by rw [List.getElem?_map, hk]; rfl
    refine ⟨_, (pss_one (ps_ret (pe_slice sl_list (pv 0) (po_some (pe_op op_add (pv 1) pe_int)) (po_some (pe_op op_add (pe_op op_add (pv 1) pe_int) (pe_ix ix_list (pv 0) (pv 1) (fun _ _ => rfl))))))), ?_⟩
    refine ⟨_, rfl, _, rfl, _, _, rfl, rfl, _, rfl, _, rfl, _, _, rfl, rfl, _, rfl, _, rfl, c, _, _, _, rfl, rfl, hc, at_nat rfl hv, _, _, rfl, rfl, _, rfl, c, _, rfl, hc, fun p hp => ?_⟩
    have e : cutV (ns.map V.int) (some ((k : Int) + 1)) (some ((k : Int) + 1 + (cnt : Int))) = ((ns.drop (k + 1)).take cnt).map V.int := by
      rw [show (k : Int) + 1 = ((k + 1 : Nat) : Int) by push_cast; rfl, show ((k + 1 : Nat) : Int) + (cnt : Int) = ((k + 1 + cnt : Nat) : Int) by push_cast; rfl, cutV_nat, int_drop, int_take, show k + 1 + cnt - (k + 1) = cnt by omega]
    rw [e]
    exact q p hp
theorem ok_answers (T : Txt K mg A) : FnOk P w K mg base CX0 11 A.f_answers A.fd_answers ["calls"] (sp_answers K A) := by
  refine T.F_answers.ok sc_answers (fun vs H Q E h => ?_) (fun cdv Ar outer s H vs Q E hr h => ?_)
  · obtain ⟨c, ns, rfl, _⟩ := h
    rfl
  · obtain ⟨c, ns, rfl, hc, hlen, hb, hask, q⟩ := h
    obtain ⟨raw0, hraw0, hraw40, hshort⟩ := asked_calls hask
    refine ⟨_, (pss_cons (ps_set (i := 1) sc_answers.nd rfl (Or.inl rfl) (pe_make0 T.mk_Album (ok_Album_init T) (hr.mono (by decide)) (by rfl) T.g_Album T.b_Album_init .nil pass0))
      (pss_cons (ps_set (i := 2) sc_answers.nd rfl (Or.inl rfl) (pe_lst pa_nil))
      (pss_cons (ps_set (i := 3) sc_answers.nd rfl (Or.inl rfl) pe_int)
      (pss_cons (ps_while PassesOwn.never (pt_cmpR op_lt (pv 3) (pe_callB call_len_seq (by rfl) T.n_len (by decide +kernel) (pa_cons (pv 0) pa_nil)) (nomark _))
      (pss_cons (ps_set (i := 4) sc_answers.nd rfl (Or.inl rfl) (pe_ix ix_list (pv 0) (pv 3) (fun _ _ => rfl)))
      (pss_cons (ps_set (i := 5) sc_answers.nd rfl (Or.inl rfl) (pe_op op_add (pe_op op_add (pv 3) pe_int) (pe_ix ix_tup (pe_glob (v := .ref A.a_WHOLE_NUMBERS) (by rfl) T.g_WHOLE_NUMBERS rfl) (pv 4) (fun _ _ => rfl))))
      (pss_cons (ps_set (i := 6) sc_answers.nd rfl (Or.inl rfl) (pe_slice sl_list (pv 0) (po_some (pe_op op_add (pv 3) pe_int)) (po_some (pv 5))))
      (pss_cons (ps_set (i := 7) sc_answers.nd rfl (Or.inl rfl) (pe_lst pa_nil))
      (C8.pss_cut (ps_if (pt_cmpR op_eq (pv 4) (pe_gint (by rfl) T.g_DOTS) (nomark _)) (pss_cons (ps_set (i := 7) sc_answers.nd rfl (Or.inl rfl) (pe_call (ok_row_at T) (hr.mono (by decide)) (by rfl) T.g_row_at T.F_row_at.kp T.b_row_at .nil pass0 (pa_cons (pv 0) (pa_cons (pv 5) pa_nil))))
      (pss_one (ps_aug (i := 5) sc_answers.nd rfl (Or.inl rfl) (pe_op op_add pe_int (pe_callB call_len_seq (by rfl) T.n_len (by decide +kernel) (pa_cons (pv 7) pa_nil))) ip_add))) pss_nil)
      (pss_cons (ps_set (i := 8) sc_answers.nd rfl (Or.inl rfl) (pe_call (ok_answer_call T) (hr.mono (by decide)) (by rfl) T.g_answer_call T.F_answer_call.kp T.b_answer_call .nil pass0 (pa_cons (pv 1) (pa_cons (pv 4) (pa_cons (pv 6) (pa_cons (pv 7) pa_nil))))))
      (pss_cons (ps_expr (pe_bm PySem.F.plainAttrs_list PySem.F.slot_list_append PySem.F.type_list_append mt_append (pv 2) (pa_cons (pe_callB call_len_seq (by rfl) T.n_len (by decide +kernel) (pa_cons (pv 8) pa_nil)) pa_nil)))
      (pss_cons (ps_expr (pe_bm PySem.F.plainAttrs_list PySem.F.slot_list_extend PySem.F.type_list_extend mt_extend (pv 2) (pa_cons (pv 8) pa_nil)))
      (pss_one (ps_set (i := 3) sc_answers.nd rfl (Or.inl rfl) (pv 5))))))))))))
      (pss_one (ps_ret (pv 2))))))), ?_⟩
    -- album = Album()
    intro al dxa nal ndxa nexa
    refine ⟨al, dxa, rfl, upd_same, fun H1 O x hx a0 k1 => ⟨rfl, ?_⟩⟩
    subst hx
    have keep1 : ∀ b o, H b = some o → H1 b = some o ∧ O b = none := fun b o e => k1 b o (by rw [upd_ne (ne_of_none e nal), upd_ne (ne_of_none e ndxa)]; exact e) (ne_of_none e nal)
    have c1 : CallsAt K O H1 c (ns.map V.int) := by
      rcases CallsAt.of hc with ⟨u, h1, h2⟩ | h
      · exact .inl ⟨u, (keep1 c u h1).1, (keep1 c u h1).2, h2⟩
      · exact .inr h
    -- told = []
    refine ⟨Nat.zero_le _, fun t ht => ?_⟩
    have nct : c ≠ t ∨ ∀ H' : Hp, SqL K H' c (ns.map V.int) := by
      rcases c1 with ⟨u, h1, _⟩ | h
      · exact .inl (ne_of_none h1 ht)
      · exact .inr h
    have s2 : Same H1 (upd H1 t (HO.lst [])) := fun b o e => (upd_ne (ne_of_none e ht)).trans e
    have ot : O t = none := a0.fresh ht
    have cupd : ∀ {O : Own} {H : Hp} {o : HO}, CallsAt K O H c (ns.map V.int) → CallsAt K O (upd H t o) c (ns.map V.int) := fun {O H o} h => by
      rcases nct with n | n
      · exact h.upd n
      · exact .inr n
    refine ⟨fun m σ H' => ∃ (i : Nat) (told : List Int) (O' : Own) (n f : Nat) (s : Ie07.St) (raw : List (List (List Int))) (v4 v5 v6 v7 v8 : Option V), σ = [some (.ref c), some (.ref x.al), some (.ref t), some (.int (i : Int)), v4, v5, v6, v7, v8] ∧ m = ns.length - i ∧ i ≤ ns.length ∧
      PyFlat.calls PyIe07.shape f (ns.drop i) = some raw ∧ AlbumAt A O' H' x n s ∧ Good s ∧ n + 2 * raw.length ≤ 80 ∧ H' t = some (.lst (told.map V.int)) ∧ O' t = none ∧ CallsAt K O' H' c (ns.map V.int) ∧ told ++ ans s raw = PyIe07.answers ns, ?_, ?_⟩
    · refine ⟨ns.length - 0, 0, [], O, 0, ns.length, Ie07.init, raw0, none, none, none, none, none, rfl, rfl, Nat.zero_le _, hraw0, a0.same s2, Good.init, by omega, upd_same, ot, cupd c1, ?_⟩
      rw [answers_eq hraw0]
      rfl
    · rintro m σ H2 ⟨i, told, O2, n, f, s, raw, v4, v5, v6, v7, v8, rfl, rfl, hi, hraw, a2, gd, hn, ht2, ot2, c2, heq⟩
      refine ⟨_, rfl, _, rfl, c, _, rfl, .inl c2.sq, _, _, rfl, rfl, _, rfl, ?_⟩
      rw [List.length_map]
      by_cases ci' : i < ns.length
      · refine if_true_of (decide_eq_true (by omega)) ?_
        -- one call
        obtain ⟨p, hp⟩ : ∃ p, ns[i]? = some p := ⟨ns[i], List.getElem?_eq_getElem ci'⟩
        have hdrop : ns.drop i = p :: ns.drop (i + 1) := by
          rw [List.drop_eq_getElem_cons ci']
          congr 1
          exact (List.getElem?_eq_some_iff.mp hp).2
        rw [hdrop] at hraw
        obtain ⟨f', cc, t', raw', rfl, rfl, hcall, hraw'⟩ := calls_cons hraw
        obtain ⟨k, mm, given, row, cl, R⟩ := decode hcall fun z hz => hb z (List.mem_of_mem_drop (by rw [hdrop]; exact hz))
        have hvp : (ns.map V.int)[i]? = some (V.int (k : Int)) := by rw [List.getElem?_map, hp, R.pi]; rfl
        have hmm : i + 1 + mm ≤ ns.length := by
          have h1 := R.le
          rw [List.length_drop] at h1
          omega
        have hgl := R.gl
        refine ⟨fun σ' H' => ∃ m', m' < ns.length - i ∧ ∃ (i : Nat) (told : List Int) (O' : Own) (n f : Nat) (s : Ie07.St) (raw : List (List (List Int))) (v4 v5 v6 v7 v8 : Option V), σ' = [some (.ref c), some (.ref x.al), some (.ref t), some (.int (i : Int)), v4, v5, v6, v7, v8] ∧ m' = ns.length - i ∧ i ≤ ns.length ∧
          PyFlat.calls PyIe07.shape f (ns.drop i) = some raw ∧ AlbumAt A O' H' x n s ∧ Good s ∧ n + 2 * raw.length ≤ 80 ∧ H' t = some (.lst (told.map V.int)) ∧ O' t = none ∧ CallsAt K O' H' c (ns.map V.int) ∧ told ++ ans s raw = PyIe07.answers ns, fun σ' H' h => h, ?_⟩
        -- call = calls[at]
        refine ⟨_, rfl, _, rfl, c, _, _, _, rfl, rfl, c2.sq, at_nat rfl hvp, ?_⟩
        -- end = at + 1 + WHOLE_NUMBERS[call]
        refine ⟨_, rfl, _, _, rfl, rfl, _, rfl, A.a_WHOLE_NUMBERS, _, _, _, rfl, rfl, T.t_WHOLE_NUMBERS H2, at_nat rfl (wn_vals R.wi), _, _, rfl, rfl, ?_⟩
        -- given = calls[at + 1:end]
        refine ⟨_, rfl, _, rfl, _, _, rfl, rfl, _, rfl, _, rfl, _, rfl, c, _, rfl, c2.sq, fun gv hgv => ?_⟩
        have eg : cutV (ns.map V.int) (some ((i : Int) + 1)) (some ((i : Int) + 1 + (mm : Int))) = vi given := by
          rw [show (i : Int) + 1 = ((i + 1 : Nat) : Int) by push_cast; rfl, show ((i + 1 : Nat) : Int) + (mm : Int) = ((i + 1 + mm : Nat) : Int) by push_cast; rfl, cutV_nat, int_drop, int_take, show i + 1 + mm - (i + 1) = mm by omega, R.gi, int_ci]
        rw [eg]
        have s3 : Same H2 (upd H2 gv (HO.lst (vi given))) := fun b o e => (upd_ne (ne_of_none e hgv)).trans e
        -- row = []
        refine ⟨Nat.zero_le _, fun rw0 hrw0 => ?_⟩
        have s4 : Same H2 (upd (upd H2 gv (HO.lst (vi given))) rw0 (HO.lst [])) := fun b o e => (upd_ne (ne_of_none (s3 _ _ e) hrw0)).trans (s3 _ _ e)
        have hgv4 : upd (upd H2 gv (HO.lst (vi given))) rw0 (HO.lst []) gv = some (.lst (vi given)) := (upd_ne (ne_of_none upd_same hrw0)).trans upd_same
        -- behind the if: the row and the end
        refine ⟨fun σ' H' => ∃ (rw : Addr) (e : Nat), σ' = [some (.ref c), some (.ref x.al), some (.ref t), some (.int (i : Int)), some (.int (k : Int)), some (.int (e : Int)), some (.ref gv), some (.ref rw), v8] ∧ Same H2 H' ∧ H' gv = some (.lst (vi given)) ∧ H' rw = some (.lst (vi row)) ∧ i < e ∧ e ≤ ns.length ∧ ns.drop e = t' ∧ row.length ≤ 20000, ?_, ?_⟩
        · refine ⟨_, rfl, rfl, _, rfl, ?_⟩
          by_cases c2' : k = 2
          · refine if_true_of (by rw [c2']; rfl) ?_
            obtain ⟨r', d1, d2, d3, d4⟩ := R.dots c2'
            have hrl : ns[i + 1 + mm]? = some (row.length : Int) := by
              have h1 : (ns.drop (i + 1)).drop mm = (row.length : Int) :: r' := d1
              rw [List.drop_drop] at h1
              have h2 : (ns.drop (i + 1 + mm))[0]? = some (row.length : Int) := by rw [h1]; rfl
              rw [List.getElem?_drop] at h2
              exact h2
            have hdr : ns.drop (i + 1 + mm + 1) = r' := by
              have h1 : (ns.drop (i + 1)).drop mm = (row.length : Int) :: r' := d1
              rw [List.drop_drop] at h1
              rw [← List.drop_drop, h1]
              rfl
            have hr'l : r'.length = ns.length - (i + 1 + mm + 1) := by rw [← hdr, List.length_drop]
            have hlt : i + 1 + mm < ns.length := (List.getElem?_eq_some_iff.mp hrl).1
            have c4 : SqL K (upd (upd H2 gv (HO.lst (vi given))) rw0 (HO.lst [])) c (ns.map V.int) := (c2.ext (Ext.of_same (O := O2) s4)).sq
            refine ⟨_, rfl, _, rfl, c, i + 1 + mm, row.length, ns, ?_, c4, hrl, fun p hp => ?_⟩
            · show [V.ref c, V.int ((i : Int) + 1 + (mm : Int))] = [V.ref c, V.int ((i + 1 + mm : Nat) : Int)]
              rw [show (i : Int) + 1 + (mm : Int) = ((i + 1 + mm : Nat) : Int) by push_cast; rfl]
            · rw [hdr, d2, int_ci]
              have s5 : Same H2 (upd (upd (upd H2 gv (HO.lst (vi given))) rw0 (HO.lst [])) p (HO.lst (vi row))) := fun b o e => (upd_ne (ne_of_none (s4 _ _ e) hp)).trans (s4 _ _ e)
              refine ⟨_, rfl, _, rfl, p, _, rfl, .inl (SqL.of upd_same), _, _, rfl, rfl, _, _, rfl, rfl, p, i + 1 + mm + 1 + row.length, ?_, s5, (upd_ne (ne_of_none hgv4 hp)).trans hgv4, upd_same, by omega, by omega, ?_, by omega⟩
              · rw [List.length_map]
                show [some (V.ref c), _, _, _, _, some (V.int ((i : Int) + 1 + (mm : Int) + (1 + (row.length : Int)))), _, _, _] = _
                rw [show (i : Int) + 1 + (mm : Int) + (1 + (row.length : Int)) = ((i + 1 + mm + 1 + row.length : Nat) : Int) by push_cast; omega]
              · rw [d4, ← hdr, List.drop_drop]
          · refine if_false_of (decide_eq_false (fun z => by injection z with z; omega)) ?_
            obtain ⟨n1, n2⟩ := R.no c2'
            refine ⟨rw0, i + 1 + mm, ?_, s4, hgv4, ?_, by omega, hmm, ?_, by rw [n1]; decide⟩
            · show [some (V.ref c), _, _, _, _, some (V.int ((i : Int) + 1 + (mm : Int))), _, _, _] = _
              rw [show (i : Int) + 1 + (mm : Int) = ((i + 1 + mm : Nat) : Int) by push_cast; rfl]
            · rw [n1]; exact upd_same
            · rw [n2, List.drop_drop]
        · rintro σ' H4 ⟨rw, e, rfl, s4', hg4, hr4, hie, hen, hdt, hrow⟩
          have a4 := a2.same s4'
          have hraw41 : raw'.length + 1 ≤ 40 := by
            have : (cc :: raw').length = raw'.length + 1 := rfl
            omega
          have hcl : (cc :: raw').length = raw'.length + 1 := rfl
          -- answer = answer_call(album, call, given, row)
          refine ⟨_, rfl, _, rfl, _, rfl, _, rfl, O2, x, n, k, gv, rw, given, row, cl, s, rfl, a4, gd, by omega, hg4, hr4, R.cn, fun z hz => ?_, hrow, fun H5 O5 l a5 x5 nl hl => ?_⟩
          · have h1 : (z : Int) ∈ ci given := List.mem_map.mpr ⟨z, hz, rfl⟩
            rw [← R.gi] at h1
            have h2 := (hb _ (List.mem_of_mem_drop (List.mem_of_mem_take h1))).2
            omega
          · have ht4 := s4' _ _ ht2
            obtain ⟨ht5, ot5⟩ := x5 t _ ht4 ot2
            have ntl : t ≠ l := nl t _ ht4 ot2
            have c5 := (c2.ext (Ext.of_same (O := O2) s4')).ext x5
            -- told.append(len(answer))
            have heq2 := heq
            rw [ans_cons R.st] at heq2
            have hlong : told.length + 1 + (Ie07.step s cl).2.length ≤ 10000000 := by
              rw [← heq2] at hshort
              simp only [List.length_append, List.length_cons] at hshort
              omega
            refine ⟨_, rfl, .inl ⟨rfl, _, SqL.of ht5⟩, _, rfl, l, _, rfl, .inl (SqL.of hl), t, _, _, rfl, rfl, ht5, by rw [List.length_map, line_eq]; omega, ?_⟩
            -- told.extend(answer)
            refine ⟨_, rfl, .inl ⟨rfl, _, SqL.of upd_same⟩, _, rfl, t, l, _, _, rfl, rfl, upd_same, (upd_ne ntl.symm).trans hl, ?_, ?_⟩
            · simp only [List.length_append, List.length_map, List.length_cons, List.length_nil, line_eq]
              omega
            · -- at = end
              refine ⟨_, rfl, ns.length - e, by omega, e, told ++ ((((Ie07.step s cl).2.length : Nat) : Int) :: (Ie07.step s cl).2), O5, n + 2, f', (Ie07.step s cl).1, raw', _, _, _, _, _, rfl, rfl, hen, by rw [hdt]; exact hraw', ?_, gd.step cl, by omega, ?_, ot5, cupd (cupd c5), ?_⟩
              · exact (a5.aside ht5 ot5).aside upd_same ot5
              · rw [upd_same]
                simp
              · rw [List.append_assoc]
                exact heq2
      · refine if_false_of (decide_eq_false (by omega)) ?_
        have hin : i = ns.length := by omega
        rw [hin, List.drop_length] at hraw
        have := calls_nil hraw
        subst this
        refine ⟨_, rfl, q _ t ?_⟩
        rw [ht2, ← heq]
        have : ans s [] = [] := rfl
        rw [this, List.append_nil]
end
end TS
namespace TS
open PySem PySem.Spec PyProof.Rows L2
theorem all_mk {K : PySem.W.Frag} {h : Heap} {mg : Str → Option Value} {fa : Addr} (X : K.In h) (G : h.Ns mainGlobals mg) (hfa : mg "answers" = some (.ref fa))
    {C_Store : Addr} {C_Picture : Addr} {C_Album : Addr} {a_BLANK_TILE : Addr} {a_WHOLE_NUMBERS : Addr} {f0 : Addr} {od0 an0 : Option Addr} {sl0 : Array (Option Value)} {oc0 kV0 dc0 pm0 cd0 ct0 : Value} {f1 : Addr} {od1 an1 : Option Addr} {sl1 : Array (Option Value)} {oc1 kV1 dc1 pm1 cd1 ct1 : Value} {f2 : Addr} {od2 an2 : Option Addr} {sl2 : Array (Option Value)} {oc2 kV2 dc2 pm2 cd2 ct2 : Value} {f3 : Addr} {od3 an3 : Option Addr} {sl3 : Array (Option Value)} {oc3 kV3 dc3 pm3 cd3 ct3 : Value} {f4 : Addr} {od4 an4 : Option Addr} {sl4 : Array (Option Value)} {oc4 kV4 dc4 pm4 cd4 ct4 : Value} {f5 : Addr} {od5 an5 : Option Addr} {sl5 : Array (Option Value)} {oc5 kV5 dc5 pm5 cd5 ct5 : Value} {f6 : Addr} {od6 an6 : Option Addr} {sl6 : Array (Option Value)} {oc6 kV6 dc6 pm6 cd6 ct6 : Value} {f7 : Addr} {od7 an7 : Option Addr} {sl7 : Array (Option Value)} {oc7 kV7 dc7 pm7 cd7 ct7 : Value} {f8 : Addr} {od8 an8 : Option Addr} {sl8 : Array (Option Value)} {oc8 kV8 dc8 pm8 cd8 ct8 : Value} {f9 : Addr} {od9 an9 : Option Addr} {sl9 : Array (Option Value)} {oc9 kV9 dc9 pm9 cd9 ct9 : Value} {f10 : Addr} {od10 an10 : Option Addr} {sl10 : Array (Option Value)} {oc10 kV10 dc10 pm10 cd10 ct10 : Value} {f11 : Addr} {od11 an11 : Option Addr} {sl11 : Array (Option Value)} {oc11 kV11 dc11 pm11 cd11 ct11 : Value} {f12 : Addr} {od12 an12 : Option Addr} {sl12 : Array (Option Value)} {oc12 kV12 dc12 pm12 cd12 ct12 : Value} {f13 : Addr} {od13 an13 : Option Addr} {sl13 : Array (Option Value)} {oc13 kV13 dc13 pm13 cd13 ct13 : Value} {f14 : Addr} {od14 an14 : Option Addr} {sl14 : Array (Option Value)} {oc14 kV14 dc14 pm14 cd14 ct14 : Value} {f15 : Addr} {od15 an15 : Option Addr} {sl15 : Array (Option Value)} {oc15 kV15 dc15 pm15 cd15 ct15 : Value} {f16 : Addr} {od16 an16 : Option Addr} {sl16 : Array (Option Value)} {oc16 kV16 dc16 pm16 cd16 ct16 : Value} {f17 : Addr} {od17 an17 : Option Addr} {sl17 : Array (Option Value)} {oc17 kV17 dc17 pm17 cd17 ct17 : Value} {f18 : Addr} {od18 an18 : Option Addr} {sl18 : Array (Option Value)} {oc18 kV18 dc18 pm18 cd18 ct18 : Value} {f19 : Addr} {od19 an19 : Option Addr} {sl19 : Array (Option Value)} {oc19 kV19 dc19 pm19 cd19 ct19 : Value} {f20 : Addr} {od20 an20 : Option Addr} {sl20 : Array (Option Value)} {oc20 kV20 dc20 pm20 cd20 ct20 : Value} {f21 : Addr} {od21 an21 : Option Addr} {sl21 : Array (Option Value)} {oc21 kV21 dc21 pm21 cd21 ct21 : Value} {f22 : Addr} {od22 an22 : Option Addr} {sl22 : Array (Option Value)} {oc22 kV22 dc22 pm22 cd22 ct22 : Value} {f23 : Addr} {od23 an23 : Option Addr} {sl23 : Array (Option Value)} {oc23 kV23 dc23 pm23 cd23 ct23 : Value} {f24 : Addr} {od24 an24 : Option Addr} {sl24 : Array (Option Value)} {oc24 kV24 dc24 pm24 cd24 ct24 : Value} {f25 : Addr} {od25 an25 : Option Addr} {sl25 : Array (Option Value)} {oc25 kV25 dc25 pm25 cd25 ct25 : Value} {f26 : Addr} {od26 an26 : Option Addr} {sl26 : Array (Option Value)} {oc26 kV26 dc26 pm26 cd26 ct26 : Value} {f27 : Addr} {od27 an27 : Option Addr} {sl27 : Array (Option Value)} {oc27 kV27 dc27 pm27 cd27 ct27 : Value} {f28 : Addr} {od28 an28 : Option Addr} {sl28 : Array (Option Value)} {oc28 kV28 dc28 pm28 cd28 ct28 : Value} {f29 : Addr} {od29 an29 : Option Addr} {sl29 : Array (Option Value)} {oc29 kV29 dc29 pm29 cd29 ct29 : Value} {f30 : Addr} {od30 an30 : Option Addr} {sl30 : Array (Option Value)} {oc30 kV30 dc30 pm30 cd30 ct30 : Value} {f31 : Addr} {od31 an31 : Option Addr} {sl31 : Array (Option Value)} {oc31 kV31 dc31 pm31 cd31 ct31 : Value} {f32 : Addr} {od32 an32 : Option Addr} {sl32 : Array (Option Value)} {oc32 kV32 dc32 pm32 cd32 ct32 : Value} {f33 : Addr} {od33 an33 : Option Addr} {sl33 : Array (Option Value)} {oc33 kV33 dc33 pm33 cd33 ct33 : Value} {f34 : Addr} {od34 an34 : Option Addr} {sl34 : Array (Option Value)} {oc34 kV34 dc34 pm34 cd34 ct34 : Value} {f35 : Addr} {od35 an35 : Option Addr} {sl35 : Array (Option Value)} {oc35 kV35 dc35 pm35 cd35 ct35 : Value} {f36 : Addr} {od36 an36 : Option Addr} {sl36 : Array (Option Value)} {oc36 kV36 dc36 pm36 cd36 ct36 : Value} {f37 : Addr} {od37 an37 : Option Addr} {sl37 : Array (Option Value)} {oc37 kV37 dc37 pm37 cd37 ct37 : Value} {f38 : Addr} {od38 an38 : Option Addr} {sl38 : Array (Option Value)} {oc38 kV38 dc38 pm38 cd38 ct38 : Value} {f39 : Addr} {od39 an39 : Option Addr} {sl39 : Array (Option Value)} {oc39 kV39 dc39 pm39 cd39 ct39 : Value} {f40 : Addr} {od40 an40 : Option Addr} {sl40 : Array (Option Value)} {oc40 kV40 dc40 pm40 cd40 ct40 : Value} {f41 : Addr} {od41 an41 : Option Addr} {sl41 : Array (Option Value)} {oc41 kV41 dc41 pm41 cd41 ct41 : Value} {f42 : Addr} {od42 an42 : Option Addr} {sl42 : Array (Option Value)} {oc42 kV42 dc42 pm42 cd42 ct42 : Value} {f43 : Addr} {od43 an43 : Option Addr} {sl43 : Array (Option Value)} {oc43 kV43 dc43 pm43 cd43 ct43 : Value} {f44 : Addr} {od44 an44 : Option Addr} {sl44 : Array (Option Value)} {oc44 kV44 dc44 pm44 cd44 ct44 : Value} {f45 : Addr} {od45 an45 : Option Addr} {sl45 : Array (Option Value)} {oc45 kV45 dc45 pm45 cd45 ct45 : Value} {f46 : Addr} {od46 an46 : Option Addr} {sl46 : Array (Option Value)} {oc46 kV46 dc46 pm46 cd46 ct46 : Value} {f47 : Addr} {od47 an47 : Option Addr} {sl47 : Array (Option Value)} {oc47 kV47 dc47 pm47 cd47 ct47 : Value} {f48 : Addr} {od48 an48 : Option Addr} {sl48 : Array (Option Value)} {oc48 kV48 dc48 pm48 cd48 ct48 : Value} {f49 : Addr} {od49 an49 : Option Addr} {sl49 : Array (Option Value)} {oc49 kV49 dc49 pm49 cd49 ct49 : Value} {f50 : Addr} {od50 an50 : Option Addr} {sl50 : Array (Option Value)} {oc50 kV50 dc50 pm50 cd50 ct50 : Value} {f51 : Addr} {od51 an51 : Option Addr} {sl51 : Array (Option Value)} {oc51 kV51 dc51 pm51 cd51 ct51 : Value} {f52 : Addr} {od52 an52 : Option Addr} {sl52 : Array (Option Value)} {oc52 kV52 dc52 pm52 cd52 ct52 : Value} {odaBLANK_TILE : Option Addr} {itsBLANK_TILE : Array Value} {nnBLANK_TILE : Nat} {slaBLANK_TILE : Array (Option Value)} {odaWHOLE_NUMBERS : Option Addr} {itsWHOLE_NUMBERS : Array Value} {nnWHOLE_NUMBERS : Nat} {slaWHOLE_NUMBERS : Array (Option Value)} {t_SIDE : Tok} {t_LARGEST_CELL : Tok} {t_MOST_BEFORE : Tok} {t_PAGE : Tok} {t_BOX : Tok} {t_DOTS : Tok} {t_SHIFT : Tok} {t_COPY : Tok} {t_PASTE : Tok} {t_UNDO : Tok} {t_CLOSE : Tok} {t_CELLS : Tok} {t_CELL : Tok} {t_TILE : Tok} {t_SAME : Tok} {t_STORE : Tok} {t_LAST_PICTURE : Tok} {t_LONGEST_SIDE : Tok} {t_NO_PICTURE : Tok} {t_NOT_AS_TOLD : Tok} {t_NOT_BEFORE : Tok} {t_FREE_PLACE : Tok}
    (z_len : PySem.W.nsIn K mainGlobals "len" = some none)
    (z_list : PySem.W.nsIn K mainGlobals "list" = some none)
    (z_min : PySem.W.nsIn K mainGlobals "min" = some none)
    (z_range : PySem.W.nsIn K mainGlobals "range" = some none)
    (z_set : PySem.W.nsIn K mainGlobals "set" = some none)
    (z_sum : PySem.W.nsIn K mainGlobals "sum" = some none)
    (z_tuple : PySem.W.nsIn K mainGlobals "tuple" = some none)
    (g_SIDE : PySem.W.nsIn K mainGlobals "SIDE" = some (some (.int (4) t_SIDE)))
    (g_LARGEST_CELL : PySem.W.nsIn K mainGlobals "LARGEST_CELL" = some (some (.int (255) t_LARGEST_CELL)))
    (g_MOST_BEFORE : PySem.W.nsIn K mainGlobals "MOST_BEFORE" = some (some (.int (3) t_MOST_BEFORE)))
    (g_PAGE : PySem.W.nsIn K mainGlobals "PAGE" = some (some (.int (0) t_PAGE)))
    (g_BOX : PySem.W.nsIn K mainGlobals "BOX" = some (some (.int (1) t_BOX)))
    (g_DOTS : PySem.W.nsIn K mainGlobals "DOTS" = some (some (.int (2) t_DOTS)))
    (g_SHIFT : PySem.W.nsIn K mainGlobals "SHIFT" = some (some (.int (3) t_SHIFT)))
    (g_COPY : PySem.W.nsIn K mainGlobals "COPY" = some (some (.int (4) t_COPY)))
    (g_PASTE : PySem.W.nsIn K mainGlobals "PASTE" = some (some (.int (5) t_PASTE)))
    (g_UNDO : PySem.W.nsIn K mainGlobals "UNDO" = some (some (.int (6) t_UNDO)))
    (g_CLOSE : PySem.W.nsIn K mainGlobals "CLOSE" = some (some (.int (7) t_CLOSE)))
    (g_CELLS : PySem.W.nsIn K mainGlobals "CELLS" = some (some (.int (8) t_CELLS)))
    (g_CELL : PySem.W.nsIn K mainGlobals "CELL" = some (some (.int (9) t_CELL)))
    (g_TILE : PySem.W.nsIn K mainGlobals "TILE" = some (some (.int (10) t_TILE)))
    (g_SAME : PySem.W.nsIn K mainGlobals "SAME" = some (some (.int (11) t_SAME)))
    (g_STORE : PySem.W.nsIn K mainGlobals "STORE" = some (some (.int (12) t_STORE)))
    (g_LAST_PICTURE : PySem.W.nsIn K mainGlobals "LAST_PICTURE" = some (some (.int (3) t_LAST_PICTURE)))
    (g_LONGEST_SIDE : PySem.W.nsIn K mainGlobals "LONGEST_SIDE" = some (some (.int (4) t_LONGEST_SIDE)))
    (g_NO_PICTURE : PySem.W.nsIn K mainGlobals "NO_PICTURE" = some (some (.int (-1) t_NO_PICTURE)))
    (g_NOT_AS_TOLD : PySem.W.nsIn K mainGlobals "NOT_AS_TOLD" = some (some (.int (-2) t_NOT_AS_TOLD)))
    (g_NOT_BEFORE : PySem.W.nsIn K mainGlobals "NOT_BEFORE" = some (some (.int (-4) t_NOT_BEFORE)))
    (g_FREE_PLACE : PySem.W.nsIn K mainGlobals "FREE_PLACE" = some (some (.int (-6) t_FREE_PLACE)))
    (g_BLANK_TILE : PySem.W.nsIn K mainGlobals "BLANK_TILE" = some (some (.ref a_BLANK_TILE)))
    (l_BLANK_TILE : K.lookup a_BLANK_TILE = some ⟨.type "tuple", odaBLANK_TILE, .seq itsBLANK_TILE nnBLANK_TILE, slaBLANK_TILE⟩)
    (s_BLANK_TILE : itsBLANK_TILE.size ≤ sizeLine)
    (v_BLANK_TILE : Vals [V.int (0), V.int (0), V.int (0), V.int (0), V.int (0), V.int (0), V.int (0), V.int (0), V.int (0), V.int (0), V.int (0), V.int (0), V.int (0), V.int (0), V.int (0), V.int (0)] itsBLANK_TILE.toList)
    (g_WHOLE_NUMBERS : PySem.W.nsIn K mainGlobals "WHOLE_NUMBERS" = some (some (.ref a_WHOLE_NUMBERS)))
    (l_WHOLE_NUMBERS : K.lookup a_WHOLE_NUMBERS = some ⟨.type "tuple", odaWHOLE_NUMBERS, .seq itsWHOLE_NUMBERS nnWHOLE_NUMBERS, slaWHOLE_NUMBERS⟩)
    (s_WHOLE_NUMBERS : itsWHOLE_NUMBERS.size ≤ sizeLine)
    (v_WHOLE_NUMBERS : Vals [V.int (3), V.int (6), V.int (1), V.int (2), V.int (2), V.int (4), V.int (1), V.int (1), V.int (1), V.int (3), V.int (2), V.int (2), V.int (0), V.int (1)] itsWHOLE_NUMBERS.toList)
    (a_Store : PySem.W.nsIn K mainGlobals "Store" = some (some (.ref C_Store)))
    (pg_Store : PySem.W.plainGet K C_Store Str.empty = true)
    (hd_Store : PySem.W.hasDictIn K C_Store = true)
    (po_Store : PySem.W.plainOver K C_Store = true)
    (sa_Store : PySem.W.findIn K (.ref C_Store) "__setattr__" = some (some (.builtin "object.__setattr__")))
    (mk_Store : PySem.W.makesIn K C_Store = true)
    (kc_Store : PySem.W.keepIn K (.ref C_Store) = true)
    (n_Store_tiles : PySem.W.findIn K (.ref C_Store) "tiles" = some none)
    (n_Store_counts : PySem.W.findIn K (.ref C_Store) "counts" = some none)
    (a_Picture : PySem.W.nsIn K mainGlobals "Picture" = some (some (.ref C_Picture)))
    (pg_Picture : PySem.W.plainGet K C_Picture Str.empty = true)
    (hd_Picture : PySem.W.hasDictIn K C_Picture = true)
    (po_Picture : PySem.W.plainOver K C_Picture = true)
    (sa_Picture : PySem.W.findIn K (.ref C_Picture) "__setattr__" = some (some (.builtin "object.__setattr__")))
    (mk_Picture : PySem.W.makesIn K C_Picture = true)
    (kc_Picture : PySem.W.keepIn K (.ref C_Picture) = true)
    (n_Picture_wide : PySem.W.findIn K (.ref C_Picture) "wide" = some none)
    (n_Picture_places : PySem.W.findIn K (.ref C_Picture) "places" = some none)
    (n_Picture_before : PySem.W.findIn K (.ref C_Picture) "before" = some none)
    (a_Album : PySem.W.nsIn K mainGlobals "Album" = some (some (.ref C_Album)))
    (pg_Album : PySem.W.plainGet K C_Album Str.empty = true)
    (hd_Album : PySem.W.hasDictIn K C_Album = true)
    (po_Album : PySem.W.plainOver K C_Album = true)
    (sa_Album : PySem.W.findIn K (.ref C_Album) "__setattr__" = some (some (.builtin "object.__setattr__")))
    (mk_Album : PySem.W.makesIn K C_Album = true)
    (kc_Album : PySem.W.keepIn K (.ref C_Album) = true)
    (n_Album_store : PySem.W.findIn K (.ref C_Album) "store" = some none)
    (n_Album_pictures : PySem.W.findIn K (.ref C_Album) "pictures" = some none)
    (a0 : PySem.W.nsIn K mainGlobals "row_of_cells" = some (some (.ref f0)))
    (l0 : K.lookup f0 = some ⟨oc0, od0, .func (PySem.W.fnOf "row_of_cells" "row_of_cells" (defArgs s_row_of_cells) (defBody s_row_of_cells) (defScope s_row_of_cells) .none kV0 dc0 pm0 an0 cd0 ct0), sl0⟩)
    (c0 : PySem.W.codeIn K cd0 "row_of_cells" = true)
    (k0 : PySem.W.keepIn K (.ref f0) = true)
    (a1 : PySem.W.nsIn K mainGlobals "rows_of_tiles" = some (some (.ref f1)))
    (l1 : K.lookup f1 = some ⟨oc1, od1, .func (PySem.W.fnOf "rows_of_tiles" "rows_of_tiles" (defArgs s_rows_of_tiles) (defBody s_rows_of_tiles) (defScope s_rows_of_tiles) .none kV1 dc1 pm1 an1 cd1 ct1), sl1⟩)
    (c1 : PySem.W.codeIn K cd1 "rows_of_tiles" = true)
    (k1 : PySem.W.keepIn K (.ref f1) = true)
    (a2 : PySem.W.nsIn K mainGlobals "tile_at" = some (some (.ref f2)))
    (l2 : K.lookup f2 = some ⟨oc2, od2, .func (PySem.W.fnOf "tile_at" "tile_at" (defArgs s_tile_at) (defBody s_tile_at) (defScope s_tile_at) .none kV2 dc2 pm2 an2 cd2 ct2), sl2⟩)
    (c2 : PySem.W.codeIn K cd2 "tile_at" = true)
    (k2 : PySem.W.keepIn K (.ref f2) = true)
    (a3 : PySem.W.nsIn K mainGlobals "tiles_of_rows" = some (some (.ref f3)))
    (l3 : K.lookup f3 = some ⟨oc3, od3, .func (PySem.W.fnOf "tiles_of_rows" "tiles_of_rows" (defArgs s_tiles_of_rows) (defBody s_tiles_of_rows) (defScope s_tiles_of_rows) .none kV3 dc3 pm3 an3 cd3 ct3), sl3⟩)
    (c3 : PySem.W.codeIn K cd3 "tiles_of_rows" = true)
    (k3 : PySem.W.keepIn K (.ref f3) = true)
    (a4 : PySem.W.nsIn K mainGlobals "has_cell" = some (some (.ref f4)))
    (l4 : K.lookup f4 = some ⟨oc4, od4, .func (PySem.W.fnOf "has_cell" "has_cell" (defArgs s_has_cell) (defBody s_has_cell) (defScope s_has_cell) .none kV4 dc4 pm4 an4 cd4 ct4), sl4⟩)
    (c4 : PySem.W.codeIn K cd4 "has_cell" = true)
    (k4 : PySem.W.keepIn K (.ref f4) = true)
    (a5 : PySem.W.nsIn K mainGlobals "put_box" = some (some (.ref f5)))
    (l5 : K.lookup f5 = some ⟨oc5, od5, .func (PySem.W.fnOf "put_box" "put_box" (defArgs s_put_box) (defBody s_put_box) (defScope s_put_box) .none kV5 dc5 pm5 an5 cd5 ct5), sl5⟩)
    (c5 : PySem.W.codeIn K cd5 "put_box" = true)
    (k5 : PySem.W.keepIn K (.ref f5) = true)
    (a6 : PySem.W.nsIn K mainGlobals "dots_fit" = some (some (.ref f6)))
    (l6 : K.lookup f6 = some ⟨oc6, od6, .func (PySem.W.fnOf "dots_fit" "dots_fit" (defArgs s_dots_fit) (defBody s_dots_fit) (defScope s_dots_fit) .none kV6 dc6 pm6 an6 cd6 ct6), sl6⟩)
    (c6 : PySem.W.codeIn K cd6 "dots_fit" = true)
    (k6 : PySem.W.keepIn K (.ref f6) = true)
    (a7 : PySem.W.nsIn K mainGlobals "put_dots" = some (some (.ref f7)))
    (l7 : K.lookup f7 = some ⟨oc7, od7, .func (PySem.W.fnOf "put_dots" "put_dots" (defArgs s_put_dots) (defBody s_put_dots) (defScope s_put_dots) .none kV7 dc7 pm7 an7 cd7 ct7), sl7⟩)
    (c7 : PySem.W.codeIn K cd7 "put_dots" = true)
    (k7 : PySem.W.keepIn K (.ref f7) = true)
    (a8 : PySem.W.nsIn K mainGlobals "shifted" = some (some (.ref f8)))
    (l8 : K.lookup f8 = some ⟨oc8, od8, .func (PySem.W.fnOf "shifted" "shifted" (defArgs s_shifted) (defBody s_shifted) (defScope s_shifted) .none kV8 dc8 pm8 an8 cd8 ct8), sl8⟩)
    (c8 : PySem.W.codeIn K cd8 "shifted" = true)
    (k8 : PySem.W.keepIn K (.ref f8) = true)
    (a9 : PySem.W.nsIn K mainGlobals "put_rows" = some (some (.ref f9)))
    (l9 : K.lookup f9 = some ⟨oc9, od9, .func (PySem.W.fnOf "put_rows" "put_rows" (defArgs s_put_rows) (defBody s_put_rows) (defScope s_put_rows) .none kV9 dc9 pm9 an9 cd9 ct9), sl9⟩)
    (c9 : PySem.W.codeIn K cd9 "put_rows" = true)
    (k9 : PySem.W.keepIn K (.ref f9) = true)
    (a10 : PySem.W.findIn K (.ref C_Store) "__init__" = some (some (.ref f10)))
    (i10 : PySem.W.isFn K (.ref f10) = true)
    (l10 : K.lookup f10 = some ⟨oc10, od10, .func (PySem.W.fnOf "__init__" "Store.__init__" (defArgs s_Store_init) (defBody s_Store_init) (defScope s_Store_init) .none kV10 dc10 pm10 an10 cd10 ct10), sl10⟩)
    (c10 : PySem.W.codeIn K cd10 "Store.__init__" = true)
    (k10 : PySem.W.keepIn K (.ref f10) = true)
    (a11 : PySem.W.findIn K (.ref C_Store) "is_free" = some (some (.ref f11)))
    (i11 : PySem.W.isFn K (.ref f11) = true)
    (l11 : K.lookup f11 = some ⟨oc11, od11, .func (PySem.W.fnOf "is_free" "Store.is_free" (defArgs s_Store_is_free) (defBody s_Store_is_free) (defScope s_Store_is_free) .none kV11 dc11 pm11 an11 cd11 ct11), sl11⟩)
    (c11 : PySem.W.codeIn K cd11 "Store.is_free" = true)
    (k11 : PySem.W.keepIn K (.ref f11) = true)
    (a12 : PySem.W.findIn K (.ref C_Store) "first_free" = some (some (.ref f12)))
    (i12 : PySem.W.isFn K (.ref f12) = true)
    (l12 : K.lookup f12 = some ⟨oc12, od12, .func (PySem.W.fnOf "first_free" "Store.first_free" (defArgs s_Store_first_free) (defBody s_Store_first_free) (defScope s_Store_first_free) .none kV12 dc12 pm12 an12 cd12 ct12), sl12⟩)
    (c12 : PySem.W.codeIn K cd12 "Store.first_free" = true)
    (k12 : PySem.W.keepIn K (.ref f12) = true)
    (a13 : PySem.W.findIn K (.ref C_Store) "place_for" = some (some (.ref f13)))
    (i13 : PySem.W.isFn K (.ref f13) = true)
    (l13 : K.lookup f13 = some ⟨oc13, od13, .func (PySem.W.fnOf "place_for" "Store.place_for" (defArgs s_Store_place_for) (defBody s_Store_place_for) (defScope s_Store_place_for) .none kV13 dc13 pm13 an13 cd13 ct13), sl13⟩)
    (c13 : PySem.W.codeIn K cd13 "Store.place_for" = true)
    (k13 : PySem.W.keepIn K (.ref f13) = true)
    (a14 : PySem.W.findIn K (.ref C_Store) "keep" = some (some (.ref f14)))
    (i14 : PySem.W.isFn K (.ref f14) = true)
    (l14 : K.lookup f14 = some ⟨oc14, od14, .func (PySem.W.fnOf "keep" "Store.keep" (defArgs s_Store_keep) (defBody s_Store_keep) (defScope s_Store_keep) .none kV14 dc14 pm14 an14 cd14 ct14), sl14⟩)
    (c14 : PySem.W.codeIn K cd14 "Store.keep" = true)
    (k14 : PySem.W.keepIn K (.ref f14) = true)
    (a15 : PySem.W.findIn K (.ref C_Store) "keep_each" = some (some (.ref f15)))
    (i15 : PySem.W.isFn K (.ref f15) = true)
    (l15 : K.lookup f15 = some ⟨oc15, od15, .func (PySem.W.fnOf "keep_each" "Store.keep_each" (defArgs s_Store_keep_each) (defBody s_Store_keep_each) (defScope s_Store_keep_each) .none kV15 dc15 pm15 an15 cd15 ct15), sl15⟩)
    (c15 : PySem.W.codeIn K cd15 "Store.keep_each" = true)
    (k15 : PySem.W.keepIn K (.ref f15) = true)
    (a16 : PySem.W.findIn K (.ref C_Store) "point_again" = some (some (.ref f16)))
    (i16 : PySem.W.isFn K (.ref f16) = true)
    (l16 : K.lookup f16 = some ⟨oc16, od16, .func (PySem.W.fnOf "point_again" "Store.point_again" (defArgs s_Store_point_again) (defBody s_Store_point_again) (defScope s_Store_point_again) .none kV16 dc16 pm16 an16 cd16 ct16), sl16⟩)
    (c16 : PySem.W.codeIn K cd16 "Store.point_again" = true)
    (k16 : PySem.W.keepIn K (.ref f16) = true)
    (a17 : PySem.W.findIn K (.ref C_Store) "let_go_each" = some (some (.ref f17)))
    (i17 : PySem.W.isFn K (.ref f17) = true)
    (l17 : K.lookup f17 = some ⟨oc17, od17, .func (PySem.W.fnOf "let_go_each" "Store.let_go_each" (defArgs s_Store_let_go_each) (defBody s_Store_let_go_each) (defScope s_Store_let_go_each) .none kV17 dc17 pm17 an17 cd17 ct17), sl17⟩)
    (c17 : PySem.W.codeIn K cd17 "Store.let_go_each" = true)
    (k17 : PySem.W.keepIn K (.ref f17) = true)
    (a18 : PySem.W.findIn K (.ref C_Store) "in_use" = some (some (.ref f18)))
    (i18 : PySem.W.isFn K (.ref f18) = true)
    (l18 : K.lookup f18 = some ⟨oc18, od18, .func (PySem.W.fnOf "in_use" "Store.in_use" (defArgs s_Store_in_use) (defBody s_Store_in_use) (defScope s_Store_in_use) .none kV18 dc18 pm18 an18 cd18 ct18), sl18⟩)
    (c18 : PySem.W.codeIn K cd18 "Store.in_use" = true)
    (k18 : PySem.W.keepIn K (.ref f18) = true)
    (a19 : PySem.W.findIn K (.ref C_Store) "how_it_stands" = some (some (.ref f19)))
    (i19 : PySem.W.isFn K (.ref f19) = true)
    (l19 : K.lookup f19 = some ⟨oc19, od19, .func (PySem.W.fnOf "how_it_stands" "Store.how_it_stands" (defArgs s_Store_how_it_stands) (defBody s_Store_how_it_stands) (defScope s_Store_how_it_stands) .none kV19 dc19 pm19 an19 cd19 ct19), sl19⟩)
    (c19 : PySem.W.codeIn K cd19 "Store.how_it_stands" = true)
    (k19 : PySem.W.keepIn K (.ref f19) = true)
    (a20 : PySem.W.findIn K (.ref C_Picture) "__init__" = some (some (.ref f20)))
    (i20 : PySem.W.isFn K (.ref f20) = true)
    (l20 : K.lookup f20 = some ⟨oc20, od20, .func (PySem.W.fnOf "__init__" "Picture.__init__" (defArgs s_Picture_init) (defBody s_Picture_init) (defScope s_Picture_init) .none kV20 dc20 pm20 an20 cd20 ct20), sl20⟩)
    (c20 : PySem.W.codeIn K cd20 "Picture.__init__" = true)
    (k20 : PySem.W.keepIn K (.ref f20) = true)
    (a21 : PySem.W.findIn K (.ref C_Album) "__init__" = some (some (.ref f21)))
    (i21 : PySem.W.isFn K (.ref f21) = true)
    (l21 : K.lookup f21 = some ⟨oc21, od21, .func (PySem.W.fnOf "__init__" "Album.__init__" (defArgs s_Album_init) (defBody s_Album_init) (defScope s_Album_init) .none kV21 dc21 pm21 an21 cd21 ct21), sl21⟩)
    (c21 : PySem.W.codeIn K cd21 "Album.__init__" = true)
    (k21 : PySem.W.keepIn K (.ref f21) = true)
    (a22 : PySem.W.findIn K (.ref C_Album) "has_picture" = some (some (.ref f22)))
    (i22 : PySem.W.isFn K (.ref f22) = true)
    (l22 : K.lookup f22 = some ⟨oc22, od22, .func (PySem.W.fnOf "has_picture" "Album.has_picture" (defArgs s_Album_has_picture) (defBody s_Album_has_picture) (defScope s_Album_has_picture) .none kV22 dc22 pm22 an22 cd22 ct22), sl22⟩)
    (c22 : PySem.W.codeIn K cd22 "Album.has_picture" = true)
    (k22 : PySem.W.keepIn K (.ref f22) = true)
    (a23 : PySem.W.findIn K (.ref C_Album) "places_of_picture" = some (some (.ref f23)))
    (i23 : PySem.W.isFn K (.ref f23) = true)
    (l23 : K.lookup f23 = some ⟨oc23, od23, .func (PySem.W.fnOf "places_of_picture" "Album.places_of_picture" (defArgs s_Album_places_of_picture) (defBody s_Album_places_of_picture) (defScope s_Album_places_of_picture) .none kV23 dc23 pm23 an23 cd23 ct23), sl23⟩)
    (c23 : PySem.W.codeIn K cd23 "Album.places_of_picture" = true)
    (k23 : PySem.W.keepIn K (.ref f23) = true)
    (a24 : PySem.W.findIn K (.ref C_Album) "rows_of_picture" = some (some (.ref f24)))
    (i24 : PySem.W.isFn K (.ref f24) = true)
    (l24 : K.lookup f24 = some ⟨oc24, od24, .func (PySem.W.fnOf "rows_of_picture" "Album.rows_of_picture" (defArgs s_Album_rows_of_picture) (defBody s_Album_rows_of_picture) (defScope s_Album_rows_of_picture) .none kV24 dc24 pm24 an24 cd24 ct24), sl24⟩)
    (c24 : PySem.W.codeIn K cd24 "Album.rows_of_picture" = true)
    (k24 : PySem.W.keepIn K (.ref f24) = true)
    (a25 : PySem.W.findIn K (.ref C_Album) "drop_picture" = some (some (.ref f25)))
    (i25 : PySem.W.isFn K (.ref f25) = true)
    (l25 : K.lookup f25 = some ⟨oc25, od25, .func (PySem.W.fnOf "drop_picture" "Album.drop_picture" (defArgs s_Album_drop_picture) (defBody s_Album_drop_picture) (defScope s_Album_drop_picture) .none kV25 dc25 pm25 an25 cd25 ct25), sl25⟩)
    (c25 : PySem.W.codeIn K cd25 "Album.drop_picture" = true)
    (k25 : PySem.W.keepIn K (.ref f25) = true)
    (a26 : PySem.W.findIn K (.ref C_Album) "lay_page" = some (some (.ref f26)))
    (i26 : PySem.W.isFn K (.ref f26) = true)
    (l26 : K.lookup f26 = some ⟨oc26, od26, .func (PySem.W.fnOf "lay_page" "Album.lay_page" (defArgs s_Album_lay_page) (defBody s_Album_lay_page) (defScope s_Album_lay_page) .none kV26 dc26 pm26 an26 cd26 ct26), sl26⟩)
    (c26 : PySem.W.codeIn K cd26 "Album.lay_page" = true)
    (k26 : PySem.W.keepIn K (.ref f26) = true)
    (a27 : PySem.W.findIn K (.ref C_Album) "change_picture" = some (some (.ref f27)))
    (i27 : PySem.W.isFn K (.ref f27) = true)
    (l27 : K.lookup f27 = some ⟨oc27, od27, .func (PySem.W.fnOf "change_picture" "Album.change_picture" (defArgs s_Album_change_picture) (defBody s_Album_change_picture) (defScope s_Album_change_picture) .none kV27 dc27 pm27 an27 cd27 ct27), sl27⟩)
    (c27 : PySem.W.codeIn K cd27 "Album.change_picture" = true)
    (k27 : PySem.W.keepIn K (.ref f27) = true)
    (a28 : PySem.W.findIn K (.ref C_Album) "copy_picture" = some (some (.ref f28)))
    (i28 : PySem.W.isFn K (.ref f28) = true)
    (l28 : K.lookup f28 = some ⟨oc28, od28, .func (PySem.W.fnOf "copy_picture" "Album.copy_picture" (defArgs s_Album_copy_picture) (defBody s_Album_copy_picture) (defScope s_Album_copy_picture) .none kV28 dc28 pm28 an28 cd28 ct28), sl28⟩)
    (c28 : PySem.W.codeIn K cd28 "Album.copy_picture" = true)
    (k28 : PySem.W.keepIn K (.ref f28) = true)
    (a29 : PySem.W.findIn K (.ref C_Album) "has_been_before" = some (some (.ref f29)))
    (i29 : PySem.W.isFn K (.ref f29) = true)
    (l29 : K.lookup f29 = some ⟨oc29, od29, .func (PySem.W.fnOf "has_been_before" "Album.has_been_before" (defArgs s_Album_has_been_before) (defBody s_Album_has_been_before) (defScope s_Album_has_been_before) .none kV29 dc29 pm29 an29 cd29 ct29), sl29⟩)
    (c29 : PySem.W.codeIn K cd29 "Album.has_been_before" = true)
    (k29 : PySem.W.keepIn K (.ref f29) = true)
    (a30 : PySem.W.findIn K (.ref C_Album) "step_back" = some (some (.ref f30)))
    (i30 : PySem.W.isFn K (.ref f30) = true)
    (l30 : K.lookup f30 = some ⟨oc30, od30, .func (PySem.W.fnOf "step_back" "Album.step_back" (defArgs s_Album_step_back) (defBody s_Album_step_back) (defScope s_Album_step_back) .none kV30 dc30 pm30 an30 cd30 ct30), sl30⟩)
    (c30 : PySem.W.codeIn K cd30 "Album.step_back" = true)
    (k30 : PySem.W.keepIn K (.ref f30) = true)
    (a31 : PySem.W.nsIn K mainGlobals "is_side" = some (some (.ref f31)))
    (l31 : K.lookup f31 = some ⟨oc31, od31, .func (PySem.W.fnOf "is_side" "is_side" (defArgs s_is_side) (defBody s_is_side) (defScope s_is_side) .none kV31 dc31 pm31 an31 cd31 ct31), sl31⟩)
    (c31 : PySem.W.codeIn K cd31 "is_side" = true)
    (k31 : PySem.W.keepIn K (.ref f31) = true)
    (a32 : PySem.W.nsIn K mainGlobals "answer_page" = some (some (.ref f32)))
    (l32 : K.lookup f32 = some ⟨oc32, od32, .func (PySem.W.fnOf "answer_page" "answer_page" (defArgs s_answer_page) (defBody s_answer_page) (defScope s_answer_page) .none kV32 dc32 pm32 an32 cd32 ct32), sl32⟩)
    (c32 : PySem.W.codeIn K cd32 "answer_page" = true)
    (k32 : PySem.W.keepIn K (.ref f32) = true)
    (a33 : PySem.W.nsIn K mainGlobals "answer_change" = some (some (.ref f33)))
    (l33 : K.lookup f33 = some ⟨oc33, od33, .func (PySem.W.fnOf "answer_change" "answer_change" (defArgs s_answer_change) (defBody s_answer_change) (defScope s_answer_change) .none kV33 dc33 pm33 an33 cd33 ct33), sl33⟩)
    (c33 : PySem.W.codeIn K cd33 "answer_change" = true)
    (k33 : PySem.W.keepIn K (.ref f33) = true)
    (a34 : PySem.W.nsIn K mainGlobals "answer_box" = some (some (.ref f34)))
    (l34 : K.lookup f34 = some ⟨oc34, od34, .func (PySem.W.fnOf "answer_box" "answer_box" (defArgs s_answer_box) (defBody s_answer_box) (defScope s_answer_box) .none kV34 dc34 pm34 an34 cd34 ct34), sl34⟩)
    (c34 : PySem.W.codeIn K cd34 "answer_box" = true)
    (k34 : PySem.W.keepIn K (.ref f34) = true)
    (a35 : PySem.W.nsIn K mainGlobals "answer_dots" = some (some (.ref f35)))
    (l35 : K.lookup f35 = some ⟨oc35, od35, .func (PySem.W.fnOf "answer_dots" "answer_dots" (defArgs s_answer_dots) (defBody s_answer_dots) (defScope s_answer_dots) .none kV35 dc35 pm35 an35 cd35 ct35), sl35⟩)
    (c35 : PySem.W.codeIn K cd35 "answer_dots" = true)
    (k35 : PySem.W.keepIn K (.ref f35) = true)
    (a36 : PySem.W.nsIn K mainGlobals "answer_shift" = some (some (.ref f36)))
    (l36 : K.lookup f36 = some ⟨oc36, od36, .func (PySem.W.fnOf "answer_shift" "answer_shift" (defArgs s_answer_shift) (defBody s_answer_shift) (defScope s_answer_shift) .none kV36 dc36 pm36 an36 cd36 ct36), sl36⟩)
    (c36 : PySem.W.codeIn K cd36 "answer_shift" = true)
    (k36 : PySem.W.keepIn K (.ref f36) = true)
    (a37 : PySem.W.nsIn K mainGlobals "answer_copy" = some (some (.ref f37)))
    (l37 : K.lookup f37 = some ⟨oc37, od37, .func (PySem.W.fnOf "answer_copy" "answer_copy" (defArgs s_answer_copy) (defBody s_answer_copy) (defScope s_answer_copy) .none kV37 dc37 pm37 an37 cd37 ct37), sl37⟩)
    (c37 : PySem.W.codeIn K cd37 "answer_copy" = true)
    (k37 : PySem.W.keepIn K (.ref f37) = true)
    (a38 : PySem.W.nsIn K mainGlobals "answer_paste" = some (some (.ref f38)))
    (l38 : K.lookup f38 = some ⟨oc38, od38, .func (PySem.W.fnOf "answer_paste" "answer_paste" (defArgs s_answer_paste) (defBody s_answer_paste) (defScope s_answer_paste) .none kV38 dc38 pm38 an38 cd38 ct38), sl38⟩)
    (c38 : PySem.W.codeIn K cd38 "answer_paste" = true)
    (k38 : PySem.W.keepIn K (.ref f38) = true)
    (a39 : PySem.W.nsIn K mainGlobals "answer_undo" = some (some (.ref f39)))
    (l39 : K.lookup f39 = some ⟨oc39, od39, .func (PySem.W.fnOf "answer_undo" "answer_undo" (defArgs s_answer_undo) (defBody s_answer_undo) (defScope s_answer_undo) .none kV39 dc39 pm39 an39 cd39 ct39), sl39⟩)
    (c39 : PySem.W.codeIn K cd39 "answer_undo" = true)
    (k39 : PySem.W.keepIn K (.ref f39) = true)
    (a40 : PySem.W.nsIn K mainGlobals "answer_close" = some (some (.ref f40)))
    (l40 : K.lookup f40 = some ⟨oc40, od40, .func (PySem.W.fnOf "answer_close" "answer_close" (defArgs s_answer_close) (defBody s_answer_close) (defScope s_answer_close) .none kV40 dc40 pm40 an40 cd40 ct40), sl40⟩)
    (c40 : PySem.W.codeIn K cd40 "answer_close" = true)
    (k40 : PySem.W.keepIn K (.ref f40) = true)
    (a41 : PySem.W.nsIn K mainGlobals "answer_cells" = some (some (.ref f41)))
    (l41 : K.lookup f41 = some ⟨oc41, od41, .func (PySem.W.fnOf "answer_cells" "answer_cells" (defArgs s_answer_cells) (defBody s_answer_cells) (defScope s_answer_cells) .none kV41 dc41 pm41 an41 cd41 ct41), sl41⟩)
    (c41 : PySem.W.codeIn K cd41 "answer_cells" = true)
    (k41 : PySem.W.keepIn K (.ref f41) = true)
    (a42 : PySem.W.nsIn K mainGlobals "answer_cell" = some (some (.ref f42)))
    (l42 : K.lookup f42 = some ⟨oc42, od42, .func (PySem.W.fnOf "answer_cell" "answer_cell" (defArgs s_answer_cell) (defBody s_answer_cell) (defScope s_answer_cell) .none kV42 dc42 pm42 an42 cd42 ct42), sl42⟩)
    (c42 : PySem.W.codeIn K cd42 "answer_cell" = true)
    (k42 : PySem.W.keepIn K (.ref f42) = true)
    (a43 : PySem.W.nsIn K mainGlobals "answer_tile" = some (some (.ref f43)))
    (l43 : K.lookup f43 = some ⟨oc43, od43, .func (PySem.W.fnOf "answer_tile" "answer_tile" (defArgs s_answer_tile) (defBody s_answer_tile) (defScope s_answer_tile) .none kV43 dc43 pm43 an43 cd43 ct43), sl43⟩)
    (c43 : PySem.W.codeIn K cd43 "answer_tile" = true)
    (k43 : PySem.W.keepIn K (.ref f43) = true)
    (a44 : PySem.W.nsIn K mainGlobals "same_at" = some (some (.ref f44)))
    (l44 : K.lookup f44 = some ⟨oc44, od44, .func (PySem.W.fnOf "same_at" "same_at" (defArgs s_same_at) (defBody s_same_at) (defScope s_same_at) .none kV44 dc44 pm44 an44 cd44 ct44), sl44⟩)
    (c44 : PySem.W.codeIn K cd44 "same_at" = true)
    (k44 : PySem.W.keepIn K (.ref f44) = true)
    (a45 : PySem.W.nsIn K mainGlobals "answer_same" = some (some (.ref f45)))
    (l45 : K.lookup f45 = some ⟨oc45, od45, .func (PySem.W.fnOf "answer_same" "answer_same" (defArgs s_answer_same) (defBody s_answer_same) (defScope s_answer_same) .none kV45 dc45 pm45 an45 cd45 ct45), sl45⟩)
    (c45 : PySem.W.codeIn K cd45 "answer_same" = true)
    (k45 : PySem.W.keepIn K (.ref f45) = true)
    (a46 : PySem.W.nsIn K mainGlobals "answer_store" = some (some (.ref f46)))
    (l46 : K.lookup f46 = some ⟨oc46, od46, .func (PySem.W.fnOf "answer_store" "answer_store" (defArgs s_answer_store) (defBody s_answer_store) (defScope s_answer_store) .none kV46 dc46 pm46 an46 cd46 ct46), sl46⟩)
    (c46 : PySem.W.codeIn K cd46 "answer_store" = true)
    (k46 : PySem.W.keepIn K (.ref f46) = true)
    (a47 : PySem.W.nsIn K mainGlobals "answer_slot" = some (some (.ref f47)))
    (l47 : K.lookup f47 = some ⟨oc47, od47, .func (PySem.W.fnOf "answer_slot" "answer_slot" (defArgs s_answer_slot) (defBody s_answer_slot) (defScope s_answer_slot) .none kV47 dc47 pm47 an47 cd47 ct47), sl47⟩)
    (c47 : PySem.W.codeIn K cd47 "answer_slot" = true)
    (k47 : PySem.W.keepIn K (.ref f47) = true)
    (a48 : PySem.W.nsIn K mainGlobals "answer_changing" = some (some (.ref f48)))
    (l48 : K.lookup f48 = some ⟨oc48, od48, .func (PySem.W.fnOf "answer_changing" "answer_changing" (defArgs s_answer_changing) (defBody s_answer_changing) (defScope s_answer_changing) .none kV48 dc48 pm48 an48 cd48 ct48), sl48⟩)
    (c48 : PySem.W.codeIn K cd48 "answer_changing" = true)
    (k48 : PySem.W.keepIn K (.ref f48) = true)
    (a49 : PySem.W.nsIn K mainGlobals "answer_telling" = some (some (.ref f49)))
    (l49 : K.lookup f49 = some ⟨oc49, od49, .func (PySem.W.fnOf "answer_telling" "answer_telling" (defArgs s_answer_telling) (defBody s_answer_telling) (defScope s_answer_telling) .none kV49 dc49 pm49 an49 cd49 ct49), sl49⟩)
    (c49 : PySem.W.codeIn K cd49 "answer_telling" = true)
    (k49 : PySem.W.keepIn K (.ref f49) = true)
    (a50 : PySem.W.nsIn K mainGlobals "answer_call" = some (some (.ref f50)))
    (l50 : K.lookup f50 = some ⟨oc50, od50, .func (PySem.W.fnOf "answer_call" "answer_call" (defArgs s_answer_call) (defBody s_answer_call) (defScope s_answer_call) .none kV50 dc50 pm50 an50 cd50 ct50), sl50⟩)
    (c50 : PySem.W.codeIn K cd50 "answer_call" = true)
    (k50 : PySem.W.keepIn K (.ref f50) = true)
    (a51 : PySem.W.nsIn K mainGlobals "row_at" = some (some (.ref f51)))
    (l51 : K.lookup f51 = some ⟨oc51, od51, .func (PySem.W.fnOf "row_at" "row_at" (defArgs s_row_at) (defBody s_row_at) (defScope s_row_at) .none kV51 dc51 pm51 an51 cd51 ct51), sl51⟩)
    (c51 : PySem.W.codeIn K cd51 "row_at" = true)
    (k51 : PySem.W.keepIn K (.ref f51) = true)
    (a52 : PySem.W.nsIn K mainGlobals "answers" = some (some (.ref f52)))
    (l52 : K.lookup f52 = some ⟨oc52, od52, .func (PySem.W.fnOf "answers" "answers" (defArgs s_answers) (defBody s_answers) (defScope s_answers) .none kV52 dc52 pm52 an52 cd52 ct52), sl52⟩)
    (c52 : PySem.W.codeIn K cd52 "answers" = true)
    (k52 : PySem.W.keepIn K (.ref f52) = true) :
    ∃ A : Ad, Txt K mg A ∧ A.f_answers = fa ∧ ∀ (s : Shared) (us : List Value), us.length = (["calls"] : List Str).length → BindsTo s A.fd_answers ⟨us, []⟩ ((["calls"] : List Str).zip us) := by
  have e := hfa.symm.trans (PySem.W.mg_of X G a52)
  have e2 : f52 = fa := by cases e; rfl
  subst e2
  refine ⟨{ c_Store := C_Store, c_Picture := C_Picture, c_Album := C_Album, a_BLANK_TILE := a_BLANK_TILE, a_WHOLE_NUMBERS := a_WHOLE_NUMBERS, f_row_of_cells := f0, fd_row_of_cells := PySem.W.fnOf "row_of_cells" "row_of_cells" (defArgs s_row_of_cells) (defBody s_row_of_cells) (defScope s_row_of_cells) .none kV0 dc0 pm0 an0 cd0 ct0, f_rows_of_tiles := f1, fd_rows_of_tiles := PySem.W.fnOf "rows_of_tiles" "rows_of_tiles" (defArgs s_rows_of_tiles) (defBody s_rows_of_tiles) (defScope s_rows_of_tiles) .none kV1 dc1 pm1 an1 cd1 ct1, f_tile_at := f2, fd_tile_at := PySem.W.fnOf "tile_at" "tile_at" (defArgs s_tile_at) (defBody s_tile_at) (defScope s_tile_at) .none kV2 dc2 pm2 an2 cd2 ct2, f_tiles_of_rows := f3, fd_tiles_of_rows := PySem.W.fnOf "tiles_of_rows" "tiles_of_rows" (defArgs s_tiles_of_rows) (defBody s_tiles_of_rows) (defScope s_tiles_of_rows) .none kV3 dc3 pm3 an3 cd3 ct3, f_has_cell := f4, fd_has_cell := PySem.W.fnOf "has_cell" "has_cell" (defArgs s_has_cell) (defBody s_has_cell) (defScope s_has_cell) .none kV4 dc4 pm4 an4 cd4 ct4, f_put_box := f5, fd_put_box := PySem.W.fnOf "put_box" "put_box" (defArgs s_put_box) (defBody s_put_box) (defScope s_put_box) .none kV5 dc5 pm5 an5 cd5 ct5, f_dots_fit := f6, fd_dots_fit := PySem.W.fnOf "dots_fit" "dots_fit" (defArgs s_dots_fit) (defBody s_dots_fit) (defScope s_dots_fit) .none kV6 dc6 pm6 an6 cd6 ct6, f_put_dots := f7, fd_put_dots := PySem.W.fnOf "put_dots" "put_dots" (defArgs s_put_dots) (defBody s_put_dots) (defScope s_put_dots) .none kV7 dc7 pm7 an7 cd7 ct7, f_shifted := f8, fd_shifted := PySem.W.fnOf "shifted" "shifted" (defArgs s_shifted) (defBody s_shifted) (defScope s_shifted) .none kV8 dc8 pm8 an8 cd8 ct8, f_put_rows := f9, fd_put_rows := PySem.W.fnOf "put_rows" "put_rows" (defArgs s_put_rows) (defBody s_put_rows) (defScope s_put_rows) .none kV9 dc9 pm9 an9 cd9 ct9, f_Store_init := f10, fd_Store_init := PySem.W.fnOf "__init__" "Store.__init__" (defArgs s_Store_init) (defBody s_Store_init) (defScope s_Store_init) .none kV10 dc10 pm10 an10 cd10 ct10, f_Store_is_free := f11, fd_Store_is_free := PySem.W.fnOf "is_free" "Store.is_free" (defArgs s_Store_is_free) (defBody s_Store_is_free) (defScope s_Store_is_free) .none kV11 dc11 pm11 an11 cd11 ct11, f_Store_first_free := f12, fd_Store_first_free := PySem.W.fnOf "first_free" "Store.first_free" (defArgs s_Store_first_free) (defBody s_Store_first_free) (defScope s_Store_first_free) .none kV12 dc12 pm12 an12 cd12 ct12, f_Store_place_for := f13, fd_Store_place_for := PySem.W.fnOf "place_for" "Store.place_for" (defArgs s_Store_place_for) (defBody s_Store_place_for) (defScope s_Store_place_for) .none kV13 dc13 pm13 an13 cd13 ct13, f_Store_keep := f14, fd_Store_keep := PySem.W.fnOf "keep" "Store.keep" (defArgs s_Store_keep) (defBody s_Store_keep) (defScope s_Store_keep) .none kV14 dc14 pm14 an14 cd14 ct14, f_Store_keep_each := f15, fd_Store_keep_each := PySem.W.fnOf "keep_each" "Store.keep_each" (defArgs s_Store_keep_each) (defBody s_Store_keep_each) (defScope s_Store_keep_each) .none kV15 dc15 pm15 an15 cd15 ct15, f_Store_point_again := f16, fd_Store_point_again := PySem.W.fnOf "point_again" "Store.point_again" (defArgs s_Store_point_again) (defBody s_Store_point_again) (defScope s_Store_point_again) .none kV16 dc16 pm16 an16 cd16 ct16, f_Store_let_go_each := f17, fd_Store_let_go_each := PySem.W.fnOf "let_go_each" "Store.let_go_each" (defArgs s_Store_let_go_each) (defBody s_Store_let_go_each) (defScope s_Store_let_go_each) .none kV17 dc17 pm17 an17 cd17 ct17, f_Store_in_use := f18, fd_Store_in_use := PySem.W.fnOf "in_use" "Store.in_use" (defArgs s_Store_in_use) (defBody s_Store_in_use) (defScope s_Store_in_use) .none kV18 dc18 pm18 an18 cd18 ct18, f_Store_how_it_stands := f19, fd_Store_how_it_stands := PySem.W.fnOf "how_it_stands" "Store.how_it_stands" (defArgs s_Store_how_it_stands) (defBody s_Store_how_it_stands) (defScope s_Store_how_it_stands) .none kV19 dc19 pm19 an19 cd19 ct19, f_Picture_init := f20, fd_Picture_init := PySem.W.fnOf "__init__" "Picture.__init__" (defArgs s_Picture_init) (defBody s_Picture_init) (defScope s_Picture_init) .none kV20 dc20 pm20 an20 cd20 ct20, f_Album_init := f21, fd_Album_init := PySem.W.fnOf "__init__" "Album.__init__" (defArgs s_Album_init) (defBody s_Album_init) (defScope s_Album_init) .none kV21 dc21 pm21 an21 cd21 ct21, f_Album_has_picture := f22, fd_Album_has_picture := PySem.W.fnOf "has_picture" "Album.has_picture" (defArgs s_Album_has_picture) (defBody s_Album_has_picture) (defScope s_Album_has_picture) .none kV22 dc22 pm22 an22 cd22 ct22, f_Album_places_of_picture := f23, fd_Album_places_of_picture := PySem.W.fnOf "places_of_picture" "Album.places_of_picture" (defArgs s_Album_places_of_picture) (defBody s_Album_places_of_picture) (defScope s_Album_places_of_picture) .none kV23 dc23 pm23 an23 cd23 ct23, f_Album_rows_of_picture := f24, fd_Album_rows_of_picture := PySem.W.fnOf "rows_of_picture" "Album.rows_of_picture" (defArgs s_Album_rows_of_picture) (defBody s_Album_rows_of_picture) (defScope s_Album_rows_of_picture) .none kV24 dc24 pm24 an24 cd24 ct24, f_Album_drop_picture := f25, fd_Album_drop_picture := PySem.W.fnOf "drop_picture" "Album.drop_picture" (defArgs s_Album_drop_picture) (defBody s_Album_drop_picture) (defScope s_Album_drop_picture) .none kV25 dc25 pm25 an25 cd25 ct25, f_Album_lay_page := f26, fd_Album_lay_page := PySem.W.fnOf "lay_page" "Album.lay_page" (defArgs s_Album_lay_page) (defBody s_Album_lay_page) (defScope s_Album_lay_page) .none kV26 dc26 pm26 an26 cd26 ct26, f_Album_change_picture := f27, fd_Album_change_picture := PySem.W.fnOf "change_picture" "Album.change_picture" (defArgs s_Album_change_picture) (defBody s_Album_change_picture) (defScope s_Album_change_picture) .none kV27 dc27 pm27 an27 cd27 ct27, f_Album_copy_picture := f28, fd_Album_copy_picture := PySem.W.fnOf "copy_picture" "Album.copy_picture" (defArgs s_Album_copy_picture) (defBody s_Album_copy_picture) (defScope s_Album_copy_picture) .none kV28 dc28 pm28 an28 cd28 ct28, f_Album_has_been_before := f29, fd_Album_has_been_before := PySem.W.fnOf "has_been_before" "Album.has_been_before" (defArgs s_Album_has_been_before) (defBody s_Album_has_been_before) (defScope s_Album_has_been_before) .none kV29 dc29 pm29 an29 cd29 ct29, f_Album_step_back := f30, fd_Album_step_back := PySem.W.fnOf "step_back" "Album.step_back" (defArgs s_Album_step_back) (defBody s_Album_step_back) (defScope s_Album_step_back) .none kV30 dc30 pm30 an30 cd30 ct30, f_is_side := f31, fd_is_side := PySem.W.fnOf "is_side" "is_side" (defArgs s_is_side) (defBody s_is_side) (defScope s_is_side) .none kV31 dc31 pm31 an31 cd31 ct31, f_answer_page := f32, fd_answer_page := PySem.W.fnOf "answer_page" "answer_page" (defArgs s_answer_page) (defBody s_answer_page) (defScope s_answer_page) .none kV32 dc32 pm32 an32 cd32 ct32, f_answer_change := f33, fd_answer_change := PySem.W.fnOf "answer_change" "answer_change" (defArgs s_answer_change) (defBody s_answer_change) (defScope s_answer_change) .none kV33 dc33 pm33 an33 cd33 ct33, f_answer_box := f34, fd_answer_box := PySem.W.fnOf "answer_box" "answer_box" (defArgs s_answer_box) (defBody s_answer_box) (defScope s_answer_box) .none kV34 dc34 pm34 an34 cd34 ct34, f_answer_dots := f35, fd_answer_dots := PySem.W.fnOf "answer_dots" "answer_dots" (defArgs s_answer_dots) (defBody s_answer_dots) (defScope s_answer_dots) .none kV35 dc35 pm35 an35 cd35 ct35, f_answer_shift := f36, fd_answer_shift := PySem.W.fnOf "answer_shift" "answer_shift" (defArgs s_answer_shift) (defBody s_answer_shift) (defScope s_answer_shift) .none kV36 dc36 pm36 an36 cd36 ct36, f_answer_copy := f37, fd_answer_copy := PySem.W.fnOf "answer_copy" "answer_copy" (defArgs s_answer_copy) (defBody s_answer_copy) (defScope s_answer_copy) .none kV37 dc37 pm37 an37 cd37 ct37, f_answer_paste := f38, fd_answer_paste := PySem.W.fnOf "answer_paste" "answer_paste" (defArgs s_answer_paste) (defBody s_answer_paste) (defScope s_answer_paste) .none kV38 dc38 pm38 an38 cd38 ct38, f_answer_undo := f39, fd_answer_undo := PySem.W.fnOf "answer_undo" "answer_undo" (defArgs s_answer_undo) (defBody s_answer_undo) (defScope s_answer_undo) .none kV39 dc39 pm39 an39 cd39 ct39, f_answer_close := f40, fd_answer_close := PySem.W.fnOf "answer_close" "answer_close" (defArgs s_answer_close) (defBody s_answer_close) (defScope s_answer_close) .none kV40 dc40 pm40 an40 cd40 ct40, f_answer_cells := f41, fd_answer_cells := PySem.W.fnOf "answer_cells" "answer_cells" (defArgs s_answer_cells) (defBody s_answer_cells) (defScope s_answer_cells) .none kV41 dc41 pm41 an41 cd41 ct41, f_answer_cell := f42, fd_answer_cell := PySem.W.fnOf "answer_cell" "answer_cell" (defArgs s_answer_cell) (defBody s_answer_cell) (defScope s_answer_cell) .none kV42 dc42 pm42 an42 cd42 ct42, f_answer_tile := f43, fd_answer_tile := PySem.W.fnOf "answer_tile" "answer_tile" (defArgs s_answer_tile) (defBody s_answer_tile) (defScope s_answer_tile) .none kV43 dc43 pm43 an43 cd43 ct43, f_same_at := f44, fd_same_at := PySem.W.fnOf "same_at" "same_at" (defArgs s_same_at) (defBody s_same_at) (defScope s_same_at) .none kV44 dc44 pm44 an44 cd44 ct44, f_answer_same := f45, fd_answer_same := PySem.W.fnOf "answer_same" "answer_same" (defArgs s_answer_same) (defBody s_answer_same) (defScope s_answer_same) .none kV45 dc45 pm45 an45 cd45 ct45, f_answer_store := f46, fd_answer_store := PySem.W.fnOf "answer_store" "answer_store" (defArgs s_answer_store) (defBody s_answer_store) (defScope s_answer_store) .none kV46 dc46 pm46 an46 cd46 ct46, f_answer_slot := f47, fd_answer_slot := PySem.W.fnOf "answer_slot" "answer_slot" (defArgs s_answer_slot) (defBody s_answer_slot) (defScope s_answer_slot) .none kV47 dc47 pm47 an47 cd47 ct47, f_answer_changing := f48, fd_answer_changing := PySem.W.fnOf "answer_changing" "answer_changing" (defArgs s_answer_changing) (defBody s_answer_changing) (defScope s_answer_changing) .none kV48 dc48 pm48 an48 cd48 ct48, f_answer_telling := f49, fd_answer_telling := PySem.W.fnOf "answer_telling" "answer_telling" (defArgs s_answer_telling) (defBody s_answer_telling) (defScope s_answer_telling) .none kV49 dc49 pm49 an49 cd49 ct49, f_answer_call := f50, fd_answer_call := PySem.W.fnOf "answer_call" "answer_call" (defArgs s_answer_call) (defBody s_answer_call) (defScope s_answer_call) .none kV50 dc50 pm50 an50 cd50 ct50, f_row_at := f51, fd_row_at := PySem.W.fnOf "row_at" "row_at" (defArgs s_row_at) (defBody s_row_at) (defScope s_row_at) .none kV51 dc51 pm51 an51 cd51 ct51, f_answers := f52, fd_answers := PySem.W.fnOf "answers" "answers" (defArgs s_answers) (defBody s_answers) (defScope s_answers) .none kV52 dc52 pm52 an52 cd52 ct52 }, ?_, rfl, fun s us hu => match us, hu with | [_], _ => .of_eq rfl⟩
  exact { n_len := PySem.W.mg_none_of X G z_len, n_list := PySem.W.mg_none_of X G z_list, n_min := PySem.W.mg_none_of X G z_min, n_range := PySem.W.mg_none_of X G z_range, n_set := PySem.W.mg_none_of X G z_set, n_sum := PySem.W.mg_none_of X G z_sum, n_tuple := PySem.W.mg_none_of X G z_tuple, g_SIDE := ⟨_, PySem.W.mg_of X G g_SIDE⟩, g_LARGEST_CELL := ⟨_, PySem.W.mg_of X G g_LARGEST_CELL⟩, g_MOST_BEFORE := ⟨_, PySem.W.mg_of X G g_MOST_BEFORE⟩, g_PAGE := ⟨_, PySem.W.mg_of X G g_PAGE⟩, g_BOX := ⟨_, PySem.W.mg_of X G g_BOX⟩, g_DOTS := ⟨_, PySem.W.mg_of X G g_DOTS⟩, g_SHIFT := ⟨_, PySem.W.mg_of X G g_SHIFT⟩, g_COPY := ⟨_, PySem.W.mg_of X G g_COPY⟩, g_PASTE := ⟨_, PySem.W.mg_of X G g_PASTE⟩, g_UNDO := ⟨_, PySem.W.mg_of X G g_UNDO⟩, g_CLOSE := ⟨_, PySem.W.mg_of X G g_CLOSE⟩, g_CELLS := ⟨_, PySem.W.mg_of X G g_CELLS⟩, g_CELL := ⟨_, PySem.W.mg_of X G g_CELL⟩, g_TILE := ⟨_, PySem.W.mg_of X G g_TILE⟩, g_SAME := ⟨_, PySem.W.mg_of X G g_SAME⟩, g_STORE := ⟨_, PySem.W.mg_of X G g_STORE⟩, g_LAST_PICTURE := ⟨_, PySem.W.mg_of X G g_LAST_PICTURE⟩, g_LONGEST_SIDE := ⟨_, PySem.W.mg_of X G g_LONGEST_SIDE⟩, g_NO_PICTURE := ⟨_, PySem.W.mg_of X G g_NO_PICTURE⟩, g_NOT_AS_TOLD := ⟨_, PySem.W.mg_of X G g_NOT_AS_TOLD⟩, g_NOT_BEFORE := ⟨_, PySem.W.mg_of X G g_NOT_BEFORE⟩, g_FREE_PLACE := ⟨_, PySem.W.mg_of X G g_FREE_PLACE⟩, g_BLANK_TILE := PySem.W.mg_of X G g_BLANK_TILE, t_BLANK_TILE := fun H => .inr ⟨_, _, _, l_BLANK_TILE, rfl, rfl, s_BLANK_TILE, v_BLANK_TILE⟩, g_WHOLE_NUMBERS := PySem.W.mg_of X G g_WHOLE_NUMBERS, t_WHOLE_NUMBERS := fun H => .inr ⟨_, _, _, l_WHOLE_NUMBERS, rfl, rfl, s_WHOLE_NUMBERS, v_WHOLE_NUMBERS⟩, cl_Store := ⟨pg_Store, hd_Store, po_Store, sa_Store⟩, g_Store := PySem.W.mg_of X G a_Store, mk_Store := ⟨mk_Store, a10, i10, kc_Store⟩, no_Store_tiles := n_Store_tiles, no_Store_counts := n_Store_counts, cl_Picture := ⟨pg_Picture, hd_Picture, po_Picture, sa_Picture⟩, g_Picture := PySem.W.mg_of X G a_Picture, mk_Picture := ⟨mk_Picture, a20, i20, kc_Picture⟩, no_Picture_wide := n_Picture_wide, no_Picture_places := n_Picture_places, no_Picture_before := n_Picture_before, cl_Album := ⟨pg_Album, hd_Album, po_Album, sa_Album⟩, g_Album := PySem.W.mg_of X G a_Album, mk_Album := ⟨mk_Album, a21, i21, kc_Album⟩, no_Album_store := n_Album_store, no_Album_pictures := n_Album_pictures, F_row_of_cells := fun_mk (st := s_row_of_cells) l0 c0 k0, b_row_of_cells := (fun_mk (st := s_row_of_cells) l0 c0 k0).binds (ps := ["tiles", "row"]) fun _ _ _ _ _ _ us hl => match us, hl with | [_, _], _ => rfl, g_row_of_cells := PySem.W.mg_of X G a0, F_rows_of_tiles := fun_mk (st := s_rows_of_tiles) l1 c1 k1, b_rows_of_tiles := (fun_mk (st := s_rows_of_tiles) l1 c1 k1).binds (ps := ["tiles", "wide"]) fun _ _ _ _ _ _ us hl => match us, hl with | [_, _], _ => rfl, g_rows_of_tiles := PySem.W.mg_of X G a1, F_tile_at := fun_mk (st := s_tile_at) l2 c2 k2, b_tile_at := (fun_mk (st := s_tile_at) l2 c2 k2).binds (ps := ["rows", "left", "top"]) fun _ _ _ _ _ _ us hl => match us, hl with | [_, _, _], _ => rfl, g_tile_at := PySem.W.mg_of X G a2, F_tiles_of_rows := fun_mk (st := s_tiles_of_rows) l3 c3 k3, b_tiles_of_rows := (fun_mk (st := s_tiles_of_rows) l3 c3 k3).binds (ps := ["rows"]) fun _ _ _ _ _ _ us hl => match us, hl with | [_], _ => rfl, g_tiles_of_rows := PySem.W.mg_of X G a3, F_has_cell := fun_mk (st := s_has_cell) l4 c4 k4, b_has_cell := (fun_mk (st := s_has_cell) l4 c4 k4).binds (ps := ["rows", "x", "y"]) fun _ _ _ _ _ _ us hl => match us, hl with | [_, _, _], _ => rfl, g_has_cell := PySem.W.mg_of X G a4, F_put_box := fun_mk (st := s_put_box) l5 c5 k5, b_put_box := (fun_mk (st := s_put_box) l5 c5 k5).binds (ps := ["rows", "x", "y", "u", "v", "n"]) fun _ _ _ _ _ _ us hl => match us, hl with | [_, _, _, _, _, _], _ => rfl, g_put_box := PySem.W.mg_of X G a5, F_dots_fit := fun_mk (st := s_dots_fit) l6 c6 k6, b_dots_fit := (fun_mk (st := s_dots_fit) l6 c6 k6).binds (ps := ["rows", "dots"]) fun _ _ _ _ _ _ us hl => match us, hl with | [_, _], _ => rfl, g_dots_fit := PySem.W.mg_of X G a6, F_put_dots := fun_mk (st := s_put_dots) l7 c7 k7, b_put_dots := (fun_mk (st := s_put_dots) l7 c7 k7).binds (ps := ["rows", "dots"]) fun _ _ _ _ _ _ us hl => match us, hl with | [_, _], _ => rfl, g_put_dots := PySem.W.mg_of X G a7, F_shifted := fun_mk (st := s_shifted) l8 c8 k8, b_shifted := (fun_mk (st := s_shifted) l8 c8 k8).binds (ps := ["rows", "n"]) fun _ _ _ _ _ _ us hl => match us, hl with | [_, _], _ => rfl, g_shifted := PySem.W.mg_of X G a8, F_put_rows := fun_mk (st := s_put_rows) l9 c9 k9, b_put_rows := (fun_mk (st := s_put_rows) l9 c9 k9).binds (ps := ["rows", "others", "x", "y"]) fun _ _ _ _ _ _ us hl => match us, hl with | [_, _, _, _], _ => rfl, g_put_rows := PySem.W.mg_of X G a9, F_Store_init := fun_mk (st := s_Store_init) l10 c10 k10, b_Store_init := (fun_mk (st := s_Store_init) l10 c10 k10).binds (ps := ["self"]) fun _ _ _ _ _ _ us hl => match us, hl with | [_], _ => rfl, F_Store_is_free := fun_mk (st := s_Store_is_free) l11 c11 k11, b_Store_is_free := (fun_mk (st := s_Store_is_free) l11 c11 k11).binds (ps := ["self", "place"]) fun _ _ _ _ _ _ us hl => match us, hl with | [_, _], _ => rfl, m_Store_is_free := ⟨a11, i11, k11⟩, F_Store_first_free := fun_mk (st := s_Store_first_free) l12 c12 k12, b_Store_first_free := (fun_mk (st := s_Store_first_free) l12 c12 k12).binds (ps := ["self"]) fun _ _ _ _ _ _ us hl => match us, hl with | [_], _ => rfl, m_Store_first_free := ⟨a12, i12, k12⟩, F_Store_place_for := fun_mk (st := s_Store_place_for) l13 c13 k13, b_Store_place_for := (fun_mk (st := s_Store_place_for) l13 c13 k13).binds (ps := ["self", "tile"]) fun _ _ _ _ _ _ us hl => match us, hl with | [_, _], _ => rfl, m_Store_place_for := ⟨a13, i13, k13⟩, F_Store_keep := fun_mk (st := s_Store_keep) l14 c14 k14, b_Store_keep := (fun_mk (st := s_Store_keep) l14 c14 k14).binds (ps := ["self", "tile"]) fun _ _ _ _ _ _ us hl => match us, hl with | [_, _], _ => rfl, m_Store_keep := ⟨a14, i14, k14⟩, F_Store_keep_each := fun_mk (st := s_Store_keep_each) l15 c15 k15, b_Store_keep_each := (fun_mk (st := s_Store_keep_each) l15 c15 k15).binds (ps := ["self", "tiles"]) fun _ _ _ _ _ _ us hl => match us, hl with | [_, _], _ => rfl, m_Store_keep_each := ⟨a15, i15, k15⟩, F_Store_point_again := fun_mk (st := s_Store_point_again) l16 c16 k16, b_Store_point_again := (fun_mk (st := s_Store_point_again) l16 c16 k16).binds (ps := ["self", "places"]) fun _ _ _ _ _ _ us hl => match us, hl with | [_, _], _ => rfl, m_Store_point_again := ⟨a16, i16, k16⟩, F_Store_let_go_each := fun_mk (st := s_Store_let_go_each) l17 c17 k17, b_Store_let_go_each := (fun_mk (st := s_Store_let_go_each) l17 c17 k17).binds (ps := ["self", "places"]) fun _ _ _ _ _ _ us hl => match us, hl with | [_, _], _ => rfl, m_Store_let_go_each := ⟨a17, i17, k17⟩, F_Store_in_use := fun_mk (st := s_Store_in_use) l18 c18 k18, b_Store_in_use := (fun_mk (st := s_Store_in_use) l18 c18 k18).binds (ps := ["self"]) fun _ _ _ _ _ _ us hl => match us, hl with | [_], _ => rfl, m_Store_in_use := ⟨a18, i18, k18⟩, F_Store_how_it_stands := fun_mk (st := s_Store_how_it_stands) l19 c19 k19, b_Store_how_it_stands := (fun_mk (st := s_Store_how_it_stands) l19 c19 k19).binds (ps := ["self"]) fun _ _ _ _ _ _ us hl => match us, hl with | [_], _ => rfl, m_Store_how_it_stands := ⟨a19, i19, k19⟩, F_Picture_init := fun_mk (st := s_Picture_init) l20 c20 k20, b_Picture_init := (fun_mk (st := s_Picture_init) l20 c20 k20).binds (ps := ["self", "wide", "places"]) fun _ _ _ _ _ _ us hl => match us, hl with | [_, _, _], _ => rfl, F_Album_init := fun_mk (st := s_Album_init) l21 c21 k21, b_Album_init := (fun_mk (st := s_Album_init) l21 c21 k21).binds (ps := ["self"]) fun _ _ _ _ _ _ us hl => match us, hl with | [_], _ => rfl, F_Album_has_picture := fun_mk (st := s_Album_has_picture) l22 c22 k22, b_Album_has_picture := (fun_mk (st := s_Album_has_picture) l22 c22 k22).binds (ps := ["self", "p"]) fun _ _ _ _ _ _ us hl => match us, hl with | [_, _], _ => rfl, m_Album_has_picture := ⟨a22, i22, k22⟩, F_Album_places_of_picture := fun_mk (st := s_Album_places_of_picture) l23 c23 k23, b_Album_places_of_picture := (fun_mk (st := s_Album_places_of_picture) l23 c23 k23).binds (ps := ["self", "p"]) fun _ _ _ _ _ _ us hl => match us, hl with | [_, _], _ => rfl, m_Album_places_of_picture := ⟨a23, i23, k23⟩, F_Album_rows_of_picture := fun_mk (st := s_Album_rows_of_picture) l24 c24 k24, b_Album_rows_of_picture := (fun_mk (st := s_Album_rows_of_picture) l24 c24 k24).binds (ps := ["self", "p"]) fun _ _ _ _ _ _ us hl => match us, hl with | [_, _], _ => rfl, m_Album_rows_of_picture := ⟨a24, i24, k24⟩, F_Album_drop_picture := fun_mk (st := s_Album_drop_picture) l25 c25 k25, b_Album_drop_picture := (fun_mk (st := s_Album_drop_picture) l25 c25 k25).binds (ps := ["self", "p"]) fun _ _ _ _ _ _ us hl => match us, hl with | [_, _], _ => rfl, m_Album_drop_picture := ⟨a25, i25, k25⟩, F_Album_lay_page := fun_mk (st := s_Album_lay_page) l26 c26 k26, b_Album_lay_page := (fun_mk (st := s_Album_lay_page) l26 c26 k26).binds (ps := ["self", "p", "wide", "high"]) fun _ _ _ _ _ _ us hl => match us, hl with | [_, _, _, _], _ => rfl, m_Album_lay_page := ⟨a26, i26, k26⟩, F_Album_change_picture := fun_mk (st := s_Album_change_picture) l27 c27 k27, b_Album_change_picture := (fun_mk (st := s_Album_change_picture) l27 c27 k27).binds (ps := ["self", "p", "rows"]) fun _ _ _ _ _ _ us hl => match us, hl with | [_, _, _], _ => rfl, m_Album_change_picture := ⟨a27, i27, k27⟩, F_Album_copy_picture := fun_mk (st := s_Album_copy_picture) l28 c28 k28, b_Album_copy_picture := (fun_mk (st := s_Album_copy_picture) l28 c28 k28).binds (ps := ["self", "p", "q"]) fun _ _ _ _ _ _ us hl => match us, hl with | [_, _, _], _ => rfl, m_Album_copy_picture := ⟨a28, i28, k28⟩, F_Album_has_been_before := fun_mk (st := s_Album_has_been_before) l29 c29 k29, b_Album_has_been_before := (fun_mk (st := s_Album_has_been_before) l29 c29 k29).binds (ps := ["self", "p"]) fun _ _ _ _ _ _ us hl => match us, hl with | [_, _], _ => rfl, m_Album_has_been_before := ⟨a29, i29, k29⟩, F_Album_step_back := fun_mk (st := s_Album_step_back) l30 c30 k30, b_Album_step_back := (fun_mk (st := s_Album_step_back) l30 c30 k30).binds (ps := ["self", "p"]) fun _ _ _ _ _ _ us hl => match us, hl with | [_, _], _ => rfl, m_Album_step_back := ⟨a30, i30, k30⟩, F_is_side := fun_mk (st := s_is_side) l31 c31 k31, b_is_side := (fun_mk (st := s_is_side) l31 c31 k31).binds (ps := ["number"]) fun _ _ _ _ _ _ us hl => match us, hl with | [_], _ => rfl, g_is_side := PySem.W.mg_of X G a31, F_answer_page := fun_mk (st := s_answer_page) l32 c32 k32, b_answer_page := (fun_mk (st := s_answer_page) l32 c32 k32).binds (ps := ["album", "p", "w", "h"]) fun _ _ _ _ _ _ us hl => match us, hl with | [_, _, _, _], _ => rfl, g_answer_page := PySem.W.mg_of X G a32, F_answer_change := fun_mk (st := s_answer_change) l33 c33 k33, b_answer_change := (fun_mk (st := s_answer_change) l33 c33 k33).binds (ps := ["album", "p", "rows"]) fun _ _ _ _ _ _ us hl => match us, hl with | [_, _, _], _ => rfl, g_answer_change := PySem.W.mg_of X G a33, F_answer_box := fun_mk (st := s_answer_box) l34 c34 k34, b_answer_box := (fun_mk (st := s_answer_box) l34 c34 k34).binds (ps := ["album", "p", "x", "y", "u", "v", "n"]) fun _ _ _ _ _ _ us hl => match us, hl with | [_, _, _, _, _, _, _], _ => rfl, g_answer_box := PySem.W.mg_of X G a34, F_answer_dots := fun_mk (st := s_answer_dots) l35 c35 k35, b_answer_dots := (fun_mk (st := s_answer_dots) l35 c35 k35).binds (ps := ["album", "p", "dots"]) fun _ _ _ _ _ _ us hl => match us, hl with | [_, _, _], _ => rfl, g_answer_dots := PySem.W.mg_of X G a35, F_answer_shift := fun_mk (st := s_answer_shift) l36 c36 k36, b_answer_shift := (fun_mk (st := s_answer_shift) l36 c36 k36).binds (ps := ["album", "p", "n"]) fun _ _ _ _ _ _ us hl => match us, hl with | [_, _, _], _ => rfl, g_answer_shift := PySem.W.mg_of X G a36, F_answer_copy := fun_mk (st := s_answer_copy) l37 c37 k37, b_answer_copy := (fun_mk (st := s_answer_copy) l37 c37 k37).binds (ps := ["album", "p", "q"]) fun _ _ _ _ _ _ us hl => match us, hl with | [_, _, _], _ => rfl, g_answer_copy := PySem.W.mg_of X G a37, F_answer_paste := fun_mk (st := s_answer_paste) l38 c38 k38, b_answer_paste := (fun_mk (st := s_answer_paste) l38 c38 k38).binds (ps := ["album", "p", "q", "x", "y"]) fun _ _ _ _ _ _ us hl => match us, hl with | [_, _, _, _, _], _ => rfl, g_answer_paste := PySem.W.mg_of X G a38, F_answer_undo := fun_mk (st := s_answer_undo) l39 c39 k39, b_answer_undo := (fun_mk (st := s_answer_undo) l39 c39 k39).binds (ps := ["album", "p"]) fun _ _ _ _ _ _ us hl => match us, hl with | [_, _], _ => rfl, g_answer_undo := PySem.W.mg_of X G a39, F_answer_close := fun_mk (st := s_answer_close) l40 c40 k40, b_answer_close := (fun_mk (st := s_answer_close) l40 c40 k40).binds (ps := ["album", "p"]) fun _ _ _ _ _ _ us hl => match us, hl with | [_, _], _ => rfl, g_answer_close := PySem.W.mg_of X G a40, F_answer_cells := fun_mk (st := s_answer_cells) l41 c41 k41, b_answer_cells := (fun_mk (st := s_answer_cells) l41 c41 k41).binds (ps := ["album", "p"]) fun _ _ _ _ _ _ us hl => match us, hl with | [_, _], _ => rfl, g_answer_cells := PySem.W.mg_of X G a41, F_answer_cell := fun_mk (st := s_answer_cell) l42 c42 k42, b_answer_cell := (fun_mk (st := s_answer_cell) l42 c42 k42).binds (ps := ["album", "p", "x", "y"]) fun _ _ _ _ _ _ us hl => match us, hl with | [_, _, _, _], _ => rfl, g_answer_cell := PySem.W.mg_of X G a42, F_answer_tile := fun_mk (st := s_answer_tile) l43 c43 k43, b_answer_tile := (fun_mk (st := s_answer_tile) l43 c43 k43).binds (ps := ["album", "p", "i"]) fun _ _ _ _ _ _ us hl => match us, hl with | [_, _, _], _ => rfl, g_answer_tile := PySem.W.mg_of X G a43, F_same_at := fun_mk (st := s_same_at) l44 c44 k44, b_same_at := (fun_mk (st := s_same_at) l44 c44 k44).binds (ps := ["places", "others"]) fun _ _ _ _ _ _ us hl => match us, hl with | [_, _], _ => rfl, g_same_at := PySem.W.mg_of X G a44, F_answer_same := fun_mk (st := s_answer_same) l45 c45 k45, b_answer_same := (fun_mk (st := s_answer_same) l45 c45 k45).binds (ps := ["album", "p", "q"]) fun _ _ _ _ _ _ us hl => match us, hl with | [_, _, _], _ => rfl, g_answer_same := PySem.W.mg_of X G a45, F_answer_store := fun_mk (st := s_answer_store) l46 c46 k46, b_answer_store := (fun_mk (st := s_answer_store) l46 c46 k46).binds (ps := ["album"]) fun _ _ _ _ _ _ us hl => match us, hl with | [_], _ => rfl, g_answer_store := PySem.W.mg_of X G a46, F_answer_slot := fun_mk (st := s_answer_slot) l47 c47 k47, b_answer_slot := (fun_mk (st := s_answer_slot) l47 c47 k47).binds (ps := ["album", "i"]) fun _ _ _ _ _ _ us hl => match us, hl with | [_, _], _ => rfl, g_answer_slot := PySem.W.mg_of X G a47, F_answer_changing := fun_mk (st := s_answer_changing) l48 c48 k48, b_answer_changing := (fun_mk (st := s_answer_changing) l48 c48 k48).binds (ps := ["album", "call", "given", "row"]) fun _ _ _ _ _ _ us hl => match us, hl with | [_, _, _, _], _ => rfl, g_answer_changing := PySem.W.mg_of X G a48, F_answer_telling := fun_mk (st := s_answer_telling) l49 c49 k49, b_answer_telling := (fun_mk (st := s_answer_telling) l49 c49 k49).binds (ps := ["album", "call", "given"]) fun _ _ _ _ _ _ us hl => match us, hl with | [_, _, _], _ => rfl, g_answer_telling := PySem.W.mg_of X G a49, F_answer_call := fun_mk (st := s_answer_call) l50 c50 k50, b_answer_call := (fun_mk (st := s_answer_call) l50 c50 k50).binds (ps := ["album", "call", "given", "row"]) fun _ _ _ _ _ _ us hl => match us, hl with | [_, _, _, _], _ => rfl, g_answer_call := PySem.W.mg_of X G a50, F_row_at := fun_mk (st := s_row_at) l51 c51 k51, b_row_at := (fun_mk (st := s_row_at) l51 c51 k51).binds (ps := ["calls", "at"]) fun _ _ _ _ _ _ us hl => match us, hl with | [_, _], _ => rfl, g_row_at := PySem.W.mg_of X G a51, F_answers := fun_mk (st := s_answers) l52 c52 k52, b_answers := (fun_mk (st := s_answers) l52 c52 k52).binds (ps := ["calls"]) fun _ _ _ _ _ _ us hl => match us, hl with | [_], _ => rfl, g_answers := PySem.W.mg_of X G a52 }

end TS
namespace TS
open PySem PySem.Spec PyProof.Rows L2
theorem top_mk {P : Program} {w : World} {K : PySem.W.Frag} {mg : Str → Option Value} {fa : Addr} (h : ∃ A : Ad, Txt K mg A ∧ A.f_answers = fa ∧ ∀ (s : Shared) (us : List Value), us.length = (["calls"] : List Str).length → BindsTo s A.fd_answers ⟨us, []⟩ ((["calls"] : List Str).zip us)) :
    ∃ fd : FuncData, (∀ (s : Shared) (us : List Value), us.length = (["calls"] : List Str).length → BindsTo s fd ⟨us, []⟩ ((["calls"] : List Str).zip us)) ∧ ∀ base : Heap, K.In base → base.Ns mainGlobals mg → FnOk P w K mg base CX0 11 fa fd ["calls"] (spTop K) := by
  obtain ⟨A, T, rfl, hb⟩ := h
  exact ⟨A.fd_answers, hb, fun base _ _ => ok_answers T⟩
end TS
open PySem PySem.W PyProof.Rows
set_option maxRecDepth 100000 in
set_option maxHeartbeats 8000000 in
theorem PySem.Challenge.cw_tilestore_s01_answers_holds : PySem.Challenge.rw_tilestore_s01_answers.Holds := by
  w_on; k_headS; (case hw => exact ⟨[.list [.int 12]], by decide +kernel, by decide +kernel⟩)
  k_fillS
  refine L2.walk_specK (r := PySem.Challenge.rw_tilestore_s01_answers) (k := 11) (CX := L2.CX0) (ps := ["calls"]) (sp := TS.spTop) (by decide +kernel) rfl rfl ⟨rfl, by decide, by decide⟩ (fun w h Y => PySem.W.kIn_of Y) ?F ?S (fun _ _ _ _ z => z)
  case F =>
    intro w mg fa h Y KX G hmg
    refine' TS.top_mk (TS.all_mk KX G hmg ?z_len ?z_list ?z_min ?z_range ?z_set ?z_sum ?z_tuple ?g_SIDE ?g_LARGEST_CELL ?g_MOST_BEFORE ?g_PAGE ?g_BOX ?g_DOTS ?g_SHIFT ?g_COPY ?g_PASTE ?g_UNDO ?g_CLOSE ?g_CELLS ?g_CELL ?g_TILE ?g_SAME ?g_STORE ?g_LAST_PICTURE ?g_LONGEST_SIDE ?g_NO_PICTURE ?g_NOT_AS_TOLD ?g_NOT_BEFORE ?g_FREE_PLACE ?g_BLANK_TILE ?l_BLANK_TILE ?s_BLANK_TILE ?v_BLANK_TILE ?g_WHOLE_NUMBERS ?l_WHOLE_NUMBERS ?s_WHOLE_NUMBERS ?v_WHOLE_NUMBERS ?a_Store ?pg_Store ?hd_Store ?po_Store ?sa_Store ?mk_Store ?kc_Store ?n_Store_tiles ?n_Store_counts ?a_Picture ?pg_Picture ?hd_Picture ?po_Picture ?sa_Picture ?mk_Picture ?kc_Picture ?n_Picture_wide ?n_Picture_places ?n_Picture_before ?a_Album ?pg_Album ?hd_Album ?po_Album ?sa_Album ?mk_Album ?kc_Album ?n_Album_store ?n_Album_pictures ?a0 ?l0 ?c0 ?k0 ?a1 ?l1 ?c1 ?k1 ?a2 ?l2 ?c2 ?k2 ?a3 ?l3 ?c3 ?k3 ?a4 ?l4 ?c4 ?k4 ?a5 ?l5 ?c5 ?k5 ?a6 ?l6 ?c6 ?k6 ?a7 ?l7 ?c7 ?k7 ?a8 ?l8 ?c8 ?k8 ?a9 ?l9 ?c9 ?k9 ?a10 ?i10 ?l10 ?c10 ?k10 ?a11 ?i11 ?l11 ?c11 ?k11 ?a12 ?i12 ?l12 ?c12 ?k12 ?a13 ?i13 ?l13 ?c13 ?k13 ?a14 ?i14 ?l14 ?c14 ?k14 ?a15 ?i15 ?l15 ?c15 ?k15 ?a16 ?i16 ?l16 ?c16 ?k16 ?a17 ?i17 ?l17 ?c17 ?k17 ?a18 ?i18 ?l18 ?c18 ?k18 ?a19 ?i19 ?l19 ?c19 ?k19 ?a20 ?i20 ?l20 ?c20 ?k20 ?a21 ?i21 ?l21 ?c21 ?k21 ?a22 ?i22 ?l22 ?c22 ?k22 ?a23 ?i23 ?l23 ?c23 ?k23 ?a24 ?i24 ?l24 ?c24 ?k24 ?a25 ?i25 ?l25 ?c25 ?k25 ?a26 ?i26 ?l26 ?c26 ?k26 ?a27 ?i27 ?l27 ?c27 ?k27 ?a28 ?i28 ?l28 ?c28 ?k28 ?a29 ?i29 ?l29 ?c29 ?k29 ?a30 ?i30 ?l30 ?c30 ?k30 ?a31 ?l31 ?c31 ?k31 ?a32 ?l32 ?c32 ?k32 ?a33 ?l33 ?c33 ?k33 ?a34 ?l34 ?c34 ?k34 ?a35 ?l35 ?c35 ?k35 ?a36 ?l36 ?c36 ?k36 ?a37 ?l37 ?c37 ?k37 ?a38 ?l38 ?c38 ?k38 ?a39 ?l39 ?c39 ?k39 ?a40 ?l40 ?c40 ?k40 ?a41 ?l41 ?c41 ?k41 ?a42 ?l42 ?c42 ?k42 ?a43 ?l43 ?c43 ?k43 ?a44 ?l44 ?c44 ?k44 ?a45 ?l45 ?c45 ?k45 ?a46 ?l46 ?c46 ?k46 ?a47 ?l47 ?c47 ?k47 ?a48 ?l48 ?c48 ?k48 ?a49 ?l49 ?c49 ?k49 ?a50 ?l50 ?c50 ?k50 ?a51 ?l51 ?c51 ?k51 ?a52 ?l52 ?c52 ?k52)
    (case z_len => k_is)
    (case z_list => k_is)
    (case z_min => k_is)
    (case z_range => k_is)
    (case z_set => k_is)
    (case z_sum => k_is)
    (case z_tuple => k_is)
    (case g_SIDE => k_is)
    (case g_LARGEST_CELL => k_is)
    (case g_MOST_BEFORE => k_is)
    (case g_PAGE => k_is)
    (case g_BOX => k_is)
    (case g_DOTS => k_is)
    (case g_SHIFT => k_is)
    (case g_COPY => k_is)
    (case g_PASTE => k_is)
    (case g_UNDO => k_is)
    (case g_CLOSE => k_is)
    (case g_CELLS => k_is)
    (case g_CELL => k_is)
    (case g_TILE => k_is)
    (case g_SAME => k_is)
    (case g_STORE => k_is)
    (case g_LAST_PICTURE => k_is)
    (case g_LONGEST_SIDE => k_is)
    (case g_NO_PICTURE => k_is)
    (case g_NOT_AS_TOLD => k_is)
    (case g_NOT_BEFORE => k_is)
    (case g_FREE_PLACE => k_is)
    (case g_BLANK_TILE => k_is)
    (case l_BLANK_TILE => k_is)
    (case s_BLANK_TILE => decide +kernel)
    (case v_BLANK_TILE => exact .cons ⟨_, rfl⟩ (.cons ⟨_, rfl⟩ (.cons ⟨_, rfl⟩ (.cons ⟨_, rfl⟩ (.cons ⟨_, rfl⟩ (.cons ⟨_, rfl⟩ (.cons ⟨_, rfl⟩ (.cons ⟨_, rfl⟩ (.cons ⟨_, rfl⟩ (.cons ⟨_, rfl⟩ (.cons ⟨_, rfl⟩ (.cons ⟨_, rfl⟩ (.cons ⟨_, rfl⟩ (.cons ⟨_, rfl⟩ (.cons ⟨_, rfl⟩ (.cons ⟨_, rfl⟩ (.nil)))))))))))))))))
    (case g_WHOLE_NUMBERS => k_is)
    (case l_WHOLE_NUMBERS => k_is)
    (case s_WHOLE_NUMBERS => decide +kernel)
    (case v_WHOLE_NUMBERS => exact .cons ⟨_, rfl⟩ (.cons ⟨_, rfl⟩ (.cons ⟨_, rfl⟩ (.cons ⟨_, rfl⟩ (.cons ⟨_, rfl⟩ (.cons ⟨_, rfl⟩ (.cons ⟨_, rfl⟩ (.cons ⟨_, rfl⟩ (.cons ⟨_, rfl⟩ (.cons ⟨_, rfl⟩ (.cons ⟨_, rfl⟩ (.cons ⟨_, rfl⟩ (.cons ⟨_, rfl⟩ (.cons ⟨_, rfl⟩ (.nil)))))))))))))))
    (case a_Store => k_is)
    (case pg_Store => k_is)
    (case hd_Store => k_is)
    (case po_Store => k_is)
    (case sa_Store => k_is)
    (case mk_Store => k_is)
    (case kc_Store => k_is)
    (case n_Store_tiles => k_is)
    (case n_Store_counts => k_is)
    (case a_Picture => k_is)
    (case pg_Picture => k_is)
    (case hd_Picture => k_is)
    (case po_Picture => k_is)
    (case sa_Picture => k_is)
    (case mk_Picture => k_is)
    (case kc_Picture => k_is)
    (case n_Picture_wide => k_is)
    (case n_Picture_places => k_is)
    (case n_Picture_before => k_is)
    (case a_Album => k_is)
    (case pg_Album => k_is)
    (case hd_Album => k_is)
    (case po_Album => k_is)
    (case sa_Album => k_is)
    (case mk_Album => k_is)
    (case kc_Album => k_is)
    (case n_Album_store => k_is)
    (case n_Album_pictures => k_is)
    (case a0 => k_is)
    (case l0 => k_is)
    (case c0 => k_is)
    (case k0 => k_is)
    (case a1 => k_is)
    (case l1 => k_is)
    (case c1 => k_is)
    (case k1 => k_is)
    (case a2 => k_is)
    (case l2 => k_is)
    (case c2 => k_is)
    (case k2 => k_is)
    (case a3 => k_is)
    (case l3 => k_is)
    (case c3 => k_is)
    (case k3 => k_is)
    (case a4 => k_is)
    (case l4 => k_is)
    (case c4 => k_is)
    (case k4 => k_is)
    (case a5 => k_is)
    (case l5 => k_is)
    (case c5 => k_is)
    (case k5 => k_is)
    (case a6 => k_is)
    (case l6 => k_is)
    (case c6 => k_is)
    (case k6 => k_is)
    (case a7 => k_is)
    (case l7 => k_is)
    (case c7 => k_is)
    (case k7 => k_is)
    (case a8 => k_is)
    (case l8 => k_is)
    (case c8 => k_is)
    (case k8 => k_is)
    (case a9 => k_is)
    (case l9 => k_is)
    (case c9 => k_is)
    (case k9 => k_is)
    (case a10 => k_is)
    (case i10 => k_is)
    (case l10 => k_is)
    (case c10 => k_is)
    (case k10 => k_is)
    (case a11 => k_is)
    (case i11 => k_is)
    (case l11 => k_is)
    (case c11 => k_is)
    (case k11 => k_is)
    (case a12 => k_is)
    (case i12 => k_is)
    (case l12 => k_is)
    (case c12 => k_is)
    (case k12 => k_is)
    (case a13 => k_is)
    (case i13 => k_is)
    (case l13 => k_is)
    (case c13 => k_is)
    (case k13 => k_is)
    (case a14 => k_is)
    (case i14 => k_is)
    (case l14 => k_is)
    (case c14 => k_is)
    (case k14 => k_is)
    (case a15 => k_is)
    (case i15 => k_is)
    (case l15 => k_is)
    (case c15 => k_is)
    (case k15 => k_is)
    (case a16 => k_is)
    (case i16 => k_is)
    (case l16 => k_is)
    (case c16 => k_is)
    (case k16 => k_is)
    (case a17 => k_is)
    (case i17 => k_is)
    (case l17 => k_is)
    (case c17 => k_is)
    (case k17 => k_is)
    (case a18 => k_is)
    (case i18 => k_is)
    (case l18 => k_is)
    (case c18 => k_is)
    (case k18 => k_is)
    (case a19 => k_is)
    (case i19 => k_is)
    (case l19 => k_is)
    (case c19 => k_is)
    (case k19 => k_is)
    (case a20 => k_is)
    (case i20 => k_is)
    (case l20 => k_is)
    (case c20 => k_is)
    (case k20 => k_is)
    (case a21 => k_is)
    (case i21 => k_is)
    (case l21 => k_is)
    (case c21 => k_is)
    (case k21 => k_is)
    (case a22 => k_is)
    (case i22 => k_is)
    (case l22 => k_is)
    (case c22 => k_is)
    (case k22 => k_is)
    (case a23 => k_is)
    (case i23 => k_is)
    (case l23 => k_is)
    (case c23 => k_is)
    (case k23 => k_is)
    (case a24 => k_is)
    (case i24 => k_is)
    (case l24 => k_is)
    (case c24 => k_is)
    (case k24 => k_is)
    (case a25 => k_is)
    (case i25 => k_is)
    (case l25 => k_is)
    (case c25 => k_is)
    (case k25 => k_is)
    (case a26 => k_is)
    (case i26 => k_is)
    (case l26 => k_is)
    (case c26 => k_is)
    (case k26 => k_is)
    (case a27 => k_is)
    (case i27 => k_is)
    (case l27 => k_is)
    (case c27 => k_is)
    (case k27 => k_is)
    (case a28 => k_is)
    (case i28 => k_is)
    (case l28 => k_is)
    (case c28 => k_is)
    (case k28 => k_is)
    (case a29 => k_is)
    (case i29 => k_is)
    (case l29 => k_is)
    (case c29 => k_is)
    (case k29 => k_is)
    (case a30 => k_is)
    (case i30 => k_is)
    (case l30 => k_is)
    (case c30 => k_is)
    (case k30 => k_is)
    (case a31 => k_is)
    (case l31 => k_is)
    (case c31 => k_is)
    (case k31 => k_is)
    (case a32 => k_is)
    (case l32 => k_is)
    (case c32 => k_is)
    (case k32 => k_is)
    (case a33 => k_is)
    (case l33 => k_is)
    (case c33 => k_is)
    (case k33 => k_is)
    (case a34 => k_is)
    (case l34 => k_is)
    (case c34 => k_is)
    (case k34 => k_is)
    (case a35 => k_is)
    (case l35 => k_is)
    (case c35 => k_is)
    (case k35 => k_is)
    (case a36 => k_is)
    (case l36 => k_is)
    (case c36 => k_is)
    (case k36 => k_is)
    (case a37 => k_is)
    (case l37 => k_is)
    (case c37 => k_is)
    (case k37 => k_is)
    (case a38 => k_is)
    (case l38 => k_is)
    (case c38 => k_is)
    (case k38 => k_is)
    (case a39 => k_is)
    (case l39 => k_is)
    (case c39 => k_is)
    (case k39 => k_is)
    (case a40 => k_is)
    (case l40 => k_is)
    (case c40 => k_is)
    (case k40 => k_is)
    (case a41 => k_is)
    (case l41 => k_is)
    (case c41 => k_is)
    (case k41 => k_is)
    (case a42 => k_is)
    (case l42 => k_is)
    (case c42 => k_is)
    (case k42 => k_is)
    (case a43 => k_is)
    (case l43 => k_is)
    (case c43 => k_is)
    (case k43 => k_is)
    (case a44 => k_is)
    (case l44 => k_is)
    (case c44 => k_is)
    (case k44 => k_is)
    (case a45 => k_is)
    (case l45 => k_is)
    (case c45 => k_is)
    (case k45 => k_is)
    (case a46 => k_is)
    (case l46 => k_is)
    (case c46 => k_is)
    (case k46 => k_is)
    (case a47 => k_is)
    (case l47 => k_is)
    (case c47 => k_is)
    (case k47 => k_is)
    (case a48 => k_is)
    (case l48 => k_is)
    (case c48 => k_is)
    (case k48 => k_is)
    (case a49 => k_is)
    (case l49 => k_is)
    (case c49 => k_is)
    (case k49 => k_is)
    (case a50 => k_is)
    (case l50 => k_is)
    (case c50 => k_is)
    (case k50 => k_is)
    (case a51 => k_is)
    (case l51 => k_is)
    (case c51 => k_is)
    (case k51 => k_is)
    (case a52 => k_is)
    (case l52 => k_is)
    (case c52 => k_is)
    (case k52 => k_is)

  case S =>
    intro K H xs a hO hwi hask hx
    cases hx with
    | cons h1 h2 =>
      cases h2
      cases h1 with
      | lst hs ha =>
        have e := L2.ints_dw a.1 _ ha
        subst e
        have q : ((Codec.inLen 0 12200 a.1 && a.1.all (Codec.inInt 0 4294967295)) && true) = true := hwi
        rw [Bool.and_eq_true, Bool.and_eq_true] at q
        refine ⟨_, a.1, rfl, hs, (Codec.inNat_iff.mp q.1.1).2, fun z hz => ?_, hask, fun H' p hp => .lst (L2.SqL.of hp) (L2.dw_ints _)⟩
        have h3 := List.all_eq_true.mp q.1.2 z hz
        exact Codec.inInt_iff.mp h3
