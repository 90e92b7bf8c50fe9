import PyProof.Rows.All
import Wide.All
import OpenK.AllK
import Wide.FinOn
import PyProof.EqAt
import PyProof.EqKinds
import PyProof.TupleCall
import Open.SpecLaws
import KE.OsGo
import HandS.ForMost
import HandS.ForSpec
import HandS.Zip
import PySem.Challenge.RW_layeredpage_s01_answers
import KE.OsRun
set_option linter.all false
/-! plain mathematics: what is well formed; pictures -/
namespace Lp
open Ie13
structure Lok (n : Nat) (l : Layer) : Prop where
  len : l.dots.length = n
  way : l.way ≤ 3
  much : l.much ≤ 255
  dots : ∀ x ∈ l.dots, x.tone ≤ 255 ∧ x.much ≤ 255
structure Wf (d : Doc) : Prop where
  w1 : 1 ≤ d.w
  w6 : d.w ≤ 6
  h1 : 1 ≤ d.h
  h6 : d.h ≤ 6
  glen : d.ground.length = d.n
  gt : ∀ t ∈ d.ground, t ≤ 255
  l5 : d.layers.length ≤ 5
  lays : ∀ l ∈ d.layers, Lok d.n l
  clen : d.chosen.length = d.n
  at0 : d.layers = [] → d.at_ = 0
  at1 : d.layers ≠ [] → d.at_ < d.layers.length
  nx : 1 ≤ d.next
theorem Wf.n36 {d : Doc} (h : Wf d) : d.n ≤ 36 := by
  have a := h.w6; have b := h.h6
  exact Nat.le_trans (Nat.mul_le_mul a b) (by decide)
theorem Wf.n1 {d : Doc} (h : Wf d) : 1 ≤ d.n := Nat.mul_le_mul h.w1 h.h1
theorem near_le {a b m : Nat} (hb : 0 < b) (h : a ≤ m * b) : near a b ≤ m := by
  unfold near
  rw [← Nat.lt_succ_iff, Nat.div_lt_iff_lt_mul (by omega)]
  have : (m + 1) * (2 * b) = 2 * (m * b) + 2 * b := by rw [Nat.succ_mul, ← Nat.mul_assoc, Nat.mul_comm m 2, Nat.mul_assoc]
  rw [this]; omega
theorem mixed_le {y b t : Nat} (hb : b ≤ 255) (ht : t ≤ 255) : mixed y b t ≤ 255 := by
  unfold mixed
  split
  · exact ht
  · exact near_le (by decide) (Nat.mul_le_mul hb ht)
  · omega
  · omega
theorem mul_le_65025 {a b : Nat} (ha : a ≤ 255) (hb : b ≤ 255) : a * b ≤ 65025 := Nat.mul_le_mul ha hb
theorem cover_le {b k m : Nat} (hb : b ≤ 255) (hk : k ≤ 65025) (hm : m ≤ 255) : near ((65025 - k) * b + k * m) 65025 ≤ 255 := by
  refine near_le (by decide) ?_
  have h1 : (65025 - k) * b ≤ (65025 - k) * 255 := Nat.mul_le_mul (Nat.le_refl _) hb
  have h2 : k * m ≤ k * 255 := Nat.mul_le_mul (Nat.le_refl _) hm
  omega
theorem Lok.dot {n : Nat} {l : Layer} (h : Lok n l) (i : Nat) : (l.dot i).tone ≤ 255 ∧ (l.dot i).much ≤ 255 := by
  unfold Layer.dot
  rw [List.getD_eq_getElem?_getD]
  cases e : l.dots[i]? with
  | none => exact ⟨Nat.zero_le _, Nat.zero_le _⟩
  | some x => exact h.dots x (List.mem_of_getElem? e)
theorem over_le {n : Nat} {l : Layer} (h : Lok n l) {b : Nat} (hb : b ≤ 255) (i : Nat) : over b l i ≤ 255 := by
  unfold over
  split
  · exact hb
  · exact cover_le hb (mul_le_65025 (h.dot i).2 h.much) (mixed_le hb (h.dot i).1)
theorem foldl_over_le {n : Nat} (i : Nat) : ∀ (ls : List Layer) (b : Nat), (∀ l ∈ ls, Lok n l) → b ≤ 255 → ls.foldl (fun b l => over b l i) b ≤ 255
  | [], b, _, hb => hb
  | l :: ls, b, h, hb => foldl_over_le i ls _ (fun x hx => h x (List.mem_cons_of_mem _ hx)) (over_le (h l List.mem_cons_self) hb i)
theorem getD_le {l : List Nat} {m : Nat} (h : ∀ t ∈ l, t ≤ m) (i : Nat) : l.getD i 0 ≤ m := by
  rw [List.getD_eq_getElem?_getD]
  cases e : l[i]? with
  | none => exact Nat.zero_le _
  | some x => exact h x (List.mem_of_getElem? e)
theorem range_getD {α : Type} {l : List α} {n : Nat} (h : l.length = n) (x : α) : (List.range n).map (fun i => l.getD i x) = l := by
  subst h
  apply List.ext_getElem?
  intro i
  rw [List.getElem?_map]
  by_cases c : i < l.length
  · rw [List.getElem?_range c, List.getElem?_eq_getElem c]; simp [c]
  · rw [List.getElem?_eq_none (by simpa using c), List.getElem?_eq_none (by simpa using c)]; rfl
theorem getD_range {α : Type} (f : Nat → α) {n i : Nat} (h : i < n) (x : α) : ((List.range n).map f).getD i x = f i := by
  rw [List.getD_eq_getElem?_getD, List.getElem?_map, List.getElem?_range h]; rfl
theorem getD_rep {α : Type} {x : α} {n i : Nat} (h : i < n) (d : α) : (List.replicate n x).getD i d = x := by
  rw [List.getD_eq_getElem?_getD, List.getElem?_replicate, if_pos h]; rfl
theorem get_getD {α : Type} {l : List α} {i : Nat} (h : i < l.length) (x : α) : l[i]? = some (l.getD i x) := by
  rw [List.getElem?_eq_getElem h]; simp [h]
end Lp
/-! plain mathematics: the cells that one comes to -/
namespace Lp
open Ie13
def adj (w t : Nat) (p : List Nat) (a b : Nat) : Bool := beside w a b && decide (gap (p.getD a 0) (p.getD b 0) ≤ t)
/-- one comes to b from s -/
inductive Rch (w n t : Nat) (p : List Nat) (s : Nat) : Nat → Prop
  | here : Rch w n t p s s
  | next {a b : Nat} : Rch w n t p s a → adj w t p a b = true → b < n → Rch w n t p s b
def rnd (w n t : Nat) (p l : List Nat) : List Nat := (List.range n).filter fun b => l.contains b || l.any fun a => adj w t p a b
theorem reach_succ (w n t : Nat) (p : List Nat) (k : Nat) (l : List Nat) : reach w n t p (k + 1) l = reach w n t p k (rnd w n t p l) := rfl
theorem mem_rnd {w n t : Nat} {p l : List Nat} {b : Nat} : b ∈ rnd w n t p l ↔ b < n ∧ (b ∈ l ∨ ∃ a ∈ l, adj w t p a b = true) := by
  unfold rnd
  simp [List.mem_filter, List.any_eq_true]
def ClosedL (w n t : Nat) (p l : List Nat) : Prop := ∀ a ∈ l, ∀ b, b < n → adj w t p a b = true → b ∈ l
theorem filter_len {α : Type} (p q : α → Bool) : ∀ (L : List α), (∀ x ∈ L, p x = true → q x = true) → (L.filter p).length ≤ (L.filter q).length ∧ ((L.filter p).length = (L.filter q).length → L.filter p = L.filter q)
  | [], _ => ⟨Nat.le_refl _, fun _ => rfl⟩
  | x :: L, h => by
    have ih := filter_len p q L fun y hy => h y (List.mem_cons_of_mem _ hy)
    have hx := h x List.mem_cons_self
    cases hp : p x with
    | true =>
      have hq := hx hp
      simp only [List.filter_cons, hp, hq, if_true, List.length_cons]
      exact ⟨by omega, fun e => by rw [ih.2 (by omega)]⟩
    | false =>
      cases hq : q x with
      | true =>
        simp only [List.filter_cons, hp, hq, if_true, Bool.false_eq_true, if_false, List.length_cons]
        exact ⟨by omega, fun e => by omega⟩
      | false =>
        simp only [List.filter_cons, hp, hq, Bool.false_eq_true, if_false]
        exact ih
/-- lists that are cut out of 0 .. n - 1 -/
def Cut (n : Nat) (l : List Nat) : Prop := ∃ P : Nat → Bool, l = (List.range n).filter P
theorem rnd_cut (w n t : Nat) (p l : List Nat) : Cut n (rnd w n t p l) := ⟨_, rfl⟩
theorem rnd_grow {w n t : Nat} {p l : List Nat} (h : Cut n l) : l.length ≤ (rnd w n t p l).length ∧ (l.length = (rnd w n t p l).length → rnd w n t p l = l) := by
  obtain ⟨P, rfl⟩ := h
  have z := filter_len P (fun b => ((List.range n).filter P).contains b || ((List.range n).filter P).any fun a => adj w t p a b) (List.range n) (fun x hx hp => by
    have : x ∈ (List.range n).filter P := List.mem_filter.mpr ⟨hx, hp⟩
    simp only [List.contains_iff_mem.mpr this, Bool.true_or])
  exact ⟨z.1, fun e => (z.2 e).symm⟩
theorem closed_of_eq {w n t : Nat} {p l : List Nat} (h : rnd w n t p l = l) : ClosedL w n t p l := fun a ha b hb e => by
  rw [← h, mem_rnd]; exact ⟨hb, .inr ⟨a, ha, e⟩⟩
theorem reach_fix {w n t : Nat} {p l : List Nat} (h : rnd w n t p l = l) : ∀ k, reach w n t p k l = l
  | 0 => rfl
  | k + 1 => by rw [reach_succ, h]; exact reach_fix h k
theorem reach_grow {w n t : Nat} {p : List Nat} : ∀ (k : Nat) (l : List Nat), Cut n l → ClosedL w n t p (reach w n t p k l) ∨ (k + l.length ≤ (reach w n t p k l).length)
  | 0, l, _ => .inr (by show 0 + l.length ≤ l.length; omega)
  | k + 1, l, h => by
    have g := rnd_grow (w := w) (t := t) (p := p) h
    by_cases c : l.length = (rnd w n t p l).length
    · left
      rw [reach_fix (g.2 c)]
      exact closed_of_eq (g.2 c)
    · rw [reach_succ]
      rcases reach_grow k (rnd w n t p l) (rnd_cut w n t p l) with x | x
      · exact .inl x
      · exact .inr (by have := g.1; omega)
theorem reach_cut {w n t : Nat} {p : List Nat} : ∀ (k : Nat) (l : List Nat), Cut n l → Cut n (reach w n t p k l)
  | 0, _, h => h
  | k + 1, l, _ => reach_cut k _ (rnd_cut w n t p l)
theorem cut_full {n : Nat} {l : List Nat} (h : Cut n l) (hl : n ≤ l.length) : ∀ b, b < n → b ∈ l := by
  obtain ⟨P, rfl⟩ := h
  have z := filter_len P (fun _ => true) (List.range n) (fun _ _ _ => rfl)
  have e : ((List.range n).filter fun _ => true) = List.range n := by simp
  rw [e, List.length_range] at z
  have z2 := z.2 (Nat.le_antisymm z.1 hl)
  intro b hb
  rw [z2]; exact List.mem_range.mpr hb
theorem reach_sub {w n t : Nat} {p : List Nat} {b : Nat} : ∀ (k : Nat) (l : List Nat), b < n → b ∈ l → b ∈ reach w n t p k l
  | 0, _, _, h => h
  | k + 1, l, hb, h => reach_sub k _ hb (mem_rnd.mpr ⟨hb, .inl h⟩)
theorem reach_sound {w n t : Nat} {p : List Nat} {s : Nat} : ∀ (k : Nat) (l : List Nat), (∀ a ∈ l, Rch w n t p s a) → ∀ b ∈ reach w n t p k l, Rch w n t p s b
  | 0, _, h => h
  | k + 1, l, h => reach_sound k _ fun b hb => by
    obtain ⟨h1, h2⟩ := mem_rnd.mp hb
    rcases h2 with h2 | ⟨a, ha, e⟩
    · exact h b h2
    · exact .next (h a ha) e h1
/-- **the specification's rounds are just the cells one comes to** -/
theorem reach_iff {w n t : Nat} {p : List Nat} {s : Nat} (hs : s < n) (b : Nat) : b ∈ reach w n t p n [s] ↔ Rch w n t p s b := by
  constructor
  · exact reach_sound n [s] (fun a ha => by rw [List.mem_singleton.mp ha]; exact .here) b
  · intro r
    have cl : ClosedL w n t p (reach w n t p n [s]) := by
      obtain ⟨m, rfl⟩ : ∃ m, n = m + 1 := ⟨n - 1, by omega⟩
      rw [reach_succ]
      rcases reach_grow m (rnd w (m + 1) t p [s]) (rnd_cut w (m + 1) t p [s]) with x | x
      · exact x
      · have h1 : s ∈ rnd w (m + 1) t p [s] := mem_rnd.mpr ⟨hs, .inl (List.mem_singleton.mpr rfl)⟩
        have h2 : 0 < (rnd w (m + 1) t p [s]).length := List.length_pos_of_mem h1
        have full := cut_full (reach_cut (w := w) (t := t) (p := p) m _ (rnd_cut w (m + 1) t p [s])) (by omega)
        exact fun a _ b hb _ => full b hb
    induction r with
    | here => exact reach_sub n [s] hs (List.mem_singleton.mpr rfl)
    | next r e hb ih => exact cl _ ih _ hb e
/-! the program's way: cells that wait -/
def nb (w h c : Nat) : List Nat := (if w ≤ c then [c - w] else []) ++ (if 0 < c % w then [c - 1] else []) ++ (if c % w < w - 1 then [c + 1] else []) ++ (if c / w < h - 1 then [c + w] else [])
theorem divmod_eq {w c d : Nat} (h1 : c % w = d % w) (h2 : c / w = d / w) : c = d := by
  rw [← Nat.div_add_mod c w, ← Nat.div_add_mod d w, h1, h2]
theorem mem_nb {w h c b : Nat} (hw : 1 ≤ w) (hh : 1 ≤ h) (hc : c < w * h) : b ∈ nb w h c ↔ b < w * h ∧ beside w c b = true := by
  have hr : c / w < h := Nat.div_lt_of_lt_mul hc
  have hm : c % w < w := Nat.mod_lt _ hw
  have e := Nat.div_add_mod c w
  have key : ∀ x y : Nat, x < w → (w * y + x) % w = x ∧ (w * y + x) / w = y := fun x y hx => by
    constructor
    · rw [Nat.mul_add_mod]; exact Nat.mod_eq_of_lt hx
    · rw [Nat.mul_add_div hw, Nat.div_eq_of_lt hx, Nat.add_zero]
  have lt_of : ∀ x y : Nat, x < w → y < h → w * y + x < w * h := fun x y hx hy => by
    have : w * y + w ≤ w * h := by rw [← Nat.mul_succ]; exact Nat.mul_le_mul_left w hy
    omega
  unfold nb beside gap
  simp only [List.mem_append, beq_iff_eq]
  constructor
  · intro q
    rcases q with ((q | q) | q) | q
    · split at q
      · rename_i hge
        have q := List.mem_singleton.mp q
        have h1 : 1 ≤ c / w := (Nat.one_le_div_iff hw).mpr hge
        have eb : b = w * (c / w - 1) + c % w := by
          have : w * (c / w - 1) + w = w * (c / w) := by rw [← Nat.mul_succ]; congr 1; omega
          omega
        obtain ⟨k1, k2⟩ := key (c % w) (c / w - 1) hm
        rw [eb]
        exact ⟨lt_of _ _ hm (by omega), by rw [k1, k2]; omega⟩
      · cases q
    · split at q
      · have q := List.mem_singleton.mp q
        have eb : b = w * (c / w) + (c % w - 1) := by omega
        obtain ⟨k1, k2⟩ := key (c % w - 1) (c / w) (by omega)
        rw [eb]
        exact ⟨lt_of _ _ (by omega) hr, by rw [k1, k2]; omega⟩
      · cases q
    · split at q
      · have q := List.mem_singleton.mp q
        have eb : b = w * (c / w) + (c % w + 1) := by omega
        obtain ⟨k1, k2⟩ := key (c % w + 1) (c / w) (by omega)
        rw [eb]
        exact ⟨lt_of _ _ (by omega) hr, by rw [k1, k2]; omega⟩
      · cases q
    · split at q
      · have q := List.mem_singleton.mp q
        have eb : b = w * (c / w + 1) + c % w := by rw [Nat.mul_succ]; omega
        obtain ⟨k1, k2⟩ := key (c % w) (c / w + 1) hm
        rw [eb]
        exact ⟨lt_of _ _ hm (by omega), by rw [k1, k2]; omega⟩
      · cases q
  · rintro ⟨hb, hd⟩
    have hbr : b / w < h := Nat.div_lt_of_lt_mul hb
    have hbm : b % w < w := Nat.mod_lt _ hw
    have eb := Nat.div_add_mod b w
    by_cases c1 : c % w = b % w
    · by_cases c2 : b / w + 1 = c / w
      · left; left; left
        have : w * (b / w) + w = w * (c / w) := by rw [← Nat.mul_succ]; congr 1
        rw [if_pos (by omega)]
        exact List.mem_singleton.mpr (by omega)
      · have c3 : b / w = c / w + 1 := by omega
        right
        have : w * (c / w) + w = w * (b / w) := by rw [← Nat.mul_succ]; congr 1; omega
        rw [if_pos (by omega)]
        exact List.mem_singleton.mpr (by omega)
    · have c2 : b / w = c / w := by omega
      rw [c2] at eb
      by_cases c3 : b % w + 1 = c % w
      · left; left; right
        rw [if_pos (by omega)]
        exact List.mem_singleton.mpr (by omega)
      · left; right
        rw [if_pos (by omega)]
        exact List.mem_singleton.mpr (by omega)
def VisT (vis : List Bool) (c : Nat) : Prop := vis[c]? = some true
/-- between two turns of the while -/
structure DInv (w n t : Nat) (p : List Nat) (s : Nat) (vis : List Bool) (wt : List Nat) : Prop where
  len : vis.length = n
  st : VisT vis s
  wv : ∀ c ∈ wt, VisT vis c
  rc : ∀ c, VisT vis c → Rch w n t p s c
  cl : ∀ c, VisT vis c → c ∈ wt ∨ ∀ b, b < n → adj w t p c b = true → VisT vis b
/-- while the cells beside c are gone through, those in dn already -/
structure DInn (w n t : Nat) (p : List Nat) (s c : Nat) (dn : List Nat) (vis : List Bool) (wt : List Nat) : Prop where
  len : vis.length = n
  st : VisT vis s
  vc : VisT vis c
  wv : ∀ c ∈ wt, VisT vis c
  rc : ∀ c, VisT vis c → Rch w n t p s c
  cl : ∀ a, VisT vis a → a = c ∨ a ∈ wt ∨ ∀ b, b < n → adj w t p a b = true → VisT vis b
  nd : ∀ b ∈ dn, adj w t p c b = true → VisT vis b
theorem DInv.pop {w n t : Nat} {p : List Nat} {s : Nat} {vis : List Bool} {wt : List Nat} {c : Nat} (h : DInv w n t p s vis (wt ++ [c])) : DInn w n t p s c [] vis wt where
  len := h.len
  st := h.st
  vc := h.wv c (by simp)
  wv := fun a ha => h.wv a (by simp [ha])
  rc := h.rc
  cl := fun a ha => by
    rcases h.cl a ha with q | q
    · rw [List.mem_append, List.mem_singleton] at q
      rcases q with q | q
      · exact .inr (.inl q)
      · exact .inl q
    · exact .inr (.inr q)
  nd := fun b hb => by cases hb
theorem vis_set {vis : List Bool} {o b : Nat} (h : VisT vis b) : VisT (vis.set o true) b := by
  unfold VisT at *
  rw [List.getElem?_set]
  split
  · split
    · rfl
    · have := (List.getElem?_eq_some_iff.mp h).1; omega
  · exact h
theorem vis_set_self {vis : List Bool} {o : Nat} (h : o < vis.length) : VisT (vis.set o true) o := by
  unfold VisT
  rw [List.getElem?_set_self h]
theorem vis_of_set {vis : List Bool} {o b : Nat} (h : VisT (vis.set o true) b) : b = o ∨ VisT vis b := by
  unfold VisT at *
  by_cases c : o = b
  · exact .inl c.symm
  · rw [List.getElem?_set_ne c] at h; exact .inr h
theorem DInn.push {w n t : Nat} {p : List Nat} {s c : Nat} {dn : List Nat} {vis : List Bool} {wt : List Nat} {o : Nat} (h : DInn w n t p s c dn vis wt) (ho : o < n) (e : adj w t p c o = true) : DInn w n t p s c (dn ++ [o]) (vis.set o true) (wt ++ [o]) where
  len := by rw [List.length_set]; exact h.len
  st := vis_set h.st
  vc := vis_set h.vc
  wv := fun a ha => by
    rw [List.mem_append, List.mem_singleton] at ha
    rcases ha with ha | rfl
    · exact vis_set (h.wv a ha)
    · exact vis_set_self (by rw [h.len]; exact ho)
  rc := fun a ha => by
    rcases vis_of_set ha with rfl | q
    · exact .next (h.rc c h.vc) e ho
    · exact h.rc a q
  cl := fun a ha => by
    rcases vis_of_set ha with rfl | q
    · exact .inr (.inl (by simp))
    · rcases h.cl a q with q | q | q
      · exact .inl q
      · exact .inr (.inl (by simp [q]))
      · exact .inr (.inr fun b hb eb => vis_set (q b hb eb))
  nd := fun b hb eb => by
    rw [List.mem_append, List.mem_singleton] at hb
    rcases hb with hb | rfl
    · exact vis_set (h.nd b hb eb)
    · exact vis_set_self (by rw [h.len]; exact ho)
theorem DInn.skip {w n t : Nat} {p : List Nat} {s c : Nat} {dn : List Nat} {vis : List Bool} {wt : List Nat} {o : Nat} (h : DInn w n t p s c dn vis wt) (e : VisT vis o ∨ adj w t p c o = false) : DInn w n t p s c (dn ++ [o]) vis wt where
  len := h.len
  st := h.st
  vc := h.vc
  wv := h.wv
  rc := h.rc
  cl := h.cl
  nd := fun b hb eb => by
    rw [List.mem_append, List.mem_singleton] at hb
    rcases hb with hb | rfl
    · exact h.nd b hb eb
    · rcases e with e | e
      · exact e
      · rw [e] at eb; cases eb
theorem DInn.done {w h n t : Nat} {p : List Nat} {s c : Nat} {vis : List Bool} {wt : List Nat} (hw : 1 ≤ w) (hh : 1 ≤ h) (hn : n = w * h) (hc : c < n) (q : DInn w n t p s c (nb w h c) vis wt) : DInv w n t p s vis wt where
  len := q.len
  st := q.st
  wv := q.wv
  rc := q.rc
  cl := fun a ha => by
    rcases q.cl a ha with rfl | x | x
    · refine .inr fun b hb eb => q.nd b ((mem_nb hw hh (by omega)).mpr ⟨by omega, ?_⟩) eb
      unfold adj at eb
      rw [Bool.and_eq_true] at eb
      exact eb.1
    · exact .inl x
    · exact .inr x
theorem DInv.start {w n t : Nat} {p : List Nat} {s : Nat} (hs : s < n) : DInv w n t p s ((List.replicate n false).set s true) [s] where
  len := by simp
  st := vis_set_self (by simpa using hs)
  wv := fun c hc => by rw [List.mem_singleton.mp hc]; exact vis_set_self (by simpa using hs)
  rc := fun c hc => by
    rcases vis_of_set hc with rfl | q
    · exact .here
    · unfold VisT at q
      rw [List.getElem?_replicate] at q
      split at q <;> cases q
  cl := fun c hc => by
    rcases vis_of_set hc with rfl | q
    · exact .inl (List.mem_singleton.mpr rfl)
    · unfold VisT at q
      rw [List.getElem?_replicate] at q
      split at q <;> cases q
theorem DInv.fin {w n t : Nat} {p : List Nat} {s : Nat} {vis : List Bool} (hs : s < n) (h : DInv w n t p s vis []) : vis = (List.range n).map fun b => (reach w n t p n [s]).contains b := by
  have cl : ∀ b, Rch w n t p s b → VisT vis b := fun b r => by
    induction r with
    | here => exact h.st
    | next r e hb ih =>
      rcases h.cl _ ih with q | q
      · cases q
      · exact q _ hb e
  apply List.ext_getElem?
  intro i
  rw [List.getElem?_map]
  by_cases c : i < n
  · rw [List.getElem?_range c]
    show vis[i]? = some ((reach w n t p n [s]).contains i)
    cases e : (reach w n t p n [s]).contains i with
    | true => exact cl i ((reach_iff hs i).mp (List.contains_iff_mem.mp e))
    | false =>
      have hi : i < vis.length := by rw [h.len]; exact c
      rw [List.getElem?_eq_getElem hi]
      cases e2 : vis[i] with
      | false => rfl
      | true =>
        have v : VisT vis i := by unfold VisT; rw [List.getElem?_eq_getElem hi, e2]
        have := List.contains_iff_mem.mpr ((reach_iff hs i).mpr (h.rc i v))
        rw [e] at this; cases this
  · rw [List.getElem?_eq_none (by rw [h.len]; omega), List.getElem?_eq_none (by simpa using c)]; rfl
/-- how many are not come to yet -/
def unv (vis : List Bool) : Nat := (vis.filter fun b => !b).length
theorem unv_set : ∀ {vis : List Bool} {o : Nat}, vis[o]? = some false → unv (vis.set o true) + 1 = unv vis
  | b :: vis, 0, h => by
    have e : b = false := Option.some.inj h
    subst e
    simp [unv]
  | b :: vis, o + 1, h => by
    have ih := unv_set (vis := vis) (o := o) h
    unfold unv at *
    cases b <;> simp_all
end Lp
/-! plain mathematics: commands keep documents well formed; steps that are kept -/
namespace Lp
open Ie13
/-- a document that a command may make of d -/
structure Nx (d d' : Doc) : Prop where
  wf : Wf d'
  w : d'.w = d.w
  h : d'.h = d.h
  nx : d'.layers = d.layers → d'.next = d.next
theorem Wf.lay {d : Doc} (h : Wf d) (hl : d.layers ≠ []) : ∃ l, d.layers[d.at_]? = some l ∧ Lok d.n l := by
  have hlt := h.at1 hl
  exact ⟨_, List.getElem?_eq_getElem hlt, h.lays _ (List.getElem_mem hlt)⟩
theorem zip_set {α : Type} (f : α → α) : ∀ (ls : List α) (k j : Nat) (l : α), ls[k]? = some l → ((ls.zipIdx j).map fun q => if q.2 = k + j then f q.1 else q.1) = ls.set k (f l)
  | [], k, j, l, h => by simp at h
  | x :: ls, 0, j, l, h => by
    have e : x = l := Option.some.inj h
    subst e
    rw [List.zipIdx_cons, List.map_cons, List.set_cons_zero]
    simp only [Nat.zero_add, if_true]
    congr 1
    have z : ∀ q ∈ ls.zipIdx (j + 1), (if q.2 = j then f q.1 else q.1) = q.1 := fun q hq => by
      have := List.le_snd_of_mem_zipIdx hq
      rw [if_neg (by omega)]
    rw [List.map_congr_left z, List.zipIdx_map_fst]
  | x :: ls, k + 1, j, l, h => by
    rw [List.zipIdx_cons, List.map_cons, List.set_cons_succ]
    simp only
    rw [if_neg (by omega)]
    congr 1
    have := zip_set f ls k (j + 1) l h
    rw [← this]
    apply List.map_congr_left
    intro q _
    have e : (q.2 = k + 1 + j) = (q.2 = k + (j + 1)) := by rw [Nat.add_assoc, Nat.add_comm 1 j]
    simp only [e]
theorem zip_set0 {α : Type} (f : α → α) {ls : List α} {k : Nat} {l : α} (h : ls[k]? = some l) : (ls.zipIdx.map fun q => if q.2 = k then f q.1 else q.1) = ls.set k (f l) := zip_set f ls k 0 l h
theorem mem_set_of {α : Type} {ls : List α} {k : Nat} {x y : α} (h : y ∈ ls.set k x) : y = x ∨ y ∈ ls := by
  rcases List.mem_or_eq_of_mem_set h with h | h
  · exact .inr h
  · exact .inl h
/-- the layer worked on is another -/
theorem Nx.set {d : Doc} (h : Wf d) {l l' : Layer} (hl : d.layers[d.at_]? = some l) (ok : Lok d.n l') : Nx d { d with layers := d.layers.set d.at_ l' } where
  wf := {
    w1 := h.w1, w6 := h.w6, h1 := h.h1, h6 := h.h6, glen := h.glen, gt := h.gt
    l5 := by show (d.layers.set _ _).length ≤ 5; rw [List.length_set]; exact h.l5
    lays := fun x hx => by
      rcases mem_set_of hx with rfl | hx
      · exact ok
      · exact h.lays x hx
    clen := h.clen
    at0 := fun e => by
      have : d.layers = [] := by
        have := congrArg List.length e
        rw [List.length_set] at this
        exact List.length_eq_zero_iff.mp this
      exact h.at0 this
    at1 := fun _ => by show d.at_ < (d.layers.set _ _).length; rw [List.length_set]; exact (List.getElem?_eq_some_iff.mp hl).1
    nx := h.nx }
  w := rfl
  h := rfl
  nx := fun _ => rfl
theorem isEmpty_false {α : Type} {l : List α} (h : l.isEmpty = false) : l ≠ [] := fun e => by rw [e] at h; cases h
def onLayer (d : Doc) (f : Layer → Nat → Dot) (l : Layer) : Layer := { l with dots := (List.range d.n).map fun i => if d.isChosen i then f l i else l.dot i }
theorem onChosen_set {d : Doc} {l : Layer} (hl : d.layers[d.at_]? = some l) (f : Layer → Nat → Dot) : d.onChosen f = { d with layers := d.layers.set d.at_ (onLayer d f l) } := by
  have z := zip_set0 (fun q => onLayer d f q) hl
  show ({ d with layers := _ } : Doc) = _
  exact congrArg (fun ls => ({ d with layers := ls } : Doc)) z
theorem onLayer_ok {d : Doc} {l : Layer} (ok : Lok d.n l) {f : Layer → Nat → Dot} (hf : ∀ i, (f l i).tone ≤ 255 ∧ (f l i).much ≤ 255) : Lok d.n (onLayer d f l) where
  len := by unfold onLayer; simp
  way := ok.way
  much := ok.much
  dots := fun x hx => by
    obtain ⟨i, _, rfl⟩ := List.mem_map.mp hx
    split
    · exact hf i
    · exact ok.dot i
theorem Nx.chosen {d : Doc} (h : Wf d) {cs : List Bool} (hc : cs.length = d.n) : Nx d { d with chosen := cs } where
  wf := ⟨h.w1, h.w6, h.h1, h.h6, h.glen, h.gt, h.l5, h.lays, hc, h.at0, h.at1, h.nx⟩
  w := rfl
  h := rfl
  nx := fun _ => rfl
theorem Nx.pick {d : Doc} (h : Wf d) {i : Nat} (hi : i < d.layers.length) : Nx d { d with at_ := i } where
  wf := ⟨h.w1, h.w6, h.h1, h.h6, h.glen, h.gt, h.l5, h.lays, h.clen, (fun e => by rw [show d.layers = [] from e] at hi; cases hi), (fun _ => hi), h.nx⟩
  w := rfl
  h := rfl
  nx := fun _ => rfl
theorem Nx.drop {d : Doc} (h : Wf d) (hl : d.layers ≠ []) : Nx d { d with layers := d.layers.eraseIdx d.at_, at_ := min d.at_ (d.layers.length - 2) } where
  wf := {
    w1 := h.w1, w6 := h.w6, h1 := h.h1, h6 := h.h6, glen := h.glen, gt := h.gt
    l5 := by show (d.layers.eraseIdx _).length ≤ 5; rw [List.length_eraseIdx]; have := h.l5; split <;> omega
    lays := fun x hx => h.lays x (List.mem_of_mem_eraseIdx hx)
    clen := h.clen
    at0 := fun e => by
      show min d.at_ (d.layers.length - 2) = 0
      have z : (d.layers.eraseIdx d.at_).length = 0 := by rw [show d.layers.eraseIdx d.at_ = [] from e]; rfl
      rw [List.length_eraseIdx, if_pos (h.at1 hl)] at z
      omega
    at1 := fun e => by
      show min d.at_ (d.layers.length - 2) < (d.layers.eraseIdx d.at_).length
      have z : 0 < (d.layers.eraseIdx d.at_).length := List.length_pos_iff.mpr e
      rw [List.length_eraseIdx, if_pos (h.at1 hl)] at z ⊢
      omega
    nx := h.nx }
  w := rfl
  h := rfl
  nx := fun _ => rfl
theorem Nx.raise {d : Doc} (h : Wf d) {a b : Layer} (ha : d.layers[d.at_]? = some a) (hb : d.layers[d.at_ + 1]? = some b) : Nx d { d with layers := (d.layers.set d.at_ b).set (d.at_ + 1) a, at_ := d.at_ + 1 } where
  wf := {
    w1 := h.w1, w6 := h.w6, h1 := h.h1, h6 := h.h6, glen := h.glen, gt := h.gt
    l5 := by show ((d.layers.set _ _).set _ _).length ≤ 5; rw [List.length_set, List.length_set]; exact h.l5
    lays := fun x hx => by
      rcases mem_set_of hx with rfl | hx
      · exact h.lays _ (List.mem_of_getElem? ha)
      · rcases mem_set_of hx with rfl | hx
        · exact h.lays _ (List.mem_of_getElem? hb)
        · exact h.lays x hx
    clen := h.clen
    at0 := fun e => by
      have z := congrArg List.length e
      rw [List.length_set, List.length_set] at z
      have := (List.getElem?_eq_some_iff.mp hb).1
      simp at z; rw [z] at this; cases this
    at1 := fun e => by
      show d.at_ + 1 < ((d.layers.set _ _).set _ _).length
      rw [List.length_set, List.length_set]; exact (List.getElem?_eq_some_iff.mp hb).1
    nx := h.nx }
  w := rfl
  h := rfl
  nx := fun _ => rfl
theorem Nx.layer {d : Doc} (h : Wf d) (h5 : d.layers.length < 5) {i : Nat} (hi : i ≤ d.layers.length) : Nx d { d with layers := d.layers.take i ++ ⟨d.next, 0, 255, true, List.replicate d.n none_⟩ :: d.layers.drop i, at_ := i, next := d.next + 1 } where
  wf := {
    w1 := h.w1, w6 := h.w6, h1 := h.h1, h6 := h.h6, glen := h.glen, gt := h.gt
    l5 := by
      show (d.layers.take i ++ _ :: d.layers.drop i).length ≤ 5
      rw [List.length_append, List.length_cons, List.length_take, List.length_drop]; omega
    lays := fun x hx => by
      rcases List.mem_append.mp hx with hx | hx
      · exact h.lays x (List.mem_of_mem_take hx)
      · rcases List.mem_cons.mp hx with rfl | hx
        · exact ⟨List.length_replicate, Nat.zero_le 3, Nat.le_refl 255, fun y hy => by rw [List.eq_of_mem_replicate hy]; exact ⟨by decide, by decide⟩⟩
        · exact h.lays x (List.mem_of_mem_drop hx)
    clen := h.clen
    at0 := fun e => by simp at e
    at1 := fun _ => by
      show i < (d.layers.take i ++ _ :: d.layers.drop i).length
      rw [List.length_append, List.length_cons, List.length_take, List.length_drop]; omega
    nx := by show 1 ≤ d.next + 1; omega }
  w := rfl
  h := rfl
  nx := fun e => by
    have z := congrArg List.length e
    rw [List.length_append, List.length_cons, List.length_take, List.length_drop] at z; omega
theorem Nx.press {d : Doc} (h : Wf d) {l : Layer} {r : List Layer} (hl : d.layers = l :: r) : Nx d { d with ground := (List.range d.n).map (fun i => over (d.ground.getD i 0) l i), layers := r, at_ := d.at_ - 1 } where
  wf := {
    w1 := h.w1, w6 := h.w6, h1 := h.h1, h6 := h.h6
    glen := by show ((List.range d.n).map _).length = d.n; simp
    gt := fun t ht => by
      obtain ⟨i, _, rfl⟩ := List.mem_map.mp ht
      exact over_le (h.lays l (by rw [hl]; exact List.mem_cons_self)) (getD_le h.gt i) i
    l5 := by have := h.l5; rw [hl, List.length_cons] at this; show r.length ≤ 5; omega
    lays := fun x hx => h.lays x (by rw [hl]; exact List.mem_cons_of_mem _ hx)
    clen := h.clen
    at0 := fun e => by
      show d.at_ - 1 = 0
      have : d.at_ < d.layers.length := h.at1 (by rw [hl]; simp)
      rw [hl, show r = [] from e] at this
      simp at this; omega
    at1 := fun e => by
      show d.at_ - 1 < r.length
      have : d.at_ < d.layers.length := h.at1 (by rw [hl]; simp)
      rw [hl, List.length_cons] at this
      have : 0 < r.length := List.length_pos_iff.mpr e
      omega
    nx := h.nx }
  w := rfl
  h := rfl
  nx := fun _ => rfl
theorem Wf.fresh {w h g : Nat} (w1 : 1 ≤ w) (w6 : w ≤ 6) (h1 : 1 ≤ h) (h6 : h ≤ 6) (hg : g ≤ 255) : Wf (fresh w h g) where
  w1 := w1
  w6 := w6
  h1 := h1
  h6 := h6
  glen := by show (List.replicate (w * h) g).length = w * h; simp
  gt := fun t ht => by rw [List.eq_of_mem_replicate ht]; exact hg
  l5 := by show 0 ≤ 5; decide
  lays := fun l hl => by cases hl
  clen := by show (List.replicate (w * h) true).length = w * h; simp
  at0 := fun _ => rfl
  at1 := fun e => absurd rfl e
  nx := by show 1 ≤ 1; decide
/-! steps that are kept -/
def tot (l : List (Doc × Nat)) : Nat := sum (l.map fun x => x.2)
theorem tsum_foldl : ∀ (l : List Nat) (a : Nat), l.foldl (fun a b => a + b) a = a + l.foldl (fun a b => a + b) 0
  | [], a => rfl
  | x :: l, a => by
    rw [List.foldl_cons, List.foldl_cons, tsum_foldl l (a + x), tsum_foldl l (0 + x)]; omega
theorem tot_cons (x : Doc × Nat) (l : List (Doc × Nat)) : tot (x :: l) = x.2 + tot l := by
  unfold tot sum
  rw [List.map_cons, List.foldl_cons, tsum_foldl _ (0 + x.2)]; omega
theorem kept_all : ∀ (l : List (Doc × Nat)) (room : Nat), tot l ≤ room → kept room l = l
  | [], _, _ => rfl
  | x :: l, room, h => by
    rw [tot_cons] at h
    rw [kept, if_pos (by omega), kept_all l _ (by omega)]
theorem kept_last : ∀ (l : List (Doc × Nat)) (x : Doc × Nat) (room : Nat), room < tot (l ++ [x]) → kept room (l ++ [x]) = kept room l
  | [], x, room, h => by
    rw [List.nil_append, tot_cons] at h
    have : tot [] = 0 := rfl
    show (if x.2 ≤ room then x :: kept (room - x.2) [] else []) = []
    rw [if_neg (by omega)]
  | y :: l, x, room, h => by
    rw [List.cons_append, tot_cons] at h
    rw [List.cons_append, kept, kept]
    split
    · rw [kept_last l x _ (by omega)]
    · rfl
theorem kept_tot : ∀ (l : List (Doc × Nat)) (room : Nat), tot (kept room l) ≤ room
  | [], room => Nat.zero_le _
  | x :: l, room => by
    rw [kept]
    split
    · rw [tot_cons]; have := kept_tot l (room - x.2); omega
    · exact Nat.zero_le _
theorem kept_mem : ∀ (l : List (Doc × Nat)) (room : Nat) (x : Doc × Nat), x ∈ kept room l → x ∈ l
  | [], room, x, h => h
  | y :: l, room, x, h => by
    rw [kept] at h
    split at h
    · rcases List.mem_cons.mp h with rfl | h
      · exact List.mem_cons_self
      · exact List.mem_cons_of_mem _ (kept_mem l _ x h)
    · cases h
theorem tot_len : ∀ (l : List (Doc × Nat)), (∀ x ∈ l, 1 ≤ x.2) → l.length ≤ tot l
  | [], _ => Nat.zero_le _
  | x :: l, h => by
    rw [tot_cons, List.length_cons]
    have h1 := h x List.mem_cons_self
    have := tot_len l fun y hy => h y (List.mem_cons_of_mem _ hy)
    omega
theorem weight_pos (a b : Doc) : 1 ≤ weight a b := by unfold weight; omega
/-- the state between two calls -/
structure SWf (s : Ie13.St) : Prop where
  wf : Wf s.doc
  done : ∀ x ∈ s.done, Wf x.1 ∧ x.1.w = s.doc.w ∧ x.1.h = s.doc.h ∧ 1 ≤ x.2
  undone : ∀ x ∈ s.undone, Wf x.1 ∧ x.1.w = s.doc.w ∧ x.1.h = s.doc.h ∧ 1 ≤ x.2
  room : s.room ≤ 1000
  tot : tot s.done + tot s.undone ≤ s.room
  clip : s.clip = [] ∨ (s.clip.length = s.doc.n ∧ ∀ x, some x ∈ s.clip → x.tone ≤ 255 ∧ x.much ≤ 255)
theorem SWf.put {s : Ie13.St} (h : SWf s) {d : Doc} (x : Nx s.doc d) : SWf (s.put d) := by
  unfold Ie13.St.put
  split
  · exact h
  · refine ⟨x.wf, fun y hy => ?_, (fun y hy => by cases hy), h.room, ?_, ?_⟩
    · rcases List.mem_cons.mp (kept_mem _ _ _ hy) with rfl | hy
      · exact ⟨h.wf, x.w.symm, x.h.symm, weight_pos _ _⟩
      · obtain ⟨a, b, c, e⟩ := h.done y hy
        exact ⟨a, b.trans x.w.symm, c.trans x.h.symm, e⟩
    · show Lp.tot (kept s.room _) + Lp.tot [] ≤ s.room
      have := kept_tot ((s.doc, weight s.doc d) :: s.done) s.room
      have z : Lp.tot [] = 0 := rfl
      omega
    · rcases h.clip with c | ⟨c1, c2⟩
      · exact .inl c
      · refine .inr ⟨?_, c2⟩
        show s.clip.length = d.n
        have : d.n = s.doc.n := by unfold Doc.n; rw [x.w, x.h]
        rw [this]; exact c1
theorem put_w {s : Ie13.St} {d : Doc} (x : Nx s.doc d) : (s.put d).doc.w = s.doc.w ∧ (s.put d).doc.h = s.doc.h := by
  unfold Ie13.St.put
  split
  · exact ⟨rfl, rfl⟩
  · exact ⟨x.w, x.h⟩
end Lp
/-! plain mathematics: the list of calls, taken apart -/
namespace Lp
/-- a list that is calls, one behind another -/
inductive Calls : List Int → List Ie13.Call → Prop
  | nil : Calls [] []
  | cons {c : List Nat} {x : Ie13.Call} {l : List Int} {xs : List Ie13.Call} : Ie13Neutral.callIn c = some x → Calls l xs → Calls (c.map (fun (n : Nat) => (n : Int)) ++ l) (x :: xs)
def plays : Ie13.St → List Ie13.Call → List (List Int)
  | _, [] => []
  | s, x :: xs => (Ie13.step s x).2 :: plays (Ie13.step s x).1 xs
theorem whole_id (c : List (List Int)) : PyIe13.whole c = c := by
  unfold PyIe13.whole
  split <;> rfl
theorem ite_ok {c : Prop} [Decidable c] {a n k : Nat} {X : Option (Nat × Nat)} (h : (if c then some (a, 0) else X) = some (n, k)) (hx : X = some (n, k) → k = 0) : k = 0 := by
  by_cases hc : c
  · rw [if_pos hc] at h; cases h; rfl
  · rw [if_neg hc] at h; exact hx h
theorem shape_0 {p : Int} {n k : Nat} (h : PyIe13.shape p = some (n, k)) : k = 0 := by
  unfold PyIe13.shape at h
  repeat (refine ite_ok h ?_; clear h; intro h)
  cases h
theorem toNat_back {c : List Int} (h : c.all Ie13Neutral.nat = true) : (c.map Int.toNat).map (fun (n : Nat) => (n : Int)) = c := by
  rw [List.map_map]
  conv => rhs; rw [← List.map_id c]
  apply List.map_congr_left
  intro z hz
  have := List.all_eq_true.mp h z hz
  unfold Ie13Neutral.nat at this
  rw [Bool.and_eq_true, decide_eq_true_eq] at this
  show ((z.toNat : Nat) : Int) = z
  omega
theorem calls_of : ∀ (f : Nat) (l : List Int) (raw : List (List (List Int))), PyFlat.calls PyIe13.shape f l = some raw → (raw.map fun c => c.headD []).all Ie13Neutral.asked1 = true →
    ∃ xs, Calls l xs ∧ xs.length = raw.length ∧ ∀ s, PyFlat.played (fun s c => Ie13Neutral.step s (c.headD [])) s raw = plays s xs
  | f, [], raw, h, _ => by
    have e : raw = [] := by
      cases f <;> exact (Option.some.inj h).symm
    subst e
    exact ⟨[], .nil, rfl, fun _ => rfl⟩
  | 0, _ :: _, raw, h, _ => by cases h
  | f + 1, p :: r, raw, h, ha => by
    rw [PyFlat.calls] at h
    simp only [PyFlat.call] at h
    cases hs : PyIe13.shape p with
    | none => rw [hs] at h; cases h
    | some nk =>
      obtain ⟨n, k⟩ := nk
      have hk := shape_0 hs
      subst hk
      rw [hs] at h
      simp only at h
      by_cases hl : r.length < n
      · rw [if_pos hl] at h; cases h
      · rw [if_neg hl] at h
        simp only [PyFlat.rows] at h
        cases hc : PyFlat.calls PyIe13.shape f (r.drop n) with
        | none => rw [hc] at h; cases h
        | some cs =>
          rw [hc] at h
          have e := Option.some.inj h
          subst e
          rw [List.map_cons, List.all_cons, Bool.and_eq_true] at ha
          obtain ⟨a1, a2⟩ := ha
          obtain ⟨xs, c1, c2, c3⟩ := calls_of f (r.drop n) cs hc a2
          have a1 : (Ie13Neutral.callOf (p :: r.take n)).isSome = true := a1
          unfold Ie13Neutral.callOf at a1
          by_cases hn : (p :: r.take n).all Ie13Neutral.nat = false
          · rw [if_pos hn] at a1; cases a1
          · have hn' : (p :: r.take n).all Ie13Neutral.nat = true := by
              cases z : (p :: r.take n).all Ie13Neutral.nat with
              | true => rfl
              | false => exact absurd z hn
            rw [if_neg hn] at a1
            obtain ⟨x, hx⟩ := Option.isSome_iff_exists.mp a1
            refine ⟨x :: xs, ?_, by rw [List.length_cons, List.length_cons, c2], fun s => ?_⟩
            · have z := Calls.cons hx c1
              rw [toNat_back hn'] at z
              rw [List.cons_append, List.take_append_drop] at z
              exact z
            · show (Ie13Neutral.step s (p :: r.take n)).2 :: PyFlat.played _ (Ie13Neutral.step s (p :: r.take n)).1 cs = _
              have e : Ie13Neutral.step s (p :: r.take n) = Ie13.step s x := by
                unfold Ie13Neutral.step Ie13Neutral.callOf
                rw [if_neg hn, hx]
              rw [e, c3]; rfl
/-- **what is asked, taken apart** -/
theorem asked_calls {l : List Int} (h : PyIe13.answers_asked l = true) : ∃ xs, Calls l xs ∧ xs.length ≤ 40 ∧ PyIe13.answers l = PyFlat.told (plays Ie13.init xs) := by
  unfold PyIe13.answers_asked at h
  cases hc : PyFlat.calls PyIe13.shape l.length l with
  | none => rw [hc] at h; cases h
  | some raw =>
    rw [hc] at h
    simp only [Bool.and_eq_true] at h
    obtain ⟨⟨⟨⟨h1, h2⟩, h3⟩, h4⟩, h5⟩ := h
    have ew : raw.map PyIe13.whole = raw := by
      conv => rhs; rw [← List.map_id raw]
      exact List.map_congr_left fun c _ => whole_id c
    rw [ew] at h4
    unfold Ie13Neutral.asked at h4
    rw [Bool.and_eq_true] at h4
    obtain ⟨xs, c1, c2, c3⟩ := calls_of _ _ _ hc h4.1
    refine ⟨xs, c1, by rw [c2]; exact of_decide_eq_true h2, ?_⟩
    unfold PyIe13.answers PyIe13.calls
    rw [hc]
    show PyFlat.told (PyFlat.played _ _ (raw.map PyIe13.whole)) = _
    rw [ew, c3]; rfl
theorem told_cons (a : List Int) (l : List (List Int)) : PyFlat.told (a :: l) = ((a.length : Int) :: a) ++ PyFlat.told l := by
  unfold PyFlat.told
  rw [List.flatMap_cons]
end Lp
/-! plain mathematics: every call keeps the state well formed -/
namespace Lp
open Ie13
theorem empty_iff {α : Type} {l : List α} : l.isEmpty = true ↔ l = [] := List.isEmpty_iff
theorem ne_empty {α : Type} {l : List α} (h : ¬ l.isEmpty = true) : l ≠ [] := fun e => h (empty_iff.mpr e)
theorem ok_inj {d d' : Doc} (h : (Except.ok d : Except Int Doc) = .ok d') : d = d' := by injection h
theorem Nx.on {d : Doc} (h : Wf d) (hl : d.layers ≠ []) {f : Layer → Nat → Dot} (hf : ∀ l, Lok d.n l → ∀ i, (f l i).tone ≤ 255 ∧ (f l i).much ≤ 255) : Nx d (d.onChosen f) := by
  obtain ⟨l, e, ok⟩ := h.lay hl
  rw [onChosen_set e]
  exact Nx.set h e (onLayer_ok ok (hf l ok))
theorem softB {d : Doc} {l : Layer} (ok : Lok d.n l) (i : Nat) : (soft d l i).tone ≤ 255 ∧ (soft d l i).much ≤ 255 := by
  have wsum : ∀ (c : List Dot), (∀ x ∈ c, x.tone ≤ 255 ∧ x.much ≤ 255) → ∀ a b, a ≤ 255 * b → (c.map fun x => x.tone * x.much).foldl (fun a b => a + b) a ≤ 255 * (c.map fun x => x.much).foldl (fun a b => a + b) b := by
    intro c
    induction c with
    | nil => intro _ a b h; exact h
    | cons x c ih =>
      intro hc a b h
      rw [List.map_cons, List.map_cons, List.foldl_cons, List.foldl_cons]
      apply ih (fun y hy => hc y (List.mem_cons_of_mem _ hy))
      have := (hc x List.mem_cons_self).1
      have z : x.tone * x.much ≤ 255 * x.much := Nat.mul_le_mul_right _ this
      omega
  have msum : ∀ (c : List Dot), (∀ x ∈ c, x.tone ≤ 255 ∧ x.much ≤ 255) → ∀ a k, a ≤ 255 * k → (c.map fun x => x.much).foldl (fun a b => a + b) a ≤ 255 * (k + c.length) := by
    intro c
    induction c with
    | nil => intro _ a k h; exact h
    | cons x c ih =>
      intro hc a k h
      rw [List.map_cons, List.foldl_cons, List.length_cons]
      have := ih (fun y hy => hc y (List.mem_cons_of_mem _ hy)) (a + x.much) (k + 1) (by have := (hc x List.mem_cons_self).2; omega)
      rw [Nat.add_assoc, Nat.add_comm 1] at this; exact this
  unfold soft
  simp only
  split
  · exact ⟨Nat.zero_le _, Nat.zero_le _⟩
  · rename_i hm
    have hc : ∀ x ∈ (around d.w d.h i).map l.dot, x.tone ≤ 255 ∧ x.much ≤ 255 := fun x hx => by
      obtain ⟨j, _, rfl⟩ := List.mem_map.mp hx; exact ok.dot j
    constructor
    · refine near_le (by unfold sum at hm ⊢; omega) ?_
      exact wsum _ hc 0 0 (Nat.le_refl _)
    · have hl : 0 < ((around d.w d.h i).map l.dot).length := by
        cases z : (around d.w d.h i).map l.dot with
        | nil => rw [z] at hm; exact absurd rfl hm
        | cons a b => simp
      refine near_le hl ?_
      have := msum _ hc 0 0 (Nat.le_refl _)
      rw [Nat.zero_add] at this
      exact this
theorem does_nx {d d' : Doc} (h : Wf d) {clip : Clip} (hc : ∀ x, some x ∈ clip → x.tone ≤ 255 ∧ x.much ≤ 255) : ∀ {c : Command}, d.does clip c = .ok d' → Nx d d' := by
  intro c e
  cases c with
  | layer =>
    simp only [Doc.does] at e
    split at e
    · cases e
    · have e := ok_inj e
      subst e
      refine Nx.layer h (by omega) ?_
      split
      · exact Nat.zero_le _
      · rename_i hl; exact h.at1 (ne_empty hl)
  | drop =>
    simp only [Doc.does] at e
    split at e
    · cases e
    · rename_i hl
      have e := ok_inj e
      subst e
      exact Nx.drop h (ne_empty hl)
  | pick i =>
    simp only [Doc.does] at e
    split at e
    · cases e
    · have e := ok_inj e
      subst e
      exact Nx.pick h (by omega)
  | raise =>
    simp only [Doc.does] at e
    split at e
    · rename_i a b ha hb
      have e := ok_inj e
      subst e
      exact Nx.raise h ha hb
    · cases e
  | set way much shown =>
    simp only [Doc.does] at e
    split at e
    · cases e
    · rename_i hl
      split at e
      · cases e
      · rename_i hb
        have e := ok_inj e
        subst e
        obtain ⟨l, el, ok⟩ := h.lay (ne_empty hl)
        have z := zip_set0 (fun q : Layer => { q with way := way, much := much, shown := shown == 1 }) el
        have z2 : ({ d with layers := d.layers.zipIdx.map fun q => if q.2 = d.at_ then { q.1 with way := way, much := much, shown := shown == 1 } else q.1 } : Doc) = { d with layers := d.layers.set d.at_ { l with way := way, much := much, shown := shown == 1 } } := congrArg (fun ls => ({ d with layers := ls } : Doc)) z
        rw [z2]
        exact Nx.set h el ⟨ok.len, by show way ≤ 3; omega, by show much ≤ 255; omega, ok.dots⟩
  | box x y u v how =>
    simp only [Doc.does] at e
    split at e
    · cases e
    · have e := ok_inj e
      subst e
      exact Nx.chosen h (by simp)
  | like x y t how =>
    simp only [Doc.does] at e
    split at e
    · cases e
    · split at e
      · cases e
      · have e := ok_inj e
        subst e
        exact Nx.chosen h (by simp)
  | turn =>
    simp only [Doc.does] at e
    have e := ok_inj e
    subst e
    exact Nx.chosen h (by rw [List.length_map]; exact h.clen)
  | fill tone much =>
    simp only [Doc.does] at e
    split at e
    · cases e
    · rename_i hl
      split at e
      · cases e
      · have e := ok_inj e
        subst e
        exact Nx.on h (ne_empty hl) fun l _ i => ⟨by show tone ≤ 255; omega, by show much ≤ 255; omega⟩
  | bright up k =>
    simp only [Doc.does] at e
    split at e
    · cases e
    · rename_i hl
      split at e
      · cases e
      · have e := ok_inj e
        subst e
        refine Nx.on h (ne_empty hl) fun l ok i => ⟨?_, (ok.dot i).2⟩
        have := (ok.dot i).1
        show (if up = 1 then min 255 ((l.dot i).tone + k) else (l.dot i).tone - k) ≤ 255
        split <;> omega
  | soft =>
    simp only [Doc.does] at e
    split at e
    · cases e
    · rename_i hl
      have e := ok_inj e
      subst e
      exact Nx.on h (ne_empty hl) fun l ok i => softB ok i
  | shift x y =>
    simp only [Doc.does] at e
    split at e
    · cases e
    · rename_i hl
      have e := ok_inj e
      subst e
      exact Nx.on h (ne_empty hl) fun l ok i => ok.dot _
  | cut =>
    simp only [Doc.does] at e
    split at e
    · cases e
    · rename_i hl
      have e := ok_inj e
      subst e
      exact Nx.on h (ne_empty hl) fun l ok i => ⟨Nat.zero_le _, Nat.zero_le _⟩
  | paste x y =>
    simp only [Doc.does] at e
    split at e
    · cases e
    · rename_i hl
      split at e
      · cases e
      · have e := ok_inj e
        subst e
        obtain ⟨l, el, ok⟩ := h.lay (ne_empty hl)
        have z := zip_set0 (fun q : Layer => { q with dots := (List.range d.n).map fun i => if x ≤ i % d.w ∧ y ≤ i / d.w then ((clip.getD ((i / d.w - y) * d.w + (i % d.w - x)) none).getD (q.dot i)) else q.dot i }) el
        refine cast (congrArg (Nx d) (congrArg (fun ls => ({ d with layers := ls } : Doc)) z.symm)) ?_
        refine Nx.set h el ⟨by simp, ok.way, ok.much, fun v hv => ?_⟩
        obtain ⟨i, _, rfl⟩ := List.mem_map.mp hv
        split
        · rw [List.getD_eq_getElem?_getD]
          cases q : clip[(i / d.w - y) * d.w + (i % d.w - x)]? with
          | none => exact ok.dot i
          | some o =>
            cases o with
            | none => exact ok.dot i
            | some v => exact hc v (List.mem_of_getElem? q)
        · exact ok.dot i
  | press =>
    simp only [Doc.does] at e
    split at e
    · cases e
    · rename_i l r hl
      have e := ok_inj e
      subst e
      exact Nx.press h hl
theorem clip_ok {d : Doc} (h : Wf d) (hl : d.layers ≠ []) : d.clip.length = d.n ∧ ∀ x, some x ∈ d.clip → x.tone ≤ 255 ∧ x.much ≤ 255 := by
  obtain ⟨l, e, ok⟩ := h.lay hl
  unfold Doc.clip Doc.layer
  rw [e]
  refine ⟨by simp, fun x hx => ?_⟩
  obtain ⟨i, _, q⟩ := List.mem_map.mp hx
  split at q
  · cases q; exact ok.dot i
  · cases q
theorem SWf.clipB {s : Ie13.St} (h : SWf s) : ∀ x, some x ∈ s.clip → x.tone ≤ 255 ∧ x.much ≤ 255 := by
  rcases h.clip with c | c
  · intro x hx; rw [c] at hx; cases hx
  · exact c.2
theorem init_wf : SWf Ie13.init where
  wf := Wf.fresh (by decide) (by decide) (by decide) (by decide) (by decide)
  done := fun _ h => by cases h
  undone := fun _ h => by cases h
  room := by decide
  tot := by decide
  clip := .inl rfl
theorem tot_nil : tot [] = 0 := rfl
theorem step_wf {s : Ie13.St} (h : SWf s) : ∀ (x : Ie13.Call), SWf (Ie13.step s x).1 := by
  intro x
  cases x with
  | page w hh g room =>
    simp only [Ie13.step]
    split
    · exact h
    · exact ⟨Wf.fresh (by omega) (by omega) (by omega) (by omega) (by omega), (fun _ q => by cases q), (fun _ q => by cases q), by show room ≤ 1000; omega, by rw [tot_nil]; exact Nat.zero_le _, .inl rfl⟩
  | command c =>
    simp only [Ie13.step]
    split
    · exact h
    · rename_i d e
      have nx := does_nx h.wf h.clipB e
      have p := h.put nx
      refine ⟨p.wf, p.done, p.undone, p.room, p.tot, ?_⟩
      show (if c = .cut then s.doc.clip else s.clip) = [] ∨ _
      by_cases hc : c = .cut
      · subst hc
        have hl : s.doc.layers ≠ [] := by
          simp only [Doc.does] at e
          split at e
          · cases e
          · rename_i hl; exact ne_empty hl
        have := clip_ok h.wf hl
        refine .inr ?_
        show (if Command.cut = .cut then s.doc.clip else s.clip).length = (s.put d).doc.n ∧ _
        rw [if_pos rfl]
        have pw := put_w nx
        refine ⟨?_, this.2⟩
        rw [this.1]
        unfold Doc.n
        rw [pw.1, pw.2]
      · show (if c = .cut then s.doc.clip else s.clip) = [] ∨ ((if c = .cut then s.doc.clip else s.clip).length = (s.put d).doc.n ∧ _)
        rw [if_neg hc]
        have pc := p.clip
        have es : (s.put d).clip = s.clip := by unfold Ie13.St.put; split <;> rfl
        rw [es] at pc; exact pc
  | copy =>
    simp only [Ie13.step]
    split
    · exact h
    · rename_i hl
      exact ⟨h.wf, h.done, h.undone, h.room, h.tot, .inr (clip_ok h.wf (ne_empty hl))⟩
  | undo =>
    simp only [Ie13.step]
    split
    · exact h
    · rename_i x l e
      have ht := h.tot
      rw [e, tot_cons] at ht
      have hd := h.done
      rw [e] at hd
      obtain ⟨a, b, c, k⟩ := hd x List.mem_cons_self
      refine ⟨a, fun y hy => ?_, fun y hy => ?_, h.room, ?_, ?_⟩
      · obtain ⟨a', b', c', k'⟩ := hd y (List.mem_cons_of_mem _ hy)
        exact ⟨a', b'.trans b.symm, c'.trans c.symm, k'⟩
      · rcases List.mem_cons.mp hy with rfl | hy
        · exact ⟨h.wf, b.symm, c.symm, k⟩
        · obtain ⟨a', b', c', k'⟩ := h.undone y hy
          exact ⟨a', b'.trans b.symm, c'.trans c.symm, k'⟩
      · show tot l + tot ((s.doc, x.2) :: s.undone) ≤ s.room
        rw [tot_cons]; omega
      · rcases h.clip with z | z
        · exact .inl z
        · refine .inr ⟨?_, z.2⟩
          show s.clip.length = x.1.n
          unfold Doc.n; rw [b, c]; exact z.1
  | redo =>
    simp only [Ie13.step]
    split
    · exact h
    · rename_i x l e
      have ht := h.tot
      rw [e, tot_cons] at ht
      have hd := h.undone
      rw [e] at hd
      obtain ⟨a, b, c, k⟩ := hd x List.mem_cons_self
      refine ⟨a, fun y hy => ?_, fun y hy => ?_, h.room, ?_, ?_⟩
      · rcases List.mem_cons.mp hy with rfl | hy
        · exact ⟨h.wf, b.symm, c.symm, k⟩
        · obtain ⟨a', b', c', k'⟩ := h.done y hy
          exact ⟨a', b'.trans b.symm, c'.trans c.symm, k'⟩
      · obtain ⟨a', b', c', k'⟩ := hd y (List.mem_cons_of_mem _ hy)
        exact ⟨a', b'.trans b.symm, c'.trans c.symm, k'⟩
      · show tot ((s.doc, x.2) :: s.done) + tot l ≤ s.room
        rw [tot_cons]; omega
      · rcases h.clip with z | z
        · exact .inl z
        · refine .inr ⟨?_, z.2⟩
          show s.clip.length = x.1.n
          unfold Doc.n; rw [b, c]; exact z.1
  | picture => exact h
  | layer i => exact h
  | chosen => exact h
  | steps => exact h
  | list => exact h
end Lp
/-! plain mathematics: shifting, pieces, calls by their numbers -/
namespace Lp
open Ie13
theorem shift_int {a w x : Nat} (hw : 1 ≤ w) : ((a : Int) - (x : Int)) % (w : Int) = (((a + w - x % w) % w : Nat) : Int) := by
  have hx : x % w < w := Nat.mod_lt _ hw
  rw [Int.natCast_emod, Int.natCast_sub (by omega), Int.natCast_add]
  have e : (a : Int) - (x : Int) = ((a : Int) + (w : Int) - ((x % w : Nat) : Int)) + (w : Int) * (-(1 + ((x / w : Nat) : Int))) := by
    have z : (x : Int) = (w : Int) * ((x / w : Nat) : Int) + ((x % w : Nat) : Int) := by
      rw [← Int.natCast_mul, ← Int.natCast_add, Nat.div_add_mod]
    rw [Int.mul_neg, Int.mul_add, Int.mul_one]
    omega
  rw [e, Int.add_mul_emod_self_left]
/-- what is taken out of a page, cell by cell -/
abbrev Piece := Nat × Nat × Dot
def pcs (w : Nat) (c : Clip) : List Piece := ((List.range c.length).filter fun i => (c.getD i none).isSome).map fun i => (i % w, i / w, (c.getD i none).getD none_)
def pst1 (w h x y : Nat) (l : List Dot) (p : Piece) : List Dot := if x + p.1 < w ∧ y + p.2.1 < h then l.set ((y + p.2.1) * w + (x + p.1)) p.2.2 else l
def pst (w h x y : Nat) (l : List Dot) (ps : List Piece) : List Dot := ps.foldl (pst1 w h x y) l
theorem pst1_len (w h x y : Nat) (l : List Dot) (p : Piece) : (pst1 w h x y l p).length = l.length := by
  unfold pst1; split
  · rw [List.length_set]
  · rfl
theorem pst_len (w h x y : Nat) : ∀ (ps : List Piece) (l : List Dot), (pst w h x y l ps).length = l.length
  | [], l => rfl
  | p :: ps, l => by
    show (pst w h x y (pst1 w h x y l p) ps).length = _
    rw [pst_len w h x y ps, pst1_len]
theorem pos_split {w q r : Nat} (hr : r < w) : (q * w + r) % w = r ∧ (q * w + r) / w = q := by
  constructor
  · rw [Nat.add_comm, Nat.add_mul_mod_self_right, Nat.mod_eq_of_lt hr]
  · rw [Nat.add_comm, Nat.add_mul_div_right _ _ (by omega), Nat.div_eq_of_lt hr, Nat.zero_add]
theorem pst_at {w h x y : Nat} {c : Clip} {l : List Dot} (hw : 1 ≤ w) (hl : l.length = w * h) : ∀ (m : Nat), ∀ i, i < w * h →
    (pst w h x y l (((List.range m).filter fun i => (c.getD i none).isSome).map fun i => (i % w, i / w, (c.getD i none).getD none_))).getD i none_ =
      if (x ≤ i % w ∧ y ≤ i / w) ∧ (i / w - y) * w + (i % w - x) < m then (c.getD ((i / w - y) * w + (i % w - x)) none).getD (l.getD i none_) else l.getD i none_
  | 0, i, hi => by
    rw [if_neg (by omega)]; rfl
  | m + 1, i, hi => by
    have ih := pst_at (x := x) (y := y) (c := c) hw hl m i hi
    have himod : i % w < w := Nat.mod_lt _ hw
    have hidiv : i / w < h := Nat.div_lt_of_lt_mul hi
    have hsp := pos_split (w := w) (q := i / w - y) (r := i % w - x) (by omega)
    have hmm : m % w < w := Nat.mod_lt _ hw
    have key : ((x ≤ i % w ∧ y ≤ i / w) ∧ (i / w - y) * w + (i % w - x) = m) ↔ (x + m % w < w ∧ y + m / w < h ∧ i = (y + m / w) * w + (x + m % w)) := by
      constructor
      · rintro ⟨⟨h1, h2⟩, rfl⟩
        rw [hsp.1, hsp.2]
        refine ⟨by omega, by omega, ?_⟩
        have z1 : y + (i / w - y) = i / w := by omega
        have z2 : x + (i % w - x) = i % w := by omega
        rw [z1, z2, Nat.mul_comm, Nat.div_add_mod]
      · rintro ⟨h1, h2, rfl⟩
        have z := pos_split (w := w) (q := y + m / w) (r := x + m % w) h1
        rw [z.1, z.2]
        refine ⟨⟨Nat.le_add_right _ _, Nat.le_add_right _ _⟩, ?_⟩
        have z1 : y + m / w - y = m / w := Nat.add_sub_cancel_left _ _
        have z2 : x + m % w - x = m % w := Nat.add_sub_cancel_left _ _
        rw [z1, z2, Nat.mul_comm, Nat.div_add_mod]
    rw [List.range_succ, List.filter_append, List.map_append]
    unfold pst at ih ⊢
    rw [List.foldl_append]
    have hlen := pst_len w h x y (((List.range m).filter fun i => (c.getD i none).isSome).map fun i => (i % w, i / w, (c.getD i none).getD none_)) l
    unfold pst at hlen
    generalize hL : List.foldl (pst1 w h x y) l (((List.range m).filter fun i => (c.getD i none).isSome).map fun i => (i % w, i / w, (c.getD i none).getD none_)) = L at ih hlen ⊢
    cases hc : c.getD m none with
    | none =>
      simp only [List.filter_cons, hc, Option.isSome_none, Bool.false_eq_true, if_false, List.filter_nil, List.map_nil, List.foldl_nil]
      rw [ih]
      by_cases q : (x ≤ i % w ∧ y ≤ i / w) ∧ (i / w - y) * w + (i % w - x) = m
      · rw [if_neg (by omega), if_pos ⟨q.1, by omega⟩, q.2, hc]; rfl
      · by_cases q2 : (x ≤ i % w ∧ y ≤ i / w) ∧ (i / w - y) * w + (i % w - x) < m
        · rw [if_pos q2, if_pos ⟨q2.1, by omega⟩]
        · rw [if_neg q2, if_neg (fun z => q ⟨z.1, by have := z.2; have : ¬ (i / w - y) * w + (i % w - x) < m := fun u => q2 ⟨z.1, u⟩; omega⟩)]
    | some v =>
      simp only [List.filter_cons, hc, Option.isSome_some, if_true, List.filter_nil, List.map_cons, List.map_nil, List.foldl_cons, List.foldl_nil, Option.getD_some]
      by_cases q : (x ≤ i % w ∧ y ≤ i / w) ∧ (i / w - y) * w + (i % w - x) = m
      · rw [if_pos ⟨q.1, by omega⟩, q.2, hc]
        obtain ⟨k1, k2, k3⟩ := key.mp q
        unfold pst1
        rw [if_pos ⟨k1, k2⟩, ← k3, List.getD_eq_getElem?_getD, List.getElem?_set_self (by omega)]; rfl
      · have nk : ¬ (x + m % w < w ∧ y + m / w < h ∧ i = (y + m / w) * w + (x + m % w)) := fun z => q (key.mpr z)
        have e : (pst1 w h x y L (m % w, m / w, v)).getD i none_ = L.getD i none_ := by
          unfold pst1
          split
          · rename_i f
            rw [List.getD_eq_getElem?_getD, List.getElem?_set_ne (fun z => nk ⟨f.1, f.2, z.symm⟩), List.getD_eq_getElem?_getD]
          · rfl
        rw [e, ih]
        by_cases q2 : (x ≤ i % w ∧ y ≤ i / w) ∧ (i / w - y) * w + (i % w - x) < m
        · rw [if_pos q2, if_pos ⟨q2.1, by omega⟩]
        · rw [if_neg q2, if_neg (fun z => q ⟨z.1, by have := z.2; have : ¬ (i / w - y) * w + (i % w - x) < m := fun u => q2 ⟨z.1, u⟩; omega⟩)]
/-- all pieces pasted -/
theorem pst_all {w h x y : Nat} {c : Clip} {l : List Dot} (hw : 1 ≤ w) (hl : l.length = w * h) (hc : c.length = w * h) :
    pst w h x y l (pcs w c) = (List.range (w * h)).map fun i => if x ≤ i % w ∧ y ≤ i / w then (c.getD ((i / w - y) * w + (i % w - x)) none).getD (l.getD i none_) else l.getD i none_ := by
  have e := range_getD (l := pst w h x y l (pcs w c)) (n := w * h) (by rw [pst_len]; exact hl) none_
  rw [← e]
  apply List.map_congr_left
  intro i hi
  have hi := List.mem_range.mp hi
  have z := pst_at (x := x) (y := y) (c := c) hw hl c.length i hi
  unfold pcs
  rw [z]
  by_cases q : x ≤ i % w ∧ y ≤ i / w
  · rw [if_pos q]
    by_cases q2 : (i / w - y) * w + (i % w - x) < c.length
    · rw [if_pos ⟨q, q2⟩]
    · rw [if_neg (fun z => q2 z.2)]
      rw [List.getD_eq_getElem?_getD (l := c), List.getElem?_eq_none (by omega)]; rfl
  · rw [if_neg q, if_neg (fun z => q z.1)]
theorem clip_get {d : Doc} {l : Layer} (hl : d.layers[d.at_]? = some l) : d.clip = (List.range d.n).map fun i => if d.isChosen i then some (l.dot i) else none := by
  unfold Doc.clip Doc.layer; rw [hl]
theorem pcs_clip {d : Doc} {l : Layer} (hl : d.layers[d.at_]? = some l) : pcs d.w d.clip = ((List.range d.n).filter d.isChosen).map fun i => (i % d.w, i / d.w, l.dot i) := by
  rw [clip_get hl]
  unfold pcs
  rw [List.length_map, List.length_range]
  have e : ∀ i, i < d.n → ((List.range d.n).map fun i => if d.isChosen i then some (l.dot i) else none).getD i none = if d.isChosen i then some (l.dot i) else none := fun i hi => getD_range _ hi none
  have ef : (List.range d.n).filter (fun i => (((List.range d.n).map fun i => if d.isChosen i then some (l.dot i) else none).getD i none).isSome) = (List.range d.n).filter d.isChosen := by
    apply List.filter_congr
    intro i hi
    rw [e i (List.mem_range.mp hi)]
    cases d.isChosen i <;> rfl
  rw [ef]
  apply List.map_congr_left
  intro i hi
  have hm := List.mem_filter.mp hi
  rw [e i (List.mem_range.mp hm.1), if_pos hm.2]; rfl
theorem clip_ne {d : Doc} (h : Wf d) (hl : d.layers ≠ []) : d.clip ≠ [] := by
  intro e
  have z := (clip_ok h hl).1
  have n1 := h.n1
  rw [e] at z
  have : (0 : Nat) = d.n := z
  omega
/-! calls by their numbers -/
theorem put_clip (s : Ie13.St) (d : Doc) : (s.put d).clip = s.clip := by unfold Ie13.St.put; split <;> rfl
theorem step_cmd {s : Ie13.St} {c : Command} {d : Doc} (h : s.doc.does s.clip c = .ok d) (hc : c ≠ .cut) : step s (.command c) = (s.put d, told (s.put d)) := by
  have e : ({ s.put d with clip := if c = .cut then s.doc.clip else s.clip } : Ie13.St) = s.put d := by
    rw [if_neg hc, ← put_clip s d]
  simp only [step, h, e]
theorem step_cut {s : Ie13.St} {d : Doc} (h : s.doc.does s.clip .cut = .ok d) : step s (.command .cut) = (({ s with clip := s.doc.clip } : Ie13.St).put d, told (({ s with clip := s.doc.clip } : Ie13.St).put d)) := by
  have e : ({ s.put d with clip := if Command.cut = .cut then s.doc.clip else s.clip } : Ie13.St) = ({ s with clip := s.doc.clip } : Ie13.St).put d := by
    rw [if_pos rfl]
    unfold Ie13.St.put
    by_cases q : d = s.doc
    · rw [if_pos q, if_pos q]
    · rw [if_neg q, if_neg q]
  unfold step
  simp only [h]
  exact congrArg (fun n => (n, told n)) e
theorem step_err {s : Ie13.St} {c : Command} {e : Int} (h : s.doc.does s.clip c = .error e) : step s (.command c) = (s, [e]) := by
  simp only [step, h]
def cmdNum : Command → Nat
  | .layer => 1
  | .drop => 2
  | .pick _ => 3
  | .raise => 4
  | .set _ _ _ => 5
  | .box _ _ _ _ _ => 6
  | .like _ _ _ _ => 7
  | .turn => 8
  | .fill _ _ => 9
  | .bright _ _ => 10
  | .soft => 11
  | .shift _ _ => 12
  | .cut => 13
  | .paste _ _ => 14
  | .press => 15
def numOf : Ie13.Call → Nat
  | .page _ _ _ _ => 0
  | .command c => cmdNum c
  | .copy => 16
  | .undo => 17
  | .redo => 18
  | .picture => 19
  | .layer _ => 20
  | .chosen => 21
  | .steps => 22
  | .list => 23
def cmdArgs : Command → List Nat
  | .pick i => [i]
  | .set a b c => [a, b, c]
  | .box x y u v k => [x, y, u, v, k]
  | .like x y t k => [x, y, t, k]
  | .fill t m => [t, m]
  | .bright u k => [u, k]
  | .shift x y => [x, y]
  | .paste x y => [x, y]
  | _ => []
def argsOf : Ie13.Call → List Nat
  | .page w h g r => [w, h, g, r]
  | .command c => cmdArgs c
  | .layer i => [i]
  | _ => []
theorem callIn_num {c : List Nat} {x : Ie13.Call} (h : Ie13Neutral.callIn c = some x) : c = numOf x :: argsOf x := by
  unfold Ie13Neutral.callIn at h
  split at h <;> first | (cases h; rfl) | cases h
/-! how it stands -/
theorem bits_sum : ∀ (cs : List Bool), (cs.map fun b => if b = true then (1 : Int) else 0).sum = (((cs.filter id).length : Nat) : Int)
  | [] => rfl
  | true :: cs => by
    rw [List.map_cons, List.sum_cons, bits_sum cs]
    show (1 : Int) + _ = (((true :: cs.filter id).length : Nat) : Int)
    rw [List.length_cons]; omega
  | false :: cs => by
    rw [List.map_cons, List.sum_cons, bits_sum cs]
    show (0 : Int) + _ = (((cs.filter id).length : Nat) : Int)
    omega
theorem raise_cut {α : Type} {l : List α} {k : Nat} {a b : α} (ha : l[k]? = some a) (hb : l[k + 1]? = some b) : (l.set k b).set (k + 1) a = l.take k ++ [b, a] ++ l.drop (k + 2) := by
  have h1 := (List.getElem?_eq_some_iff.mp hb).1
  apply List.ext_getElem?
  intro i
  rw [List.getElem?_set, List.getElem?_set, List.length_set, List.append_assoc, List.getElem?_append, List.length_take, Nat.min_eq_left (by omega)]
  by_cases c1 : i < k
  · rw [if_neg (by omega), if_neg (by omega), if_pos c1, List.getElem?_take, if_pos c1]
  · rw [if_neg c1]
    by_cases c2 : i = k
    · subst c2
      rw [if_neg (by omega), if_pos rfl, if_pos (by omega), Nat.sub_self]; rfl
    · by_cases c3 : i = k + 1
      · subst c3
        rw [if_pos rfl, if_pos (by omega)]
        have : k + 1 - k = 1 := by omega
        rw [this]; rfl
      · rw [if_neg (by omega), if_neg (by omega)]
        have e : i - k = (i - k - 2) + 2 := by omega
        rw [e]
        show _ = (l.drop (k + 2))[i - k - 2]?
        rw [List.getElem?_drop]
        congr 1; omega
end Lp
set_option Elab.async false
set_option linter.all false
set_option maxRecDepth 100000
set_option maxHeartbeats 2000000
namespace Lp
open PySem PySem.Spec PyProof.Rows L2

/-! ### defs, classes, methods as they stand behind the top -/
def topS (i : Nat) : Stmt := PySem.Challenge.pw_layeredpage_s01_answers.main.body.getD i (.Pass ⟨0, 0, 0, 0⟩)
def Dfn (K : PySem.W.Frag) (mg : Str → Option Value) (x : Str) (st : Stmt) (ps : List Str) : Prop := ∃ f fd, Fun K x x st f fd ∧ mg x = some (.ref f) ∧ Binds K fd ps []
def Mth (K : PySem.W.Frag) (C : Addr) (m q : Str) (st : Stmt) (ps : List Str) : Prop := ∃ f fd, Fun K m q st f fd ∧ Meth K C m f ∧ Binds K fd ps []
def Ini (K : PySem.W.Frag) (mg : Str → Option Value) (C : Addr) (c q : Str) (st : Stmt) (ps : List Str) : Prop := ∃ f fd, Fun K "__init__" q st f fd ∧ Mk K C f ∧ mg c = some (.ref C) ∧ Binds K fd ps []
abbrev s_nearest : Stmt := topS 3
theorem sc_nearest : FnScope ["top", "bottom"] ["top", "bottom"] (defScope s_nearest) := ⟨rfl, rfl, rfl, by decide +kernel, rfl, by decide +kernel, by decide +kernel⟩
abbrev s_met_tone : Stmt := topS 4
theorem sc_met_tone : FnScope ["way", "below", "tone"] ["way", "below", "tone"] (defScope s_met_tone) := ⟨rfl, rfl, rfl, by decide +kernel, rfl, by decide +kernel, by decide +kernel⟩
abbrev s_covered_tone : Stmt := topS 5
theorem sc_covered_tone : FnScope ["below", "layer", "cell", "tone", "share", "over"] ["below", "layer", "cell"] (defScope s_covered_tone) := ⟨rfl, rfl, rfl, by decide +kernel, rfl, by decide +kernel, by decide +kernel⟩
abbrev s_covered : Stmt := topS 6
theorem sc_covered : FnScope ["tones", "layer", "below", "cell"] ["tones", "layer"] (defScope s_covered) := ⟨rfl, rfl, rfl, by decide +kernel, rfl, by decide +kernel, by decide +kernel⟩
abbrev s_picture_tones : Stmt := topS 7
theorem sc_picture_tones : FnScope ["document", "tones", "layer"] ["document"] (defScope s_picture_tones) := ⟨rfl, rfl, rfl, by decide +kernel, rfl, by decide +kernel, by decide +kernel⟩
abbrev s_box_region : Stmt := topS 9
theorem sc_box_region : FnScope ["width", "height", "x", "y", "u", "v", "cell"] ["width", "height", "x", "y", "u", "v"] (defScope s_box_region) := ⟨rfl, rfl, rfl, by decide +kernel, rfl, by decide +kernel, by decide +kernel⟩
abbrev s_beside : Stmt := topS 10
theorem sc_beside : FnScope ["cell", "width", "height", "found"] ["cell", "width", "height"] (defScope s_beside) := ⟨rfl, rfl, rfl, by decide +kernel, rfl, by decide +kernel, by decide +kernel⟩
abbrev s_like_region : Stmt := topS 11
theorem sc_like_region : FnScope ["tones", "width", "height", "start", "most", "region", "waiting", "cell", "other"] ["tones", "width", "height", "start", "most"] (defScope s_like_region) := ⟨rfl, rfl, rfl, by decide +kernel, rfl, by decide +kernel, by decide +kernel⟩
abbrev s_around : Stmt := topS 12
theorem sc_around : FnScope ["cell", "width", "height", "column", "row", "other"] ["cell", "width", "height"] (defScope s_around) := ⟨rfl, rfl, rfl, by decide +kernel, rfl, by decide +kernel, by decide +kernel⟩
abbrev s_chosen_after : Stmt := topS 13
theorem sc_chosen_after : FnScope ["how", "was", "inside"] ["how", "was", "inside"] (defScope s_chosen_after) := ⟨rfl, rfl, rfl, by decide +kernel, rfl, by decide +kernel, by decide +kernel⟩
abbrev s_chosen_by : Stmt := topS 14
theorem sc_chosen_by : FnScope ["how", "chosen", "region", "was", "inside"] ["how", "chosen", "region"] (defScope s_chosen_by) := ⟨rfl, rfl, rfl, by decide +kernel, rfl, by decide +kernel, by decide +kernel⟩
abbrev s_only_chosen : Stmt := topS 16
theorem sc_only_chosen : FnScope ["chosen", "cells", "changed", "cell"] ["chosen", "cells", "changed"] (defScope s_only_chosen) := ⟨rfl, rfl, rfl, by decide +kernel, rfl, by decide +kernel, by decide +kernel⟩
abbrev s_filled : Stmt := topS 17
theorem sc_filled : FnScope ["cells", "chosen", "tone", "much"] ["cells", "chosen", "tone", "much"] (defScope s_filled) := ⟨rfl, rfl, rfl, by decide +kernel, rfl, by decide +kernel, by decide +kernel⟩
abbrev s_moved_tone : Stmt := topS 18
theorem sc_moved_tone : FnScope ["tone", "up", "k"] ["tone", "up", "k"] (defScope s_moved_tone) := ⟨rfl, rfl, rfl, by decide +kernel, rfl, by decide +kernel, by decide +kernel⟩
abbrev s_brightened : Stmt := topS 19
theorem sc_brightened : FnScope ["cells", "chosen", "up", "k", "cell"] ["cells", "chosen", "up", "k"] (defScope s_brightened) := ⟨rfl, rfl, rfl, by decide +kernel, rfl, by decide +kernel, by decide +kernel⟩
abbrev s_mixed : Stmt := topS 20
theorem sc_mixed : FnScope ["some", "much", "cell", "weight"] ["some"] (defScope s_mixed) := ⟨rfl, rfl, rfl, by decide +kernel, rfl, by decide +kernel, by decide +kernel⟩
abbrev s_softened : Stmt := topS 21
theorem sc_softened : FnScope ["cells", "chosen", "width", "height", "changed", "cell", "other"] ["cells", "chosen", "width", "height"] (defScope s_softened) := ⟨rfl, rfl, rfl, by decide +kernel, rfl, by decide +kernel, by decide +kernel⟩
abbrev s_shifted : Stmt := topS 22
theorem sc_shifted : FnScope ["cells", "chosen", "width", "height", "x", "y", "changed", "cell", "column", "row"] ["cells", "chosen", "width", "height", "x", "y"] (defScope s_shifted) := ⟨rfl, rfl, rfl, by decide +kernel, rfl, by decide +kernel, by decide +kernel⟩
abbrev s_taken_out : Stmt := topS 23
theorem sc_taken_out : FnScope ["cells", "chosen", "width", "cell"] ["cells", "chosen", "width"] (defScope s_taken_out) := ⟨rfl, rfl, rfl, by decide +kernel, rfl, by decide +kernel, by decide +kernel⟩
abbrev s_pasted : Stmt := topS 24
theorem sc_pasted : FnScope ["cells", "width", "height", "pieces", "x", "y", "changed", "piece", "column", "row"] ["cells", "width", "height", "pieces", "x", "y"] (defScope s_pasted) := ⟨rfl, rfl, rfl, by decide +kernel, rfl, by decide +kernel, by decide +kernel⟩
abbrev s_Layer___init__ : Stmt := inClass (topS 26) 0
theorem sc_Layer___init__ : FnScope ["self", "number", "way", "much", "shown", "cells"] ["self", "number", "way", "much", "shown", "cells"] (defScope s_Layer___init__) := ⟨rfl, rfl, rfl, by decide +kernel, rfl, by decide +kernel, by decide +kernel⟩
abbrev s_Document___init__ : Stmt := inClass (topS 27) 0
theorem sc_Document___init__ : FnScope ["self", "width", "height", "ground", "layers", "worked", "chosen", "given"] ["self", "width", "height", "ground", "layers", "worked", "chosen", "given"] (defScope s_Document___init__) := ⟨rfl, rfl, rfl, by decide +kernel, rfl, by decide +kernel, by decide +kernel⟩
abbrev s_new_document : Stmt := topS 28
theorem sc_new_document : FnScope ["width", "height", "tone", "size"] ["width", "height", "tone"] (defScope s_new_document) := ⟨rfl, rfl, rfl, by decide +kernel, rfl, by decide +kernel, by decide +kernel⟩
abbrev s_empty_layer : Stmt := topS 29
theorem sc_empty_layer : FnScope ["document", "number"] ["document", "number"] (defScope s_empty_layer) := ⟨rfl, rfl, rfl, by decide +kernel, rfl, by decide +kernel, by decide +kernel⟩
abbrev s_with_layers : Stmt := topS 30
theorem sc_with_layers : FnScope ["document", "layers", "worked"] ["document", "layers", "worked"] (defScope s_with_layers) := ⟨rfl, rfl, rfl, by decide +kernel, rfl, by decide +kernel, by decide +kernel⟩
abbrev s_with_new_layer : Stmt := topS 31
theorem sc_with_new_layer : FnScope ["document", "place", "number", "layers"] ["document"] (defScope s_with_new_layer) := ⟨rfl, rfl, rfl, by decide +kernel, rfl, by decide +kernel, by decide +kernel⟩
abbrev s_with_lowest_pressed : Stmt := topS 32
theorem sc_with_lowest_pressed : FnScope ["document", "ground"] ["document", "ground"] (defScope s_with_lowest_pressed) := ⟨rfl, rfl, rfl, by decide +kernel, rfl, by decide +kernel, by decide +kernel⟩
abbrev s_with_chosen : Stmt := topS 33
theorem sc_with_chosen : FnScope ["document", "chosen"] ["document", "chosen"] (defScope s_with_chosen) := ⟨rfl, rfl, rfl, by decide +kernel, rfl, by decide +kernel, by decide +kernel⟩
abbrev s_worked_layer : Stmt := topS 34
theorem sc_worked_layer : FnScope ["document"] ["document"] (defScope s_worked_layer) := ⟨rfl, rfl, rfl, by decide +kernel, rfl, by decide +kernel, by decide +kernel⟩
abbrev s_with_worked_layer : Stmt := topS 35
theorem sc_with_worked_layer : FnScope ["document", "changed", "place"] ["document", "changed"] (defScope s_with_worked_layer) := ⟨rfl, rfl, rfl, by decide +kernel, rfl, by decide +kernel, by decide +kernel⟩
abbrev s_with_worked_cells : Stmt := topS 36
theorem sc_with_worked_cells : FnScope ["document", "cells", "was"] ["document", "cells"] (defScope s_with_worked_cells) := ⟨rfl, rfl, rfl, by decide +kernel, rfl, by decide +kernel, by decide +kernel⟩
abbrev s_dot_numbers : Stmt := topS 37
theorem sc_dot_numbers : FnScope ["layer", "told", "cell"] ["layer"] (defScope s_dot_numbers) := ⟨rfl, rfl, rfl, by decide +kernel, rfl, by decide +kernel, by decide +kernel⟩
abbrev s_layer_numbers : Stmt := topS 38
theorem sc_layer_numbers : FnScope ["layer", "having", "cell"] ["layer"] (defScope s_layer_numbers) := ⟨rfl, rfl, rfl, by decide +kernel, rfl, by decide +kernel, by decide +kernel⟩
abbrev s_same_layer : Stmt := topS 39
theorem sc_same_layer : FnScope ["one", "other"] ["one", "other"] (defScope s_same_layer) := ⟨rfl, rfl, rfl, by decide +kernel, rfl, by decide +kernel, by decide +kernel⟩
abbrev s_same_layers : Stmt := topS 40
theorem sc_same_layers : FnScope ["some", "others", "one", "other"] ["some", "others"] (defScope s_same_layers) := ⟨rfl, rfl, rfl, by decide +kernel, rfl, by decide +kernel, by decide +kernel⟩
abbrev s_same_document : Stmt := topS 41
theorem sc_same_document : FnScope ["one", "other"] ["one", "other"] (defScope s_same_document) := ⟨rfl, rfl, rfl, by decide +kernel, rfl, by decide +kernel, by decide +kernel⟩
abbrev s_differing : Stmt := topS 43
theorem sc_differing : FnScope ["some", "others", "one", "other"] ["some", "others"] (defScope s_differing) := ⟨rfl, rfl, rfl, by decide +kernel, rfl, by decide +kernel, by decide +kernel⟩
abbrev s_layer_numbered : Stmt := topS 44
theorem sc_layer_numbered : FnScope ["layers", "number", "layer"] ["layers", "number"] (defScope s_layer_numbered) := ⟨rfl, rfl, rfl, by decide +kernel, rfl, by decide +kernel, by decide +kernel⟩
abbrev s_layers_size : Stmt := topS 45
theorem sc_layers_size : FnScope ["before", "after", "size", "layer", "other"] ["before", "after"] (defScope s_layers_size) := ⟨rfl, rfl, rfl, by decide +kernel, rfl, by decide +kernel, by decide +kernel⟩
abbrev s_step_size : Stmt := topS 46
theorem sc_step_size : FnScope ["before", "after", "ground", "chosen"] ["before", "after"] (defScope s_step_size) := ⟨rfl, rfl, rfl, by decide +kernel, rfl, by decide +kernel, by decide +kernel⟩
abbrev s_Editor___init__ : Stmt := inClass (topS 47) 0
theorem sc_Editor___init__ : FnScope ["self"] ["self"] (defScope s_Editor___init__) := ⟨rfl, rfl, rfl, by decide +kernel, rfl, by decide +kernel, by decide +kernel⟩
abbrev s_Editor_begin : Stmt := inClass (topS 47) 1
theorem sc_Editor_begin : FnScope ["self", "document", "room"] ["self", "document", "room"] (defScope s_Editor_begin) := ⟨rfl, rfl, rfl, by decide +kernel, rfl, by decide +kernel, by decide +kernel⟩
abbrev s_Editor_standing : Stmt := inClass (topS 47) 2
theorem sc_Editor_standing : FnScope ["self", "now"] ["self"] (defScope s_Editor_standing) := ⟨rfl, rfl, rfl, by decide +kernel, rfl, by decide +kernel, by decide +kernel⟩
abbrev s_Editor_step_to : Stmt := inClass (topS 47) 3
theorem sc_Editor_step_to : FnScope ["self", "after"] ["self", "after"] (defScope s_Editor_step_to) := ⟨rfl, rfl, rfl, by decide +kernel, rfl, by decide +kernel, by decide +kernel⟩
abbrev s_Editor_forget : Stmt := inClass (topS 47) 4
theorem sc_Editor_forget : FnScope ["self", "step"] ["self"] (defScope s_Editor_forget) := ⟨rfl, rfl, rfl, by decide +kernel, rfl, by decide +kernel, by decide +kernel⟩
abbrev s_Editor_undo : Stmt := inClass (topS 47) 5
theorem sc_Editor_undo : FnScope ["self", "step"] ["self"] (defScope s_Editor_undo) := ⟨rfl, rfl, rfl, by decide +kernel, rfl, by decide +kernel, by decide +kernel⟩
abbrev s_Editor_redo : Stmt := inClass (topS 47) 6
theorem sc_Editor_redo : FnScope ["self", "step"] ["self"] (defScope s_Editor_redo) := ⟨rfl, rfl, rfl, by decide +kernel, rfl, by decide +kernel, by decide +kernel⟩
abbrev s_Editor_step_sizes : Stmt := inClass (topS 47) 7
theorem sc_Editor_step_sizes : FnScope ["self", "done", "step", "undone"] ["self"] (defScope s_Editor_step_sizes) := ⟨rfl, rfl, rfl, by decide +kernel, rfl, by decide +kernel, by decide +kernel⟩
abbrev s_page : Stmt := topS 62
theorem sc_page : FnScope ["editor", "w", "h", "tone", "room"] ["editor", "w", "h", "tone", "room"] (defScope s_page) := ⟨rfl, rfl, rfl, by decide +kernel, rfl, by decide +kernel, by decide +kernel⟩
abbrev s_layer : Stmt := topS 63
theorem sc_layer : FnScope ["editor"] ["editor"] (defScope s_layer) := ⟨rfl, rfl, rfl, by decide +kernel, rfl, by decide +kernel, by decide +kernel⟩
abbrev s_drop : Stmt := topS 64
theorem sc_drop : FnScope ["editor", "document", "place", "left"] ["editor"] (defScope s_drop) := ⟨rfl, rfl, rfl, by decide +kernel, rfl, by decide +kernel, by decide +kernel⟩
abbrev s_pick : Stmt := topS 65
theorem sc_pick : FnScope ["editor", "i", "document"] ["editor", "i"] (defScope s_pick) := ⟨rfl, rfl, rfl, by decide +kernel, rfl, by decide +kernel, by decide +kernel⟩
abbrev s_raise_it : Stmt := topS 66
theorem sc_raise_it : FnScope ["editor", "document", "place", "swapped", "layers"] ["editor"] (defScope s_raise_it) := ⟨rfl, rfl, rfl, by decide +kernel, rfl, by decide +kernel, by decide +kernel⟩
abbrev s_set_it : Stmt := topS 67
theorem sc_set_it : FnScope ["editor", "way", "much", "shown", "document", "was"] ["editor", "way", "much", "shown"] (defScope s_set_it) := ⟨rfl, rfl, rfl, by decide +kernel, rfl, by decide +kernel, by decide +kernel⟩
abbrev s_choose : Stmt := topS 68
theorem sc_choose : FnScope ["editor", "how", "region", "document"] ["editor", "how", "region"] (defScope s_choose) := ⟨rfl, rfl, rfl, by decide +kernel, rfl, by decide +kernel, by decide +kernel⟩
abbrev s_box : Stmt := topS 69
theorem sc_box : FnScope ["editor", "x", "y", "u", "v", "how", "document"] ["editor", "x", "y", "u", "v", "how"] (defScope s_box) := ⟨rfl, rfl, rfl, by decide +kernel, rfl, by decide +kernel, by decide +kernel⟩
abbrev s_like : Stmt := topS 70
theorem sc_like : FnScope ["editor", "x", "y", "t", "how", "document", "start", "region"] ["editor", "x", "y", "t", "how"] (defScope s_like) := ⟨rfl, rfl, rfl, by decide +kernel, rfl, by decide +kernel, by decide +kernel⟩
abbrev s_turn : Stmt := topS 71
theorem sc_turn : FnScope ["editor", "document", "was"] ["editor"] (defScope s_turn) := ⟨rfl, rfl, rfl, by decide +kernel, rfl, by decide +kernel, by decide +kernel⟩
abbrev s_fill : Stmt := topS 72
theorem sc_fill : FnScope ["editor", "tone", "much", "document", "cells"] ["editor", "tone", "much"] (defScope s_fill) := ⟨rfl, rfl, rfl, by decide +kernel, rfl, by decide +kernel, by decide +kernel⟩
abbrev s_bright : Stmt := topS 73
theorem sc_bright : FnScope ["editor", "up", "k", "document", "cells"] ["editor", "up", "k"] (defScope s_bright) := ⟨rfl, rfl, rfl, by decide +kernel, rfl, by decide +kernel, by decide +kernel⟩
abbrev s_soft : Stmt := topS 74
theorem sc_soft : FnScope ["editor", "document", "cells"] ["editor"] (defScope s_soft) := ⟨rfl, rfl, rfl, by decide +kernel, rfl, by decide +kernel, by decide +kernel⟩
abbrev s_shift : Stmt := topS 75
theorem sc_shift : FnScope ["editor", "x", "y", "document", "was", "cells"] ["editor", "x", "y"] (defScope s_shift) := ⟨rfl, rfl, rfl, by decide +kernel, rfl, by decide +kernel, by decide +kernel⟩
abbrev s_take_chosen : Stmt := topS 76
theorem sc_take_chosen : FnScope ["editor", "document"] ["editor"] (defScope s_take_chosen) := ⟨rfl, rfl, rfl, by decide +kernel, rfl, by decide +kernel, by decide +kernel⟩
abbrev s_cut : Stmt := topS 77
theorem sc_cut : FnScope ["editor", "document", "cells"] ["editor"] (defScope s_cut) := ⟨rfl, rfl, rfl, by decide +kernel, rfl, by decide +kernel, by decide +kernel⟩
abbrev s_paste : Stmt := topS 78
theorem sc_paste : FnScope ["editor", "x", "y", "document", "was", "cells"] ["editor", "x", "y"] (defScope s_paste) := ⟨rfl, rfl, rfl, by decide +kernel, rfl, by decide +kernel, by decide +kernel⟩
abbrev s_press : Stmt := topS 79
theorem sc_press : FnScope ["editor", "document", "ground"] ["editor"] (defScope s_press) := ⟨rfl, rfl, rfl, by decide +kernel, rfl, by decide +kernel, by decide +kernel⟩
abbrev s_copy : Stmt := topS 80
theorem sc_copy : FnScope ["editor"] ["editor"] (defScope s_copy) := ⟨rfl, rfl, rfl, by decide +kernel, rfl, by decide +kernel, by decide +kernel⟩
abbrev s_undo : Stmt := topS 81
theorem sc_undo : FnScope ["editor"] ["editor"] (defScope s_undo) := ⟨rfl, rfl, rfl, by decide +kernel, rfl, by decide +kernel, by decide +kernel⟩
abbrev s_redo : Stmt := topS 82
theorem sc_redo : FnScope ["editor"] ["editor"] (defScope s_redo) := ⟨rfl, rfl, rfl, by decide +kernel, rfl, by decide +kernel, by decide +kernel⟩
abbrev s_dots : Stmt := topS 83
theorem sc_dots : FnScope ["editor", "i", "layers"] ["editor", "i"] (defScope s_dots) := ⟨rfl, rfl, rfl, by decide +kernel, rfl, by decide +kernel, by decide +kernel⟩
abbrev s_list_of : Stmt := topS 84
theorem sc_list_of : FnScope ["editor", "layers", "told", "one"] ["editor"] (defScope s_list_of) := ⟨rfl, rfl, rfl, by decide +kernel, rfl, by decide +kernel, by decide +kernel⟩
abbrev s_layer_answer : Stmt := topS 85
theorem sc_layer_answer : FnScope ["editor", "number", "row"] ["editor", "number", "row"] (defScope s_layer_answer) := ⟨rfl, rfl, rfl, by decide +kernel, rfl, by decide +kernel, by decide +kernel⟩
abbrev s_cell_answer : Stmt := topS 86
theorem sc_cell_answer : FnScope ["editor", "number", "row"] ["editor", "number", "row"] (defScope s_cell_answer) := ⟨rfl, rfl, rfl, by decide +kernel, rfl, by decide +kernel, by decide +kernel⟩
abbrev s_piece_answer : Stmt := topS 87
theorem sc_piece_answer : FnScope ["editor", "number", "row"] ["editor", "number", "row"] (defScope s_piece_answer) := ⟨rfl, rfl, rfl, by decide +kernel, rfl, by decide +kernel, by decide +kernel⟩
abbrev s_asked_answer : Stmt := topS 88
theorem sc_asked_answer : FnScope ["editor", "number", "row"] ["editor", "number", "row"] (defScope s_asked_answer) := ⟨rfl, rfl, rfl, by decide +kernel, rfl, by decide +kernel, by decide +kernel⟩
abbrev s_call_answer : Stmt := topS 89
theorem sc_call_answer : FnScope ["editor", "number", "row"] ["editor", "number", "row"] (defScope s_call_answer) := ⟨rfl, rfl, rfl, by decide +kernel, rfl, by decide +kernel, by decide +kernel⟩
abbrev s_answers : Stmt := topS 90
theorem sc_answers : FnScope ["calls", "editor", "given", "at", "number", "behind", "answered"] ["calls"] (defScope s_answers) := ⟨rfl, rfl, rfl, by decide +kernel, rfl, by decide +kernel, by decide +kernel⟩
/-- what the top has left -/
structure Txt (K : PySem.W.Frag) (mg : Str → Option Value) (C_Layer C_Document C_Editor : Addr) : Prop where
  b_abs : mg "abs" = none
  b_all : mg "all" = none
  b_len : mg "len" = none
  b_list : mg "list" = none
  b_max : mg "max" = none
  b_min : mg "min" = none
  b_range : mg "range" = none
  b_reversed : mg "reversed" = none
  b_sum : mg "sum" = none
  b_zip : mg "zip" = none
  c_FULL : ∃ u, mg "FULL" = some u ∧ RelV (.int (255)) u
  c_FULL_TWICE : ∃ u, mg "FULL_TWICE" = some u ∧ RelV (.int (65025)) u
  c_NO_SUCH_PAGE : ∃ u, mg "NO_SUCH_PAGE" = some u ∧ RelV (.int (-1)) u
  c_NO_SUCH_CELL : ∃ u, mg "NO_SUCH_CELL" = some u ∧ RelV (.int (-1)) u
  c_NO_SUCH_LAYER : ∃ u, mg "NO_SUCH_LAYER" = some u ∧ RelV (.int (-2)) u
  c_NO_SUCH_SETTING : ∃ u, mg "NO_SUCH_SETTING" = some u ∧ RelV (.int (-3)) u
  c_NOTHING_THERE : ∃ u, mg "NOTHING_THERE" = some u ∧ RelV (.int (-4)) u
  c_NO_MORE_LAYERS : ∃ u, mg "NO_MORE_LAYERS" = some u ∧ RelV (.int (-5)) u
  c_MOST_SIDE : ∃ u, mg "MOST_SIDE" = some u ∧ RelV (.int (6)) u
  c_MOST_TONE : ∃ u, mg "MOST_TONE" = some u ∧ RelV (.int (255)) u
  c_MOST_ROOM : ∃ u, mg "MOST_ROOM" = some u ∧ RelV (.int (1000)) u
  c_MOST_LAYERS : ∃ u, mg "MOST_LAYERS" = some u ∧ RelV (.int (5)) u
  c_MOST_WAY : ∃ u, mg "MOST_WAY" = some u ∧ RelV (.int (3)) u
  c_MOST_HOW : ∃ u, mg "MOST_HOW" = some u ∧ RelV (.int (3)) u
  c_ARGUMENTS : ∃ a, mg "ARGUMENTS" = some (.ref a) ∧ ∀ H, SqT K H a [.int (4), .int (0), .int (0), .int (1), .int (0), .int (3), .int (5), .int (4), .int (0), .int (2), .int (2), .int (0), .int (2), .int (0), .int (2), .int (0), .int (0), .int (0), .int (0), .int (0), .int (1), .int (0), .int (0), .int (0)]
  k_Layer : Cls K C_Layer
  n_Layer_number : NoAttr K C_Layer "number"
  n_Layer_way : NoAttr K C_Layer "way"
  n_Layer_much : NoAttr K C_Layer "much"
  n_Layer_shown : NoAttr K C_Layer "shown"
  n_Layer_cells : NoAttr K C_Layer "cells"
  k_Document : Cls K C_Document
  n_Document_width : NoAttr K C_Document "width"
  n_Document_height : NoAttr K C_Document "height"
  n_Document_ground : NoAttr K C_Document "ground"
  n_Document_layers : NoAttr K C_Document "layers"
  n_Document_worked : NoAttr K C_Document "worked"
  n_Document_chosen : NoAttr K C_Document "chosen"
  n_Document_given : NoAttr K C_Document "given"
  k_Editor : Cls K C_Editor
  n_Editor_document : NoAttr K C_Editor "document"
  n_Editor_room : NoAttr K C_Editor "room"
  n_Editor_done : NoAttr K C_Editor "done"
  n_Editor_undone : NoAttr K C_Editor "undone"
  n_Editor_cut_out : NoAttr K C_Editor "cut_out"
  d_nearest : Dfn K mg "nearest" s_nearest ["top", "bottom"]
  d_met_tone : Dfn K mg "met_tone" s_met_tone ["way", "below", "tone"]
  d_covered_tone : Dfn K mg "covered_tone" s_covered_tone ["below", "layer", "cell"]
  d_covered : Dfn K mg "covered" s_covered ["tones", "layer"]
  d_picture_tones : Dfn K mg "picture_tones" s_picture_tones ["document"]
  d_box_region : Dfn K mg "box_region" s_box_region ["width", "height", "x", "y", "u", "v"]
  d_beside : Dfn K mg "beside" s_beside ["cell", "width", "height"]
  d_like_region : Dfn K mg "like_region" s_like_region ["tones", "width", "height", "start", "most"]
  d_around : Dfn K mg "around" s_around ["cell", "width", "height"]
  d_chosen_after : Dfn K mg "chosen_after" s_chosen_after ["how", "was", "inside"]
  d_chosen_by : Dfn K mg "chosen_by" s_chosen_by ["how", "chosen", "region"]
  d_only_chosen : Dfn K mg "only_chosen" s_only_chosen ["chosen", "cells", "changed"]
  d_filled : Dfn K mg "filled" s_filled ["cells", "chosen", "tone", "much"]
  d_moved_tone : Dfn K mg "moved_tone" s_moved_tone ["tone", "up", "k"]
  d_brightened : Dfn K mg "brightened" s_brightened ["cells", "chosen", "up", "k"]
  d_mixed : Dfn K mg "mixed" s_mixed ["some"]
  d_softened : Dfn K mg "softened" s_softened ["cells", "chosen", "width", "height"]
  d_shifted : Dfn K mg "shifted" s_shifted ["cells", "chosen", "width", "height", "x", "y"]
  d_taken_out : Dfn K mg "taken_out" s_taken_out ["cells", "chosen", "width"]
  d_pasted : Dfn K mg "pasted" s_pasted ["cells", "width", "height", "pieces", "x", "y"]
  d_Layer___init__ : Ini K mg C_Layer "Layer" "Layer.__init__" s_Layer___init__ ["self", "number", "way", "much", "shown", "cells"]
  d_Document___init__ : Ini K mg C_Document "Document" "Document.__init__" s_Document___init__ ["self", "width", "height", "ground", "layers", "worked", "chosen", "given"]
  d_new_document : Dfn K mg "new_document" s_new_document ["width", "height", "tone"]
  d_empty_layer : Dfn K mg "empty_layer" s_empty_layer ["document", "number"]
  d_with_layers : Dfn K mg "with_layers" s_with_layers ["document", "layers", "worked"]
  d_with_new_layer : Dfn K mg "with_new_layer" s_with_new_layer ["document"]
  d_with_lowest_pressed : Dfn K mg "with_lowest_pressed" s_with_lowest_pressed ["document", "ground"]
  d_with_chosen : Dfn K mg "with_chosen" s_with_chosen ["document", "chosen"]
  d_worked_layer : Dfn K mg "worked_layer" s_worked_layer ["document"]
  d_with_worked_layer : Dfn K mg "with_worked_layer" s_with_worked_layer ["document", "changed"]
  d_with_worked_cells : Dfn K mg "with_worked_cells" s_with_worked_cells ["document", "cells"]
  d_dot_numbers : Dfn K mg "dot_numbers" s_dot_numbers ["layer"]
  d_layer_numbers : Dfn K mg "layer_numbers" s_layer_numbers ["layer"]
  d_same_layer : Dfn K mg "same_layer" s_same_layer ["one", "other"]
  d_same_layers : Dfn K mg "same_layers" s_same_layers ["some", "others"]
  d_same_document : Dfn K mg "same_document" s_same_document ["one", "other"]
  d_differing : Dfn K mg "differing" s_differing ["some", "others"]
  d_layer_numbered : Dfn K mg "layer_numbered" s_layer_numbered ["layers", "number"]
  d_layers_size : Dfn K mg "layers_size" s_layers_size ["before", "after"]
  d_step_size : Dfn K mg "step_size" s_step_size ["before", "after"]
  d_Editor___init__ : Ini K mg C_Editor "Editor" "Editor.__init__" s_Editor___init__ ["self"]
  d_Editor_begin : Mth K C_Editor "begin" "Editor.begin" s_Editor_begin ["self", "document", "room"]
  d_Editor_standing : Mth K C_Editor "standing" "Editor.standing" s_Editor_standing ["self"]
  d_Editor_step_to : Mth K C_Editor "step_to" "Editor.step_to" s_Editor_step_to ["self", "after"]
  d_Editor_forget : Mth K C_Editor "forget" "Editor.forget" s_Editor_forget ["self"]
  d_Editor_undo : Mth K C_Editor "undo" "Editor.undo" s_Editor_undo ["self"]
  d_Editor_redo : Mth K C_Editor "redo" "Editor.redo" s_Editor_redo ["self"]
  d_Editor_step_sizes : Mth K C_Editor "step_sizes" "Editor.step_sizes" s_Editor_step_sizes ["self"]
  d_page : Dfn K mg "page" s_page ["editor", "w", "h", "tone", "room"]
  d_layer : Dfn K mg "layer" s_layer ["editor"]
  d_drop : Dfn K mg "drop" s_drop ["editor"]
  d_pick : Dfn K mg "pick" s_pick ["editor", "i"]
  d_raise_it : Dfn K mg "raise_it" s_raise_it ["editor"]
  d_set_it : Dfn K mg "set_it" s_set_it ["editor", "way", "much", "shown"]
  d_choose : Dfn K mg "choose" s_choose ["editor", "how", "region"]
  d_box : Dfn K mg "box" s_box ["editor", "x", "y", "u", "v", "how"]
  d_like : Dfn K mg "like" s_like ["editor", "x", "y", "t", "how"]
  d_turn : Dfn K mg "turn" s_turn ["editor"]
  d_fill : Dfn K mg "fill" s_fill ["editor", "tone", "much"]
  d_bright : Dfn K mg "bright" s_bright ["editor", "up", "k"]
  d_soft : Dfn K mg "soft" s_soft ["editor"]
  d_shift : Dfn K mg "shift" s_shift ["editor", "x", "y"]
  d_take_chosen : Dfn K mg "take_chosen" s_take_chosen ["editor"]
  d_cut : Dfn K mg "cut" s_cut ["editor"]
  d_paste : Dfn K mg "paste" s_paste ["editor", "x", "y"]
  d_press : Dfn K mg "press" s_press ["editor"]
  d_copy : Dfn K mg "copy" s_copy ["editor"]
  d_undo : Dfn K mg "undo" s_undo ["editor"]
  d_redo : Dfn K mg "redo" s_redo ["editor"]
  d_dots : Dfn K mg "dots" s_dots ["editor", "i"]
  d_list_of : Dfn K mg "list_of" s_list_of ["editor"]
  d_layer_answer : Dfn K mg "layer_answer" s_layer_answer ["editor", "number", "row"]
  d_cell_answer : Dfn K mg "cell_answer" s_cell_answer ["editor", "number", "row"]
  d_piece_answer : Dfn K mg "piece_answer" s_piece_answer ["editor", "number", "row"]
  d_asked_answer : Dfn K mg "asked_answer" s_asked_answer ["editor", "number", "row"]
  d_call_answer : Dfn K mg "call_answer" s_call_answer ["editor", "number", "row"]
  d_answers : Dfn K mg "answers" s_answers ["calls"]
section
variable (P : Program) (w : World) (K : PySem.W.Frag) (mg : Str → Option Value) (base : Heap)
/-- the def x keeps the promise sp, within k rooms -/
def Ok (k : Nat) (x : Str) (ps : List Str) (sp : Sp) : Prop := ∃ f fd, FnOk P w K mg base CX0 k f fd ps sp ∧ mg x = some (.ref f) ∧ PySem.W.keepIn K (.ref f) = true ∧ Binds K fd ps []
def OkM (k : Nat) (C : Addr) (m : Str) (ps : List Str) (sp : Sp) : Prop := ∃ f fd, FnOk P w K mg base CX0 k f fd ps sp ∧ Meth K C m f ∧ Cls K C ∧ Binds K fd ps []
def OkI (k : Nat) (C : Addr) (c : Str) (ps : List Str) (sp : Sp) : Prop := ∃ f fd, FnOk P w K mg base CX0 k f fd ps sp ∧ Mk K C f ∧ mg c = some (.ref C) ∧ Binds K fd ps []
end
section
variable {P : Program} {w : World} {K : PySem.W.Frag} {mg : Str → Option Value} {base : Heap}
theorem Dfn.ok {x : Str} {st : Stmt} {N ps : List Str} {k : Nat} {sp : Sp} (d : Dfn K mg x st ps) (S : FnScope N ps (defScope st)) (len : ∀ vs H Q E, sp vs H Q E → vs.length = ps.length)
    (hbody : ∀ (f : Addr) (cdv : Value) (A : Around) (outer : List Env) (s : Shared) (H : Hp) (vs : List V) (Q : VK) (E : XK), Room k (A.deeper (envOfC x (defScope st) s.heap.objs.size f cdv)) → sp vs H Q E →
      ∃ t, PSs (cxOf CX0 P w K mg base N x (defScope st) f cdv A outer s H E).nox (defBody st) t ∧ t { nx := fun _ H' => Q .non H', rt := Q } (start N vs) H) : Ok P w K mg base (k + 1) x ps sp := by
  obtain ⟨f, fd, F, g, b⟩ := d
  exact ⟨f, fd, F.ok S len (hbody f), g, F.kp, b⟩
theorem Mth.ok {C : Addr} {m q : Str} {st : Stmt} {N ps : List Str} {k : Nat} {sp : Sp} (d : Mth K C m q st ps) (c : Cls K C) (S : FnScope N ps (defScope st)) (len : ∀ vs H Q E, sp vs H Q E → vs.length = ps.length)
    (hbody : ∀ (f : Addr) (cdv : Value) (A : Around) (outer : List Env) (s : Shared) (H : Hp) (vs : List V) (Q : VK) (E : XK), Room k (A.deeper (envOfC q (defScope st) s.heap.objs.size f cdv)) → sp vs H Q E →
      ∃ t, PSs (cxOf CX0 P w K mg base N q (defScope st) f cdv A outer s H E).nox (defBody st) t ∧ t { nx := fun _ H' => Q .non H', rt := Q } (start N vs) H) : OkM P w K mg base (k + 1) C m ps sp := by
  obtain ⟨f, fd, F, g, b⟩ := d
  exact ⟨f, fd, F.ok S len (hbody f), g, c, b⟩
theorem Ini.ok {C : Addr} {c q : Str} {st : Stmt} {N ps : List Str} {k : Nat} {sp : Sp} (d : Ini K mg C c q st ps) (S : FnScope N ps (defScope st)) (len : ∀ vs H Q E, sp vs H Q E → vs.length = ps.length)
    (hbody : ∀ (f : Addr) (cdv : Value) (A : Around) (outer : List Env) (s : Shared) (H : Hp) (vs : List V) (Q : VK) (E : XK), Room k (A.deeper (envOfC q (defScope st) s.heap.objs.size f cdv)) → sp vs H Q E →
      ∃ t, PSs (cxOf CX0 P w K mg base N q (defScope st) f cdv A outer s H E).nox (defBody st) t ∧ t { nx := fun _ H' => Q .non H', rt := Q } (start N vs) H) : OkI P w K mg base (k + 1) C c ps sp := by
  obtain ⟨f, fd, F, g, h, b⟩ := d
  exact ⟨f, fd, F.ok S len (hbody f), g, h, b⟩
end
/-! ### calls by them -/
def rLenK (K : PySem.W.Frag) : List V → Hp → VK → Prop := fun xs H Q => ∃ p ys, xs = [.ref p] ∧ (SqL K H p ys ∨ SqT K H p ys) ∧ Q (.int ys.length) H
def tCallO (sp : Sp) (t : TA) : TE := fun σ H Q => t σ H fun vs H1 => sp vs H1 Q E0
def tMethO (C : Addr) (m : Str) (sp : Sp) (ta : TE) (t : TA) : TE := fun σ H Q => ta σ H fun x H1 => ∃ a dx fs, x = .ref a ∧ H1 a = some (.ins C dx fs) ∧ fs.lookup m = none ∧ t σ H1 fun vs H2 => sp (x :: vs) H2 Q E0
def tMakeO (C : Addr) (sp : Sp) (t : TA) : TE := fun σ H Q => t σ H fun vs H1 => ∀ x dx, H1 x = none → H1 dx = none → dx ≠ x → sp (.ref x :: vs) (upd (upd H1 dx (.own x)) x (.ins C dx [])) (fun v H2 => v = .non ∧ Q (.ref x) H2) E0
section
variable {X : Cx} {k : Nat} {C : Addr} {ps : List Str} {sp : Sp} {x m : Str} {p pos apos : Pos} {e o : Expr} {es : List Expr} {ta : TE} {t : TA}
theorem tCallO_eq : tCall sp [] E0 t = tCallO sp t := by
  funext σ H Q
  show t σ H (fun vs H1 => sp (vs ++ []) H1 Q E0) = t σ H (fun vs H1 => sp vs H1 Q E0)
  simp only [List.append_nil]
theorem tMethO_eq : tMeth C m sp [] E0 ta t = tMethO C m sp ta t := by
  funext σ H Q
  unfold tMeth tMethO
  simp only [List.append_nil]
theorem tMakeO_eq : tMake C sp [] E0 t = tMakeO C sp t := by
  funext σ H Q
  unfold tMake tMakeO
  simp only [List.append_nil]
theorem pe_callO (O : Ok X.prog X.w X.K X.mg X.base k x ps sp) (hr : Room k X.A) (hg : Gl X x) (ha : PA X (e :: es) t) (hdb : (x == ("__debug__" : Str)) = false := by decide)
    (he : starEach (e :: es) X.env = (false, eval e X.env) :: starEach es X.env := by rfl) (hpl : (backTo pos (starEach es X.env)).any (·.1) = false := by rfl) : PE X (.Call (.Name x p) (e :: es) [] pos) (tCallO sp t) := by
  obtain ⟨f, fd, F, g, kp, b⟩ := O
  exact tCallO_eq ▸ pe_call F hr hg g kp b .nil pass0 ha hdb he hpl
theorem pe_callO0 (O : Ok X.prog X.w X.K X.mg X.base k x ps sp) (hr : Room k X.A) (hg : Gl X x) (hdb : (x == ("__debug__" : Str)) = false := by decide) : PE X (.Call (.Name x p) [] [] pos) (tCallO sp tNil) := by
  obtain ⟨f, fd, F, g, kp, b⟩ := O
  exact tCallO_eq ▸ pe_call0 F hr hg g kp b .nil pass0 hdb
theorem pe_makeO (O : OkI X.prog X.w X.K X.mg X.base k C x ps sp) (hr : Room (k + 1) X.A) (hg : Gl X x) (ha : PA X (e :: es) t) (hdb : (x == ("__debug__" : Str)) = false := by decide)
    (he : starEach (e :: es) X.env = (false, eval e X.env) :: starEach es X.env := by rfl) (hpl : (backTo pos (starEach es X.env)).any (·.1) = false := by rfl) : PE X (.Call (.Name x p) (e :: es) [] pos) (tMakeO C sp t) := by
  obtain ⟨f, fd, F, M, g, b⟩ := O
  exact tMakeO_eq ▸ pe_make M F hr hg g b .nil pass0 ha hdb he hpl
theorem pe_makeO0 (O : OkI X.prog X.w X.K X.mg X.base k C x ps sp) (hr : Room (k + 1) X.A) (hg : Gl X x) (hdb : (x == ("__debug__" : Str)) = false := by decide) : PE X (.Call (.Name x p) [] [] pos) (tMakeO C sp tNil) := by
  obtain ⟨f, fd, F, M, g, b⟩ := O
  exact tMakeO_eq ▸ pe_make0 M F hr hg g b .nil pass0 hdb
theorem pe_methO {pl : Sem Bool} (he : PE X o ta) (O : OkM X.prog X.w X.K X.mg X.base k C m ps sp) (hr : Room k X.A) (ha : PA X (e :: es) t)
    (hst : starEach (e :: es) X.env = (false, eval e X.env) :: starEach es X.env := by rfl) (hpl : (backTo pos (starEach es X.env)).any (·.1) = false := by rfl)
    (ht : eval (.Call (.Attribute o m apos) (e :: es) [] pos) X.env = (do
      let ov ← eval o X.env
      standAt apos.atName
      let (f, first) ← holding [ov] (getMethod ov m pl)
      callWith pos f first (backTo pos (starEach (e :: es) X.env)) (backToKw pos (keywordEach [] X.env))) := by rfl) : PE X (.Call (.Attribute o m apos) (e :: es) [] pos) (tMethO C m sp ta t) := by
  obtain ⟨f, fd, F, M, c, b⟩ := O
  exact tMethO_eq ▸ pe_meth (pl := pl) he c M F hr b .nil pass0 ha hst hpl ht
theorem pe_methO0 {pl : Sem Bool} (he : PE X o ta) (O : OkM X.prog X.w X.K X.mg X.base k C m ps sp) (hr : Room k X.A)
    (ht : eval (.Call (.Attribute o m apos) [] [] pos) X.env = (do
      let ov ← eval o X.env
      standAt apos.atName
      let (f, first) ← holding [ov] (getMethod ov m pl)
      callWith pos f first (backTo pos (starEach [] X.env)) (backToKw pos (keywordEach [] X.env))) := by rfl) : PE X (.Call (.Attribute o m apos) [] [] pos) (tMethO C m sp ta tNil) := by
  obtain ⟨f, fd, F, M, c, b⟩ := O
  exact tMethO_eq ▸ pe_meth0 (pl := pl) he c M F hr b .nil pass0 ht
theorem pe_fldK {K : PySem.W.Frag} {f : Str} (hK : X.K = K) (he : PE X e ta) (hb : attributeBase e f X.env (eval e X.env) = eval e X.env) : PE X (.Attribute e f pos) (tFld K ta f) := by
  subst hK; exact pe_fld he hb
theorem pe_globC {v : V} (h : ∃ u, X.mg x = some u ∧ RelV v u) (hg : Gl X x) (hd : (x == ("__debug__" : Str)) = false := by decide) : PE X (.Name x pos) (tC v) := by
  obtain ⟨u, hm, r⟩ := h
  exact pe_glob hg hm r hd
end
end Lp
namespace Lp
open PySem PySem.Spec PyProof.Rows L2

/-! ### what stays for good: F, a part of the heap H -/
structure Ext (F0 H0 F H : Hp) : Prop where
  ff : Same F0 F
  fh : Same F H
  hh : Same H0 H
  fr : ∀ b, F0 b = none → H0 b ≠ none → F b = none
theorem Ext.refl {F H : Hp} (h : Same F H) : Ext F H F H := ⟨Same.refl _, h, Same.refl _, fun _ h _ => h⟩
theorem Same.nn {H H' : Hp} (e : Same H H') {b : Addr} (h : H b ≠ none) : H' b ≠ none := by
  cases q : H b with
  | none => exact absurd q h
  | some o => rw [e b o q]; simp
theorem Ext.trans {F0 H0 F1 H1 F2 H2 : Hp} (a : Ext F0 H0 F1 H1) (b : Ext F1 H1 F2 H2) : Ext F0 H0 F2 H2 :=
  ⟨a.ff.trans b.ff, b.fh, a.hh.trans b.hh, fun c h n => b.fr c (a.fr c h n) (Same.nn a.hh n)⟩
theorem same_upd {H : Hp} {p : Addr} {o : HO} (h : H p = none) : Same H (upd H p o) := fun a u e => by
  rw [upd_ne (ne_of_none e h)]; exact e
theorem Ext.f_none {F0 H0 F H : Hp} (e : Ext F0 H0 F H) {p : Addr} (h : H p = none) : F p = none := Same.free e.fh h
theorem Ext.h0_none {F0 H0 F H : Hp} (e : Ext F0 H0 F H) {p : Addr} (h : H p = none) : H0 p = none := Same.free e.hh h
/-- a new object, for good -/
theorem Ext.new {F0 H0 F H : Hp} (e : Ext F0 H0 F H) {p : Addr} {o : HO} (h : H p = none) : Ext F0 H0 (upd F p o) (upd H p o) where
  ff := e.ff.trans (same_upd (e.f_none h))
  fh := fun b u q => by
    by_cases c : b = p
    · subst c; rw [upd_same] at q ⊢; exact q
    · rw [upd_ne c] at q ⊢; exact e.fh b u q
  hh := e.hh.trans (same_upd h)
  fr := fun b h1 h2 => by
    have c : b ≠ p := fun z => h2 (by rw [z]; exact e.h0_none h)
    rw [upd_ne c]; exact e.fr b h1 h2
/-- a new object that may change -/
theorem Ext.newM {F0 H0 F H : Hp} (e : Ext F0 H0 F H) {p : Addr} {o : HO} (h : H p = none) : Ext F0 H0 F (upd H p o) where
  ff := e.ff
  fh := e.fh.trans (same_upd h)
  hh := e.hh.trans (same_upd h)
  fr := e.fr
/-- it is changed -/
theorem Ext.mut {F0 H0 F H : Hp} (e : Ext F0 H0 F H) {p : Addr} {o : HO} (h : H0 p = none) (f : F p = none) : Ext F0 H0 F (upd H p o) where
  ff := e.ff
  fh := fun b u q => by rw [upd_ne (ne_of_none q f)]; exact e.fh b u q
  hh := fun b u q => by rw [upd_ne (ne_of_none q h)]; exact e.hh b u q
  fr := e.fr
/-- from now on it stays -/
theorem Ext.pub {F0 H0 F H : Hp} (e : Ext F0 H0 F H) {p : Addr} {o : HO} (h : H0 p = none) (f : F p = none) (q : H p = some o) : Ext F0 H0 (upd F p o) H where
  ff := e.ff.trans (same_upd f)
  fh := fun b u z => by
    by_cases c : b = p
    · subst c; rw [upd_same] at z; cases z; exact q
    · rw [upd_ne c] at z; exact e.fh b u z
  hh := e.hh
  fr := fun b h1 h2 => by
    have c : b ≠ p := fun z => h2 (by rw [z]; exact h)
    rw [upd_ne c]; exact e.fr b h1 h2
/-- a new instance, made -/
theorem Ext.made {F0 H0 F H : Hp} (e : Ext F0 H0 F H) {x dx : Addr} {o : HO} (hx : H x = none) (hd : H dx = none) (ne : dx ≠ x) : Ext F0 H0 (upd F x o) (upd (upd H dx (.own x)) x o) :=
  (e.newM (o := .own x) hd).new (by rw [upd_ne ne.symm]; exact hx)
theorem Ext.madeM {F0 H0 F H : Hp} (e : Ext F0 H0 F H) {x dx : Addr} {o : HO} (hx : H x = none) (hd : H dx = none) (ne : dx ≠ x) : Ext F0 H0 F (upd (upd H dx (.own x)) x o) :=
  (e.newM (o := .own x) hd).newM (by rw [upd_ne ne.symm]; exact hx)

/-! ### lists whose items stand for things -/
abbrev Rel (α : Type) := Hp → V → α → Prop
def Mono {α : Type} (R : Rel α) : Prop := ∀ F F' v x, Same F F' → R F v x → R F' v x
def Ls {α : Type} (R : Rel α) (F : Hp) (a : Addr) (xs : List α) : Prop := ∃ vs, F a = some (.lst vs) ∧ Paired (R F) vs xs
theorem pd_mono {α β : Type} {F G : α → β → Prop} (h : ∀ a b, F a b → G a b) : ∀ {l₁ : List α} {l₂ : List β}, Paired F l₁ l₂ → Paired G l₁ l₂
  | _, _, .nil => .nil
  | _, _, .cons a t => .cons (h _ _ a) (pd_mono h t)
theorem pd_app {α β : Type} {F : α → β → Prop} : ∀ {l₁ : List α} {l₂ : List β} {r₁ : List α} {r₂ : List β}, Paired F l₁ l₂ → Paired F r₁ r₂ → Paired F (l₁ ++ r₁) (l₂ ++ r₂)
  | _, _, _, _, .nil, h => h
  | _, _, _, _, .cons a t, h => .cons a (pd_app t h)
theorem pd_take {α β : Type} {F : α → β → Prop} : ∀ {l₁ : List α} {l₂ : List β} (n : Nat), Paired F l₁ l₂ → Paired F (l₁.take n) (l₂.take n)
  | _, _, 0, _ => by simp only [List.take_zero]; exact .nil
  | _, _, n + 1, .nil => .nil
  | _, _, n + 1, .cons a t => .cons a (pd_take n t)
theorem pd_drop {α β : Type} {F : α → β → Prop} : ∀ {l₁ : List α} {l₂ : List β} (n : Nat), Paired F l₁ l₂ → Paired F (l₁.drop n) (l₂.drop n)
  | _, _, 0, h => h
  | _, _, n + 1, .nil => .nil
  | _, _, n + 1, .cons a t => pd_drop n t
theorem pd_get {α β : Type} {F : α → β → Prop} : ∀ {l₁ : List α} {l₂ : List β} {i : Nat} {y : β}, Paired F l₁ l₂ → l₂[i]? = some y → ∃ x, l₁[i]? = some x ∧ F x y
  | _, _, 0, _, .cons a t, h => ⟨_, rfl, by cases h; exact a⟩
  | _, _, i + 1, _, .cons a t, h => pd_get (i := i) t h
theorem pd_getL {α β : Type} {F : α → β → Prop} : ∀ {l₁ : List α} {l₂ : List β} {i : Nat} {x : α}, Paired F l₁ l₂ → l₁[i]? = some x → ∃ y, l₂[i]? = some y ∧ F x y
  | _, _, 0, _, .cons a t, h => ⟨_, rfl, by cases h; exact a⟩
  | _, _, i + 1, _, .cons a t, h => pd_getL (i := i) t h
theorem pd_map {α β : Type} {F : α → β → Prop} (f : β → α) (h : ∀ a b, F a b → a = f b) : ∀ {l₁ : List α} {l₂ : List β}, Paired F l₁ l₂ → l₁ = l₂.map f
  | _, _, .nil => rfl
  | _, _, .cons a t => by rw [List.map_cons, ← pd_map f h t, h _ _ a]
theorem pd_of_map {α β : Type} {F : α → β → Prop} (f : β → α) (h : ∀ b, F (f b) b) : ∀ (l : List β), Paired F (l.map f) l
  | [] => .nil
  | b :: l => .cons (h b) (pd_of_map f h l)
theorem pd_rep {α β : Type} {F : α → β → Prop} {a : α} {b : β} (h : F a b) : ∀ n, Paired F (List.replicate n a) (List.replicate n b)
  | 0 => .nil
  | n + 1 => .cons h (pd_rep h n)
theorem pd_set {α β : Type} {F : α → β → Prop} {a : α} {b : β} (h : F a b) : ∀ {l₁ : List α} {l₂ : List β} (i : Nat), Paired F l₁ l₂ → Paired F (l₁.set i a) (l₂.set i b)
  | _, _, _, .nil => .nil
  | _, _, 0, .cons _ t => .cons h t
  | _, _, i + 1, .cons c t => .cons c (pd_set h i t)
theorem Ls.mono {α : Type} {R : Rel α} (m : Mono R) {F F' : Hp} {a : Addr} {xs : List α} (e : Same F F') (h : Ls R F a xs) : Ls R F' a xs := by
  obtain ⟨vs, h1, h2⟩ := h
  exact ⟨vs, e _ _ h1, pd_mono (fun v x => m F F' v x e) h2⟩
/-- numbers -/
def RI : Rel Nat := fun _ v n => v = .int (n : Int)
def bI (b : Bool) : Int := if b then 1 else 0
def RB : Rel Bool := fun _ v b => v = .int (bI b)
def RD : Rel Ie13.Dot := fun F v d => ∃ r, v = .ref r ∧ F r = some (.tup [.int (d.tone : Int), .int (d.much : Int)])
theorem RI.mono : Mono RI := fun _ _ _ _ _ h => h
theorem RB.mono : Mono RB := fun _ _ _ _ _ h => h
theorem RD.mono : Mono RD := fun _ _ _ _ e ⟨r, h1, h2⟩ => ⟨r, h1, e _ _ h2⟩
abbrev Tones := Ls RI
abbrev Bits := Ls RB
abbrev Cells := Ls RD
def LayF (l : Ie13.Layer) (c : Addr) : List (Str × V) := [("number", .int (l.id : Int)), ("way", .int (l.way : Int)), ("much", .int (l.much : Int)), ("shown", .int (bI l.shown)), ("cells", .ref c)]
def LayAt (CL : Addr) (F : Hp) (a : Addr) (l : Ie13.Layer) : Prop := ∃ dx c, F a = some (.ins CL dx (LayF l c)) ∧ Cells F c l.dots
theorem LayAt.mono {CL : Addr} {F F' : Hp} {a : Addr} {l : Ie13.Layer} (e : Same F F') (h : LayAt CL F a l) : LayAt CL F' a l := by
  obtain ⟨dx, c, h1, h2⟩ := h
  exact ⟨dx, c, e _ _ h1, h2.mono RD.mono e⟩
def RL (CL : Addr) : Rel Ie13.Layer := fun F v l => ∃ r, v = .ref r ∧ LayAt CL F r l
theorem RL.mono {CL : Addr} : Mono (RL CL) := fun _ _ _ _ e ⟨r, h1, h2⟩ => ⟨r, h1, h2.mono e⟩
abbrev Lays (CL : Addr) := Ls (RL CL)
def DocF (d : Ie13.Doc) (g ls ch : Addr) : List (Str × V) := [("width", .int (d.w : Int)), ("height", .int (d.h : Int)), ("ground", .ref g), ("layers", .ref ls), ("worked", .int (d.at_ : Int)), ("chosen", .ref ch), ("given", .int ((d.next : Int) - 1))]
structure DocAt (CL CD : Addr) (F : Hp) (a : Addr) (d : Ie13.Doc) : Prop where
  ex : ∃ dx g ls ch, F a = some (.ins CD dx (DocF d g ls ch)) ∧
    Tones F g d.ground ∧ Lays CL F ls d.layers ∧ Bits F ch d.chosen
theorem DocAt.mono {CL CD : Addr} {F F' : Hp} {a : Addr} {d : Ie13.Doc} (e : Same F F') (h : DocAt CL CD F a d) : DocAt CL CD F' a d := by
  obtain ⟨dx, g, ls, ch, h1, h2, h3, h4⟩ := h.ex
  exact ⟨dx, g, ls, ch, e _ _ h1, h2.mono RI.mono e, h3.mono RL.mono e, h4.mono RB.mono e⟩

theorem rEq_int {i j : Int} {H : Hp} {Q : VK} : rEq (.int i) (.int j) H Q = Q (.bl (decide (i = j))) H := by
  unfold rEq
  simp only [V.int.injEq]
  exact propext ⟨fun h => h.2, fun h => ⟨rfl, h⟩⟩
theorem rNe_int {i j : Int} {H : Hp} {Q : VK} : rNe (.int i) (.int j) H Q = Q (.bl (!decide (i = j))) H := by
  unfold rNe
  simp only [V.int.injEq]
  exact propext ⟨fun h => h.2, fun h => ⟨rfl, h⟩⟩
theorem lk0 {k : Str} {v : V} {r : List (Str × V)} : List.lookup k ((k, v) :: r) = some v := by
  have e : (k == k) = true := beq_self_eq_true k
  simp only [List.lookup, e]
theorem lkS {k g : Str} {v : V} {r : List (Str × V)} (h : (k == g) = false) : List.lookup k ((g, v) :: r) = List.lookup k r := by
  simp only [List.lookup, h]
theorem pt0 {f : Str} {v x : V} {r : List (Str × V)} : putF f v ((f, x) :: r) = (f, v) :: r := if_pos rfl
theorem ptS {f g : Str} {v x : V} {r : List (Str × V)} (h : ¬ g = f) : putF f v ((g, x) :: r) = (g, x) :: putF f v r := if_neg h
theorem Lay_number {l : Ie13.Layer} {c : Addr} : (LayF l c).lookup ("number" : Str) = some (.int (l.id : Int)) := lk0
theorem Lay_way {l : Ie13.Layer} {c : Addr} : (LayF l c).lookup ("way" : Str) = some (.int (l.way : Int)) := (lkS (by decide +kernel)).trans lk0
theorem Lay_much {l : Ie13.Layer} {c : Addr} : (LayF l c).lookup ("much" : Str) = some (.int (l.much : Int)) := (lkS (by decide +kernel)).trans ((lkS (by decide +kernel)).trans lk0)
theorem Lay_shown {l : Ie13.Layer} {c : Addr} : (LayF l c).lookup ("shown" : Str) = some (.int (bI l.shown)) := (lkS (by decide +kernel)).trans ((lkS (by decide +kernel)).trans ((lkS (by decide +kernel)).trans lk0))
theorem Lay_cells {l : Ie13.Layer} {c : Addr} : (LayF l c).lookup ("cells" : Str) = some (.ref c) := (lkS (by decide +kernel)).trans ((lkS (by decide +kernel)).trans ((lkS (by decide +kernel)).trans ((lkS (by decide +kernel)).trans lk0)))
theorem Doc_width {d : Ie13.Doc} {g ls ch : Addr} : (DocF d g ls ch).lookup ("width" : Str) = some (.int (d.w : Int)) := lk0
theorem Doc_height {d : Ie13.Doc} {g ls ch : Addr} : (DocF d g ls ch).lookup ("height" : Str) = some (.int (d.h : Int)) := (lkS (by decide +kernel)).trans lk0
theorem Doc_ground {d : Ie13.Doc} {g ls ch : Addr} : (DocF d g ls ch).lookup ("ground" : Str) = some (.ref g) := (lkS (by decide +kernel)).trans ((lkS (by decide +kernel)).trans lk0)
theorem Doc_layers {d : Ie13.Doc} {g ls ch : Addr} : (DocF d g ls ch).lookup ("layers" : Str) = some (.ref ls) := (lkS (by decide +kernel)).trans ((lkS (by decide +kernel)).trans ((lkS (by decide +kernel)).trans lk0))
theorem Doc_worked {d : Ie13.Doc} {g ls ch : Addr} : (DocF d g ls ch).lookup ("worked" : Str) = some (.int (d.at_ : Int)) := (lkS (by decide +kernel)).trans ((lkS (by decide +kernel)).trans ((lkS (by decide +kernel)).trans ((lkS (by decide +kernel)).trans lk0)))
theorem Doc_chosen {d : Ie13.Doc} {g ls ch : Addr} : (DocF d g ls ch).lookup ("chosen" : Str) = some (.ref ch) := (lkS (by decide +kernel)).trans ((lkS (by decide +kernel)).trans ((lkS (by decide +kernel)).trans ((lkS (by decide +kernel)).trans ((lkS (by decide +kernel)).trans lk0))))
theorem Doc_given {d : Ie13.Doc} {g ls ch : Addr} : (DocF d g ls ch).lookup ("given" : Str) = some (.int ((d.next : Int) - 1)) := (lkS (by decide +kernel)).trans ((lkS (by decide +kernel)).trans ((lkS (by decide +kernel)).trans ((lkS (by decide +kernel)).trans ((lkS (by decide +kernel)).trans ((lkS (by decide +kernel)).trans lk0)))))

/-! ### comprehensions: the list that is made -/
theorem lcx {α : Type} {R : Rel α} (mono : Mono R) {J : It} {n : Nat} {gt : TG} {tt : TT} {te : TE} {vs : List Nat} {σ : L2.St} {F H1 : Hp} {Q : VK} (keep : Nat → Bool) (g : Nat → α) (hF : Same F H1) (hn : n ≤ 100000)
    (hgo : ∀ i Ha, Same H1 Ha → i < n → J.go i Ha) (hst : ∀ Ha, Same H1 Ha → J.stop n Ha)
    (hs : ∀ i F1 Ha x H', i < n → Ext F H1 F1 Ha → J.yld i Ha x H' → ∀ (Kp : V → Hp → Prop) (Sk : Hp → Prop),
      (keep i = true → ∀ v F2 Hb, Ext F1 Ha F2 Hb → R F2 v (g i) → Kp v Hb) → (keep i = false → ∀ F2 Hb, Ext F1 Ha F2 Hb → Sk Hb) →
      gt x (wipe σ vs) H' fun σ2 H2 => wipe σ2 vs = wipe σ vs ∧ tt σ2 H2 fun b H3 => if b = true then te σ2 H3 Kp else Sk H3)
    (hd : ∀ p F' H', Ext F H1 F' H' → Ls R F' p (((List.range n).filter keep).map g) → Q (.ref p) H') :
    ∀ D, H1 D = none → ∃ W : Nat → Nat → Hp → Prop, (∃ m, W 0 m (upd H1 D (.lst []))) ∧ ∀ i m H, W i m H →
      (J.stop i H ∧ Q (.ref D) H) ∨ (J.go i H ∧ ∃ Nx : Hp → Prop, (∀ H', Nx H' → ∃ m', m' < m ∧ W (i + 1) m' H') ∧ ∀ x H', J.yld i H x H' → gt x (wipe σ vs) H' fun σ2 H2 => wipe σ2 vs = wipe σ vs ∧ tt σ2 H2 fun b H3 =>
        if b = true then te σ2 H3 fun y H4 => ∃ acc, H4 D = some (.lst acc) ∧ acc.length < sizeLine ∧ Nx (upd H4 D (.lst (acc ++ [y]))) else Nx H3) := by
  intro D hD
  let Pv : Nat → Hp → Prop := fun i Ha => ∃ F1 vs, Ext F H1 F1 Ha ∧ Ha D = some (.lst vs) ∧ F1 D = none ∧ Paired (R F1) vs (((List.range i).filter keep).map g)
  refine ⟨fun i m H => m = n - i ∧ i ≤ n ∧ Pv i H, ⟨n, by simp, Nat.zero_le _, F, [], (Ext.refl hF).newM hD, upd_same, Same.free hF hD, .nil⟩, ?_⟩
  rintro i m Ha ⟨rfl, hi, F1, vs, e, hv, hf, hp⟩
  by_cases c : i < n
  · refine .inr ⟨hgo i Ha e.hh c, Pv (i + 1), fun H' p => ⟨n - (i + 1), by omega, rfl, c, p⟩, fun x H' y => ?_⟩
    refine hs i F1 Ha x H' c e y _ _ (fun k v F2 Hb e2 r => ?_) (fun k F2 Hb e2 => ?_)
    · have hv2 : Hb D = some (.lst vs) := e2.hh _ _ hv
      have hf2 : F2 D = none := e2.fr D hf (by rw [hv]; simp)
      refine ⟨vs, hv2, ?_, F2, vs ++ [v], (e.trans e2).mut hD hf2, upd_same, hf2, ?_⟩
      · have z := hp.length
        have z2 : (((List.range i).filter keep).map g).length ≤ i := by
          rw [List.length_map]
          exact Nat.le_trans (List.length_filter_le _ _) (by simp)
        have z3 : (100000 : Nat) < sizeLine := by decide
        omega
      · rw [List.range_succ, List.filter_append, List.map_append]
        refine pd_app (pd_mono (fun v x => mono F1 F2 v x e2.ff) hp) ?_
        simp only [List.filter_cons, k, if_true, List.filter_nil, List.map_cons, List.map_nil]
        exact .cons r .nil
    · refine ⟨F2, vs, e.trans e2, e2.hh _ _ hv, e2.fr D hf (by rw [hv]; simp), ?_⟩
      rw [List.range_succ, List.filter_append, List.map_append]
      simp only [List.filter_cons, k, if_false, Bool.false_eq_true, List.filter_nil, List.map_nil, List.append_nil]
      exact pd_mono (fun v x => mono F1 F2 v x e2.ff) hp
  · have hin : i = n := by omega
    subst hin
    refine .inl ⟨hst Ha e.hh, hd D (upd F1 D (.lst vs)) Ha (e.pub hD hf hv) ⟨vs, upd_same, ?_⟩⟩
    exact pd_mono (fun v x => mono F1 _ v x (same_upd hf)) hp
theorem ifT {c : Bool} {A B : Prop} (hc : c = true) (h : A) : if c = true then A else B := by
  rw [if_pos hc]; exact h
theorem ifF {c : Bool} {A B : Prop} (hc : c = false) (h : B) : if c = true then A else B := by
  rw [hc, if_neg Bool.false_ne_true]; exact h
theorem filter_yes {α : Type} (l : List α) : l.filter (fun _ => true) = l := by simp
/-- what a comprehension asks behind its iterable -/
def LcTail (J : It) (gt : TG) (tt : TT) (te : TE) (vs : List Nat) (σ : L2.St) (H1 : Hp) (Q : VK) : Prop := ∀ D, H1 D = none → ∃ W : Nat → Nat → Hp → Prop, (∃ m, W 0 m (upd H1 D (.lst []))) ∧ ∀ i m H, W i m H →
  (J.stop i H ∧ Q (.ref D) H) ∨ (J.go i H ∧ ∃ Nx : Hp → Prop, (∀ H', Nx H' → ∃ m', m' < m ∧ W (i + 1) m' H') ∧ ∀ x H', J.yld i H x H' → gt x (wipe σ vs) H' fun σ2 H2 => wipe σ2 vs = wipe σ vs ∧ tt σ2 H2 fun b H3 =>
    if b = true then te σ2 H3 fun y H4 => ∃ acc, H4 D = some (.lst acc) ∧ acc.length < sizeLine ∧ Nx (upd H4 D (.lst (acc ++ [y]))) else Nx H3)
theorem tLc_of {wi : TI} {gt : TG} {tt : TT} {te : TE} {vs : List Nat} {σ : L2.St} {H : Hp} {Q : VK} (h : wi σ H fun J H1 => LcTail J gt tt te vs σ H1 Q) : tLc wi gt tt te vs σ H Q := h
theorem lcx_range {α : Type} {R : Rel α} (mono : Mono R) {lo : Int} {n k : Nat} {tt : TT} {te : TE} {σ : L2.St} {F H1 : Hp} {Q : VK} (keep : Nat → Bool) (g : Nat → α) (hF : Same F H1) (hn : n ≤ 100000)
    (hw : ∀ x, wipe ((wipe σ [k]).set k (some x)) [k] = wipe σ [k])
    (hs : ∀ i F1 Ha, i < n → Ext F H1 F1 Ha → ∀ (Kp : V → Hp → Prop) (Sk : Hp → Prop), (keep i = true → ∀ v F2 Hb, Ext F1 Ha F2 Hb → R F2 v (g i) → Kp v Hb) → (keep i = false → ∀ F2 Hb, Ext F1 Ha F2 Hb → Sk Hb) →
      tt ((wipe σ [k]).set k (some (.int (lo + i)))) Ha fun b H3 => if b = true then te ((wipe σ [k]).set k (some (.int (lo + i)))) H3 Kp else Sk H3)
    (hd : ∀ p F' H', Ext F H1 F' H' → Ls R F' p (((List.range n).filter keep).map g) → Q (.ref p) H') : LcTail (Itr lo n) (gName k) tt te [k] σ H1 Q :=
  lcx mono keep g hF hn (fun i Ha _ c => c) (fun Ha _ => Nat.le_refl n) (fun i F1 Ha x H' c e y Kp Sk h1 h2 => by
    obtain ⟨rfl, rfl⟩ := y
    exact ⟨hw _, hs i F1 H' c e Kp Sk h1 h2⟩) hd
theorem lcx_list {α : Type} {R : Rel α} (mono : Mono R) {K : PySem.W.Frag} {a : Addr} {xs : List V} {n k : Nat} {tt : TT} {te : TE} {σ : L2.St} {F H1 : Hp} {Q : VK} (keep : Nat → Bool) (g : Nat → α) (hF : Same F H1) (hx : SqL K H1 a xs) (hl : xs.length = n) (hn : n ≤ 100000)
    (hw : ∀ x, wipe ((wipe σ [k]).set k (some x)) [k] = wipe σ [k])
    (hs : ∀ i F1 Ha x, xs[i]? = some x → Ext F H1 F1 Ha → ∀ (Kp : V → Hp → Prop) (Sk : Hp → Prop), (keep i = true → ∀ v F2 Hb, Ext F1 Ha F2 Hb → R F2 v (g i) → Kp v Hb) → (keep i = false → ∀ F2 Hb, Ext F1 Ha F2 Hb → Sk Hb) →
      tt ((wipe σ [k]).set k (some x)) Ha fun b H3 => if b = true then te ((wipe σ [k]).set k (some x)) H3 Kp else Sk H3)
    (hd : ∀ p F' H', Ext F H1 F' H' → Ls R F' p (((List.range n).filter keep).map g) → Q (.ref p) H') : LcTail (Itl K a) (gName k) tt te [k] σ H1 Q :=
  lcx mono keep g hF hn (fun i Ha e c => ⟨xs, _, e.seq hx, List.getElem?_eq_getElem (by omega)⟩) (fun Ha e => ⟨xs, e.seq hx, by omega⟩) (fun i F1 Ha x H' c e y Kp Sk h1 h2 => by
    obtain ⟨rfl, y⟩ := y
    exact ⟨hw _, hs i F1 H' x (y xs (e.hh.seq hx)) e Kp Sk h1 h2⟩) hd
theorem lcx_zip {α : Type} {R : Rel α} (mono : Mono R) {K : PySem.W.Frag} {a b : Addr} {xs ys : List V} {n k j : Nat} {tt : TT} {te : TE} {σ : L2.St} {F H1 : Hp} {Q : VK} (keep : Nat → Bool) (g : Nat → α) (hF : Same F H1)
    (hx : SqL K H1 a xs) (hy : SqL K H1 b ys) (hlx : xs.length = n) (hly : ys.length = n) (hn : n ≤ 100000)
    (hw : ∀ x y, wipe (((wipe σ [k, j]).set k (some x)).set j (some y)) [k, j] = wipe σ [k, j])
    (hs : ∀ i F1 Ha x y, xs[i]? = some x → ys[i]? = some y → Ext F H1 F1 Ha → ∀ (Kp : V → Hp → Prop) (Sk : Hp → Prop), (keep i = true → ∀ v F2 Hb, Ext F1 Ha F2 Hb → R F2 v (g i) → Kp v Hb) → (keep i = false → ∀ F2 Hb, Ext F1 Ha F2 Hb → Sk Hb) →
      tt (((wipe σ [k, j]).set k (some x)).set j (some y)) Ha fun b H3 => if b = true then te (((wipe σ [k, j]).set k (some x)).set j (some y)) H3 Kp else Sk H3)
    (hd : ∀ p F' H', Ext F H1 F' H' → Ls R F' p (((List.range n).filter keep).map g) → Q (.ref p) H') : LcTail (Itz K a b) (gTup K 2 (gCons (gName k) (gCons (gName j) gNil))) tt te [k, j] σ H1 Q :=
  lcx mono keep g hF hn (fun i Ha e c => by
      obtain ⟨x, ex⟩ : ∃ x, xs[i]? = some x := ⟨_, List.getElem?_eq_getElem (by omega)⟩
      obtain ⟨y, ey⟩ : ∃ x, ys[i]? = some x := ⟨_, List.getElem?_eq_getElem (by omega)⟩
      exact ⟨xs, ys, x, y, e.seq hx, e.seq hy, ex, ey⟩) (fun Ha e => ⟨xs, ys, e.seq hx, e.seq hy, .inl (by omega)⟩) (fun i F1 Ha v H' c e z Kp Sk h1 h2 => by
    obtain ⟨T, x, y, rfl, hT, rfl, ex, ey⟩ := z
    have e1 : Ext F1 Ha F1 (upd Ha T (.tup [x, y])) := (Ext.refl e.fh).newM hT
    refine ⟨T, [x, y], rfl, SqT.of upd_same, rfl, x, [y], rfl, y, [], rfl, rfl, hw x y, ?_⟩
    exact hs i F1 _ x y (ex xs (e.hh.seq hx)) (ey ys (e.hh.seq hy)) (e.trans e1) Kp Sk (fun k v F2 Hb e2 r => h1 k v F2 Hb (e1.trans e2) r) (fun k F2 Hb e2 => h2 k F2 Hb (e1.trans e2))) hd
theorem cxK {CX : CXT} {P : Program} {w : World} {K : PySem.W.Frag} {mg : Str → Option Value} {base : Heap} {N : List Str} {q : Str} {sc : Scope} {f : Addr} {cd : Value} {A : Around} {outer : List Env} {s : Shared} {H : Hp} {E : XK} :
    (cxOf CX P w K mg base N q sc f cd A outer s H E).K = K := rfl
end Lp
/-! data compared as a whole -/
namespace Lp
open PySem PySem.Spec PyProof.Rows L2
theorem canLay_map {α : Type} {pd : α → PyData} (h : ∀ x, PyData.canLay0 (pd x) = true) : ∀ xs : List α, PyData.canLayAll0 (xs.map pd) = true
  | [] => by simp [PyData.canLayAll0]
  | x :: r => by simp [PyData.canLayAll0, h x, canLay_map h r]
theorem depth_map {α : Type} {pd : α → PyData} {k : Nat} (h : ∀ x, PyData.depth (pd x) ≤ k) : ∀ xs : List α, PyData.depthAll (xs.map pd) ≤ k
  | [] => by simp [PyData.depthAll]
  | x :: r => by
    have h1 := depth_map h r
    have h2 := h x
    simp only [List.map_cons, PyData.depthAll]; omega
theorem shaped_map {α : Type} {pd : α → PyData} {k : Nat} (h : ∀ x, PyData.canLay0 (pd x) = true) (hk : ∀ x, PyData.depth (pd x) ≤ k) (hk2 : k ≤ 60) (xs : List α) : SeqAt.shaped (.list (xs.map pd)) = true := by
  have h1 := depth_map hk xs
  have h2 : PyData.depth (.list (xs.map pd)) ≤ 64 := by simp only [PyData.depth]; omega
  show (PyData.canLay0 (.list (xs.map pd)) && decide (PyData.depth (.list (xs.map pd)) ≤ 64)) = true
  rw [Bool.and_eq_true]
  exact ⟨by simp only [PyData.canLay0]; exact canLay_map h xs, decide_eq_true h2⟩
theorem eqv_map {α : Type} [DecidableEq α] {pd : α → PyData} (h : ∀ x y, PyData.eqv (pd x) (pd y) = decide (x = y)) : ∀ xs ys : List α, PyData.eqvAll (xs.map pd) (ys.map pd) = decide (xs = ys)
  | [], [] => by simp [PyData.eqvAll]
  | [], _ :: _ => by simp [PyData.eqvAll]
  | _ :: _, [] => by simp [PyData.eqvAll]
  | x :: r, y :: q => by
    simp only [List.map_cons, PyData.eqvAll, eqv_map h r q, h x y]
    by_cases e : x = y <;> simp [e]
theorem dp_map {α : Type} {R : Rel α} {pd : α → PyData} {K : PySem.W.Frag} {H : Hp} (h : ∀ v x, R H v x → Dp K H v (pd x)) : ∀ {vs : List V} {xs : List α}, Paired (R H) vs xs → DpAll K H vs (xs.map pd)
  | _, _, .nil => .nil
  | _, _, .cons a t => .cons (h _ _ a) (dp_map h t)
structure PDat {α : Type} [DecidableEq α] (R : Rel α) (pd : α → PyData) : Prop where
  mono : Mono R
  dp : ∀ (K : PySem.W.Frag) (H : Hp) v x, R H v x → Dp K H v (pd x)
  lay : ∀ x, PyData.canLay0 (pd x) = true
  dep : ∀ x, PyData.depth (pd x) ≤ 2
  eqv : ∀ x y, PyData.eqv (pd x) (pd y) = decide (x = y)
def pdI (n : Nat) : PyData := .int (n : Int)
def pdB (b : Bool) : PyData := .int (bI b)
def pdD (d : Ie13.Dot) : PyData := .tuple [.int (d.tone : Int), .int (d.much : Int)]
theorem PI' : PDat RI pdI where
  mono := RI.mono
  dp := fun K H v x h => by cases h; exact .int _
  lay := fun x => by simp [pdI, PyData.canLay0]
  dep := fun x => by simp [pdI, PyData.depth]
  eqv := fun x y => by
    unfold pdI
    rw [PyData.eqv]
    by_cases e : x = y
    · subst e; simp
    · rw [decide_eq_false e]; exact beq_false_of_ne (by omega)
theorem PB' : PDat RB pdB where
  mono := RB.mono
  dp := fun K H v x h => by cases h; exact .int _
  lay := fun x => by simp [pdB, PyData.canLay0]
  dep := fun x => by simp [pdB, PyData.depth]
  eqv := fun x y => by
    unfold pdB
    rw [PyData.eqv]
    cases x <;> cases y <;> rfl
theorem PD' : PDat RD pdD where
  mono := RD.mono
  dp := fun K H v x h => by
    obtain ⟨r, rfl, hr⟩ := h
    exact .tup (SqT.of hr) (.cons (.int _) (.cons (.int _) .nil))
  lay := fun x => by simp [pdD, PyData.canLay0, PyData.canLayAll0]
  dep := fun x => by simp [pdD, PyData.depth, PyData.depthAll]
  eqv := fun x y => by
    unfold pdD
    rw [PyData.eqv, PyData.eqvAll, PyData.eqvAll, PyData.eqvAll, PyData.eqv, PyData.eqv]
    obtain ⟨a, b⟩ := x
    obtain ⟨c, d⟩ := y
    by_cases e : a = c
    · by_cases e2 : b = d
      · subst e; subst e2; simp
      · have : ((b : Int) == (d : Int)) = false := beq_false_of_ne (by omega)
        simp [this, e2]
    · have : ((a : Int) == (c : Int)) = false := beq_false_of_ne (by omega)
      simp [this, e]
/-- two such lists compared -/
theorem ne_ls {α : Type} [DecidableEq α] {R : Rel α} {pd : α → PyData} (p : PDat R pd) {K : PySem.W.Frag} {F H : Hp} {a b : Addr} {xs ys : List α} {Q : VK} (hF : Same F H) (ha : Ls R F a xs) (hb : Ls R F b ys) (h : Q (.bl (!decide (xs = ys))) H) : rNeD K (.ref a) (.ref b) H Q := by
  obtain ⟨va, a1, a2⟩ := ha.mono p.mono hF
  obtain ⟨vb, b1, b2⟩ := hb.mono p.mono hF
  refine ⟨.list (xs.map pd), .list (ys.map pd), .lst (SqL.of a1) (dp_map (p.dp K H) a2), .lst (SqL.of b1) (dp_map (p.dp K H) b2), shaped_map p.lay p.dep (by decide) _, shaped_map p.lay p.dep (by decide) _, ?_⟩
  rw [PyData.eqv, eqv_map p.eqv]; exact h
theorem shaped_one {α : Type} [DecidableEq α] {R : Rel α} {pd : α → PyData} (p : PDat R pd) (x : α) : SeqAt.shaped (pd x) = true := by
  show (PyData.canLay0 (pd x) && decide (PyData.depth (pd x) ≤ 64)) = true
  rw [Bool.and_eq_true]
  exact ⟨p.lay x, decide_eq_true (by have := p.dep x; omega)⟩
/-- two items -/
theorem ne_it {α : Type} [DecidableEq α] {R : Rel α} {pd : α → PyData} (p : PDat R pd) {K : PySem.W.Frag} {H : Hp} {v u : V} {x y : α} {Q : VK} (ha : R H v x) (hb : R H u y) (h : Q (.bl (!decide (x = y))) H) : rNeD K v u H Q := by
  refine ⟨pd x, pd y, p.dp K H v x ha, p.dp K H u y hb, shaped_one p x, shaped_one p y, ?_⟩
  rw [p.eqv]; exact h
end Lp
namespace Lp
open PySem PySem.Spec PyProof.Rows L2
section
variable {P : Program} {w : World} {K : PySem.W.Frag} {mg : Str → Option Value} {base : Heap} {C_Layer C_Document C_Editor : Addr}

def sp_nearest : Sp := fun vs H Q _ => ∃ a b : Nat, vs = [.int a, .int b] ∧ 0 < b ∧ b < 500000000 ∧ Q (.int (Ie13.near a b : Nat)) H
theorem near_int (a b : Nat) : (2 * (a : Int) + (b : Int)) / (2 * (b : Int)) = ((Ie13.near a b : Nat) : Int) := by
  unfold Ie13.near
  push_cast
  rfl
theorem ok_nearest (T : Txt K mg C_Layer C_Document C_Editor) : Ok P w K mg base 1 "nearest" ["top", "bottom"] sp_nearest := by
  refine T.d_nearest.ok sc_nearest (fun vs H Q E h => ?_) (fun f cdv A outer s H vs Q E hr h => ⟨_, (pss_one (ps_ret (pe_op op_fdiv (pe_op op_add (pe_op op_mul pe_int (pv 0)) (pv 1)) (pe_op op_mul pe_int (pv 1))))), ?_⟩)
  · obtain ⟨a, b, rfl, _⟩ := h; rfl
  · obtain ⟨a, b, rfl, h0, h1, q⟩ := h
    refine ⟨_, rfl, _, _, rfl, rfl, .inl ⟨by decide, by decide⟩, _, rfl, _, _, rfl, rfl, _, rfl, _, _, rfl, rfl, .inl ⟨by decide, by decide⟩, _, _, rfl, rfl, ⟨by omega, by omega⟩, ?_⟩
    show Q (.int _) H
    rw [near_int]; exact q
def sp_met_tone : Sp := fun vs H Q _ => ∃ y b t : Nat, vs = [.int y, .int b, .int t] ∧ b ≤ 255 ∧ t ≤ 255 ∧ Q (.int (Ie13.mixed y b t : Nat)) H
theorem ok_met_tone (T : Txt K mg C_Layer C_Document C_Editor) : Ok P w K mg base 2 "met_tone" ["way", "below", "tone"] sp_met_tone := by
  have O_nearest := ok_nearest (P := P) (w := w) (base := base) T
  refine T.d_met_tone.ok sc_met_tone (fun vs H Q E h => ?_) (fun f cdv A outer s H vs Q E hr h => ⟨_, (pss_cons (ps_if (pt_cmpR op_eq (pv 0) pe_int (nomark _)) (pss_one (ps_ret (pv 2))) pss_nil)
      (pss_cons (ps_if (pt_cmpR op_eq (pv 0) pe_int (nomark _)) (pss_one (ps_ret (pe_callO O_nearest (hr.mono (by decide)) rfl (pa_cons (pe_op op_mul (pv 1) (pv 2)) (pa_cons (pe_globC T.c_FULL rfl) pa_nil))))) pss_nil)
      (pss_cons (ps_if (pt_cmpR op_eq (pv 0) pe_int (nomark _)) (pss_one (ps_ret (pe_op op_sub (pe_globC T.c_FULL rfl) (pe_callO O_nearest (hr.mono (by decide)) rfl (pa_cons (pe_op op_mul (pe_op op_sub (pe_globC T.c_FULL rfl) (pv 1)) (pe_op op_sub (pe_globC T.c_FULL rfl) (pv 2))) (pa_cons (pe_globC T.c_FULL rfl) pa_nil)))))) pss_nil)
      (pss_one (ps_ret (pe_callB call_abs (by rfl) T.b_abs (by decide +kernel) (pa_cons (pe_op op_sub (pv 1) (pv 2)) pa_nil))))))), ?_⟩)
  · obtain ⟨y, a, b, rfl, _⟩ := h; rfl
  · obtain ⟨y, b, t, rfl, h0, h1, q⟩ := h
    simp only [cxK, Bool.false_eq_true, if_false, if_true, tYes, tChain, wipe, ↓reduceIte, tRet, tSeq, tAsg, tDrop, tIfS, tIf, tNext, gName, gTup, gCons, gNil, tFld, tLst, tTup, tTest, rEq_int, rNe_int, rIxL, rIxT, rSum, rAll, decide_eq_true_eq, List.cons.injEq, and_true, true_and, tTest, tC, tVar, tOp, rI, rI0, tCB, tCons, tNil, tAnd, tOr, tNot, tCallO, L2.start, List.length, List.map, List.replicate, List.cons_append, List.nil_append, Nat.sub_self, List.append_nil, List.set, V.int.injEq, V.ref.injEq, V.bl.injEq, Option.some.injEq, exists_eq_left', exists_eq_left, exists_and_left, List.getElem?_cons_zero, List.getElem?_cons_succ]
    match y, q with
    | 0, q => rw [if_pos (by decide)]; exact q
    | 1, q =>
      rw [if_neg (by decide), if_pos (by decide)]
      exact ⟨.inl ⟨by omega, by omega⟩, b * t, 255, by push_cast; rfl, by decide, by decide, q⟩
    | 2, q =>
      rw [if_neg (by decide), if_neg (by decide), if_pos (by decide)]
      refine ⟨.inl ⟨by omega, by omega⟩, (255 - b) * (255 - t), 255, ?_, by decide, by decide, _, rfl, ?_⟩
      · push_cast [h0, h1]; rfl
      · have z : Ie13.near ((255 - b) * (255 - t)) 255 ≤ 255 := near_le (by decide) (Nat.mul_le_mul (by omega) (by omega))
        have e : (255 : Int) - ((Ie13.near ((255 - b) * (255 - t)) 255 : Nat) : Int) = ((255 - Ie13.near ((255 - b) * (255 - t)) 255 : Nat) : Int) := by omega
        rw [e]; exact q
    | y + 3, q =>
      rw [if_neg (by omega), if_neg (by omega), if_neg (by omega)]
      have e : (if (b : Int) - t < 0 then -((b : Int) - t) else (b : Int) - t) = ((Ie13.mixed (y + 3) b t : Nat) : Int) := by
        show _ = (((b - t) + (t - b) : Nat) : Int)
        split <;> omega
      rw [e]; exact q
def sp_covered_tone (CL : Addr) : Sp := fun vs H Q _ => ∃ (b : Nat) (la ca : Addr) (l : Ie13.Layer) (d : Ie13.Dot), vs = [.int b, .ref la, .ref ca] ∧ LayAt CL H la l ∧ H ca = some (.tup [.int (d.tone : Int), .int (d.much : Int)]) ∧
  b ≤ 255 ∧ d.tone ≤ 255 ∧ d.much ≤ 255 ∧ l.much ≤ 255 ∧ Q (.int (Ie13.near ((65025 - d.much * l.much) * b + d.much * l.much * Ie13.mixed l.way b d.tone) 65025 : Nat)) H
theorem ok_covered_tone (T : Txt K mg C_Layer C_Document C_Editor) : Ok P w K mg base 3 "covered_tone" ["below", "layer", "cell"] (sp_covered_tone C_Layer) := by
  have O_nearest := ok_nearest (P := P) (w := w) (base := base) T
  have O_met_tone := ok_met_tone (P := P) (w := w) (base := base) T
  refine T.d_covered_tone.ok sc_covered_tone (fun vs H Q E h => ?_) (fun f cdv A outer s H vs Q E hr h => ⟨_, (pss_cons (ps_set (i := 3) sc_covered_tone.nd rfl (Or.inl rfl) (pe_ix (r := rIxT K) ix_tup (pv 2) pe_int (fun _ _ => rfl)))
      (pss_cons (ps_set (i := 4) sc_covered_tone.nd rfl (Or.inl rfl) (pe_op op_mul (pe_ix (r := rIxT K) ix_tup (pv 2) pe_int (fun _ _ => rfl)) (pe_fld (pv 1) rfl)))
      (pss_cons (ps_set (i := 5) sc_covered_tone.nd rfl (Or.inl rfl) (pe_callO O_met_tone (hr.mono (by decide)) rfl (pa_cons (pe_fld (pv 1) rfl) (pa_cons (pv 0) (pa_cons (pv 3) pa_nil)))))
      (pss_one (ps_ret (pe_callO O_nearest (hr.mono (by decide)) rfl (pa_cons (pe_op op_add (pe_op op_mul (pe_op op_sub (pe_globC T.c_FULL_TWICE rfl) (pv 4)) (pv 0)) (pe_op op_mul (pv 4) (pv 5))) (pa_cons (pe_globC T.c_FULL_TWICE rfl) pa_nil)))))))), ?_⟩)
  · obtain ⟨_, _, _, _, _, rfl, _⟩ := h; rfl
  · obtain ⟨b, la, ca, l, d, rfl, ⟨dx, c, hl, hc⟩, hd, h1, h2, h3, h4, q⟩ := h
    simp only [cxK, Bool.false_eq_true, if_false, if_true, tYes, tChain, wipe, ↓reduceIte, tRet, tSeq, tAsg, tDrop, tIfS, tIf, tNext, gName, gTup, gCons, gNil, tFld, tLst, tTup, tTest, rEq_int, rNe_int, rIxL, rIxT, rSum, rAll, decide_eq_true_eq, List.cons.injEq, and_true, true_and, tTest, tC, tVar, tOp, rI, rI0, tCB, tCons, tNil, tAnd, tOr, tNot, tCallO, L2.start, List.length, List.map, List.replicate, List.cons_append, List.nil_append, Nat.sub_self, List.append_nil, List.set, V.int.injEq, V.ref.injEq, V.bl.injEq, Option.some.injEq, exists_eq_left', exists_eq_left, exists_and_left, List.getElem?_cons_zero, List.getElem?_cons_succ]
    refine ⟨_, SqT.of hd, _, rfl, _, SqT.of hd, _, rfl, _, _, _, hl, T.k_Layer, T.n_Layer_much, _, Lay_much, _, rfl, _, rfl, .inl ⟨by omega, by omega⟩, _, _, _, hl, T.k_Layer, T.n_Layer_way, _, Lay_way, ?_⟩
    refine ⟨l.way, b, d.tone, rfl, h1, h2, ?_⟩
    have hk : d.much * l.much ≤ 65025 := mul_le_65025 h3 h4
    have hm := mixed_le (y := l.way) h1 h2
    refine ⟨.inr ⟨by omega, by omega⟩, _, rfl, .inr ⟨by omega, by omega⟩, _, _, ?_, by decide, by decide, q⟩
    rw [Int.natCast_add, Int.natCast_mul, Int.natCast_mul, Int.natCast_sub hk, Int.natCast_mul]; rfl
def sp_covered (CL : Addr) : Sp := fun vs H Q _ => ∃ (F : Hp) (ta la : Addr) (ts : List Nat) (l : Ie13.Layer), vs = [.ref ta, .ref la] ∧ Same F H ∧ Tones F ta ts ∧ LayAt CL F la l ∧ Lok ts.length l ∧ (∀ t ∈ ts, t ≤ 255) ∧ ts.length ≤ 36 ∧
  ∀ F' H' p, Ext F H F' H' → Tones F' p ((List.range ts.length).map fun i => Ie13.over (ts.getD i 0) l i) → Q (.ref p) H'
theorem ok_covered (T : Txt K mg C_Layer C_Document C_Editor) : Ok P w K mg base 4 "covered" ["tones", "layer"] (sp_covered C_Layer) := by
  have O_covered_tone := ok_covered_tone (P := P) (w := w) (base := base) T
  refine T.d_covered.ok sc_covered (fun vs H Q E h => ?_) (fun f cdv A outer s H vs Q E hr h => ⟨_, (pss_cons (ps_if (pt_cmpR op_eq (pe_fld (pv 1) rfl) pe_int (nomark _)) (pss_one (ps_ret (pv 0))) pss_nil)
      (pss_one (ps_ret (pe_lc (g := (gTup K 2 (gCons (gName 2) (gCons (gName 3) gNil)))) (tt := tYes) (own := [("below", 2), ("cell", 3)]) rfl sc_covered.nd (pi_zip (by rfl) T.b_zip (pa_cons (pv 0) (pa_cons (pe_fld (pv 1) rfl) pa_nil))) (blkOk_by (own := [("below", 2), ("cell", 3)]) (N := ["tones", "layer", "below", "cell"]) (sc := defScope s_covered) (by decide +kernel)) (fun _ _ _ _ _ => (pg_tup rfl (pgs_cons (pg_name (i := 2) sc_covered.nd rfl (Or.inl rfl)) (pgs_cons (pg_name (i := 3) sc_covered.nd rfl (Or.inl rfl)) pgs_nil)))) (fun _ _ _ _ _ => pts_nil) (fun _ _ _ _ _ => (pe_callO O_covered_tone (hr.mono (by decide)) rfl (pa_cons (pv 2) (pa_cons (pv 1) (pa_cons (pv 3) pa_nil))))))))), ?_⟩)
  · obtain ⟨_, _, _, _, _, rfl, _⟩ := h; rfl
  · obtain ⟨F, ta, la, ts, l, rfl, hF, ht, hl, lok, h255, h36, q⟩ := h
    simp only [cxK, Bool.false_eq_true, if_false, if_true, tYes, tChain, wipe, ↓reduceIte, tRet, tSeq, tAsg, tDrop, tIfS, tIf, tNext, gName, gTup, gCons, gNil, tFld, tLst, tTup, tTest, rEq_int, rNe_int, rIxL, rIxT, rSum, rAll, decide_eq_true_eq, List.cons.injEq, and_true, true_and, tTest, tC, tVar, tOp, rI, rI0, tCB, tCons, tNil, tAnd, tOr, tNot, tCallO, L2.start, List.length, List.map, List.replicate, List.cons_append, List.nil_append, Nat.sub_self, List.append_nil, List.set, V.int.injEq, V.ref.injEq, V.bl.injEq, Option.some.injEq, exists_eq_left', exists_eq_left, exists_and_left, List.getElem?_cons_zero, List.getElem?_cons_succ]
    obtain ⟨dx, c, hl1, hl2⟩ := hl
    obtain ⟨tv, ht1, ht2⟩ := ht
    obtain ⟨cv, hc1, hc2⟩ := hl2
    have hlH := hF _ _ hl1
    refine ⟨_, _, _, hlH, T.k_Layer, T.n_Layer_shown, _, Lay_shown, ?_⟩
    rw [rEq_int]
    refine ⟨_, rfl, ?_⟩
    cases hs : l.shown with
    | false =>
      refine ifT rfl ?_
      refine q F H ta (Ext.refl hF) ?_
      have e : (List.range ts.length).map (fun i => Ie13.over (ts.getD i 0) l i) = ts := by
        have : (fun i => Ie13.over (ts.getD i 0) l i) = fun i => ts.getD i 0 := by
          funext i; unfold Ie13.over; rw [if_pos hs]
        rw [this]; exact range_getD rfl 0
      rw [e]; exact ⟨tv, ht1, ht2⟩
    | true =>
      refine ifF rfl ?_
      show iZip K _ _ H (fun J H1 => LcTail J _ _ _ _ _ H1 Q)
      refine ⟨_, rfl, _, rfl, _, _, _, _, _, rfl, hlH, T.k_Layer, T.n_Layer_cells, Lay_cells, _, _, _, _, rfl, SqL.of (hF _ _ ht1), SqL.of (hF _ _ hc1), ?_⟩
      refine lcx_zip RI.mono (fun _ => true) (fun i => Ie13.over (ts.getD i 0) l i) hF (SqL.of (hF _ _ ht1)) (SqL.of (hF _ _ hc1)) ht2.length (hc2.length.trans lok.len) (by omega) (fun x y => rfl) ?_ ?_
      · intro i F1 Ha x y hx hy e Kp Sk k1 k2
        obtain ⟨b, hb, rfl⟩ := pd_getL ht2 hx
        obtain ⟨d, hd, r, rfl, hr⟩ := pd_getL hc2 hy
        have hbi : ts.getD i 0 = b := by rw [List.getD_eq_getElem?_getD, hb]; rfl
        have hdi : l.dot i = d := by unfold Ie13.Layer.dot; rw [List.getD_eq_getElem?_getD, hd]; rfl
        refine ⟨_, rfl, _, rfl, _, rfl, ?_⟩
        have hd2 := lok.dots d (List.mem_of_getElem? hd)
        refine ⟨b, la, r, l, d, rfl, LayAt.mono e.hh ⟨dx, c, hlH, cv, hF _ _ hc1, pd_mono (fun v x => RD.mono F H v x hF) hc2⟩, e.hh _ _ (hF _ _ hr), h255 b (List.mem_of_getElem? hb), hd2.1, hd2.2, lok.much, ?_⟩
        refine k1 rfl _ F1 Ha (Ext.refl e.fh) ?_
        show V.int _ = V.int _
        rw [hbi]
        unfold Ie13.over
        rw [if_neg (by rw [hs]; decide), hdi]
      · intro p F' H' e h
        rw [filter_yes] at h
        exact q F' H' p e h
/-- the tones with the first i layers over the ground -/
def ptones (d : Ie13.Doc) (i : Nat) : List Nat := (List.range d.n).map fun c => (d.layers.take i).foldl (fun b l => Ie13.over b l c) (d.ground.getD c 0)
def sp_picture_tones (CL CD : Addr) : Sp := fun vs H Q _ => ∃ (F : Hp) (a : Addr) (d : Ie13.Doc), vs = [.ref a] ∧ Same F H ∧ DocAt CL CD F a d ∧ Wf d ∧
  ∀ F' H' p, Ext F H F' H' → Tones F' p d.picture → Q (.ref p) H'
theorem ptones_le {d : Ie13.Doc} (h : Wf d) (i : Nat) : ∀ t ∈ ptones d i, t ≤ 255 := by
  intro t ht
  obtain ⟨c, _, rfl⟩ := List.mem_map.mp ht
  exact foldl_over_le c _ _ (fun l hl => h.lays l (List.mem_of_mem_take hl)) (getD_le h.gt c)
theorem ptones_len (d : Ie13.Doc) (i : Nat) : (ptones d i).length = d.n := by unfold ptones; simp
theorem ptones_succ {d : Ie13.Doc} {i : Nat} {l : Ie13.Layer} (hl : d.layers[i]? = some l) : ptones d (i + 1) = (List.range (ptones d i).length).map fun c => Ie13.over ((ptones d i).getD c 0) l c := by
  rw [ptones_len]
  unfold ptones
  apply List.map_congr_left
  intro c hc
  rw [getD_range _ (List.mem_range.mp hc), List.take_add_one, hl]
  simp
theorem ok_picture_tones (T : Txt K mg C_Layer C_Document C_Editor) : Ok P w K mg base 5 "picture_tones" ["document"] (sp_picture_tones C_Layer C_Document) := by
  have O_covered := ok_covered (P := P) (w := w) (base := base) T
  refine T.d_picture_tones.ok sc_picture_tones (fun vs H Q E h => ?_) (fun f cdv A outer s H vs Q E hr h => ⟨_, (pss_cons (ps_set (i := 1) sc_picture_tones.nd rfl (Or.inl rfl) (pe_fld (pv 0) rfl))
      (pss_cons (ps_for PassesOwn.never rfl (pi_list (pe_fld (pv 0) rfl)) (pg_name (i := 2) sc_picture_tones.nd rfl (Or.inl rfl)) (pss_one (ps_set (i := 1) sc_picture_tones.nd rfl (Or.inl rfl) (pe_callO O_covered (hr.mono (by decide)) rfl (pa_cons (pv 1) (pa_cons (pv 2) pa_nil))))))
      (pss_one (ps_ret (pv 1))))), ?_⟩)
  · obtain ⟨_, _, _, rfl, _⟩ := h; rfl
  · obtain ⟨F, a, d, rfl, hF, hd, wf, q⟩ := h
    obtain ⟨dx, g, ls, ch, h1, h2, h3, h4⟩ := hd.ex
    obtain ⟨lv, hl1, hl2⟩ := h3
    have h1H := hF _ _ h1
    refine ⟨_, rfl, _, _, _, _, _, rfl, h1H, T.k_Document, T.n_Document_ground, Doc_ground, ?_⟩
    refine ⟨_, rfl, _, _, _, _, _, rfl, h1H, T.k_Document, T.n_Document_layers, Doc_layers, _, rfl, ⟨_, SqL.of (hF _ _ hl1)⟩, ?_⟩
    refine for_list (K := K) (xs := lv) (fun i σ H' => ∃ F1 p v, σ = [some (.ref a), some (.ref p), v] ∧ Ext F H F1 H' ∧ Tones F1 p (ptones d i)) ?_ ?_ ?_ ?_
    · refine ⟨F, g, none, rfl, Ext.refl hF, ?_⟩
      have e : ptones d 0 = d.ground := range_getD wf.glen 0
      rw [e]; exact h2
    · rintro i σ H' _ ⟨F1, p, v, rfl, e, _⟩
      exact e.hh.seq (SqL.of (hF _ _ hl1))
    · rintro i x σ H' hx ⟨F1, p, v, rfl, e, ht⟩
      obtain ⟨l, hl, r, rfl, hla⟩ := pd_getL hl2 hx
      refine ⟨_, rfl, _, rfl, ?_⟩
      refine ⟨F1, p, r, ptones d i, l, rfl, e.fh, ht, hla.mono e.ff, ?_, ptones_le wf i, ?_, ?_⟩
      · rw [ptones_len]; exact wf.lays l (List.mem_of_getElem? hl)
      · rw [ptones_len]; exact wf.n36
      · intro F2 H2 p2 e2 ht2
        refine ⟨F2, p2, some (.ref r), rfl, e.trans e2, ?_⟩
        rw [ptones_succ hl]; exact ht2
    · rintro σ H' ⟨F1, p, v, rfl, e, ht⟩
      refine ⟨_, rfl, q F1 H' p e ?_⟩
      have z : ptones d lv.length = d.picture := by
        rw [hl2.length]; unfold ptones; rw [List.take_length]; rfl
      rw [← z]; exact ht
end
end Lp
namespace Lp
open PySem PySem.Spec PyProof.Rows L2
section
variable {P : Program} {w : World} {K : PySem.W.Frag} {mg : Str → Option Value} {base : Heap} {C_Layer C_Document C_Editor : Addr}

def sp_box_region : Sp := fun vs H Q _ => ∃ (F : Hp) (w h x y u v : Nat), vs = [.int w, .int h, .int x, .int y, .int u, .int v] ∧ Same F H ∧ 1 ≤ w ∧ w ≤ 6 ∧ 1 ≤ h ∧ h ≤ 6 ∧
  ∀ F' H' p, Ext F H F' H' → Bits F' p ((List.range (w * h)).map (Ie13.inBox w x y u v)) → Q (.ref p) H'
theorem ok_box_region (T : Txt K mg C_Layer C_Document C_Editor) : Ok P w K mg base 1 "box_region" ["width", "height", "x", "y", "u", "v"] sp_box_region := by
  refine T.d_box_region.ok sc_box_region (fun vs H Q E h => ?_) (fun f cdv A outer s H vs Q E hr h => ⟨_, (pss_one (ps_ret (pe_lc (g := (gName 6)) (tt := tYes) (own := [("cell", 6)]) rfl sc_box_region.nd (pi_range1 rfl T.b_range (pa_cons (pe_op op_mul (pv 0) (pv 1)) pa_nil)) (blkOk_by (own := [("cell", 6)]) (N := ["width", "height", "x", "y", "u", "v", "cell"]) (sc := defScope s_box_region) (by decide +kernel)) (fun _ _ _ _ _ => (pg_name (i := 6) sc_box_region.nd rfl (Or.inl rfl))) (fun _ _ _ _ _ => pts_nil) (fun _ _ _ _ _ => (pe_ifExp (PW.pt (pw_and (pt_chain op_le op_lt (pv 2) (pe_op op_mod (pv 6) (pv 0)) (pe_op op_add (pv 2) (pv 4))) (pw_and1 (pt_chain op_le op_lt (pv 3) (pe_op op_fdiv (pv 6) (pv 0)) (pe_op op_add (pv 3) (pv 5)))))) pe_int pe_int))))), ?_⟩)
  · obtain ⟨_, _, _, _, _, _, _, rfl, _⟩ := h; rfl
  · obtain ⟨F, w, h, x, y, u, v, rfl, hF, hw1, hw6, hh1, hh6, q⟩ := h
    show iRng1 _ _ H (fun J H1 => LcTail J _ _ _ _ _ H1 Q)
    have e36 : w * h ≤ 36 := Nat.le_trans (Nat.mul_le_mul hw6 hh6) (by decide)
    refine ⟨_, rfl, _, rfl, _, _, rfl, rfl, .inl ⟨by omega, by omega⟩, _, rfl, by omega, by omega, ?_⟩
    have en : ((w : Int) * (h : Int)).toNat = w * h := by rw [← Int.natCast_mul]; rfl
    rw [en]
    refine lcx_range RB.mono (fun _ => true) (Ie13.inBox w x y u v) hF (by omega) (fun _ => rfl) ?_ ?_
    · intro i F1 Ha hi e Kp Sk k1 k2
      simp only [cxK, Bool.false_eq_true, if_false, if_true, tYes, tChain, wipe, ↓reduceIte, tRet, tSeq, tAsg, tDrop, tIfS, tIf, tNext, gName, gTup, gCons, gNil, tFld, tLst, tTup, tTest, rEq_int, rNe_int, rIxL, rIxT, rSum, rAll, decide_eq_true_eq, List.cons.injEq, and_true, true_and, tTest, tC, tVar, tOp, rI, rI0, tCB, tCons, tNil, tAnd, tOr, tNot, tCallO, L2.start, List.length, List.map, List.replicate, List.cons_append, List.nil_append, Nat.sub_self, List.append_nil, List.set, V.int.injEq, V.ref.injEq, V.bl.injEq, Option.some.injEq, exists_eq_left', exists_eq_left, exists_and_left, List.getElem?_cons_zero, List.getElem?_cons_succ]
      have fin : ∀ b : Bool, Ie13.inBox w x y u v i = b → Kp (.int (bI b)) Ha := fun b hb => k1 rfl _ F1 Ha (Ext.refl e.fh) (by rw [← hb]; rfl)
      have e1 : (0 + (i : Int)) % (w : Int) = ((i % w : Nat) : Int) := by rw [Int.zero_add]; rfl
      have e2 : (0 + (i : Int)) / (w : Int) = ((i / w : Nat) : Int) := by rw [Int.zero_add]; rfl
      rw [e1, e2]
      unfold Ie13.inBox at fin
      refine ⟨by omega, ?_⟩
      split
      · split
        · refine ⟨⟨by omega, by omega⟩, ?_⟩
          split
          · split
            · exact fin true (by simp only [Bool.and_eq_true, decide_eq_true_eq]; omega)
            · exact fin false (by simp only [Bool.and_eq_false_iff, decide_eq_false_iff_not]; omega)
          · exact fin false (by simp only [Bool.and_eq_false_iff, decide_eq_false_iff_not]; omega)
        · exact fin false (by simp only [Bool.and_eq_false_iff, decide_eq_false_iff_not]; omega)
      · exact fin false (by simp only [Bool.and_eq_false_iff, decide_eq_false_iff_not]; omega)
    · intro p F' H' e h
      rw [filter_yes] at h
      exact q F' H' p e h
theorem abs_gap (a b : Nat) : (if (a : Int) - (b : Int) < 0 then -((a : Int) - (b : Int)) else (a : Int) - (b : Int)) = ((Ie13.gap a b : Nat) : Int) := by
  unfold Ie13.gap
  split <;> omega
theorem gap_comm (a b : Nat) : Ie13.gap a b = Ie13.gap b a := by unfold Ie13.gap; omega
def sp_around : Sp := fun vs H Q _ => ∃ (F : Hp) (c w h : Nat), vs = [.int c, .int w, .int h] ∧ Same F H ∧ 1 ≤ w ∧ w ≤ 6 ∧ 1 ≤ h ∧ h ≤ 6 ∧
  ∀ F' H' p, Ext F H F' H' → Tones F' p (Ie13.around w h c) → Q (.ref p) H'
theorem ok_around (T : Txt K mg C_Layer C_Document C_Editor) : Ok P w K mg base 1 "around" ["cell", "width", "height"] sp_around := by
  refine T.d_around.ok sc_around (fun vs H Q E h => ?_) (fun f cdv A outer s H vs Q E hr h => ⟨_, (pss_cons (ps_set (i := 3) sc_around.nd rfl (Or.inr rfl) (pe_op op_mod (pv 0) (pv 1)))
      (pss_cons (ps_set (i := 4) sc_around.nd rfl (Or.inr rfl) (pe_op op_fdiv (pv 0) (pv 1)))
      (pss_one (ps_ret (pe_lc (g := (gName 5)) (own := [("other", 5)]) rfl sc_around.nd (pi_range1 rfl T.b_range (pa_cons (pe_op op_mul (pv 1) (pv 2)) pa_nil)) (blkOk_by (own := [("other", 5)]) (N := ["cell", "width", "height", "column", "row", "other"]) (sc := defScope s_around) (by decide +kernel)) (fun _ _ _ _ _ => (pg_name (i := 5) sc_around.nd rfl (Or.inl rfl))) (fun _ _ _ _ _ => (pts_one (PW.pt (pw_and (pt_cmpR op_le (pe_callB call_abs (by rfl) T.b_abs (by decide +kernel) (pa_cons (pe_op op_sub (pe_op op_mod (pv 5) (pv 1)) (pv 3)) pa_nil)) pe_int (nomark _)) (pw_and1 (pt_cmpR op_le (pe_callB call_abs (by rfl) T.b_abs (by decide +kernel) (pa_cons (pe_op op_sub (pe_op op_fdiv (pv 5) (pv 1)) (pv 4)) pa_nil)) pe_int (nomark _))))))) (fun _ _ _ _ _ => (pv 5))))))), ?_⟩)
  · obtain ⟨_, _, _, _, rfl, _⟩ := h; rfl
  · obtain ⟨F, c, w, h, rfl, hF, hw1, hw6, hh1, hh6, q⟩ := h
    have e36 : w * h ≤ 36 := Nat.le_trans (Nat.mul_le_mul hw6 hh6) (by decide)
    simp only [cxK, Bool.false_eq_true, if_false, if_true, tYes, tChain, wipe, ↓reduceIte, tRet, tSeq, tAsg, tDrop, tIfS, tIf, tNext, gName, gTup, gCons, gNil, tFld, tLst, tTup, tTest, rEq_int, rNe_int, rIxL, rIxT, rSum, rAll, decide_eq_true_eq, List.cons.injEq, and_true, true_and, tTest, tC, tVar, tOp, rI, rI0, tCB, tCons, tNil, tAnd, tOr, tNot, tCallO, L2.start, List.length, List.map, List.replicate, List.cons_append, List.nil_append, Nat.sub_self, List.append_nil, List.set, V.int.injEq, V.ref.injEq, V.bl.injEq, Option.some.injEq, exists_eq_left', exists_eq_left, exists_and_left, List.getElem?_cons_zero, List.getElem?_cons_succ]
    refine ⟨by omega, ⟨by omega, by omega⟩, ?_⟩
    show iRng1 _ _ H (fun J H1 => LcTail J _ _ _ _ _ H1 Q)
    refine ⟨_, rfl, _, rfl, _, _, rfl, rfl, .inl ⟨by omega, by omega⟩, _, rfl, by omega, by omega, ?_⟩
    have en : ((w : Int) * (h : Int)).toNat = w * h := by rw [← Int.natCast_mul]; rfl
    rw [en]
    refine lcx_range RI.mono (fun j => decide (Ie13.gap (c % w) (j % w) ≤ 1) && decide (Ie13.gap (c / w) (j / w) ≤ 1)) (fun j => j) hF (by omega) (fun _ => rfl) ?_ ?_
    · intro i F1 Ha hi e Kp Sk k1 k2
      simp only [cxK, Bool.false_eq_true, if_false, if_true, tYes, tChain, wipe, ↓reduceIte, tRet, tSeq, tAsg, tDrop, tIfS, tIf, tNext, gName, gTup, gCons, gNil, tFld, tLst, tTup, tTest, rEq_int, rNe_int, rIxL, rIxT, rSum, rAll, decide_eq_true_eq, List.cons.injEq, and_true, true_and, tTest, tC, tVar, tOp, rI, rI0, tCB, tCons, tNil, tAnd, tOr, tNot, tCallO, L2.start, List.length, List.map, List.replicate, List.cons_append, List.nil_append, Nat.sub_self, List.append_nil, List.set, V.int.injEq, V.ref.injEq, V.bl.injEq, Option.some.injEq, exists_eq_left', exists_eq_left, exists_and_left, List.getElem?_cons_zero, List.getElem?_cons_succ]
      have e1 : (0 + (i : Int)) % (w : Int) = ((i % w : Nat) : Int) := by rw [Int.zero_add]; rfl
      have e2 : (0 + (i : Int)) / (w : Int) = ((i / w : Nat) : Int) := by rw [Int.zero_add]; rfl
      have e3 : (c : Int) % (w : Int) = ((c % w : Nat) : Int) := rfl
      have e4 : (c : Int) / (w : Int) = ((c / w : Nat) : Int) := rfl
      rw [e1, e2, e3, e4]
      rw [abs_gap, abs_gap, gap_comm (i % w), gap_comm (i / w)]
      refine ⟨by omega, ?_⟩
      split
      · refine ⟨⟨by omega, by omega⟩, ?_⟩
        split
        · refine k1 (by simp only [Bool.and_eq_true, decide_eq_true_eq]; omega) _ F1 Ha (Ext.refl e.fh) ?_
          show V.int _ = V.int _
          rw [Int.zero_add]
        · exact k2 (by simp only [Bool.and_eq_false_iff, decide_eq_false_iff_not]; omega) F1 Ha (Ext.refl e.fh)
      · exact k2 (by simp only [Bool.and_eq_false_iff, decide_eq_false_iff_not]; omega) F1 Ha (Ext.refl e.fh)
    · intro p F' H' e h
      rw [List.map_id'] at h
      exact q F' H' p e h
def sp_chosen_after : Sp := fun vs H Q _ => ∃ (how : Nat) (a b : Bool), vs = [.int how, .int (bI a), .int (bI b)] ∧ Q (.int (bI (Ie13.mix how a b))) H
theorem ok_chosen_after (T : Txt K mg C_Layer C_Document C_Editor) : Ok P w K mg base 1 "chosen_after" ["how", "was", "inside"] sp_chosen_after := by
  refine T.d_chosen_after.ok sc_chosen_after (fun vs H Q E h => ?_) (fun f cdv A outer s H vs Q E hr h => ⟨_, (pss_cons (ps_if (pt_cmpR op_eq (pv 0) pe_int (nomark _)) (pss_one (ps_ret (pv 2))) pss_nil)
      (pss_cons (ps_if (pt_cmpR op_eq (pv 0) pe_int (nomark _)) (pss_one (ps_ret (pe_callB (call_max2 rfl) (by rfl) T.b_max (by decide +kernel) (pa_cons (pv 1) (pa_cons (pv 2) pa_nil))))) pss_nil)
      (pss_cons (ps_if (pt_cmpR op_eq (pv 0) pe_int (nomark _)) (pss_one (ps_ret (pe_op op_mul (pv 1) (pe_op op_sub pe_int (pv 2))))) pss_nil)
      (pss_one (ps_ret (pe_op op_mul (pv 1) (pv 2))))))), ?_⟩)
  · obtain ⟨_, _, _, rfl, _⟩ := h; rfl
  · obtain ⟨how, a, b, rfl, q⟩ := h
    simp only [cxK, Bool.false_eq_true, if_false, if_true, tYes, tChain, wipe, ↓reduceIte, tRet, tSeq, tAsg, tDrop, tIfS, tIf, tNext, gName, gTup, gCons, gNil, tFld, tLst, tTup, tTest, rEq_int, rNe_int, rIxL, rIxT, rSum, rAll, decide_eq_true_eq, List.cons.injEq, and_true, true_and, tTest, tC, tVar, tOp, rI, rI0, tCB, tCons, tNil, tAnd, tOr, tNot, tCallO, L2.start, List.length, List.map, List.replicate, List.cons_append, List.nil_append, Nat.sub_self, List.append_nil, List.set, V.int.injEq, V.ref.injEq, V.bl.injEq, Option.some.injEq, exists_eq_left', exists_eq_left, exists_and_left, List.getElem?_cons_zero, List.getElem?_cons_succ]
    match how, q with
    | 0, q => rw [if_pos (by decide)]; exact q
    | 1, q =>
      rw [if_neg (by decide), if_pos (by decide)]
      cases a <;> cases b <;> exact ⟨_, _, ⟨rfl, rfl⟩, q⟩
    | 2, q =>
      rw [if_neg (by decide), if_neg (by decide), if_pos (by decide)]
      cases a <;> cases b <;> exact ⟨.inl ⟨by decide, by decide⟩, q⟩
    | how + 3, q =>
      rw [if_neg (by omega), if_neg (by omega), if_neg (by omega)]
      cases a <;> cases b <;> exact ⟨.inl ⟨by decide, by decide⟩, q⟩
def sp_chosen_by : Sp := fun vs H Q _ => ∃ (F : Hp) (how n : Nat) (ca ra : Addr) (cs rs : List Bool), vs = [.int how, .ref ca, .ref ra] ∧ Same F H ∧ Bits F ca cs ∧ Bits F ra rs ∧ cs.length = n ∧ rs.length = n ∧ n ≤ 36 ∧
  ∀ F' H' p, Ext F H F' H' → Bits F' p ((List.range n).map fun i => Ie13.mix how (cs.getD i false) (rs.getD i false)) → Q (.ref p) H'
theorem ok_chosen_by (T : Txt K mg C_Layer C_Document C_Editor) : Ok P w K mg base 2 "chosen_by" ["how", "chosen", "region"] sp_chosen_by := by
  have O_chosen_after := ok_chosen_after (P := P) (w := w) (base := base) T
  refine T.d_chosen_by.ok sc_chosen_by (fun vs H Q E h => ?_) (fun f cdv A outer s H vs Q E hr h => ⟨_, (pss_one (ps_ret (pe_lc (g := (gTup K 2 (gCons (gName 3) (gCons (gName 4) gNil)))) (tt := tYes) (own := [("was", 3), ("inside", 4)]) rfl sc_chosen_by.nd (pi_zip (by rfl) T.b_zip (pa_cons (pv 1) (pa_cons (pv 2) pa_nil))) (blkOk_by (own := [("was", 3), ("inside", 4)]) (N := ["how", "chosen", "region", "was", "inside"]) (sc := defScope s_chosen_by) (by decide +kernel)) (fun _ _ _ _ _ => (pg_tup rfl (pgs_cons (pg_name (i := 3) sc_chosen_by.nd rfl (Or.inl rfl)) (pgs_cons (pg_name (i := 4) sc_chosen_by.nd rfl (Or.inl rfl)) pgs_nil)))) (fun _ _ _ _ _ => pts_nil) (fun _ _ _ _ _ => (pe_callO O_chosen_after (hr.mono (by decide)) rfl (pa_cons (pv 0) (pa_cons (pv 3) (pa_cons (pv 4) pa_nil)))))))), ?_⟩)
  · obtain ⟨_, _, _, _, _, _, _, rfl, _⟩ := h; rfl
  · obtain ⟨F, how, n, ca, ra, cs, rs, rfl, hF, ⟨cv, hc1, hc2⟩, ⟨rv, hr1, hr2⟩, hcn, hrn, h36, q⟩ := h
    show iZip K _ _ H (fun J H1 => LcTail J _ _ _ _ _ H1 Q)
    refine ⟨_, rfl, _, rfl, _, _, _, _, rfl, SqL.of (hF _ _ hc1), SqL.of (hF _ _ hr1), ?_⟩
    refine lcx_zip RB.mono (fun _ => true) (fun i => Ie13.mix how (cs.getD i false) (rs.getD i false)) hF (SqL.of (hF _ _ hc1)) (SqL.of (hF _ _ hr1)) (hc2.length.trans hcn) (hr2.length.trans hrn) (by omega) (fun x y => rfl) ?_ ?_
    · intro i F1 Ha x y hx hy e Kp Sk k1 k2
      obtain ⟨a, ha, rfl⟩ := pd_getL hc2 hx
      obtain ⟨b, hb, rfl⟩ := pd_getL hr2 hy
      refine ⟨_, rfl, _, rfl, _, rfl, ?_⟩
      refine ⟨how, a, b, rfl, k1 rfl _ F1 Ha (Ext.refl e.fh) ?_⟩
      show V.int _ = V.int _
      rw [List.getD_eq_getElem?_getD, ha, List.getD_eq_getElem?_getD, hb]; rfl
    · intro p F' H' e h
      rw [filter_yes] at h
      exact q F' H' p e h
def vI (l : List Nat) : List V := l.map fun (n : Nat) => V.int (n : Int)
theorem vI_pd (F : Hp) (l : List Nat) : Paired (RI F) (vI l) l := pd_of_map (fun (n : Nat) => V.int (n : Int)) (fun _ => rfl) l
theorem v_eq {i : Int} {n : Nat} (h : i = (n : Int)) : V.int i = V.int (n : Int) := by rw [h]
theorem if_app {c : TT} {t rest : TS} {D : Ends} {σ : L2.St} {H0 : Hp} {p : Addr} {l : List Nat} {x : Nat} (b : Bool)
    (hc : ∀ Q : Bool → Hp → Prop, Q b (upd H0 p (.lst (vI l))) → c σ (upd H0 p (.lst (vI l))) Q)
    (ht : b = true → ∀ D' : Ends, D'.nx σ (upd H0 p (.lst (vI (l ++ [x])))) → t D' σ (upd H0 p (.lst (vI l))))
    (hr : rest D σ (upd H0 p (.lst (vI (l ++ (if b = true then [x] else [])))))) : tSeq (tIfS c t tNext) rest D σ (upd H0 p (.lst (vI l))) := by
  refine hc _ ?_
  cases b with
  | true => exact ifT rfl (ht rfl _ hr)
  | false =>
    refine ifF rfl ?_
    show rest D σ _
    simp only [Bool.false_eq_true, if_false, List.append_nil] at hr
    exact hr
theorem app_nx {σ : L2.St} {H0 : Hp} {p : Addr} {l : List Nat} {x : Nat} {v : V} {D : Ends} (hv : v = .int (x : Int)) (h : D.nx σ (upd H0 p (.lst (vI (l ++ [x]))))) : D.nx σ (upd (upd H0 p (.lst (vI l))) p (.lst (vI l ++ [v]))) := by
  rw [upd_upd, hv]
  have e : vI l ++ [V.int (x : Int)] = vI (l ++ [x]) := by unfold vI; rw [List.map_append]; rfl
  rw [e]; exact h
theorem vI_len {l : List Nat} (h : l.length ≤ 1000) : (vI l).length < sizeLine := by
  unfold vI; rw [List.length_map]; exact small1000 h
theorem ite1_len {b : Bool} {x : Nat} : (if b = true then [x] else []).length ≤ 1 := by cases b <;> simp
def sp_beside : Sp := fun vs H Q _ => ∃ (F : Hp) (c w h : Nat), vs = [.int c, .int w, .int h] ∧ Same F H ∧ 1 ≤ w ∧ w ≤ 6 ∧ 1 ≤ h ∧ h ≤ 6 ∧ c < w * h ∧
  ∀ F' H' p, Ext F H F' H' → Tones F' p (nb w h c) → Q (.ref p) H'
theorem ok_beside (T : Txt K mg C_Layer C_Document C_Editor) : Ok P w K mg base 1 "beside" ["cell", "width", "height"] sp_beside := by
  refine T.d_beside.ok sc_beside (fun vs H Q E h => ?_) (fun f cdv A outer s H vs Q E hr h => ⟨_, (pss_cons (ps_set (i := 3) sc_beside.nd rfl (Or.inl rfl) (pe_lst pa_nil))
      (pss_cons (ps_if (pt_cmpR op_ge (pv 0) (pv 1) (nomark _)) (pss_one (ps_expr (pe_bm PySem.F.plainAttrs_list PySem.F.slot_list_append PySem.F.type_list_append mt_append (pv 3) (pa_cons (pe_op op_sub (pv 0) (pv 1)) pa_nil)))) pss_nil)
      (pss_cons (ps_if (pt_cmpR op_gt (pe_op op_mod (pv 0) (pv 1)) pe_int (nomark _)) (pss_one (ps_expr (pe_bm PySem.F.plainAttrs_list PySem.F.slot_list_append PySem.F.type_list_append mt_append (pv 3) (pa_cons (pe_op op_sub (pv 0) pe_int) pa_nil)))) pss_nil)
      (pss_cons (ps_if (pt_cmpR op_lt (pe_op op_mod (pv 0) (pv 1)) (pe_op op_sub (pv 1) pe_int) (nomark _)) (pss_one (ps_expr (pe_bm PySem.F.plainAttrs_list PySem.F.slot_list_append PySem.F.type_list_append mt_append (pv 3) (pa_cons (pe_op op_add (pv 0) pe_int) pa_nil)))) pss_nil)
      (pss_cons (ps_if (pt_cmpR op_lt (pe_op op_fdiv (pv 0) (pv 1)) (pe_op op_sub (pv 2) pe_int) (nomark _)) (pss_one (ps_expr (pe_bm PySem.F.plainAttrs_list PySem.F.slot_list_append PySem.F.type_list_append mt_append (pv 3) (pa_cons (pe_op op_add (pv 0) (pv 1)) pa_nil)))) pss_nil)
      (pss_one (ps_ret (pv 3)))))))), ?_⟩)
  · obtain ⟨_, _, _, _, rfl, _⟩ := h; rfl
  · obtain ⟨F, c, w, h, rfl, hF, hw1, hw6, hh1, hh6, hc, q⟩ := h
    refine ⟨by decide, fun p hp => ?_⟩
    have hm : c % w < w := Nat.mod_lt _ hw1
    have e1 : (c : Int) % (w : Int) = ((c % w : Nat) : Int) := rfl
    have e2 : (c : Int) / (w : Int) = ((c / w : Nat) : Int) := rfl
    dsimp only [cxK, gName, L2.start, List.length, List.map, List.replicate, List.cons_append, List.nil_append, Nat.sub_self, List.append_nil, List.set]
    refine if_app (l := []) (x := c - w) (decide (w ≤ c)) ?_ ?_ ?_
    · intro Q h
      refine ⟨_, rfl, _, rfl, _, _, rfl, rfl, _, rfl, ?_⟩
      have e : decide ((w : Int) ≤ (c : Int)) = decide (w ≤ c) := decide_eq_decide.mpr (by omega)
      show Q (decide ((w : Int) ≤ (c : Int))) _
      rw [e]; exact h
    · intro hb D' h
      have hb := of_decide_eq_true hb
      exact ⟨_, rfl, .inl ⟨rfl, _, SqL.of upd_same⟩, _, rfl, _, rfl, _, _, rfl, rfl, _, _, _, rfl, rfl, upd_same, vI_len (by simp), app_nx (v_eq (by omega)) h⟩
    refine if_app (x := c - 1) (decide (0 < c % w)) ?_ ?_ ?_
    · intro Q h
      refine ⟨_, rfl, _, rfl, _, _, rfl, rfl, (by show (0 : Int) < w; omega), _, _, rfl, rfl, _, rfl, ?_⟩
      have e : decide ((0 : Int) < (c : Int) % (w : Int)) = decide (0 < c % w) := decide_eq_decide.mpr (by rw [e1]; omega)
      show Q (decide ((0 : Int) < (c : Int) % (w : Int))) _
      rw [e]; exact h
    · intro hb D' h
      have hb := of_decide_eq_true hb
      have h1 : 1 ≤ c := by
        rcases Nat.eq_zero_or_pos c with z | z
        · subst z; simp at hb
        · exact z
      refine ⟨_, rfl, .inl ⟨rfl, _, SqL.of upd_same⟩, _, rfl, _, _, rfl, rfl, _, _, _, rfl, rfl, upd_same, vI_len ?_, app_nx (v_eq (by omega)) h⟩
      have := @ite1_len (decide (w ≤ c)) (c - w)
      simp only [List.length_append, List.length_nil]; omega
    refine if_app (x := c + 1) (decide (c % w < w - 1)) ?_ ?_ ?_
    · intro Q h
      refine ⟨_, rfl, _, rfl, _, _, rfl, rfl, (by show (0 : Int) < w; omega), _, rfl, _, _, rfl, rfl, _, _, rfl, rfl, _, rfl, ?_⟩
      have e : decide ((c : Int) % (w : Int) < (w : Int) - 1) = decide (c % w < w - 1) := decide_eq_decide.mpr (by rw [e1]; omega)
      show Q (decide ((c : Int) % (w : Int) < (w : Int) - 1)) _
      rw [e]; exact h
    · intro hb D' h
      refine ⟨_, rfl, .inl ⟨rfl, _, SqL.of upd_same⟩, _, rfl, _, _, rfl, rfl, _, _, _, rfl, rfl, upd_same, vI_len ?_, app_nx (v_eq (by omega)) h⟩
      have := @ite1_len (decide (w ≤ c)) (c - w)
      have := @ite1_len (decide (0 < c % w)) (c - 1)
      simp only [List.length_append, List.length_nil]; omega
    refine if_app (x := c + w) (decide (c / w < h - 1)) ?_ ?_ ?_
    · intro Q h'
      refine ⟨_, rfl, _, rfl, _, _, rfl, rfl, ⟨by omega, by omega⟩, _, rfl, _, _, rfl, rfl, _, _, rfl, rfl, _, rfl, ?_⟩
      have e : decide ((c : Int) / (w : Int) < (h : Int) - 1) = decide (c / w < h - 1) := decide_eq_decide.mpr (by rw [e2]; omega)
      show Q (decide ((c : Int) / (w : Int) < (h : Int) - 1)) _
      rw [e]; exact h'
    · intro hb D' h
      refine ⟨_, rfl, .inl ⟨rfl, _, SqL.of upd_same⟩, _, rfl, _, rfl, _, _, rfl, rfl, _, _, _, rfl, rfl, upd_same, vI_len ?_, app_nx (v_eq (by omega)) h⟩
      have := @ite1_len (decide (w ≤ c)) (c - w)
      have := @ite1_len (decide (0 < c % w)) (c - 1)
      have := @ite1_len (decide (c % w < w - 1)) (c + 1)
      simp only [List.length_append, List.length_nil]; omega
    refine ⟨_, rfl, q (upd F p (.lst (vI (nb w h c)))) _ p ?_ ⟨_, upd_same, vI_pd _ _⟩⟩
    have e : [] ++ (if decide (w ≤ c) = true then [c - w] else []) ++ (if decide (0 < c % w) = true then [c - 1] else []) ++ (if decide (c % w < w - 1) = true then [c + 1] else []) ++ (if decide (c / w < h - 1) = true then [c + w] else []) = nb w h c := by
      unfold nb
      simp only [List.nil_append, decide_eq_true_eq]
    rw [e]
    exact (Ext.refl hF).new hp
end
end Lp
namespace Lp
open PySem PySem.Spec PyProof.Rows L2
section
variable {P : Program} {w : World} {K : PySem.W.Frag} {mg : Str → Option Value} {base : Heap} {C_Layer C_Document C_Editor : Addr}
def vB (l : List Bool) : List V := l.map fun b => V.int (bI b)
theorem vB_pd (F : Hp) (l : List Bool) : Paired (RB F) (vB l) l := pd_of_map (fun b => V.int (bI b)) (fun _ => rfl) l
theorem flat1 {α : Type} (x : α) : ∀ n, (List.replicate n [x]).flatten = List.replicate n x
  | 0 => rfl
  | n + 1 => by rw [List.replicate_succ, List.flatten_cons, flat1 x n]; rfl
theorem ixN_nat {n j : Nat} (h : j < n) : ixN n (j : Int) = some j := by
  unfold ixN
  rw [if_pos (by omega), if_pos (by omega)]; simp
def sp_like_region : Sp := fun vs H Q _ => ∃ (F : Hp) (ta : Addr) (ts : List Nat) (w h s t : Nat), vs = [.ref ta, .int w, .int h, .int s, .int t] ∧ Same F H ∧ Tones F ta ts ∧ ts.length = w * h ∧ 1 ≤ w ∧ w ≤ 6 ∧ 1 ≤ h ∧ h ≤ 6 ∧ s < w * h ∧
  ∀ F' H' p, Ext F H F' H' → Bits F' p ((List.range (w * h)).map fun b => (Ie13.reach w (w * h) t ts (w * h) [s]).contains b) → Q (.ref p) H'
theorem ok_like_region (T : Txt K mg C_Layer C_Document C_Editor) : Ok P w K mg base 2 "like_region" ["tones", "width", "height", "start", "most"] sp_like_region := by
  have O_beside := ok_beside (P := P) (w := w) (base := base) T
  refine T.d_like_region.ok sc_like_region (fun vs H Q E h => ?_) (fun f cdv A outer s H vs Q E hr h => ⟨_, (pss_cons (ps_set (i := 5) sc_like_region.nd rfl (Or.inl rfl) (pe_op op_rep (pe_lst (pa_cons pe_int pa_nil)) (pe_callB (r := rLenK K) call_len_seq (by rfl) T.b_len PySem.boot_len (pa_cons (pv 0) pa_nil))))
      (pss_cons (ps_asg pe_int (pg_sub (pv 5) (pv 3) set_list))
      (pss_cons (ps_set (i := 6) sc_like_region.nd rfl (Or.inl rfl) (pe_lst (pa_cons (pv 3) pa_nil)))
      (pss_cons (ps_while PassesOwn.never (pt_truth (pv 6) (by intro _; rfl)) (pss_cons (ps_set (i := 7) sc_like_region.nd rfl (Or.inl rfl) (pe_bm0 PySem.F.plainAttrs_list PySem.F.slot_list_pop PySem.F.type_list_pop mt_pop (pv 6)))
      (pss_one (ps_for PassesOwn.never rfl (pi_list (pe_callO O_beside (hr.mono (by decide)) rfl (pa_cons (pv 7) (pa_cons (pv 1) (pa_cons (pv 2) pa_nil))))) (pg_name (i := 8) sc_like_region.nd rfl (Or.inl rfl)) (pss_one (ps_if (PW.pt (pw_and (pt_cmpR op_eq (pe_ix (r := rIxL K) ix_list (pv 5) (pv 8) (fun _ _ => rfl)) pe_int (nomark _)) (pw_and1 (pt_cmpR op_le (pe_callB call_abs (by rfl) T.b_abs (by decide +kernel) (pa_cons (pe_op op_sub (pe_ix (r := rIxL K) ix_list (pv 0) (pv 8) (fun _ _ => rfl)) (pe_ix (r := rIxL K) ix_list (pv 0) (pv 7) (fun _ _ => rfl))) pa_nil)) (pv 4) (nomark _))))) (pss_cons (ps_asg pe_int (pg_sub (pv 5) (pv 8) set_list))
      (pss_one (ps_expr (pe_bm PySem.F.plainAttrs_list PySem.F.slot_list_append PySem.F.type_list_append mt_append (pv 6) (pa_cons (pv 8) pa_nil))))) pss_nil))))))
      (pss_one (ps_ret (pv 5))))))), ?_⟩)
  · obtain ⟨_, _, _, _, _, _, _, rfl, _⟩ := h; rfl
  · obtain ⟨F, ta, ts, w, h, s, t, rfl, hF, ⟨tv, ht1, ht2⟩, hn, hw1, hw6, hh1, hh6, hs, q⟩ := h
    have e36 : w * h ≤ 36 := Nat.le_trans (Nat.mul_le_mul hw6 hh6) (by decide)
    have hsz : (36 : Nat) ≤ sizeLine := by decide
    refine ⟨by decide, fun p0 hp0 => ?_⟩
    have hta : H ta = some (.lst tv) := hF _ _ ht1
    have htl : tv.length = w * h := ht2.length.trans hn
    refine ⟨_, rfl, _, _, rfl, .inl (SqL.of (by rw [upd_ne (ne_of_none hta hp0)]; exact hta)), _, _, _, rfl, rfl, upd_same, by omega, by omega, by simp; omega, fun R hR => ?_⟩
    have el : (List.replicate ((tv.length : Int)).toNat [V.int 0]).flatten = vB (List.replicate (w * h) false) := by
      rw [Int.toNat_natCast, htl]
      unfold vB
      rw [List.map_replicate]
      exact flat1 _ _
    rw [el]
    have hHR : H R = none := by
      have : R ≠ p0 := fun z => by rw [z, upd_same] at hR; cases hR
      rw [upd_ne this] at hR; exact hR
    have E1 : Ext F H F (upd (upd H p0 (.lst [V.int 0])) R (.lst (vB (List.replicate (w * h) false)))) := ((Ext.refl hF).newM hp0).newM hR
    dsimp only [cxK, gName, L2.start, List.length, List.map, List.replicate, List.cons_append, List.nil_append, Nat.sub_self, List.append_nil, List.set]
    refine ⟨_, rfl, _, rfl, _, _, _, s, rfl, rfl, upd_same, ixN_nat (by simp [vB]; omega), ?_⟩
    rw [upd_upd]
    have el2 : (vB (List.replicate (w * h) false)).set s (V.int 1) = vB ((List.replicate (w * h) false).set s true) := by
      unfold vB; rw [List.map_set]; rfl
    rw [el2]
    have E2 : Ext F H F (upd (upd H p0 (.lst [V.int 0])) R (.lst (vB ((List.replicate (w * h) false).set s true)))) := ((Ext.refl hF).newM hp0).newM hR
    refine ⟨_, rfl, (by show 1 ≤ sizeLine; decide), fun Wt hWt => ?_⟩
    have hRW : R ≠ Wt := fun z => by rw [← z, upd_same] at hWt; cases hWt
    have hHW : H Wt = none := E2.h0_none hWt
    have E3 := E2.newM (o := .lst [V.int (s : Int)]) hWt
    have hFR : F R = none := Same.free hF hHR
    have hFW : F Wt = none := Same.free hF hHW
    let W : Nat → L2.St → Hp → Prop := fun m σ H' => ∃ F1 vis wt c o, σ = [some (.ref ta), some (.int w), some (.int h), some (.int s), some (.int t), some (.ref R), some (.ref Wt), c, o] ∧ Ext F H F1 H' ∧ F1 R = none ∧ F1 Wt = none ∧
      H' R = some (.lst (vB vis)) ∧ H' Wt = some (.lst (vI wt)) ∧ DInv w (w * h) t ts s vis wt ∧ m = unv vis + wt.length ∧ m ≤ 36
    refine ⟨W, ⟨_, F, _, [s], none, none, rfl, E3, hFR, hFW, ?_, upd_same, DInv.start hs, rfl, ?_⟩, ?_⟩
    · rw [upd_ne hRW, upd_same]
    · have z : (List.replicate (w * h) false)[s]? = some false := by rw [List.getElem?_replicate, if_pos hs]
      have := unv_set z
      have z2 : unv (List.replicate (w * h) false) = w * h := by unfold unv; simp
      rw [List.length_singleton]; omega
    rintro m σ H' ⟨F1, vis, wt, c0, o0, rfl, e, f1, f2, h1, h2, inv, rfl, hm36⟩
    refine ⟨_, rfl, !(vI wt).isEmpty, .inl ⟨_, SqL.of h2, rfl⟩, ?_⟩
    rcases List.eq_nil_or_concat wt with rfl | ⟨wt, c, rfl⟩
    · refine ifF rfl ⟨_, rfl, ?_⟩
      refine q _ H' R (e.pub hHR f1 h1) ⟨_, upd_same, ?_⟩
      rw [← inv.fin hs]; exact vB_pd _ _
    · rw [List.concat_eq_append] at inv h2 hm36 ⊢
      rw [List.length_append, List.length_singleton] at hm36
      have hc : c < w * h := by
        have v := inv.wv c (by simp)
        have := (List.getElem?_eq_some_iff.mp v).1
        rw [inv.len] at this; exact this
      refine ifT (by simp [vI]) ⟨fun σ' H' => ∃ m', m' < unv vis + (wt ++ [c]).length ∧ W m' σ' H', fun _ _ z => z, ?_⟩
      have ev : vI (wt ++ [c]) = vI wt ++ [V.int (c : Int)] := by unfold vI; rw [List.map_append]; rfl
      refine ⟨_, rfl, .inl ⟨rfl, _, SqL.of h2⟩, _, _, V.int (c : Int), rfl, rfl, h2, by rw [ev]; simp, ?_⟩
      have ed : (vI (wt ++ [c])).dropLast = vI wt := by rw [ev]; simp
      rw [ed]
      dsimp only [cxK, gName, L2.start, List.length, List.map, List.replicate, List.cons_append, List.nil_append, Nat.sub_self, List.append_nil, List.set]
      have E4 := e.mut (o := .lst (vI wt)) hHW f2
      refine ⟨_, rfl, _, rfl, _, rfl, F1, c, w, h, rfl, E4.fh, hw1, hw6, hh1, hh6, hc, fun F2 H2 p e2 hp => ?_⟩
      obtain ⟨nv, hn1, hn2⟩ := hp
      have g1 : upd H' Wt (.lst (vI wt)) R = some (.lst (vB vis)) := by rw [upd_ne hRW]; exact h1
      refine ⟨_, rfl, ⟨_, SqL.of (e2.fh _ _ hn1)⟩, ?_⟩
      refine for_list (K := K) (xs := nv) (fun i σ H5 => ∃ F5 vis5 wt5 o, σ = [some (.ref ta), some (.int w), some (.int h), some (.int s), some (.int t), some (.ref R), some (.ref Wt), some (.int c), o] ∧ Ext F H F5 H5 ∧ Same F2 F5 ∧ F5 R = none ∧ F5 Wt = none ∧
        H5 R = some (.lst (vB vis5)) ∧ H5 Wt = some (.lst (vI wt5)) ∧ DInn w (w * h) t ts s c ((nb w h c).take i) vis5 wt5 ∧ unv vis5 + wt5.length = unv vis + wt.length) ?_ ?_ ?_ ?_
      · refine ⟨F2, vis, wt, o0, rfl, E4.trans e2, Same.refl _, e2.fr R f1 (by rw [g1]; simp), e2.fr Wt f2 (by rw [upd_same]; simp), e2.hh _ _ g1, e2.hh _ _ upd_same, inv.pop, rfl⟩
      · rintro i σ H5 _ ⟨F5, vis5, wt5, o, rfl, e5, s5, _⟩
        exact SqL.of (e5.fh _ _ (s5 _ _ hn1))
      · rintro i x σ H5 hx ⟨F5, vis5, wt5, o, rfl, e5, s5, r5, w5, hr5, hw5, inn, eu⟩
        obtain ⟨o1, ho1, rfl⟩ := pd_getL hn2 hx
        have hmem : o1 ∈ nb w h c := List.mem_of_getElem? ho1
        obtain ⟨hlt, hbes⟩ := (mem_nb hw1 hh1 hc).mp hmem
        have htake : (nb w h c).take (i + 1) = (nb w h c).take i ++ [o1] := by rw [List.take_add_one, ho1]; rfl
        obtain ⟨b, hb⟩ : ∃ b, vis5[o1]? = some b := ⟨_, List.getElem?_eq_getElem (by rw [inn.len]; exact hlt)⟩
        have hbv : (vB vis5)[o1]? = some (V.int (bI b)) := by unfold vB; rw [List.getElem?_map, hb]; rfl
        have tg : ∀ k, k < w * h → tv[k]? = some (V.int ((ts.getD k 0 : Nat) : Int)) := fun k hk => by
          have z := get_getD (l := ts) (i := k) (by omega) 0
          obtain ⟨x, hx, rfl⟩ := pd_get ht2 z
          exact hx
        have hta5 : H5 ta = some (.lst tv) := e5.hh _ _ hta
        refine ⟨_, rfl, _, rfl, _, _, _, _, rfl, rfl, SqL.of hr5, atI_nat hbv, rfl, _, rfl, ?_⟩
        have skip : (VisT vis5 o1 ∨ adj w t ts c o1 = false) → ∃ F5' vis5' wt5' o', [some (V.ref ta), some (V.int w), some (V.int h), some (V.int s), some (V.int t), some (V.ref R), some (V.ref Wt), some (V.int c), some (V.int (o1 : Int))] = [some (V.ref ta), some (V.int w), some (V.int h), some (V.int s), some (V.int t), some (V.ref R), some (V.ref Wt), some (V.int c), o'] ∧ Ext F H F5' H5 ∧ Same F2 F5' ∧ F5' R = none ∧ F5' Wt = none ∧
          H5 R = some (.lst (vB vis5')) ∧ H5 Wt = some (.lst (vI wt5')) ∧ DInn w (w * h) t ts s c ((nb w h c).take (i + 1)) vis5' wt5' ∧ unv vis5' + wt5'.length = unv vis + wt.length := fun z => by
          rw [htake]
          exact ⟨F5, vis5, wt5, some (.int o1), rfl, e5, s5, r5, w5, hr5, hw5, inn.skip z, eu⟩
        cases b with
        | true => exact ifF rfl (ifF rfl (skip (.inl hb)))
        | false =>
          refine ifT rfl ?_
          refine ⟨_, rfl, _, rfl, _, _, _, _, rfl, rfl, SqL.of hta5, atI_nat (tg o1 hlt), _, rfl, _, rfl, _, _, _, _, rfl, rfl, SqL.of hta5, atI_nat (tg c hc), _, _, rfl, rfl, _, rfl, _, rfl, _, _, rfl, rfl, _, rfl, ?_⟩
          rw [abs_gap]
          by_cases hg : Ie13.gap (ts.getD c 0) (ts.getD o1 0) ≤ t
          · have ha : adj w t ts c o1 = true := by unfold adj; rw [hbes, decide_eq_true hg]; rfl
            refine ifT (decide_eq_true (by rw [gap_comm]; omega)) ?_
            refine ⟨_, rfl, _, rfl, _, _, _, o1, rfl, rfl, hr5, ixN_nat (by simp [vB]; rw [inn.len]; exact hlt), ?_⟩
            have el3 : (vB vis5).set o1 (V.int 1) = vB (vis5.set o1 true) := by unfold vB; rw [List.map_set]; rfl
            rw [el3]
            have gw : upd H5 R (.lst (vB (vis5.set o1 true))) Wt = some (.lst (vI wt5)) := by rw [upd_ne hRW.symm]; exact hw5
            have hwl : wt5.length ≤ 36 := by omega
            refine ⟨_, rfl, .inl ⟨rfl, _, SqL.of gw⟩, _, rfl, _, _, _, rfl, rfl, gw, vI_len (by omega), ?_⟩
            have ev5 : vI wt5 ++ [V.int (o1 : Int)] = vI (wt5 ++ [o1]) := by unfold vI; rw [List.map_append]; rfl
            rw [ev5]
            have e6 := (e5.mut (o := .lst (vB (vis5.set o1 true))) hHR r5).mut (o := .lst (vI (wt5 ++ [o1]))) hHW w5
            rw [htake]
            refine ⟨F5, vis5.set o1 true, wt5 ++ [o1], some (.int o1), rfl, e6, s5, r5, w5, ?_, upd_same, inn.push hlt ha, ?_⟩
            · rw [upd_ne hRW, upd_same]
            · have := unv_set hb
              rw [List.length_append]; simp only [List.length_singleton]; omega
          · refine ifF (decide_eq_false (by rw [gap_comm]; omega)) (skip (.inr ?_))
            unfold adj; rw [decide_eq_false hg, Bool.and_false]
      · rintro σ H5 ⟨F5, vis5, wt5, o, rfl, e5, s5, r5, w5, hr5, hw5, inn, eu⟩
        rw [hn2.length, List.take_length] at inn
        refine ⟨_, ?_, F5, vis5, wt5, _, _, rfl, e5, r5, w5, hr5, hw5, inn.done hw1 hh1 rfl hc, rfl, by omega⟩
        rw [List.length_append, List.length_singleton]; omega
end
end Lp
namespace Lp
open PySem PySem.Spec PyProof.Rows L2
theorem Ls.len {α : Type} {R : Rel α} {F : Hp} {a : Addr} {xs : List α} (h : Ls R F a xs) : ∃ vs, F a = some (.lst vs) ∧ vs.length = xs.length := by
  obtain ⟨vs, h1, h2⟩ := h; exact ⟨vs, h1, h2.length⟩
/-- the item at a place -/
theorem Ls.at {α : Type} {R : Rel α} {F : Hp} {a : Addr} {xs : List α} (h : Ls R F a xs) {i : Nat} (hi : i < xs.length) (x : α) : ∃ vs v, F a = some (.lst vs) ∧ atI vs (i : Int) = some v ∧ R F v (xs.getD i x) := by
  obtain ⟨vs, h1, h2⟩ := h
  obtain ⟨v, hv, r⟩ := pd_get h2 (get_getD hi x)
  exact ⟨vs, v, h1, atI_nat hv, r⟩
theorem ints_of {F : Hp} {vs : List V} {l : List Nat} (h : Paired (RI F) vs l) : vs = (l.map fun (n : Nat) => (n : Int)).map V.int := by
  rw [List.map_map]; exact pd_map _ (fun _ _ h => h) h
theorem foldl_sum : ∀ (l : List Nat) (a : Nat), l.foldl (fun a b => a + b) a = a + l.foldl (fun a b => a + b) 0
  | [], a => rfl
  | x :: l, a => by
    rw [List.foldl_cons, List.foldl_cons, foldl_sum l (a + x), foldl_sum l (0 + x)]; omega
theorem sum_cons (x : Nat) (l : List Nat) : Ie13.sum (x :: l) = x + Ie13.sum l := by
  unfold Ie13.sum
  rw [List.foldl_cons, foldl_sum l (0 + x)]; omega
theorem sum_int : ∀ l : List Nat, (l.map fun (n : Nat) => (n : Int)).sum = ((Ie13.sum l : Nat) : Int)
  | [] => rfl
  | x :: l => by
    rw [List.map_cons, List.sum_cons, sum_int l, sum_cons, Int.natCast_add]
section
variable {P : Program} {w : World} {K : PySem.W.Frag} {mg : Str → Option Value} {base : Heap} {C_Layer C_Document C_Editor : Addr}
def sp_only_chosen : Sp := fun vs H Q _ => ∃ (F : Hp) (ca la xa : Addr) (cs : List Bool) (ds xs : List Ie13.Dot) (n : Nat), vs = [.ref ca, .ref la, .ref xa] ∧ Same F H ∧ Bits F ca cs ∧ Cells F la ds ∧ Cells F xa xs ∧ cs.length = n ∧ ds.length = n ∧ xs.length = n ∧ n ≤ 36 ∧
  ∀ F' H' p, Ext F H F' H' → Cells F' p ((List.range n).map fun i => if cs.getD i false = true then xs.getD i Ie13.none_ else ds.getD i Ie13.none_) → Q (.ref p) H'
theorem ok_only_chosen (T : Txt K mg C_Layer C_Document C_Editor) : Ok P w K mg base 1 "only_chosen" ["chosen", "cells", "changed"] sp_only_chosen := by
  refine T.d_only_chosen.ok sc_only_chosen (fun vs H Q E h => ?_) (fun f cdv A outer s H vs Q E hr h => ⟨_, (pss_one (ps_ret (pe_lc (g := (gName 3)) (tt := tYes) (own := [("cell", 3)]) rfl sc_only_chosen.nd (pi_range1 rfl T.b_range (pa_cons (pe_callB (r := rLenK K) call_len_seq (by rfl) T.b_len PySem.boot_len (pa_cons (pv 1) pa_nil)) pa_nil)) (blkOk_by (own := [("cell", 3)]) (N := ["chosen", "cells", "changed", "cell"]) (sc := defScope s_only_chosen) (by decide +kernel)) (fun _ _ _ _ _ => (pg_name (i := 3) sc_only_chosen.nd rfl (Or.inl rfl))) (fun _ _ _ _ _ => pts_nil) (fun _ _ _ _ _ => (pe_ifExp (pt_cmpR op_eq (pe_ix (r := rIxL K) ix_list (pv 0) (pv 3) (fun _ _ => rfl)) pe_int (nomark _)) (pe_ix (r := rIxL K) ix_list (pv 2) (pv 3) (fun _ _ => rfl)) (pe_ix (r := rIxL K) ix_list (pv 1) (pv 3) (fun _ _ => rfl))))))), ?_⟩)
  · obtain ⟨_, _, _, _, _, _, _, _, rfl, _⟩ := h; rfl
  · obtain ⟨F, ca, la, xa, cs, ds, xs, n, rfl, hF, hc, hd, hx, hcn, hdn, hxn, h36, q⟩ := h
    obtain ⟨dv, hd1, hdl⟩ := hd.len
    show iRng1 _ _ H (fun J H1 => LcTail J _ _ _ _ _ H1 Q)
    refine ⟨_, rfl, _, _, rfl, .inl (SqL.of (hF _ _ hd1)), _, rfl, by omega, by omega, ?_⟩
    have en : ((dv.length : Int)).toNat = n := by rw [Int.toNat_natCast]; omega
    rw [en]
    refine lcx_range RD.mono (fun _ => true) (fun i => if cs.getD i false = true then xs.getD i Ie13.none_ else ds.getD i Ie13.none_) hF (by omega) (fun _ => rfl) ?_ ?_
    · intro i F1 Ha hi e Kp Sk k1 k2
      obtain ⟨cv, c, hc1, hc2, hc3⟩ := (hc.mono RB.mono e.ff).at (i := i) (by omega) false
      obtain ⟨dv, d, hd1, hd2, hd3⟩ := (hd.mono RD.mono e.ff).at (i := i) (by omega) Ie13.none_
      obtain ⟨xv, x, hx1, hx2, hx3⟩ := (hx.mono RD.mono e.ff).at (i := i) (by omega) Ie13.none_
      cases hc3
      rw [Int.zero_add]
      refine ⟨_, rfl, _, rfl, _, _, _, _, rfl, rfl, SqL.of (e.fh _ _ hc1), hc2, rfl, _, rfl, ?_⟩
      cases hb : cs.getD i false with
      | true =>
        refine ifT rfl ⟨_, rfl, _, rfl, _, _, _, _, rfl, rfl, SqL.of (e.fh _ _ hx1), hx2, k1 rfl _ F1 Ha (Ext.refl e.fh) ?_⟩
        rw [if_pos hb]; exact hx3
      | false =>
        refine ifF rfl ⟨_, rfl, _, rfl, _, _, _, _, rfl, rfl, SqL.of (e.fh _ _ hd1), hd2, k1 rfl _ F1 Ha (Ext.refl e.fh) ?_⟩
        rw [if_neg (by rw [hb]; decide)]; exact hd3
    · intro p F' H' e h
      rw [filter_yes] at h
      exact q F' H' p e h
def sp_filled : Sp := fun vs H Q _ => ∃ (F : Hp) (ca la : Addr) (cs : List Bool) (ds : List Ie13.Dot) (n t m : Nat), vs = [.ref la, .ref ca, .int t, .int m] ∧ Same F H ∧ Bits F ca cs ∧ Cells F la ds ∧ cs.length = n ∧ ds.length = n ∧ n ≤ 36 ∧
  ∀ F' H' p, Ext F H F' H' → Cells F' p ((List.range n).map fun i => if cs.getD i false = true then ⟨t, m⟩ else ds.getD i Ie13.none_) → Q (.ref p) H'
theorem ok_filled (T : Txt K mg C_Layer C_Document C_Editor) : Ok P w K mg base 2 "filled" ["cells", "chosen", "tone", "much"] sp_filled := by
  have O_only_chosen := ok_only_chosen (P := P) (w := w) (base := base) T
  refine T.d_filled.ok sc_filled (fun vs H Q E h => ?_) (fun f cdv A outer s H vs Q E hr h => ⟨_, (pss_one (ps_ret (pe_callO O_only_chosen (hr.mono (by decide)) rfl (pa_cons (pv 1) (pa_cons (pv 0) (pa_cons (pe_op op_rep (pe_lst (pa_cons (pe_tup (pa_cons (pv 2) (pa_cons (pv 3) pa_nil))) pa_nil)) (pe_callB (r := rLenK K) call_len_seq (by rfl) T.b_len PySem.boot_len (pa_cons (pv 0) pa_nil))) pa_nil)))))), ?_⟩)
  · obtain ⟨_, _, _, _, _, _, _, _, rfl, _⟩ := h; rfl
  · obtain ⟨F, ca, la, cs, ds, n, t, m, rfl, hF, hc, hd, hcn, hdn, h36, q⟩ := h
    obtain ⟨dv, hd1, hdl⟩ := hd.len
    refine ⟨_, rfl, _, rfl, _, rfl, _, rfl, (by show 2 ≤ sizeLine; decide), fun p1 hp1 => ?_⟩
    have E1 := (Ext.refl hF).new (o := .tup [.int (t : Int), .int (m : Int)]) hp1
    refine ⟨(by show 1 ≤ sizeLine; decide), fun p2 hp2 => ?_⟩
    have E2 := E1.newM (o := .lst [.ref p1]) hp2
    refine ⟨_, rfl, _, _, rfl, .inl (SqL.of (E2.hh _ _ (hF _ _ hd1))), _, _, _, rfl, rfl, upd_same, by omega, by omega, ?_, fun p3 hp3 => ?_⟩
    · rw [Int.toNat_natCast, hdl]
      have : (36 : Nat) ≤ sizeLine := by decide
      simp only [List.length_singleton]; omega
    have el : (List.replicate ((dv.length : Int)).toNat [V.ref p1]).flatten = List.replicate n (V.ref p1) := by
      rw [Int.toNat_natCast, hdl, hdn]; exact flat1 _ _
    rw [el]
    have E3 := E2.new (o := .lst (List.replicate n (V.ref p1))) hp3
    have hp31 : upd (upd F p1 (.tup [.int (t : Int), .int (m : Int)])) p3 (.lst (List.replicate n (V.ref p1))) p1 = some (.tup [.int (t : Int), .int (m : Int)]) := by
      have z := E2.f_none hp3
      rw [upd_ne (ne_of_none (o := .tup [.int (t : Int), .int (m : Int)]) upd_same z), upd_same]
    refine ⟨_, ca, la, p3, cs, ds, List.replicate n ⟨t, m⟩, n, rfl, E3.fh, hc.mono RB.mono E3.ff, hd.mono RD.mono E3.ff, ⟨_, upd_same, pd_rep ⟨p1, rfl, hp31⟩ n⟩, hcn, hdn, by simp, h36, fun F' H' p e h => q F' H' p (E3.trans e) ?_⟩
    · have e2 : (List.range n).map (fun i => if cs.getD i false = true then (List.replicate n (⟨t, m⟩ : Ie13.Dot)).getD i Ie13.none_ else ds.getD i Ie13.none_) = (List.range n).map (fun i => if cs.getD i false = true then ⟨t, m⟩ else ds.getD i Ie13.none_) := by
        apply List.map_congr_left
        intro i hi
        rw [getD_rep (List.mem_range.mp hi)]
      rw [← e2]; exact h
def sp_moved_tone : Sp := fun vs H Q _ => ∃ (t up k : Nat), vs = [.int t, .int up, .int k] ∧ Q (.int ((if up = 1 then min 255 (t + k) else t - k : Nat) : Int)) H
theorem ok_moved_tone (T : Txt K mg C_Layer C_Document C_Editor) : Ok P w K mg base 1 "moved_tone" ["tone", "up", "k"] sp_moved_tone := by
  refine T.d_moved_tone.ok sc_moved_tone (fun vs H Q E h => ?_) (fun f cdv A outer s H vs Q E hr h => ⟨_, (pss_cons (ps_if (pt_cmpR op_eq (pv 1) pe_int (nomark _)) (pss_one (ps_ret (pe_callB (call_min2 rfl) (by rfl) T.b_min (by decide +kernel) (pa_cons (pe_op op_add (pv 0) (pv 2)) (pa_cons pe_int pa_nil))))) pss_nil)
      (pss_one (ps_ret (pe_callB (call_max2 rfl) (by rfl) T.b_max (by decide +kernel) (pa_cons (pe_op op_sub (pv 0) (pv 2)) (pa_cons pe_int pa_nil)))))), ?_⟩)
  · obtain ⟨_, _, _, rfl, _⟩ := h; rfl
  · obtain ⟨t, up, k, rfl, q⟩ := h
    simp only [cxK, Bool.false_eq_true, if_false, if_true, tYes, tChain, wipe, ↓reduceIte, tRet, tSeq, tAsg, tDrop, tIfS, tIf, tNext, gName, gTup, gCons, gNil, tFld, tLst, tTup, tTest, rEq_int, rNe_int, rIxL, rIxT, rSum, rAll, decide_eq_true_eq, List.cons.injEq, and_true, true_and, tTest, tC, tVar, tOp, rI, rI0, tCB, tCons, tNil, tAnd, tOr, tNot, tCallO, L2.start, List.length, List.map, List.replicate, List.cons_append, List.nil_append, Nat.sub_self, List.append_nil, List.set, V.int.injEq, V.ref.injEq, V.bl.injEq, Option.some.injEq, exists_eq_left', exists_eq_left, exists_and_left, List.getElem?_cons_zero, List.getElem?_cons_succ]
    by_cases c : up = 1
    · rw [if_pos (by omega)]
      refine ⟨_, _, ⟨rfl, rfl⟩, ?_⟩
      rw [if_pos c] at q
      have e : (if (255 : Int) < (t : Int) + (k : Int) then (255 : Int) else (t : Int) + (k : Int)) = ((min 255 (t + k) : Nat) : Int) := by
        split <;> omega
      rw [e]; exact q
    · rw [if_neg (by omega)]
      refine ⟨_, _, ⟨rfl, rfl⟩, ?_⟩
      rw [if_neg c] at q
      have e : (if (0 : Int) > (t : Int) - (k : Int) then (0 : Int) else (t : Int) - (k : Int)) = ((t - k : Nat) : Int) := by
        split <;> omega
      rw [e]; exact q
def brightD (up k : Nat) (d : Ie13.Dot) : Ie13.Dot := ⟨if up = 1 then min 255 (d.tone + k) else d.tone - k, d.much⟩
def sp_brightened : Sp := fun vs H Q _ => ∃ (F : Hp) (ca la : Addr) (cs : List Bool) (ds : List Ie13.Dot) (n up k : Nat), vs = [.ref la, .ref ca, .int up, .int k] ∧ Same F H ∧ Bits F ca cs ∧ Cells F la ds ∧ cs.length = n ∧ ds.length = n ∧ n ≤ 36 ∧
  ∀ F' H' p, Ext F H F' H' → Cells F' p ((List.range n).map fun i => if cs.getD i false = true then brightD up k (ds.getD i Ie13.none_) else ds.getD i Ie13.none_) → Q (.ref p) H'
theorem ok_brightened (T : Txt K mg C_Layer C_Document C_Editor) : Ok P w K mg base 2 "brightened" ["cells", "chosen", "up", "k"] sp_brightened := by
  have O_only_chosen := ok_only_chosen (P := P) (w := w) (base := base) T
  have O_moved_tone := ok_moved_tone (P := P) (w := w) (base := base) T
  refine T.d_brightened.ok sc_brightened (fun vs H Q E h => ?_) (fun f cdv A outer s H vs Q E hr h => ⟨_, (pss_one (ps_ret (pe_callO O_only_chosen (hr.mono (by decide)) rfl (pa_cons (pv 1) (pa_cons (pv 0) (pa_cons (pe_lc (g := (gName 4)) (tt := tYes) (own := [("cell", 4)]) rfl sc_brightened.nd (pi_list (pv 0)) (blkOk_by (own := [("cell", 4)]) (N := ["cells", "chosen", "up", "k", "cell"]) (sc := defScope s_brightened) (by decide +kernel)) (fun _ _ _ _ _ => (pg_name (i := 4) sc_brightened.nd rfl (Or.inl rfl))) (fun _ _ _ _ _ => pts_nil) (fun _ _ _ _ _ => (pe_tup (pa_cons (pe_callO O_moved_tone (hr.mono (by decide)) rfl (pa_cons (pe_ix (r := rIxT K) ix_tup (pv 4) pe_int (fun _ _ => rfl)) (pa_cons (pv 2) (pa_cons (pv 3) pa_nil)))) (pa_cons (pe_ix (r := rIxT K) ix_tup (pv 4) pe_int (fun _ _ => rfl)) pa_nil))))) pa_nil)))))), ?_⟩)
  · obtain ⟨_, _, _, _, _, _, _, _, rfl, _⟩ := h; rfl
  · obtain ⟨F, ca, la, cs, ds, n, up, k, rfl, hF, hc, hd, hcn, hdn, h36, q⟩ := h
    obtain ⟨dv, hd1, hd2⟩ := hd
    simp only [cxK, Bool.false_eq_true, if_false, if_true, tYes, tChain, wipe, ↓reduceIte, tRet, tSeq, tAsg, tDrop, tIfS, tIf, tNext, gName, gTup, gCons, gNil, tFld, tLst, tTup, tTest, rEq_int, rNe_int, rIxL, rIxT, rSum, rAll, decide_eq_true_eq, List.cons.injEq, and_true, true_and, tTest, tC, tVar, tOp, rI, rI0, tCB, tCons, tNil, tAnd, tOr, tNot, tCallO, L2.start, List.length, List.map, List.replicate, List.cons_append, List.nil_append, Nat.sub_self, List.append_nil, List.set, V.int.injEq, V.ref.injEq, V.bl.injEq, Option.some.injEq, exists_eq_left', exists_eq_left, exists_and_left, List.getElem?_cons_zero, List.getElem?_cons_succ]
    refine tLc_of ⟨_, rfl, _, rfl, ⟨_, SqL.of (hF _ _ hd1)⟩, ?_⟩
    refine lcx_list (R := RD) (K := K) (a := la) RD.mono (fun _ => true) (fun i => brightD up k (ds.getD i Ie13.none_)) hF (SqL.of (hF _ _ hd1)) (hd2.length.trans hdn) (by omega) (fun _ => rfl) ?_ ?_
    · intro i F1 Ha x hx e Kp Sk k1 k2
      obtain ⟨d, hdi, r, rfl, hr⟩ := pd_getL hd2 hx
      have hrH := e.fh _ _ (e.ff _ _ hr)
      refine ⟨_, rfl, _, _, _, _, rfl, rfl, SqT.of hrH, rfl, _, rfl, _, rfl, ?_⟩
      refine ⟨d.tone, up, k, rfl, ?_⟩
      refine ⟨_, rfl, _, _, _, _, rfl, rfl, SqT.of hrH, rfl, (by show 2 ≤ sizeLine; decide), fun p hp => ?_⟩
      refine k1 rfl _ _ _ ((Ext.refl e.fh).new hp) ⟨p, rfl, ?_⟩
      rw [upd_same, List.getD_eq_getElem?_getD, hdi]; rfl
    · intro p F' H' e h
      rw [filter_yes] at h
      refine ⟨F', ca, la, p, cs, ds, _, n, rfl, e.fh, hc.mono RB.mono e.ff, Ls.mono RD.mono e.ff ⟨dv, hd1, hd2⟩, h, hcn, hdn, by simp, h36, fun F2 H2 p2 e2 h2 => q F2 H2 p2 (e.trans e2) ?_⟩
      have e3 : (List.range n).map (fun i => if cs.getD i false = true then ((List.range n).map fun i => brightD up k (ds.getD i Ie13.none_)).getD i Ie13.none_ else ds.getD i Ie13.none_) = (List.range n).map (fun i => if cs.getD i false = true then brightD up k (ds.getD i Ie13.none_) else ds.getD i Ie13.none_) := by
        apply List.map_congr_left
        intro i hi
        rw [getD_range _ (List.mem_range.mp hi)]
      rw [← e3]; exact h2
/-- what soft makes of the dots around -/
def softD (c : List Ie13.Dot) : Ie13.Dot := if Ie13.sum (c.map fun x => x.much) = 0 then Ie13.none_ else ⟨Ie13.near (Ie13.sum (c.map fun x => x.tone * x.much)) (Ie13.sum (c.map fun x => x.much)), Ie13.near (Ie13.sum (c.map fun x => x.much)) c.length⟩
theorem sum_le {m : Nat} : ∀ (l : List Nat), (∀ x ∈ l, x ≤ m) → Ie13.sum l ≤ l.length * m
  | [], _ => by simp [Ie13.sum]
  | x :: l, h => by
    have h1 := sum_le l fun y hy => h y (List.mem_cons_of_mem _ hy)
    have h2 := h x List.mem_cons_self
    rw [sum_cons, List.length_cons, Nat.succ_mul]; omega
theorem pd_map_range {α β : Type} (f : α → β) (l : List α) (x : α) : (List.range l.length).map (fun i => f (l.getD i x)) = l.map f := by
  have := range_getD (l := l) rfl x
  have e : List.map (fun i => f (l.getD i x)) (List.range l.length) = List.map f (List.map (fun i => l.getD i x) (List.range l.length)) := by rw [List.map_map]; rfl
  rw [e, this]
def sp_mixed : Sp := fun vs H Q _ => ∃ (F : Hp) (a : Addr) (ds : List Ie13.Dot), vs = [.ref a] ∧ Same F H ∧ Cells F a ds ∧ (∀ x ∈ ds, x.tone ≤ 255 ∧ x.much ≤ 255) ∧ ds.length ≤ 36 ∧
  ∀ F' H' r, Ext F H F' H' → F' r = some (.tup [.int ((softD ds).tone : Int), .int ((softD ds).much : Int)]) → Q (.ref r) H'
theorem ok_mixed (T : Txt K mg C_Layer C_Document C_Editor) : Ok P w K mg base 2 "mixed" ["some"] sp_mixed := by
  have O_nearest := ok_nearest (P := P) (w := w) (base := base) T
  refine T.d_mixed.ok sc_mixed (fun vs H Q E h => ?_) (fun f cdv A outer s H vs Q E hr h => ⟨_, (pss_cons (ps_set (i := 1) sc_mixed.nd rfl (Or.inl rfl) (pe_callB (r := rSum K) (cr_sum rfl) (by rfl) T.b_sum (by decide +kernel) (pa_cons (pe_lc (g := (gName 2)) (tt := tYes) (own := [("cell", 2)]) rfl sc_mixed.nd (pi_list (pv 0)) (blkOk_by (own := [("cell", 2)]) (N := ["some", "much", "cell", "weight"]) (sc := defScope s_mixed) (by decide +kernel)) (fun _ _ _ _ _ => (pg_name (i := 2) sc_mixed.nd rfl (Or.inl rfl))) (fun _ _ _ _ _ => pts_nil) (fun _ _ _ _ _ => (pe_ix (r := rIxT K) ix_tup (pv 2) pe_int (fun _ _ => rfl)))) pa_nil)))
      (pss_cons (ps_if (pt_cmpR op_eq (pv 1) pe_int (nomark _)) (pss_one (ps_ret (pe_tup (pa_cons pe_int (pa_cons pe_int pa_nil))))) pss_nil)
      (pss_cons (ps_set (i := 3) sc_mixed.nd rfl (Or.inl rfl) (pe_callB (r := rSum K) (cr_sum rfl) (by rfl) T.b_sum (by decide +kernel) (pa_cons (pe_lc (g := (gName 2)) (tt := tYes) (own := [("cell", 2)]) rfl sc_mixed.nd (pi_list (pv 0)) (blkOk_by (own := [("cell", 2)]) (N := ["some", "much", "cell", "weight"]) (sc := defScope s_mixed) (by decide +kernel)) (fun _ _ _ _ _ => (pg_name (i := 2) sc_mixed.nd rfl (Or.inl rfl))) (fun _ _ _ _ _ => pts_nil) (fun _ _ _ _ _ => (pe_op op_mul (pe_ix (r := rIxT K) ix_tup (pv 2) pe_int (fun _ _ => rfl)) (pe_ix (r := rIxT K) ix_tup (pv 2) pe_int (fun _ _ => rfl))))) pa_nil)))
      (pss_one (ps_ret (pe_tup (pa_cons (pe_callO O_nearest (hr.mono (by decide)) rfl (pa_cons (pv 3) (pa_cons (pv 1) pa_nil))) (pa_cons (pe_callO O_nearest (hr.mono (by decide)) rfl (pa_cons (pv 1) (pa_cons (pe_callB (r := rLenK K) call_len_seq (by rfl) T.b_len PySem.boot_len (pa_cons (pv 0) pa_nil)) pa_nil))) pa_nil)))))))), ?_⟩)
  · obtain ⟨_, _, _, rfl, _⟩ := h; rfl
  · obtain ⟨F, a, ds, rfl, hF, hd, h255, h36, q⟩ := h
    obtain ⟨dv, hd1, hd2⟩ := hd
    have one : ∀ (F0 H0 : Hp), Same F F0 → ∀ (g : Ie13.Dot → Nat) (te : TE) (σ : L2.St) (Q' : VK), Same F0 H0 → (∀ x, wipe ((wipe σ [2]).set 2 (some x)) [2] = wipe σ [2]) → σ[0]? = some (some (.ref a)) →
        (∀ (d : Ie13.Dot) (r : Addr) (Ha : Hp) (Kp : VK), d ∈ ds → Ha r = some (.tup [.int (d.tone : Int), .int (d.much : Int)]) → Kp (.int ((g d : Nat) : Int)) Ha → te ((wipe σ [2]).set 2 (some (.ref r))) Ha Kp) →
        (∀ p F' H', Ext F0 H0 F' H' → Tones F' p (ds.map g) → Q' (.ref p) H') → tLc (iList K (tVar 0)) (gName 2) tYes te [2] σ H0 Q' := by
      intro F0 H0 ff g te σ Q' f0 hw h0 ht hq
      refine tLc_of ⟨_, h0, _, rfl, ⟨_, SqL.of (f0 _ _ (ff _ _ hd1))⟩, ?_⟩
      refine lcx_list (R := RI) (K := K) (a := a) RI.mono (fun _ => true) (fun i => g (ds.getD i Ie13.none_)) f0 (SqL.of (f0 _ _ (ff _ _ hd1))) hd2.length (by omega) hw ?_ ?_
      · intro i F1 Ha x hx e Kp Sk k1 k2
        obtain ⟨d, hdi, r, rfl, hr⟩ := pd_getL hd2 hx
        refine ht d r Ha Kp (List.mem_of_getElem? hdi) (e.fh _ _ (e.ff _ _ (ff _ _ hr))) (k1 rfl _ F1 Ha (Ext.refl e.fh) ?_)
        show V.int _ = V.int _
        rw [List.getD_eq_getElem?_getD, hdi]; rfl
      · intro p F' H' e h
        rw [filter_yes, pd_map_range] at h
        exact hq p F' H' e h
    simp only [cxK, Bool.false_eq_true, if_false, if_true, tYes, tChain, wipe, ↓reduceIte, tRet, tSeq, tAsg, tDrop, tIfS, tIf, tNext, gName, gTup, gCons, gNil, tFld, tLst, tTup, tTest, rEq_int, rNe_int, rIxL, rIxT, rSum, rAll, decide_eq_true_eq, List.cons.injEq, and_true, true_and, tTest, tC, tVar, tOp, rI, rI0, tCB, tCons, tNil, tAnd, tOr, tNot, tCallO, L2.start, List.length, List.map, List.replicate, List.cons_append, List.nil_append, Nat.sub_self, List.append_nil, List.set, V.int.injEq, V.ref.injEq, V.bl.injEq, Option.some.injEq, exists_eq_left', exists_eq_left, exists_and_left, List.getElem?_cons_zero, List.getElem?_cons_succ]
    refine one F H (Same.refl _) (fun d => d.much) _ _ _ hF (fun _ => rfl) rfl ?_ ?_
    · intro d r Ha Kp hd hr k
      exact ⟨_, rfl, _, _, _, _, rfl, rfl, SqT.of hr, rfl, k⟩
    intro p1 F1 H1 e1 ⟨v1, h1, h2⟩
    refine ⟨_, rfl, _, SqL.of (by rw [← ints_of h2]; exact e1.fh _ _ h1), ?_⟩
    rw [sum_int]
    have hm : Ie13.sum (ds.map fun d => d.much) ≤ ds.length * 255 := by
      have := sum_le (m := 255) (ds.map fun d => d.much) (fun x hx => by obtain ⟨d, hd, rfl⟩ := List.mem_map.mp hx; exact (h255 d hd).2)
      rw [List.length_map] at this; exact this
    by_cases c : Ie13.sum (ds.map fun d => d.much) = 0
    · rw [if_pos (by omega)]
      refine ⟨by decide, fun p hp => q _ _ p (e1.new hp) ?_⟩
      unfold softD
      rw [if_pos c, upd_same]; rfl
    · rw [if_neg (by omega)]
      refine one F1 H1 e1.ff (fun d => d.tone * d.much) _ _ _ e1.fh (fun _ => rfl) rfl ?_ ?_
      · intro d r Ha Kp hd hr k
        have hb := h255 d hd
        refine ⟨_, rfl, _, _, _, _, rfl, rfl, SqT.of hr, rfl, _, rfl, _, _, _, _, rfl, rfl, SqT.of hr, rfl, _, _, rfl, rfl, .inl ⟨by omega, by omega⟩, ?_⟩
        rw [Int.natCast_mul] at k; exact k
      intro p2 F2 H2 e2 ⟨v2, g1, g2⟩
      refine ⟨_, rfl, _, SqL.of (by rw [← ints_of g2]; exact e2.fh _ _ g1), ?_⟩
      rw [sum_int]
      have hl : 0 < ds.length := by
        rcases ds with _ | ⟨x, r⟩
        · exact absurd rfl c
        · simp
      refine ⟨_, _, rfl, by omega, by omega, ?_⟩
      refine ⟨_, _, rfl, .inl (SqL.of (e2.hh _ _ (e1.hh _ _ (hF _ _ hd1)))), ?_⟩
      refine ⟨_, dv.length, rfl, by rw [hd2.length]; exact hl, by rw [hd2.length]; omega, by decide, fun p hp => ?_⟩
      refine q _ _ p ((e1.trans e2).new hp) ?_
      unfold softD
      rw [if_neg c, upd_same, hd2.length]
def sp_softened : Sp := fun vs H Q _ => ∃ (F : Hp) (ca la : Addr) (cs : List Bool) (ds : List Ie13.Dot) (w h : Nat), vs = [.ref la, .ref ca, .int w, .int h] ∧ Same F H ∧ Bits F ca cs ∧ Cells F la ds ∧ cs.length = w * h ∧ ds.length = w * h ∧ 1 ≤ w ∧ w ≤ 6 ∧ 1 ≤ h ∧ h ≤ 6 ∧ (∀ x ∈ ds, x.tone ≤ 255 ∧ x.much ≤ 255) ∧
  ∀ F' H' p, Ext F H F' H' → Cells F' p ((List.range (w * h)).map fun i => if cs.getD i false = true then softD ((Ie13.around w h i).map fun j => ds.getD j Ie13.none_) else ds.getD i Ie13.none_) → Q (.ref p) H'
theorem ok_softened (T : Txt K mg C_Layer C_Document C_Editor) : Ok P w K mg base 3 "softened" ["cells", "chosen", "width", "height"] sp_softened := by
  have O_only_chosen := ok_only_chosen (P := P) (w := w) (base := base) T
  have O_mixed := ok_mixed (P := P) (w := w) (base := base) T
  have O_around := ok_around (P := P) (w := w) (base := base) T
  refine T.d_softened.ok sc_softened (fun vs H Q E h => ?_) (fun f cdv A outer s H vs Q E hr h => ⟨_, (pss_cons (ps_set (i := 4) sc_softened.nd rfl (Or.inl rfl) (pe_lst pa_nil))
      (pss_cons (ps_for PassesOwn.never rfl (pi_range1 rfl T.b_range (pa_cons (pe_callB (r := rLenK K) call_len_seq (by rfl) T.b_len PySem.boot_len (pa_cons (pv 0) pa_nil)) pa_nil)) (pg_name (i := 5) sc_softened.nd rfl (Or.inl rfl)) (pss_one (ps_expr (pe_bm PySem.F.plainAttrs_list PySem.F.slot_list_append PySem.F.type_list_append mt_append (pv 4) (pa_cons (pe_callO O_mixed (hr.mono (by decide)) rfl (pa_cons (pe_lc (g := (gName 6)) (tt := tYes) (own := [("other", 6)]) rfl sc_softened.nd (pi_list (pe_callO O_around (hr.mono (by decide)) rfl (pa_cons (pv 5) (pa_cons (pv 2) (pa_cons (pv 3) pa_nil))))) (blkOk_by (own := [("other", 6)]) (N := ["cells", "chosen", "width", "height", "changed", "cell", "other"]) (sc := defScope s_softened) (by decide +kernel)) (fun _ _ _ _ _ => (pg_name (i := 6) sc_softened.nd rfl (Or.inl rfl))) (fun _ _ _ _ _ => pts_nil) (fun _ _ _ _ _ => (pe_ix (r := rIxL K) ix_list (pv 0) (pv 6) (fun _ _ => rfl)))) pa_nil)) pa_nil)))))
      (pss_one (ps_ret (pe_callO O_only_chosen (hr.mono (by decide)) rfl (pa_cons (pv 1) (pa_cons (pv 0) (pa_cons (pv 4) pa_nil)))))))), ?_⟩)
  · obtain ⟨_, _, _, _, _, _, _, rfl, _⟩ := h; rfl
  · obtain ⟨F, ca, la, cs, ds, w, h, rfl, hF, hc, hd, hcn, hdn, hw1, hw6, hh1, hh6, h255, q⟩ := h
    have e36 : w * h ≤ 36 := Nat.le_trans (Nat.mul_le_mul hw6 hh6) (by decide)
    obtain ⟨dv, hd1, hdl⟩ := hd.len
    refine ⟨by decide, fun D hD => ?_⟩
    have hFD : F D = none := Same.free hF hD
    have E0' := (Ext.refl hF).newM (o := .lst []) hD
    dsimp only [cxK, gName, L2.start, List.length, List.map, List.replicate, List.cons_append, List.nil_append, Nat.sub_self, List.append_nil, List.set]
    refine ⟨_, rfl, _, _, rfl, .inl (SqL.of (E0'.hh _ _ (hF _ _ hd1))), _, rfl, by omega, by omega, ?_⟩
    have en : ((dv.length : Int)).toNat = w * h := by rw [Int.toNat_natCast]; omega
    rw [en]
    refine for_range (fun i σ H' => ∃ F1 vs o5 o6, σ = [some (.ref la), some (.ref ca), some (.int w), some (.int h), some (.ref D), o5, o6] ∧ Ext F H F1 H' ∧ F1 D = none ∧ H' D = some (.lst vs) ∧
      Paired (RD F1) vs ((List.range i).map fun i => softD ((Ie13.around w h i).map fun j => ds.getD j Ie13.none_))) ?_ ?_ ?_
    · exact ⟨F, [], none, none, rfl, E0', hFD, upd_same, .nil⟩
    · rintro i σ H' hi ⟨F1, vs, o5, o6, rfl, e, f1, hv, hp⟩
      rw [Int.zero_add]
      refine ⟨_, rfl, .inl ⟨rfl, _, SqL.of hv⟩, ?_⟩
      simp only [cxK, Bool.false_eq_true, if_false, if_true, tYes, tChain, wipe, ↓reduceIte, tRet, tSeq, tAsg, tDrop, tIfS, tIf, tNext, gName, gTup, gCons, gNil, tFld, tLst, tTup, tTest, rEq_int, rNe_int, rIxL, rIxT, rSum, rAll, decide_eq_true_eq, List.cons.injEq, and_true, true_and, tTest, tC, tVar, tOp, rI, rI0, tCB, tCons, tNil, tAnd, tOr, tNot, tCallO, L2.start, List.length, List.map, List.replicate, List.cons_append, List.nil_append, Nat.sub_self, List.append_nil, List.set, V.int.injEq, V.ref.injEq, V.bl.injEq, Option.some.injEq, exists_eq_left', exists_eq_left, exists_and_left, List.getElem?_cons_zero, List.getElem?_cons_succ]
      refine tLc_of ⟨_, rfl, _, rfl, _, rfl, F1, i, w, h, rfl, e.fh, hw1, hw6, hh1, hh6, fun F2 H2 p e2 hp2 => ?_⟩
      obtain ⟨av, ha1, ha2⟩ := hp2
      refine ⟨_, rfl, ⟨_, SqL.of (e2.fh _ _ ha1)⟩, ?_⟩
      refine lcx_list (R := RD) (K := K) (a := p) RD.mono (fun _ => true) (fun k => ds.getD ((Ie13.around w h i).getD k 0) Ie13.none_) e2.fh (SqL.of (e2.fh _ _ ha1)) ha2.length ?_ (fun _ => rfl) ?_ ?_
      · unfold Ie13.around
        exact Nat.le_trans (List.length_filter_le _ _) (by rw [List.length_range]; omega)
      · intro k F3 Ha x hx e3 Kp Sk k1 k2
        obtain ⟨j, hj, rfl⟩ := pd_getL ha2 hx
        have hjn : j < w * h := by
          have := List.mem_of_getElem? hj
          unfold Ie13.around at this
          exact List.mem_range.mp (List.mem_filter.mp this).1
        obtain ⟨dv, d, hd1, hd2, hd3⟩ := (hd.mono RD.mono ((e.ff.trans e2.ff).trans e3.ff)).at (i := j) (by omega) Ie13.none_
        refine ⟨_, rfl, _, rfl, _, _, _, _, rfl, rfl, SqL.of (e3.fh _ _ hd1), hd2, k1 rfl _ F3 Ha (Ext.refl e3.fh) ?_⟩
        rw [List.getD_eq_getElem?_getD (l := Ie13.around w h i), hj]; exact hd3
      · intro p3 F3 H3 e3 h3
        rw [filter_yes, pd_map_range (fun j => ds.getD j Ie13.none_)] at h3
        refine ⟨F3, p3, _, rfl, e3.fh, h3, ?_, ?_, fun F4 H4 r e4 h4 => ?_⟩
        · intro x hx
          obtain ⟨j, _, rfl⟩ := List.mem_map.mp hx
          rw [List.getD_eq_getElem?_getD]
          cases z : ds[j]? with
          | none => exact ⟨Nat.zero_le _, Nat.zero_le _⟩
          | some x => exact h255 x (List.mem_of_getElem? z)
        · rw [List.length_map]; unfold Ie13.around
          exact Nat.le_trans (List.length_filter_le _ _) (by rw [List.length_range]; omega)
        · have ee := (e2.trans e3).trans e4
          have hv4 := ee.hh _ _ hv
          have f4 := ee.fr D f1 (by rw [hv]; simp)
          have hl := hp.length
          rw [List.length_map, List.length_range] at hl
          refine ⟨_, _, _, rfl, rfl, hv4, small1000 (by omega), F4, _, _, _, ⟨rfl, rfl⟩, (e.trans ee).mut hD f4, f4, upd_same, ?_⟩
          rw [List.range_succ, List.map_append]
          exact pd_app (pd_mono (fun v x => RD.mono F1 F4 v x ee.ff) hp) (.cons ⟨r, rfl, h4⟩ .nil)
    · rintro σ H' ⟨F1, vs, o5, o6, rfl, e, f1, hv, hp⟩
      refine ⟨_, rfl, _, rfl, _, rfl, ?_⟩
      have e1 := e.pub hD f1 hv
      refine ⟨_, ca, la, D, cs, ds, _, w * h, rfl, e1.fh, hc.mono RB.mono e1.ff, hd.mono RD.mono e1.ff, ⟨_, upd_same, pd_mono (fun v x => RD.mono F1 _ v x (same_upd f1)) hp⟩, hcn, hdn, by simp, e36, fun F2 H2 p e2 h2 => q F2 H2 p (e1.trans e2) ?_⟩
      have e3 : (List.range (w * h)).map (fun i => if cs.getD i false = true then ((List.range (w * h)).map fun i => softD ((Ie13.around w h i).map fun j => ds.getD j Ie13.none_)).getD i Ie13.none_ else ds.getD i Ie13.none_) = (List.range (w * h)).map (fun i => if cs.getD i false = true then softD ((Ie13.around w h i).map fun j => ds.getD j Ie13.none_) else ds.getD i Ie13.none_) := by
        apply List.map_congr_left
        intro i hi
        rw [getD_range _ (List.mem_range.mp hi)]
      rw [← e3]; exact h2
end
end Lp
namespace Lp
open PySem PySem.Spec PyProof.Rows L2
section
variable {P : Program} {w : World} {K : PySem.W.Frag} {mg : Str → Option Value} {base : Heap} {C_Layer C_Document C_Editor : Addr}
theorem put_Layer_1 {v1 : V} : putF "number" v1 [] = [(("number" : Str), v1)] := rfl
theorem put_Layer_2 {v1 v2 : V} : putF "way" v2 [(("number" : Str), v1)] = [(("number" : Str), v1), (("way" : Str), v2)] := (ptS (by decide +kernel)).trans (congrArg _ (rfl))
theorem put_Layer_3 {v1 v2 v3 : V} : putF "much" v3 [(("number" : Str), v1), (("way" : Str), v2)] = [(("number" : Str), v1), (("way" : Str), v2), (("much" : Str), v3)] := (ptS (by decide +kernel)).trans (congrArg _ ((ptS (by decide +kernel)).trans (congrArg _ (rfl))))
theorem put_Layer_4 {v1 v2 v3 v4 : V} : putF "shown" v4 [(("number" : Str), v1), (("way" : Str), v2), (("much" : Str), v3)] = [(("number" : Str), v1), (("way" : Str), v2), (("much" : Str), v3), (("shown" : Str), v4)] := (ptS (by decide +kernel)).trans (congrArg _ ((ptS (by decide +kernel)).trans (congrArg _ ((ptS (by decide +kernel)).trans (congrArg _ (rfl))))))
theorem put_Layer_5 {v1 v2 v3 v4 v5 : V} : putF "cells" v5 [(("number" : Str), v1), (("way" : Str), v2), (("much" : Str), v3), (("shown" : Str), v4)] = [(("number" : Str), v1), (("way" : Str), v2), (("much" : Str), v3), (("shown" : Str), v4), (("cells" : Str), v5)] := (ptS (by decide +kernel)).trans (congrArg _ ((ptS (by decide +kernel)).trans (congrArg _ ((ptS (by decide +kernel)).trans (congrArg _ ((ptS (by decide +kernel)).trans (congrArg _ (rfl))))))))
def sp_Layer_init (C : Addr) : Sp := fun vs H Q _ => ∃ (p dx : Addr) (v1 v2 v3 v4 v5 : V), vs = [.ref p, v1, v2, v3, v4, v5] ∧ H p = some (.ins C dx []) ∧ Q .non (upd H p (.ins C dx [(("number" : Str), v1), (("way" : Str), v2), (("much" : Str), v3), (("shown" : Str), v4), (("cells" : Str), v5)]))
theorem ok_Layer_init (T : Txt K mg C_Layer C_Document C_Editor) : OkI P w K mg base 1 C_Layer "Layer" ["self", "number", "way", "much", "shown", "cells"] (sp_Layer_init C_Layer) := by
  refine T.d_Layer___init__.ok sc_Layer___init__ (fun vs H Q E h => ?_) (fun f cdv A outer s H vs Q E hr h => ⟨_, (pss_cons (ps_fld (pv 0) (pv 1) rfl)
      (pss_cons (ps_fld (pv 0) (pv 2) rfl)
      (pss_cons (ps_fld (pv 0) (pv 3) rfl)
      (pss_cons (ps_fld (pv 0) (pv 4) rfl)
      (pss_one (ps_fld (pv 0) (pv 5) rfl)))))), ?_⟩)
  · obtain ⟨_, _, _, _, _, _, _, rfl, _⟩ := h; rfl
  · obtain ⟨p, dx, v1, v2, v3, v4, v5, rfl, hp, q⟩ := h
    refine ⟨_, rfl, _, rfl, p, _, dx, _, rfl, hp, T.k_Layer, T.n_Layer_number, (by show 0 < 1000; decide), ?_⟩
    rw [put_Layer_1]
    refine ⟨_, rfl, _, rfl, p, _, dx, _, rfl, upd_same, T.k_Layer, T.n_Layer_way, (by show 1 < 1000; decide), ?_⟩
    rw [put_Layer_2, upd_upd]
    refine ⟨_, rfl, _, rfl, p, _, dx, _, rfl, upd_same, T.k_Layer, T.n_Layer_much, (by show 2 < 1000; decide), ?_⟩
    rw [put_Layer_3, upd_upd]
    refine ⟨_, rfl, _, rfl, p, _, dx, _, rfl, upd_same, T.k_Layer, T.n_Layer_shown, (by show 3 < 1000; decide), ?_⟩
    rw [put_Layer_4, upd_upd]
    refine ⟨_, rfl, _, rfl, p, _, dx, _, rfl, upd_same, T.k_Layer, T.n_Layer_cells, (by show 4 < 1000; decide), ?_⟩
    rw [put_Layer_5, upd_upd]
    exact q
theorem put_Document_1 {v1 : V} : putF "width" v1 [] = [(("width" : Str), v1)] := rfl
theorem put_Document_2 {v1 v2 : V} : putF "height" v2 [(("width" : Str), v1)] = [(("width" : Str), v1), (("height" : Str), v2)] := (ptS (by decide +kernel)).trans (congrArg _ (rfl))
theorem put_Document_3 {v1 v2 v3 : V} : putF "ground" v3 [(("width" : Str), v1), (("height" : Str), v2)] = [(("width" : Str), v1), (("height" : Str), v2), (("ground" : Str), v3)] := (ptS (by decide +kernel)).trans (congrArg _ ((ptS (by decide +kernel)).trans (congrArg _ (rfl))))
theorem put_Document_4 {v1 v2 v3 v4 : V} : putF "layers" v4 [(("width" : Str), v1), (("height" : Str), v2), (("ground" : Str), v3)] = [(("width" : Str), v1), (("height" : Str), v2), (("ground" : Str), v3), (("layers" : Str), v4)] := (ptS (by decide +kernel)).trans (congrArg _ ((ptS (by decide +kernel)).trans (congrArg _ ((ptS (by decide +kernel)).trans (congrArg _ (rfl))))))
theorem put_Document_5 {v1 v2 v3 v4 v5 : V} : putF "worked" v5 [(("width" : Str), v1), (("height" : Str), v2), (("ground" : Str), v3), (("layers" : Str), v4)] = [(("width" : Str), v1), (("height" : Str), v2), (("ground" : Str), v3), (("layers" : Str), v4), (("worked" : Str), v5)] := (ptS (by decide +kernel)).trans (congrArg _ ((ptS (by decide +kernel)).trans (congrArg _ ((ptS (by decide +kernel)).trans (congrArg _ ((ptS (by decide +kernel)).trans (congrArg _ (rfl))))))))
theorem put_Document_6 {v1 v2 v3 v4 v5 v6 : V} : putF "chosen" v6 [(("width" : Str), v1), (("height" : Str), v2), (("ground" : Str), v3), (("layers" : Str), v4), (("worked" : Str), v5)] = [(("width" : Str), v1), (("height" : Str), v2), (("ground" : Str), v3), (("layers" : Str), v4), (("worked" : Str), v5), (("chosen" : Str), v6)] := (ptS (by decide +kernel)).trans (congrArg _ ((ptS (by decide +kernel)).trans (congrArg _ ((ptS (by decide +kernel)).trans (congrArg _ ((ptS (by decide +kernel)).trans (congrArg _ ((ptS (by decide +kernel)).trans (congrArg _ (rfl))))))))))
theorem put_Document_7 {v1 v2 v3 v4 v5 v6 v7 : V} : putF "given" v7 [(("width" : Str), v1), (("height" : Str), v2), (("ground" : Str), v3), (("layers" : Str), v4), (("worked" : Str), v5), (("chosen" : Str), v6)] = [(("width" : Str), v1), (("height" : Str), v2), (("ground" : Str), v3), (("layers" : Str), v4), (("worked" : Str), v5), (("chosen" : Str), v6), (("given" : Str), v7)] := (ptS (by decide +kernel)).trans (congrArg _ ((ptS (by decide +kernel)).trans (congrArg _ ((ptS (by decide +kernel)).trans (congrArg _ ((ptS (by decide +kernel)).trans (congrArg _ ((ptS (by decide +kernel)).trans (congrArg _ ((ptS (by decide +kernel)).trans (congrArg _ (rfl))))))))))))
def sp_Document_init (C : Addr) : Sp := fun vs H Q _ => ∃ (p dx : Addr) (v1 v2 v3 v4 v5 v6 v7 : V), vs = [.ref p, v1, v2, v3, v4, v5, v6, v7] ∧ H p = some (.ins C dx []) ∧ Q .non (upd H p (.ins C dx [(("width" : Str), v1), (("height" : Str), v2), (("ground" : Str), v3), (("layers" : Str), v4), (("worked" : Str), v5), (("chosen" : Str), v6), (("given" : Str), v7)]))
theorem ok_Document_init (T : Txt K mg C_Layer C_Document C_Editor) : OkI P w K mg base 1 C_Document "Document" ["self", "width", "height", "ground", "layers", "worked", "chosen", "given"] (sp_Document_init C_Document) := by
  refine T.d_Document___init__.ok sc_Document___init__ (fun vs H Q E h => ?_) (fun f cdv A outer s H vs Q E hr h => ⟨_, (pss_cons (ps_fld (pv 0) (pv 1) rfl)
      (pss_cons (ps_fld (pv 0) (pv 2) rfl)
      (pss_cons (ps_fld (pv 0) (pv 3) rfl)
      (pss_cons (ps_fld (pv 0) (pv 4) rfl)
      (pss_cons (ps_fld (pv 0) (pv 5) rfl)
      (pss_cons (ps_fld (pv 0) (pv 6) rfl)
      (pss_one (ps_fld (pv 0) (pv 7) rfl)))))))), ?_⟩)
  · obtain ⟨_, _, _, _, _, _, _, _, _, rfl, _⟩ := h; rfl
  · obtain ⟨p, dx, v1, v2, v3, v4, v5, v6, v7, rfl, hp, q⟩ := h
    refine ⟨_, rfl, _, rfl, p, _, dx, _, rfl, hp, T.k_Document, T.n_Document_width, (by show 0 < 1000; decide), ?_⟩
    rw [put_Document_1]
    refine ⟨_, rfl, _, rfl, p, _, dx, _, rfl, upd_same, T.k_Document, T.n_Document_height, (by show 1 < 1000; decide), ?_⟩
    rw [put_Document_2, upd_upd]
    refine ⟨_, rfl, _, rfl, p, _, dx, _, rfl, upd_same, T.k_Document, T.n_Document_ground, (by show 2 < 1000; decide), ?_⟩
    rw [put_Document_3, upd_upd]
    refine ⟨_, rfl, _, rfl, p, _, dx, _, rfl, upd_same, T.k_Document, T.n_Document_layers, (by show 3 < 1000; decide), ?_⟩
    rw [put_Document_4, upd_upd]
    refine ⟨_, rfl, _, rfl, p, _, dx, _, rfl, upd_same, T.k_Document, T.n_Document_worked, (by show 4 < 1000; decide), ?_⟩
    rw [put_Document_5, upd_upd]
    refine ⟨_, rfl, _, rfl, p, _, dx, _, rfl, upd_same, T.k_Document, T.n_Document_chosen, (by show 5 < 1000; decide), ?_⟩
    rw [put_Document_6, upd_upd]
    refine ⟨_, rfl, _, rfl, p, _, dx, _, rfl, upd_same, T.k_Document, T.n_Document_given, (by show 6 < 1000; decide), ?_⟩
    rw [put_Document_7, upd_upd]
    exact q
theorem upd_at {F : Hp} {x a : Addr} {o u : HO} (h : F a = some u) (hx : F x = none) : upd F x o a = some u := by
  rw [upd_ne (ne_of_none h hx)]; exact h
/-- a new document, made -/
theorem mkDoc {CL CD : Addr} {F0 H0 F H : Hp} {x dx g ls ch : Addr} {d : Ie13.Doc} (e : Ext F0 H0 F H) (hx : H x = none) (hd : H dx = none) (ne : dx ≠ x) (h1 : Tones F g d.ground) (h2 : Lays CL F ls d.layers) (h3 : Bits F ch d.chosen) :
    Ext F0 H0 (upd F x (.ins CD dx (DocF d g ls ch))) (upd (upd H dx (.own x)) x (.ins CD dx (DocF d g ls ch))) ∧ DocAt CL CD (upd F x (.ins CD dx (DocF d g ls ch))) x d := by
  have s := same_upd (o := .ins CD dx (DocF d g ls ch)) (e.f_none hx)
  exact ⟨e.made hx hd ne, ⟨dx, g, ls, ch, upd_same, h1.mono RI.mono s, h2.mono RL.mono s, h3.mono RB.mono s⟩⟩
theorem mkLay {CL : Addr} {F0 H0 F H : Hp} {x dx c : Addr} {l : Ie13.Layer} (e : Ext F0 H0 F H) (hx : H x = none) (hd : H dx = none) (ne : dx ≠ x) (h1 : Cells F c l.dots) :
    Ext F0 H0 (upd F x (.ins CL dx (LayF l c))) (upd (upd H dx (.own x)) x (.ins CL dx (LayF l c))) ∧ LayAt CL (upd F x (.ins CL dx (LayF l c))) x l := by
  have s := same_upd (o := .ins CL dx (LayF l c)) (e.f_none hx)
  exact ⟨e.made hx hd ne, ⟨dx, c, upd_same, h1.mono RD.mono s⟩⟩
def sp_new_document (CL CD : Addr) : Sp := fun vs H Q _ => ∃ (F : Hp) (w h g : Nat), vs = [.int w, .int h, .int g] ∧ Same F H ∧ 1 ≤ w ∧ w ≤ 6 ∧ 1 ≤ h ∧ h ≤ 6 ∧
  ∀ F' H' p, Ext F H F' H' → DocAt CL CD F' p (Ie13.fresh w h g) → Q (.ref p) H'
theorem ok_new_document (T : Txt K mg C_Layer C_Document C_Editor) : Ok P w K mg base 3 "new_document" ["width", "height", "tone"] (sp_new_document C_Layer C_Document) := by
  have O_Document___init__ := ok_Document_init (P := P) (w := w) (base := base) T
  refine T.d_new_document.ok sc_new_document (fun vs H Q E h => ?_) (fun f cdv A outer s H vs Q E hr h => ⟨_, (pss_cons (ps_set (i := 3) sc_new_document.nd rfl (Or.inl rfl) (pe_op op_mul (pv 0) (pv 1)))
      (pss_one (ps_ret (pe_makeO O_Document___init__ (hr.mono (by decide)) rfl (pa_cons (pv 0) (pa_cons (pv 1) (pa_cons (pe_op op_rep (pe_lst (pa_cons (pv 2) pa_nil)) (pv 3)) (pa_cons (pe_lst pa_nil) (pa_cons pe_int (pa_cons (pe_op op_rep (pe_lst (pa_cons pe_int pa_nil)) (pv 3)) (pa_cons pe_int pa_nil))))))))))), ?_⟩)
  · obtain ⟨_, _, _, _, rfl, _⟩ := h; rfl
  · obtain ⟨F, w, h, g, rfl, hF, hw1, hw6, hh1, hh6, q⟩ := h
    have e36 : w * h ≤ 36 := Nat.le_trans (Nat.mul_le_mul hw6 hh6) (by decide)
    have hsz : (36 : Nat) ≤ sizeLine := by decide
    have en : ((w : Int) * (h : Int)).toNat = w * h := by rw [← Int.natCast_mul]; rfl
    have em : (w : Int) * (h : Int) = ((w * h : Nat) : Int) := by rw [Int.natCast_mul]
    refine ⟨_, rfl, _, rfl, _, _, rfl, rfl, .inl ⟨by omega, by omega⟩, ?_⟩
    refine ⟨_, rfl, _, rfl, ?_⟩
    refine ⟨_, rfl, (by show 1 ≤ sizeLine; decide), fun p1 hp1 => ⟨_, rfl, _, _, _, rfl, rfl, upd_same, ?_, ?_, ?_, fun p2 hp2 => ?_⟩⟩
    · show -(2 ^ 63) ≤ (w : Int) * (h : Int); omega
    · show (w : Int) * (h : Int) < 2 ^ 63; omega
    · show 1 * ((w : Int) * (h : Int)).toNat ≤ sizeLine; omega
    have E1 := (Ext.refl hF).newM (o := .lst [.int (g : Int)]) hp1
    have el : (List.replicate ((w : Int) * (h : Int)).toNat [V.int (g : Int)]).flatten = vI (List.replicate (w * h) g) := by
      rw [en]; unfold vI; rw [List.map_replicate]; exact flat1 _ _
    rw [el]
    have E2 := E1.new (o := .lst (vI (List.replicate (w * h) g))) hp2
    refine ⟨by decide, fun p3 hp3 => ?_⟩
    have E3 := E2.new (o := .lst []) hp3
    refine ⟨(by show 1 ≤ sizeLine; decide), fun p4 hp4 => ⟨_, rfl, _, _, _, rfl, rfl, upd_same, ?_, ?_, ?_, fun p5 hp5 => ?_⟩⟩
    · show -(2 ^ 63) ≤ (w : Int) * (h : Int); omega
    · show (w : Int) * (h : Int) < 2 ^ 63; omega
    · show 1 * ((w : Int) * (h : Int)).toNat ≤ sizeLine; omega
    have el2 : (List.replicate ((w : Int) * (h : Int)).toNat [V.int 1]).flatten = vB (List.replicate (w * h) true) := by
      rw [en]; unfold vB; rw [List.map_replicate]; exact flat1 _ _
    rw [el2]
    have E4 := (E3.newM (o := .lst [.int 1]) hp4).new (o := .lst (vB (List.replicate (w * h) true))) hp5
    intro x dx hx hdx ne
    refine ⟨x, dx, _, _, _, _, _, _, _, rfl, upd_same, rfl, ?_⟩
    rw [upd_upd]
    have f3 : F p3 = none := Same.free hF (E2.h0_none hp3)
    have m := mkDoc (CL := C_Layer) (CD := C_Document) (d := Ie13.fresh w h g) (g := p2) (ls := p3) (ch := p5) E4 hx hdx ne ?_ ?_ ?_
    · exact q _ _ x m.1 m.2
    · exact ⟨_, upd_at (upd_at upd_same (E2.f_none hp3)) ((E3.newM (o := .lst [.int 1]) hp4).f_none hp5), vI_pd _ _⟩
    · exact ⟨_, upd_at upd_same ((E3.newM (o := .lst [.int 1]) hp4).f_none hp5), .nil⟩
    · exact ⟨_, upd_same, vB_pd _ _⟩
end
end Lp
namespace Lp
open PySem PySem.Spec PyProof.Rows L2
theorem cut_to (xs : List V) (k : Nat) : cutV xs none (some (k : Int)) = xs.take k := by
  unfold cutV
  rw [HT.sIx_none, HT.sIx_nat, List.drop_zero, Nat.sub_zero]
  by_cases h : k ≤ xs.length
  · rw [Nat.min_eq_left h]
  · rw [Nat.min_eq_right (by omega), List.take_of_length_le (Nat.le_refl _), List.take_of_length_le (by omega)]
theorem cut_from (xs : List V) (k : Nat) : cutV xs (some (k : Int)) none = xs.drop k := by
  unfold cutV
  rw [HT.sIx_none, HT.sIx_nat]
  by_cases h : k ≤ xs.length
  · rw [Nat.min_eq_left h, List.take_of_length_le (by simp)]
  · rw [Nat.min_eq_right (by omega), List.drop_of_length_le (Nat.le_refl _), List.drop_of_length_le (by omega)]; simp
theorem set_cut {α : Type} {l : List α} {k : Nat} {x : α} (h : k < l.length) : l.set k x = l.take k ++ [x] ++ l.drop (k + 1) := by
  rw [List.set_eq_take_append_cons_drop, if_pos h]; simp
section
variable {P : Program} {w : World} {K : PySem.W.Frag} {mg : Str → Option Value} {base : Heap} {C_Layer C_Document C_Editor : Addr}
def sp_empty_layer (CL CD : Addr) : Sp := fun vs H Q _ => ∃ (F : Hp) (a : Addr) (d : Ie13.Doc) (k : Nat), vs = [.ref a, .int k] ∧ Same F H ∧ DocAt CL CD F a d ∧ Wf d ∧
  ∀ F' H' p, Ext F H F' H' → LayAt CL F' p ⟨k, 0, 255, true, List.replicate d.n Ie13.none_⟩ → Q (.ref p) H'
theorem ok_empty_layer (T : Txt K mg C_Layer C_Document C_Editor) : Ok P w K mg base 3 "empty_layer" ["document", "number"] (sp_empty_layer C_Layer C_Document) := by
  have O_Layer___init__ := ok_Layer_init (P := P) (w := w) (base := base) T
  refine T.d_empty_layer.ok sc_empty_layer (fun vs H Q E h => ?_) (fun f cdv A outer s H vs Q E hr h => ⟨_, (pss_one (ps_ret (pe_makeO O_Layer___init__ (hr.mono (by decide)) rfl (pa_cons (pv 1) (pa_cons pe_int (pa_cons pe_int (pa_cons pe_int (pa_cons (pe_op op_rep (pe_lst (pa_cons (pe_tup (pa_cons pe_int (pa_cons pe_int pa_nil))) pa_nil)) (pe_callB (r := rLenK K) call_len_seq (by rfl) T.b_len PySem.boot_len (pa_cons (pe_fld (pv 0) rfl) pa_nil))) pa_nil)))))))), ?_⟩)
  · obtain ⟨_, _, _, _, rfl, _⟩ := h; rfl
  · obtain ⟨F, a, d, k, rfl, hF, hd, wf, q⟩ := h
    obtain ⟨dx, g, ls, ch, h1, h2, h3, h4⟩ := hd.ex
    obtain ⟨gv, hg1, hgl⟩ := h2.len
    have hsz : (36 : Nat) ≤ sizeLine := by decide
    have hn := wf.n36
    have hgn : gv.length = d.n := hgl.trans wf.glen
    refine ⟨_, rfl, (by show 2 ≤ sizeLine; decide), fun p1 hp1 => ?_⟩
    have E1 := (Ext.refl hF).new (o := .tup [.int 0, .int 0]) hp1
    refine ⟨(by show 1 ≤ sizeLine; decide), fun p2 hp2 => ?_⟩
    have E2 := E1.newM (o := .lst [.ref p1]) hp2
    refine ⟨_, rfl, _, _, _, _, _, rfl, E2.hh _ _ (hF _ _ h1), T.k_Document, T.n_Document_ground, Doc_ground, _, _, rfl, .inl (SqL.of (E2.hh _ _ (hF _ _ hg1))), _, _, _, rfl, rfl, upd_same, by omega, by omega, ?_, fun p3 hp3 => ?_⟩
    · rw [Int.toNat_natCast, hgn]; simp only [List.length_singleton]; omega
    have el : (List.replicate ((gv.length : Int)).toNat [V.ref p1]).flatten = List.replicate d.n (V.ref p1) := by
      rw [Int.toNat_natCast, hgn]; exact flat1 _ _
    rw [el]
    have E3 := E2.new (o := .lst (List.replicate d.n (V.ref p1))) hp3
    intro x dx' hx hdx ne
    refine ⟨x, dx', _, _, _, _, _, rfl, upd_same, rfl, ?_⟩
    rw [upd_upd]
    have m := mkLay (CL := C_Layer) (l := ⟨k, 0, 255, true, List.replicate d.n Ie13.none_⟩) (c := p3) E3 hx hdx ne ⟨_, upd_same, pd_rep ⟨p1, rfl, upd_at upd_same (E2.f_none hp3)⟩ _⟩
    exact q _ _ x m.1 m.2
def sp_with_layers (CL CD : Addr) : Sp := fun vs H Q _ => ∃ (F : Hp) (a la : Addr) (d : Ie13.Doc) (ls : List Ie13.Layer) (k : Nat), vs = [.ref a, .ref la, .int k] ∧ Same F H ∧ DocAt CL CD F a d ∧ Lays CL F la ls ∧
  ∀ F' H' p, Ext F H F' H' → DocAt CL CD F' p { d with layers := ls, at_ := k } → Q (.ref p) H'
theorem ok_with_layers (T : Txt K mg C_Layer C_Document C_Editor) : Ok P w K mg base 3 "with_layers" ["document", "layers", "worked"] (sp_with_layers C_Layer C_Document) := by
  have O_Document___init__ := ok_Document_init (P := P) (w := w) (base := base) T
  refine T.d_with_layers.ok sc_with_layers (fun vs H Q E h => ?_) (fun f cdv A outer s H vs Q E hr h => ⟨_, (pss_one (ps_ret (pe_makeO O_Document___init__ (hr.mono (by decide)) rfl (pa_cons (pe_fld (pv 0) rfl) (pa_cons (pe_fld (pv 0) rfl) (pa_cons (pe_fld (pv 0) rfl) (pa_cons (pv 1) (pa_cons (pv 2) (pa_cons (pe_fld (pv 0) rfl) (pa_cons (pe_fld (pv 0) rfl) pa_nil)))))))))), ?_⟩)
  · obtain ⟨_, _, _, _, _, _, rfl, _⟩ := h; rfl
  · obtain ⟨F, a, la, d, ls', k, rfl, hF, hd, hl, q⟩ := h
    obtain ⟨dx, g, ls, ch, h1, h2, h3, h4⟩ := hd.ex
    have hH := hF _ _ h1
    refine ⟨_, rfl, _, _, _, _, _, rfl, hH, T.k_Document, T.n_Document_width, Doc_width, ?_⟩
    refine ⟨_, rfl, _, _, _, _, _, rfl, hH, T.k_Document, T.n_Document_height, Doc_height, ?_⟩
    refine ⟨_, rfl, _, _, _, _, _, rfl, hH, T.k_Document, T.n_Document_ground, Doc_ground, ?_⟩
    refine ⟨_, rfl, _, rfl, ?_⟩
    refine ⟨_, rfl, _, _, _, _, _, rfl, hH, T.k_Document, T.n_Document_chosen, Doc_chosen, ?_⟩
    refine ⟨_, rfl, _, _, _, _, _, rfl, hH, T.k_Document, T.n_Document_given, Doc_given, ?_⟩
    intro x dx' hx hdx ne
    refine ⟨x, dx', _, _, _, _, _, _, _, rfl, upd_same, rfl, ?_⟩
    rw [upd_upd]
    have m := mkDoc (CL := C_Layer) (CD := C_Document) (d := { d with layers := ls', at_ := k }) (g := g) (ls := la) (ch := ch) (Ext.refl hF) hx hdx ne h2 hl h4
    exact q _ _ x m.1 m.2
def sp_with_chosen (CL CD : Addr) : Sp := fun vs H Q _ => ∃ (F : Hp) (a ca : Addr) (d : Ie13.Doc) (cs : List Bool), vs = [.ref a, .ref ca] ∧ Same F H ∧ DocAt CL CD F a d ∧ Bits F ca cs ∧
  ∀ F' H' p, Ext F H F' H' → DocAt CL CD F' p { d with chosen := cs } → Q (.ref p) H'
theorem ok_with_chosen (T : Txt K mg C_Layer C_Document C_Editor) : Ok P w K mg base 3 "with_chosen" ["document", "chosen"] (sp_with_chosen C_Layer C_Document) := by
  have O_Document___init__ := ok_Document_init (P := P) (w := w) (base := base) T
  refine T.d_with_chosen.ok sc_with_chosen (fun vs H Q E h => ?_) (fun f cdv A outer s H vs Q E hr h => ⟨_, (pss_one (ps_ret (pe_makeO O_Document___init__ (hr.mono (by decide)) rfl (pa_cons (pe_fld (pv 0) rfl) (pa_cons (pe_fld (pv 0) rfl) (pa_cons (pe_fld (pv 0) rfl) (pa_cons (pe_fld (pv 0) rfl) (pa_cons (pe_fld (pv 0) rfl) (pa_cons (pv 1) (pa_cons (pe_fld (pv 0) rfl) pa_nil)))))))))), ?_⟩)
  · obtain ⟨_, _, _, _, _, rfl, _⟩ := h; rfl
  · obtain ⟨F, a, ca, d, cs, rfl, hF, hd, hc, q⟩ := h
    obtain ⟨dx, g, ls, ch, h1, h2, h3, h4⟩ := hd.ex
    have hH := hF _ _ h1
    refine ⟨_, rfl, _, _, _, _, _, rfl, hH, T.k_Document, T.n_Document_width, Doc_width, ?_⟩
    refine ⟨_, rfl, _, _, _, _, _, rfl, hH, T.k_Document, T.n_Document_height, Doc_height, ?_⟩
    refine ⟨_, rfl, _, _, _, _, _, rfl, hH, T.k_Document, T.n_Document_ground, Doc_ground, ?_⟩
    refine ⟨_, rfl, _, _, _, _, _, rfl, hH, T.k_Document, T.n_Document_layers, Doc_layers, ?_⟩
    refine ⟨_, rfl, _, _, _, _, _, rfl, hH, T.k_Document, T.n_Document_worked, Doc_worked, ?_⟩
    refine ⟨_, rfl, ?_⟩
    refine ⟨_, rfl, _, _, _, _, _, rfl, hH, T.k_Document, T.n_Document_given, Doc_given, ?_⟩
    intro x dx' hx hdx ne
    refine ⟨x, dx', _, _, _, _, _, _, _, rfl, upd_same, rfl, ?_⟩
    rw [upd_upd]
    have m := mkDoc (CL := C_Layer) (CD := C_Document) (d := { d with chosen := cs }) (g := g) (ls := ls) (ch := ca) (Ext.refl hF) hx hdx ne h2 h3 hc
    exact q _ _ x m.1 m.2
def sp_worked_layer (CL CD : Addr) : Sp := fun vs H Q _ => ∃ (F : Hp) (a : Addr) (d : Ie13.Doc) (l : Ie13.Layer), vs = [.ref a] ∧ Same F H ∧ DocAt CL CD F a d ∧ d.layers[d.at_]? = some l ∧
  ∀ r, LayAt CL F r l → Q (.ref r) H
theorem ok_worked_layer (T : Txt K mg C_Layer C_Document C_Editor) : Ok P w K mg base 1 "worked_layer" ["document"] (sp_worked_layer C_Layer C_Document) := by
  refine T.d_worked_layer.ok sc_worked_layer (fun vs H Q E h => ?_) (fun f cdv A outer s H vs Q E hr h => ⟨_, (pss_one (ps_ret (pe_ix (r := rIxL K) ix_list (pe_fld (pv 0) rfl) (pe_fld (pv 0) rfl) (fun _ _ => rfl)))), ?_⟩)
  · obtain ⟨_, _, _, _, rfl, _⟩ := h; rfl
  · obtain ⟨F, a, d, l, rfl, hF, hd, hl, q⟩ := h
    obtain ⟨dx, g, ls, ch, h1, h2, ⟨lv, h3, h4⟩, h5⟩ := hd.ex
    have hH := hF _ _ h1
    obtain ⟨v, hv, r, rfl, hr⟩ := pd_get h4 hl
    exact ⟨_, rfl, _, _, _, _, _, rfl, hH, T.k_Document, T.n_Document_layers, Doc_layers, _, rfl, _, _, _, _, _, rfl, hH, T.k_Document, T.n_Document_worked, Doc_worked, _, _, _, _, rfl, rfl, SqL.of (hF _ _ h3), atI_nat hv, q r hr⟩
def sp_with_worked_layer (CL CD : Addr) : Sp := fun vs H Q _ => ∃ (F : Hp) (a la : Addr) (d : Ie13.Doc) (l : Ie13.Layer), vs = [.ref a, .ref la] ∧ Same F H ∧ DocAt CL CD F a d ∧ LayAt CL F la l ∧ d.at_ < d.layers.length ∧ d.layers.length ≤ 5 ∧
  ∀ F' H' p, Ext F H F' H' → DocAt CL CD F' p { d with layers := d.layers.set d.at_ l } → Q (.ref p) H'
theorem ok_with_worked_layer (T : Txt K mg C_Layer C_Document C_Editor) : Ok P w K mg base 4 "with_worked_layer" ["document", "changed"] (sp_with_worked_layer C_Layer C_Document) := by
  have O_with_layers := ok_with_layers (P := P) (w := w) (base := base) T
  refine T.d_with_worked_layer.ok sc_with_worked_layer (fun vs H Q E h => ?_) (fun f cdv A outer s H vs Q E hr h => ⟨_, (pss_cons (ps_set (i := 2) sc_with_worked_layer.nd rfl (Or.inl rfl) (pe_fld (pv 0) rfl))
      (pss_one (ps_ret (pe_callO O_with_layers (hr.mono (by decide)) rfl (pa_cons (pv 0) (pa_cons (pe_op op_cat (pe_op op_cat (pe_slice sl_list (pe_fld (pv 0) rfl) po_none (po_some (pv 2))) (pe_lst (pa_cons (pv 1) pa_nil))) (pe_slice sl_list (pe_fld (pv 0) rfl) (po_some (pe_op op_add (pv 2) pe_int)) po_none)) (pa_cons (pv 2) pa_nil))))))), ?_⟩)
  · obtain ⟨_, _, _, _, _, rfl, _⟩ := h; rfl
  · obtain ⟨F, a, la, d, l, rfl, hF, hd, hl, hat, h5', q⟩ := h
    obtain ⟨dx, g, ls, ch, h1, h2, ⟨lv, h3, h4⟩, h5⟩ := hd.ex
    have hH := hF _ _ h1
    have hll := h4.length
    refine ⟨_, rfl, _, _, _, _, _, rfl, hH, T.k_Document, T.n_Document_worked, Doc_worked, ?_⟩
    refine ⟨_, rfl, ?_⟩
    refine ⟨_, rfl, _, _, _, _, _, rfl, hH, T.k_Document, T.n_Document_layers, Doc_layers, ?_⟩
    refine ⟨_, rfl, _, rfl, _, _, rfl, SqL.of (hF _ _ h3), fun p1 hp1 => ?_⟩
    rw [cut_to]
    have E1 := (Ext.refl hF).newM (o := .lst (lv.take d.at_)) hp1
    refine ⟨_, rfl, (by show 1 ≤ sizeLine; decide), fun p2 hp2 => ?_⟩
    have E2 := E1.newM (o := .lst [.ref la]) hp2
    have hsz : (100 : Nat) ≤ sizeLine := by decide
    refine ⟨_, _, _, _, rfl, rfl, upd_at upd_same hp2, upd_same, ?_, fun p3 hp3 => ?_⟩
    · rw [List.length_take]; simp only [List.length_singleton]; omega
    have E3 := E2.newM (o := .lst (lv.take d.at_ ++ [.ref la])) hp3
    refine ⟨_, rfl, _, _, _, _, _, rfl, E3.hh _ _ hH, T.k_Document, T.n_Document_layers, Doc_layers, ?_⟩
    refine ⟨_, rfl, _, _, rfl, rfl, _, rfl, _, _, rfl, SqL.of (E3.hh _ _ (hF _ _ h3)), fun p4 hp4 => ?_⟩
    have ec : cutV lv (some ((d.at_ : Int) + 1)) none = lv.drop (d.at_ + 1) := cut_from lv (d.at_ + 1)
    rw [ec]
    have E4 := E3.newM (o := .lst (lv.drop (d.at_ + 1))) hp4
    refine ⟨_, _, _, _, rfl, rfl, upd_at upd_same hp4, upd_same, ?_, fun p5 hp5 => ?_⟩
    · rw [List.length_append, List.length_take, List.length_drop]; simp only [List.length_singleton]; omega
    have E5 := E4.new (o := .lst (lv.take d.at_ ++ [.ref la] ++ lv.drop (d.at_ + 1))) hp5
    refine ⟨_, rfl, _, a, p5, d, d.layers.take d.at_ ++ [l] ++ d.layers.drop (d.at_ + 1), d.at_, rfl, E5.fh, hd.mono E5.ff, ⟨_, upd_same, ?_⟩, fun F' H' p e h => q F' H' p (E5.trans e) ?_⟩
    · exact pd_mono (fun v x => RL.mono F _ v x E5.ff) (pd_app (pd_app (pd_take _ h4) (.cons ⟨la, rfl, hl⟩ .nil)) (pd_drop _ h4))
    · rw [set_cut hat]; exact h
def sp_with_worked_cells (CL CD : Addr) : Sp := fun vs H Q _ => ∃ (F : Hp) (a ca : Addr) (d : Ie13.Doc) (l : Ie13.Layer) (ds : List Ie13.Dot), vs = [.ref a, .ref ca] ∧ Same F H ∧ DocAt CL CD F a d ∧ d.layers[d.at_]? = some l ∧ Cells F ca ds ∧ d.layers.length ≤ 5 ∧
  ∀ F' H' p, Ext F H F' H' → DocAt CL CD F' p { d with layers := d.layers.set d.at_ { l with dots := ds } } → Q (.ref p) H'
theorem ok_with_worked_cells (T : Txt K mg C_Layer C_Document C_Editor) : Ok P w K mg base 5 "with_worked_cells" ["document", "cells"] (sp_with_worked_cells C_Layer C_Document) := by
  have O_worked_layer := ok_worked_layer (P := P) (w := w) (base := base) T
  have O_with_worked_layer := ok_with_worked_layer (P := P) (w := w) (base := base) T
  have O_Layer___init__ := ok_Layer_init (P := P) (w := w) (base := base) T
  refine T.d_with_worked_cells.ok sc_with_worked_cells (fun vs H Q E h => ?_) (fun f cdv A outer s H vs Q E hr h => ⟨_, (pss_cons (ps_set (i := 2) sc_with_worked_cells.nd rfl (Or.inl rfl) (pe_callO O_worked_layer (hr.mono (by decide)) rfl (pa_cons (pv 0) pa_nil)))
      (pss_one (ps_ret (pe_callO O_with_worked_layer (hr.mono (by decide)) rfl (pa_cons (pv 0) (pa_cons (pe_makeO O_Layer___init__ (hr.mono (by decide)) rfl (pa_cons (pe_fld (pv 2) rfl) (pa_cons (pe_fld (pv 2) rfl) (pa_cons (pe_fld (pv 2) rfl) (pa_cons (pe_fld (pv 2) rfl) (pa_cons (pv 1) pa_nil)))))) pa_nil)))))), ?_⟩)
  · obtain ⟨_, _, _, _, _, _, rfl, _⟩ := h; rfl
  · obtain ⟨F, a, ca, d, l, ds, rfl, hF, hd, hl, hc, h5, q⟩ := h
    refine ⟨_, rfl, F, a, d, l, rfl, hF, hd, hl, fun r hr => ?_⟩
    obtain ⟨dx, c, g1, g2⟩ := hr
    have hH := hF _ _ g1
    refine ⟨_, rfl, ?_⟩
    refine ⟨_, rfl, _, _, _, _, _, rfl, hH, T.k_Layer, T.n_Layer_number, Lay_number, ?_⟩
    refine ⟨_, rfl, _, _, _, _, _, rfl, hH, T.k_Layer, T.n_Layer_way, Lay_way, ?_⟩
    refine ⟨_, rfl, _, _, _, _, _, rfl, hH, T.k_Layer, T.n_Layer_much, Lay_much, ?_⟩
    refine ⟨_, rfl, _, _, _, _, _, rfl, hH, T.k_Layer, T.n_Layer_shown, Lay_shown, _, rfl, ?_⟩
    intro x dx' hx hdx ne
    refine ⟨x, dx', _, _, _, _, _, rfl, upd_same, rfl, ?_⟩
    rw [upd_upd]
    have m := mkLay (CL := C_Layer) (l := { l with dots := ds }) (c := ca) (Ext.refl hF) hx hdx ne hc
    exact ⟨_, a, x, d, { l with dots := ds }, rfl, m.1.fh, hd.mono m.1.ff, m.2, (List.getElem?_eq_some_iff.mp hl).1, h5, fun F' H' p e h => q F' H' p (m.1.trans e) h⟩
/-- layer: a new one right above the one worked on -/
def newLayer (d : Ie13.Doc) : Ie13.Doc := let i := if d.layers.isEmpty then 0 else d.at_ + 1
  { d with layers := d.layers.take i ++ ⟨d.next, 0, 255, true, List.replicate d.n Ie13.none_⟩ :: d.layers.drop i, at_ := i, next := d.next + 1 }
def sp_with_new_layer (CL CD : Addr) : Sp := fun vs H Q _ => ∃ (F : Hp) (a : Addr) (d : Ie13.Doc), vs = [.ref a] ∧ Same F H ∧ DocAt CL CD F a d ∧ Wf d ∧
  ∀ F' H' p, Ext F H F' H' → DocAt CL CD F' p (newLayer d) → Q (.ref p) H'
theorem ok_with_new_layer (T : Txt K mg C_Layer C_Document C_Editor) : Ok P w K mg base 4 "with_new_layer" ["document"] (sp_with_new_layer C_Layer C_Document) := by
  have O_empty_layer := ok_empty_layer (P := P) (w := w) (base := base) T
  have O_Document___init__ := ok_Document_init (P := P) (w := w) (base := base) T
  refine T.d_with_new_layer.ok sc_with_new_layer (fun vs H Q E h => ?_) (fun f cdv A outer s H vs Q E hr h => ⟨_, (pss_cons (ps_set (i := 1) sc_with_new_layer.nd rfl (Or.inl rfl) (pe_ifExp (pt_truth (pe_fld (pv 0) rfl) (by intro _; rfl)) (pe_op op_add (pe_fld (pv 0) rfl) pe_int) pe_int))
      (pss_cons (ps_set (i := 2) sc_with_new_layer.nd rfl (Or.inl rfl) (pe_op op_add (pe_fld (pv 0) rfl) pe_int))
      (pss_cons (ps_set (i := 3) sc_with_new_layer.nd rfl (Or.inl rfl) (pe_op op_cat (pe_op op_cat (pe_slice sl_list (pe_fld (pv 0) rfl) po_none (po_some (pv 1))) (pe_lst (pa_cons (pe_callO O_empty_layer (hr.mono (by decide)) rfl (pa_cons (pv 0) (pa_cons (pv 2) pa_nil))) pa_nil))) (pe_slice sl_list (pe_fld (pv 0) rfl) (po_some (pv 1)) po_none)))
      (pss_one (ps_ret (pe_makeO O_Document___init__ (hr.mono (by decide)) rfl (pa_cons (pe_fld (pv 0) rfl) (pa_cons (pe_fld (pv 0) rfl) (pa_cons (pe_fld (pv 0) rfl) (pa_cons (pv 3) (pa_cons (pv 1) (pa_cons (pe_fld (pv 0) rfl) (pa_cons (pv 2) pa_nil))))))))))))), ?_⟩)
  · obtain ⟨_, _, _, rfl, _⟩ := h; rfl
  · obtain ⟨F, a, d, rfl, hF, hd, wf, q⟩ := h
    obtain ⟨dx, g, ls, ch, h1, h2, ⟨lv, h3, h4⟩, h5⟩ := hd.ex
    have hH := hF _ _ h1
    have hll := h4.length
    have hl5 := wf.l5
    have hsz : (100 : Nat) ≤ sizeLine := by decide
    have hnx := wf.nx
    let i := if d.layers.isEmpty then 0 else d.at_ + 1
    have pl : ∀ Q' : VK, Q' (.int (i : Int)) H → tIf (fun σ H Q => tFld K (tVar 0) "layers" σ H fun x H' => ∃ k, TruV K x H' k ∧ Q k H') (tOp (rI0 fun i j => V.int (i + j)) (tFld K (tVar 0) "worked") (tC (V.int 1))) (tC (V.int 0)) (L2.start ["document", "place", "number", "layers"] [.ref a]) H Q' := by
      intro Q' hq
      refine ⟨_, rfl, _, _, _, _, _, rfl, hH, T.k_Document, T.n_Document_layers, Doc_layers, !lv.isEmpty, .inl ⟨_, SqL.of (hF _ _ h3), rfl⟩, ?_⟩
      have hi : lv.isEmpty = d.layers.isEmpty := by
        cases lv <;> cases hdl : d.layers <;> simp_all
      cases hb : d.layers.isEmpty with
      | true =>
        have ei : i = 0 := if_pos hb
        rw [ei] at hq
        exact ifF (by rw [hi, hb]; rfl) hq
      | false =>
        have ei : i = d.at_ + 1 := if_neg (by rw [hb]; decide)
        rw [ei] at hq
        exact ifT (by rw [hi, hb]; rfl) ⟨_, rfl, _, _, _, _, _, rfl, hH, T.k_Document, T.n_Document_worked, Doc_worked, _, _, rfl, rfl, hq⟩
    refine pl _ ?_
    refine ⟨_, rfl, _, _, _, _, _, rfl, hH, T.k_Document, T.n_Document_given, Doc_given, _, _, rfl, rfl, ?_⟩
    dsimp only [cxK, gName, L2.start, List.length, List.map, List.replicate, List.cons_append, List.nil_append, Nat.sub_self, List.append_nil, List.set]
    rw [Int.sub_add_cancel]
    refine ⟨_, rfl, _, _, _, _, _, rfl, hH, T.k_Document, T.n_Document_layers, Doc_layers, ?_⟩
    refine ⟨_, rfl, _, rfl, _, _, rfl, SqL.of (hF _ _ h3), fun p1 hp1 => ?_⟩
    rw [cut_to]
    have E1 := (Ext.refl hF).newM (o := .lst (lv.take i)) hp1
    refine ⟨_, rfl, _, rfl, F, a, d, d.next, rfl, E1.fh, hd, wf, fun F2 H2 la e2 hl2 => ?_⟩
    have E2 := E1.trans e2
    refine ⟨(by show 1 ≤ sizeLine; decide), fun p2 hp2 => ?_⟩
    have E3 := E2.newM (o := .lst [.ref la]) hp2
    refine ⟨_, _, _, _, rfl, rfl, upd_at (e2.hh _ _ upd_same) hp2, upd_same, ?_, fun p3 hp3 => ?_⟩
    · rw [List.length_take]; simp only [List.length_singleton]; omega
    have E4 := E3.newM (o := .lst (lv.take i ++ [.ref la])) hp3
    refine ⟨_, rfl, _, _, _, _, _, rfl, E4.hh _ _ hH, T.k_Document, T.n_Document_layers, Doc_layers, ?_⟩
    refine ⟨_, rfl, _, rfl, _, _, rfl, SqL.of (E4.hh _ _ (hF _ _ h3)), fun p4 hp4 => ?_⟩
    rw [cut_from]
    have E5 := E4.newM (o := .lst (lv.drop i)) hp4
    refine ⟨_, _, _, _, rfl, rfl, upd_at upd_same hp4, upd_same, ?_, fun p5 hp5 => ?_⟩
    · rw [List.length_append, List.length_take, List.length_drop]; simp only [List.length_singleton]; omega
    have E6 := E5.new (o := .lst (lv.take i ++ [.ref la] ++ lv.drop i)) hp5
    have hH6 := E6.hh _ _ hH
    refine ⟨_, rfl, _, _, _, _, _, rfl, hH6, T.k_Document, T.n_Document_width, Doc_width, ?_⟩
    refine ⟨_, rfl, _, _, _, _, _, rfl, hH6, T.k_Document, T.n_Document_height, Doc_height, ?_⟩
    refine ⟨_, rfl, _, _, _, _, _, rfl, hH6, T.k_Document, T.n_Document_ground, Doc_ground, ?_⟩
    refine ⟨_, rfl, _, rfl, ?_⟩
    refine ⟨_, rfl, _, _, _, _, _, rfl, hH6, T.k_Document, T.n_Document_chosen, Doc_chosen, _, rfl, ?_⟩
    intro x dx' hx hdx ne
    refine ⟨x, dx', _, _, _, _, _, _, _, rfl, upd_same, rfl, ?_⟩
    rw [upd_upd]
    have eg : V.int (d.next : Int) = V.int (((newLayer d).next : Int) - 1) := by
      show V.int (d.next : Int) = V.int (((d.next + 1 : Nat) : Int) - 1)
      congr 1; omega
    rw [eg]
    have m := mkDoc (CL := C_Layer) (CD := C_Document) (d := newLayer d) (g := g) (ls := p5) (ch := ch) E6 hx hdx ne (h2.mono RI.mono E6.ff) ⟨_, upd_same, ?_⟩ (h5.mono RB.mono E6.ff)
    · exact q _ _ x m.1 m.2
    · have z := pd_app (pd_app (pd_mono (fun v x => RL.mono F _ v x E6.ff) (pd_take i h4)) (.cons (RL.mono F2 _ (.ref la) _ (same_upd (E5.f_none hp5)) ⟨la, rfl, hl2⟩) .nil)) (pd_mono (fun v x => RL.mono F _ v x E6.ff) (pd_drop i h4))
      have ez : d.layers.take i ++ [⟨d.next, 0, 255, true, List.replicate d.n Ie13.none_⟩] ++ d.layers.drop i = (newLayer d).layers := by
        rw [List.append_assoc]; rfl
      rw [← ez]
      exact z
theorem dV {a b : Nat} : decide (V.int (a : Int) = V.int (b : Int)) = decide (a = b) := decide_eq_decide.mpr ⟨fun h => by injection h with h; omega, fun h => by rw [h]⟩
theorem dB {a b : Bool} : decide (V.int (bI a) = V.int (bI b)) = decide (a = b) := by cases a <;> cases b <;> rfl
theorem bits_eq {a b : Bool} : decide (bI a = bI b) = decide (a = b) := by cases a <;> cases b <;> rfl
def sp_same_layer (CL : Addr) : Sp := fun vs H Q _ => ∃ (F : Hp) (a b : Addr) (x y : Ie13.Layer), vs = [.ref a, .ref b] ∧ Same F H ∧ LayAt CL F a x ∧ LayAt CL F b y ∧ Q (.bl (decide (x = y))) H
theorem ok_same_layer (T : Txt K mg C_Layer C_Document C_Editor) : Ok P w K mg base 1 "same_layer" ["one", "other"] (sp_same_layer C_Layer) := by
  refine T.d_same_layer.ok sc_same_layer (fun vs H Q E h => ?_) (fun f cdv A outer s H vs Q E hr h => ⟨_, (pss_cons (ps_if (PW.pt (pw_or (pt_cmpR op_ne (pe_fld (pv 0) rfl) (pe_fld (pv 1) rfl) (nomark _)) (pw_or1 (pt_cmpR (r := rNeD K) (op_neD hr.units) (pe_fld (pv 0) rfl) (pe_fld (pv 1) rfl) (nomark _))))) (pss_one (ps_ret pe_bl)) pss_nil)
      (pss_one (ps_ret (pe_and (pe_cmpR op_eq (pe_fld (pv 0) rfl) (pe_fld (pv 1) rfl) (nomark _)) (pe_and (pe_cmpR op_eq (pe_fld (pv 0) rfl) (pe_fld (pv 1) rfl) (nomark _)) (pe_one (pe_cmpR op_eq (pe_fld (pv 0) rfl) (pe_fld (pv 1) rfl) (nomark _)))))))), ?_⟩)
  · obtain ⟨_, _, _, _, _, rfl, _⟩ := h; rfl
  · obtain ⟨F, a, b, x, y, rfl, hF, ⟨dx, c, hx1, hx2⟩, ⟨dy, c', hy1, hy2⟩, q⟩ := h
    have hx := hF _ _ hx1
    have hy := hF _ _ hy1
    refine ⟨_, rfl, _, _, _, _, _, rfl, hx, T.k_Layer, T.n_Layer_number, Lay_number, _, rfl, _, _, _, _, _, rfl, hy, T.k_Layer, T.n_Layer_number, Lay_number, rfl, _, rfl, ?_⟩
    rw [dV]
    by_cases c1 : x.id = y.id
    · refine ifF (by rw [decide_eq_true c1]; rfl) ?_
      refine ⟨_, rfl, _, _, _, _, _, rfl, hx, T.k_Layer, T.n_Layer_cells, Lay_cells, _, rfl, _, _, _, _, _, rfl, hy, T.k_Layer, T.n_Layer_cells, Lay_cells, ?_⟩
      refine ne_ls PD' hF hx2 hy2 ⟨_, rfl, ?_⟩
      by_cases c2 : x.dots = y.dots
      · refine ifF (by rw [decide_eq_true c2]; rfl) ?_
        refine ⟨_, rfl, _, _, _, _, _, rfl, hx, T.k_Layer, T.n_Layer_way, Lay_way, _, rfl, _, _, _, _, _, rfl, hy, T.k_Layer, T.n_Layer_way, Lay_way, rfl, _, rfl, ?_⟩
        rw [dV]
        by_cases c3 : x.way = y.way
        · refine ifT (decide_eq_true c3) ?_
          refine ⟨_, rfl, _, _, _, _, _, rfl, hx, T.k_Layer, T.n_Layer_much, Lay_much, _, rfl, _, _, _, _, _, rfl, hy, T.k_Layer, T.n_Layer_much, Lay_much, rfl, _, rfl, ?_⟩
          rw [dV]
          by_cases c4 : x.much = y.much
          · refine ifT (decide_eq_true c4) ?_
            refine ⟨_, rfl, _, _, _, _, _, rfl, hx, T.k_Layer, T.n_Layer_shown, Lay_shown, _, rfl, _, _, _, _, _, rfl, hy, T.k_Layer, T.n_Layer_shown, Lay_shown, rfl, ?_⟩
            rw [dB]
            have e : decide (x = y) = decide (x.shown = y.shown) := decide_eq_decide.mpr ⟨fun h => by rw [h], fun h => by cases x; cases y; simp_all⟩
            rw [e] at q; exact q
          · refine ifF (decide_eq_false c4) ?_
            rw [decide_eq_false (fun h => c4 (by rw [h]))] at q; exact q
        · refine ifF (decide_eq_false c3) ?_
          rw [decide_eq_false (fun h => c3 (by rw [h]))] at q; exact q
      · refine ifT (by rw [decide_eq_false c2]; rfl) ?_
        rw [decide_eq_false (fun h => c2 (by rw [h]))] at q; exact q
    · refine ifT (by rw [decide_eq_false c1]; rfl) (ifT rfl ?_)
      rw [decide_eq_false (fun h => c1 (by rw [h]))] at q; exact q
def RBl : Rel Bool := fun _ v b => v = .bl b
theorem RBl.mono : Mono RBl := fun _ _ _ _ _ h => h
theorem all_eq {α : Type} [DecidableEq α] : ∀ {xs ys : List α}, xs.length = ys.length → ∀ (x : α), (((List.range xs.length).map fun i => decide (xs.getD i x = ys.getD i x)).all id) = decide (xs = ys)
  | xs, ys, h, x => by
    by_cases c : xs = ys
    · subst c; simp
    · rw [decide_eq_false c]
      cases e : (((List.range xs.length).map fun i => decide (xs.getD i x = ys.getD i x)).all id) with
      | false => rfl
      | true =>
        exfalso; apply c
        rw [List.all_eq_true] at e
        apply List.ext_getElem?
        intro i
        by_cases hi : i < xs.length
        · have := e (decide (xs.getD i x = ys.getD i x)) (List.mem_map.mpr ⟨i, List.mem_range.mpr hi, rfl⟩)
          rw [get_getD hi x, get_getD (by omega) x, of_decide_eq_true this]
        · rw [List.getElem?_eq_none (by omega), List.getElem?_eq_none (by omega)]
def sp_same_layers (CL : Addr) : Sp := fun vs H Q _ => ∃ (F : Hp) (a b : Addr) (xs ys : List Ie13.Layer), vs = [.ref a, .ref b] ∧ Same F H ∧ Lays CL F a xs ∧ Lays CL F b ys ∧ xs.length ≤ 5 ∧
  ∀ H', Same H H' → Q (.bl (decide (xs = ys))) H'
def noLay : Ie13.Layer := ⟨0, 0, 0, false, []⟩
theorem ok_same_layers (T : Txt K mg C_Layer C_Document C_Editor) : Ok P w K mg base 2 "same_layers" ["some", "others"] (sp_same_layers C_Layer) := by
  have O_same_layer := ok_same_layer (P := P) (w := w) (base := base) T
  refine T.d_same_layers.ok sc_same_layers (fun vs H Q E h => ?_) (fun f cdv A outer s H vs Q E hr h => ⟨_, (pss_cons (ps_if (pt_cmpR op_ne (pe_callB (r := rLenK K) call_len_seq (by rfl) T.b_len PySem.boot_len (pa_cons (pv 0) pa_nil)) (pe_callB (r := rLenK K) call_len_seq (by rfl) T.b_len PySem.boot_len (pa_cons (pv 1) pa_nil)) (nomark _)) (pss_one (ps_ret pe_bl)) pss_nil)
      (pss_one (ps_ret (pe_callB (r := rAll K) (cr_all rfl) (by rfl) T.b_all (by decide +kernel) (pa_cons (pe_lc (g := (gTup K 2 (gCons (gName 2) (gCons (gName 3) gNil)))) (tt := tYes) (own := [("one", 2), ("other", 3)]) rfl sc_same_layers.nd (pi_zip (by rfl) T.b_zip (pa_cons (pv 0) (pa_cons (pv 1) pa_nil))) (blkOk_by (own := [("one", 2), ("other", 3)]) (N := ["some", "others", "one", "other"]) (sc := defScope s_same_layers) (by decide +kernel)) (fun _ _ _ _ _ => (pg_tup rfl (pgs_cons (pg_name (i := 2) sc_same_layers.nd rfl (Or.inl rfl)) (pgs_cons (pg_name (i := 3) sc_same_layers.nd rfl (Or.inl rfl)) pgs_nil)))) (fun _ _ _ _ _ => pts_nil) (fun _ _ _ _ _ => (pe_callO O_same_layer (hr.mono (by decide)) rfl (pa_cons (pv 2) (pa_cons (pv 3) pa_nil))))) pa_nil))))), ?_⟩)
  · obtain ⟨_, _, _, _, _, rfl, _⟩ := h; rfl
  · obtain ⟨F, a, b, xs, ys, rfl, hF, ⟨xv, hx1, hx2⟩, ⟨yv, hy1, hy2⟩, h5, q⟩ := h
    refine ⟨_, rfl, _, _, rfl, .inl (SqL.of (hF _ _ hx1)), _, rfl, _, _, rfl, .inl (SqL.of (hF _ _ hy1)), rfl, _, rfl, ?_⟩
    rw [dV, hx2.length, hy2.length]
    by_cases c : xs.length = ys.length
    · refine ifF (by rw [decide_eq_true c]; rfl) ?_
      simp only [cxK, Bool.false_eq_true, if_false, if_true, tYes, tChain, wipe, ↓reduceIte, tRet, tSeq, tAsg, tDrop, tIfS, tIf, tNext, gName, gTup, gCons, gNil, tFld, tLst, tTup, tTest, rEq_int, rNe_int, rIxL, rIxT, rSum, rAll, decide_eq_true_eq, List.cons.injEq, and_true, true_and, tTest, tC, tVar, tOp, rI, rI0, tCB, tCons, tNil, tAnd, tOr, tNot, tCallO, L2.start, List.length, List.map, List.replicate, List.cons_append, List.nil_append, Nat.sub_self, List.append_nil, List.set, V.int.injEq, V.ref.injEq, V.bl.injEq, Option.some.injEq, exists_eq_left', exists_eq_left, exists_and_left, List.getElem?_cons_zero, List.getElem?_cons_succ]
      refine tLc_of ⟨_, rfl, _, rfl, _, _, _, _, rfl, SqL.of (hF _ _ hx1), SqL.of (hF _ _ hy1), ?_⟩
      refine lcx_zip RBl.mono (fun _ => true) (fun i => decide (xs.getD i noLay = ys.getD i noLay)) hF (SqL.of (hF _ _ hx1)) (SqL.of (hF _ _ hy1)) hx2.length (by rw [hy2.length]; omega) (by omega) (fun x y => rfl) ?_ ?_
      · intro i F1 Ha x y hx hy e Kp Sk k1 k2
        obtain ⟨l, hl, r, rfl, hr⟩ := pd_getL hx2 hx
        obtain ⟨m, hm, t, rfl, ht⟩ := pd_getL hy2 hy
        refine ⟨_, rfl, _, rfl, F1, r, t, l, m, rfl, e.fh, hr.mono e.ff, ht.mono e.ff, k1 rfl _ F1 Ha (Ext.refl e.fh) ?_⟩
        show V.bl _ = V.bl _
        rw [List.getD_eq_getElem?_getD, hl, List.getD_eq_getElem?_getD, hm]; rfl
      · intro p F' H' e ⟨bv, hb1, hb2⟩
        rw [filter_yes] at hb2
        have eb := pd_map V.bl (fun a b h => h) hb2
        subst eb
        refine ⟨_, rfl, _, SqL.of (e.fh _ _ hb1), ?_⟩
        rw [all_eq c]; exact q H' e.hh
    · refine ifT (by rw [decide_eq_false c]; rfl) ?_
      have := q H (Same.refl _)
      rw [decide_eq_false (fun h => c (by rw [h]))] at this; exact this
/-- what is told of a document alone (its page and the next number aside) -/
def SameD (x y : Ie13.Doc) : Prop := x.ground = y.ground ∧ x.chosen = y.chosen ∧ x.at_ = y.at_ ∧ x.layers = y.layers
instance (x y : Ie13.Doc) : Decidable (SameD x y) := by unfold SameD; exact inferInstance
def sp_same_document (CL CD : Addr) : Sp := fun vs H Q _ => ∃ (F : Hp) (a b : Addr) (x y : Ie13.Doc), vs = [.ref a, .ref b] ∧ Same F H ∧ DocAt CL CD F a x ∧ DocAt CL CD F b y ∧ x.layers.length ≤ 5 ∧
  ∀ H', Same H H' → Q (.bl (decide (SameD x y))) H'
theorem ok_same_document (T : Txt K mg C_Layer C_Document C_Editor) : Ok P w K mg base 3 "same_document" ["one", "other"] (sp_same_document C_Layer C_Document) := by
  have O_same_layers := ok_same_layers (P := P) (w := w) (base := base) T
  refine T.d_same_document.ok sc_same_document (fun vs H Q E h => ?_) (fun f cdv A outer s H vs Q E hr h => ⟨_, (pss_cons (ps_if (PW.pt (pw_or (pt_cmpR (r := rNeD K) (op_neD hr.units) (pe_fld (pv 0) rfl) (pe_fld (pv 1) rfl) (nomark _)) (pw_or (pt_cmpR (r := rNeD K) (op_neD hr.units) (pe_fld (pv 0) rfl) (pe_fld (pv 1) rfl) (nomark _)) (pw_or1 (pt_cmpR op_ne (pe_fld (pv 0) rfl) (pe_fld (pv 1) rfl) (nomark _)))))) (pss_one (ps_ret pe_bl)) pss_nil)
      (pss_one (ps_ret (pe_callO O_same_layers (hr.mono (by decide)) rfl (pa_cons (pe_fld (pv 0) rfl) (pa_cons (pe_fld (pv 1) rfl) pa_nil)))))), ?_⟩)
  · obtain ⟨_, _, _, _, _, rfl, _⟩ := h; rfl
  · obtain ⟨F, a, b, x, y, rfl, hF, hx, hy, h5, q⟩ := h
    obtain ⟨dx, g, ls, ch, x1, x2, x3, x4⟩ := hx.ex
    obtain ⟨dy, g', ls', ch', y1, y2, y3, y4⟩ := hy.ex
    have hx := hF _ _ x1
    have hy := hF _ _ y1
    refine ⟨_, rfl, _, _, _, _, _, rfl, hx, T.k_Document, T.n_Document_ground, Doc_ground, _, rfl, _, _, _, _, _, rfl, hy, T.k_Document, T.n_Document_ground, Doc_ground, ?_⟩
    refine ne_ls PI' hF x2 y2 ⟨_, rfl, ?_⟩
    by_cases c1 : x.ground = y.ground
    · refine ifF (by rw [decide_eq_true c1]; rfl) ?_
      refine ⟨_, rfl, _, _, _, _, _, rfl, hx, T.k_Document, T.n_Document_chosen, Doc_chosen, _, rfl, _, _, _, _, _, rfl, hy, T.k_Document, T.n_Document_chosen, Doc_chosen, ?_⟩
      refine ne_ls PB' hF x4 y4 ⟨_, rfl, ?_⟩
      by_cases c2 : x.chosen = y.chosen
      · refine ifF (by rw [decide_eq_true c2]; rfl) ?_
        refine ⟨_, rfl, _, _, _, _, _, rfl, hx, T.k_Document, T.n_Document_worked, Doc_worked, _, rfl, _, _, _, _, _, rfl, hy, T.k_Document, T.n_Document_worked, Doc_worked, rfl, _, rfl, ?_⟩
        rw [dV]
        by_cases c3 : x.at_ = y.at_
        · refine ifF (by rw [decide_eq_true c3]; rfl) ?_
          refine ⟨_, rfl, _, _, _, _, _, rfl, hx, T.k_Document, T.n_Document_layers, Doc_layers, _, rfl, _, _, _, _, _, rfl, hy, T.k_Document, T.n_Document_layers, Doc_layers, ?_⟩
          refine ⟨F, ls, ls', x.layers, y.layers, rfl, hF, x3, y3, h5, fun H' e => ?_⟩
          have := q H' e
          have e2 : decide (SameD x y) = decide (x.layers = y.layers) := decide_eq_decide.mpr ⟨fun h => h.2.2.2, fun h => ⟨c1, c2, c3, h⟩⟩
          rw [e2] at this; exact this
        · refine ifT (by rw [decide_eq_false c3]; rfl) ?_
          have := q H (Same.refl _)
          rw [decide_eq_false (fun h => c3 h.2.2.1)] at this; exact this
      · refine ifT (by rw [decide_eq_false c2]; rfl) ?_
        have := q H (Same.refl _)
        rw [decide_eq_false (fun h => c2 h.2.1)] at this; exact this
    · refine ifT (by rw [decide_eq_false c1]; rfl) ?_
      have := q H (Same.refl _)
      rw [decide_eq_false (fun h => c1 h.1)] at this; exact this
end
end Lp
namespace Lp
open PySem PySem.Spec PyProof.Rows L2
theorem sum_ones : ∀ (l : List Nat), Ie13.sum (l.map fun _ => 1) = l.length
  | [] => rfl
  | x :: l => by rw [List.map_cons, sum_cons, sum_ones l, List.length_cons]; omega
theorem some_bne {α : Type} [DecidableEq α] (x y : α) : (some x != some y) = !decide (x = y) := by
  by_cases c : x = y
  · subst c; simp
  · simp [c]
section
variable {P : Program} {w : World} {K : PySem.W.Frag} {mg : Str → Option Value} {base : Heap} {C_Layer C_Document C_Editor : Addr}
def sp_differing : Sp := fun vs H Q _ => ∃ (F : Hp) (a b : Addr) (α : Type) (_ : DecidableEq α) (R : Rel α) (pd : α → PyData) (xs ys : List α), vs = [.ref a, .ref b] ∧ PDat R pd ∧ Same F H ∧ Ls R F a xs ∧ Ls R F b ys ∧ xs.length = ys.length ∧ xs.length ≤ 36 ∧
  ∀ H', Same H H' → Q (.int ((Ie13.differ xs ys : Nat) : Int)) H'
theorem ok_differing (T : Txt K mg C_Layer C_Document C_Editor) : Ok P w K mg base 1 "differing" ["some", "others"] sp_differing := by
  refine T.d_differing.ok sc_differing (fun vs H Q E h => ?_) (fun f cdv A outer s H vs Q E hr h => ⟨_, (pss_one (ps_ret (pe_callB (r := rSum K) (cr_sum rfl) (by rfl) T.b_sum (by decide +kernel) (pa_cons (pe_lc (g := (gTup K 2 (gCons (gName 2) (gCons (gName 3) gNil)))) (own := [("one", 2), ("other", 3)]) rfl sc_differing.nd (pi_zip (by rfl) T.b_zip (pa_cons (pv 0) (pa_cons (pv 1) pa_nil))) (blkOk_by (own := [("one", 2), ("other", 3)]) (N := ["some", "others", "one", "other"]) (sc := defScope s_differing) (by decide +kernel)) (fun _ _ _ _ _ => (pg_tup rfl (pgs_cons (pg_name (i := 2) sc_differing.nd rfl (Or.inl rfl)) (pgs_cons (pg_name (i := 3) sc_differing.nd rfl (Or.inl rfl)) pgs_nil)))) (fun _ _ _ _ _ => (pts_one (pt_cmpR (r := rNeD K) (op_neD hr.units) (pv 2) (pv 3) (nomark _)))) (fun _ _ _ _ _ => pe_int)) pa_nil)))), ?_⟩)
  · obtain ⟨_, _, _, _, _, _, _, _, _, rfl, _⟩ := h; rfl
  · obtain ⟨F, a, b, α, dec, R, pd, xs, ys, rfl, p, hF, ⟨xv, hx1, hx2⟩, ⟨yv, hy1, hy2⟩, hl, h36, q⟩ := h
    simp only [cxK, Bool.false_eq_true, if_false, if_true, tYes, tChain, wipe, ↓reduceIte, tRet, tSeq, tAsg, tDrop, tIfS, tIf, tNext, gName, gTup, gCons, gNil, tFld, tLst, tTup, tTest, rEq_int, rNe_int, rIxL, rIxT, rSum, rAll, decide_eq_true_eq, List.cons.injEq, and_true, true_and, tTest, tC, tVar, tOp, rI, rI0, tCB, tCons, tNil, tAnd, tOr, tNot, tCallO, L2.start, List.length, List.map, List.replicate, List.cons_append, List.nil_append, Nat.sub_self, List.append_nil, List.set, V.int.injEq, V.ref.injEq, V.bl.injEq, Option.some.injEq, exists_eq_left', exists_eq_left, exists_and_left, List.getElem?_cons_zero, List.getElem?_cons_succ]
    refine tLc_of ⟨_, rfl, _, rfl, _, _, _, _, rfl, SqL.of (hF _ _ hx1), SqL.of (hF _ _ hy1), ?_⟩
    refine lcx_zip RI.mono (fun i => xs[i]? != ys[i]?) (fun _ => 1) hF (SqL.of (hF _ _ hx1)) (SqL.of (hF _ _ hy1)) hx2.length (by rw [hy2.length]; omega) (by omega) (fun x y => rfl) ?_ ?_
    · intro i F1 Ha x y hx hy e Kp Sk k1 k2
      obtain ⟨l, hl, hr⟩ := pd_getL hx2 hx
      obtain ⟨m, hm, ht⟩ := pd_getL hy2 hy
      rw [hl, hm, some_bne] at k1 k2
      refine ⟨_, rfl, _, rfl, ne_it p (p.mono F Ha x l (e.ff.trans e.fh) hr) (p.mono F Ha y m (e.ff.trans e.fh) ht) ⟨_, rfl, ?_⟩⟩
      cases c : decide (l = m) with
      | true => rw [c] at k2; exact ifF rfl (k2 rfl F1 Ha (Ext.refl e.fh))
      | false => rw [c] at k1; exact ifT rfl (k1 rfl _ F1 Ha (Ext.refl e.fh) rfl)
    · intro p F' H' e ⟨bv, hb1, hb2⟩
      refine ⟨_, rfl, _, SqL.of (by rw [← ints_of hb2]; exact e.fh _ _ hb1), ?_⟩
      rw [sum_int, sum_ones]
      have := q H' e.hh
      unfold Ie13.differ at this
      rw [← hl, Nat.max_self] at this
      exact this
def sp_layer_numbered (CL : Addr) : Sp := fun vs H Q _ => ∃ (F : Hp) (a : Addr) (ls : List Ie13.Layer) (k : Nat), vs = [.ref a, .int k] ∧ Same F H ∧ Lays CL F a ls ∧
  (ls.find? (fun m => m.id == k) = none → Q .non H) ∧ (∀ m, ls.find? (fun m => m.id == k) = some m → ∀ r, LayAt CL F r m → Q (.ref r) H)
theorem ok_layer_numbered (T : Txt K mg C_Layer C_Document C_Editor) : Ok P w K mg base 1 "layer_numbered" ["layers", "number"] (sp_layer_numbered C_Layer) := by
  refine T.d_layer_numbered.ok sc_layer_numbered (fun vs H Q E h => ?_) (fun f cdv A outer s H vs Q E hr h => ⟨_, (pss_cons (ps_for PassesOwn.never rfl (pi_list (pv 0)) (pg_name (i := 2) sc_layer_numbered.nd rfl (Or.inl rfl)) (pss_one (ps_if (pt_cmpR op_eq (pe_fld (pv 2) rfl) (pv 1) (nomark _)) (pss_one (ps_ret (pv 2))) pss_nil)))
      (pss_one (ps_ret pe_non))), ?_⟩)
  · obtain ⟨_, _, _, _, rfl, _⟩ := h; rfl
  · obtain ⟨F, a, ls, k, rfl, hF, ⟨lv, hl1, hl2⟩, q1, q2⟩ := h
    refine ⟨_, rfl, _, rfl, ⟨_, SqL.of (hF _ _ hl1)⟩, ?_⟩
    refine for_list (K := K) (xs := lv) (fun i σ H' => ∃ o, σ = [some (.ref a), some (.int k), o] ∧ H' = H ∧ ∀ m ∈ ls.take i, (m.id == k) = false) ?_ ?_ ?_ ?_
    · exact ⟨none, rfl, rfl, fun m hm => by cases hm⟩
    · rintro i σ H' _ ⟨o, rfl, rfl, _⟩
      exact SqL.of (hF _ _ hl1)
    · rintro i x σ H' hx ⟨o, rfl, rfl, hn⟩
      obtain ⟨l, hl, r, rfl, hr⟩ := pd_getL hl2 hx
      have hr0 := hr
      obtain ⟨dx, c, g1, g2⟩ := hr
      refine ⟨_, rfl, _, _, _, _, _, rfl, hF _ _ g1, T.k_Layer, T.n_Layer_number, Lay_number, _, rfl, rfl, _, rfl, ?_⟩
      rw [dV]
      by_cases c : l.id = k
      · refine ifT (decide_eq_true c) ⟨_, rfl, ?_⟩
        refine q2 l ?_ r hr0
        have hlt := (List.getElem?_eq_some_iff.mp hl)
        rw [← List.take_append_drop i ls, List.find?_append]
        have z : (ls.take i).find? (fun m => m.id == k) = none := List.find?_eq_none.mpr fun m hm => by rw [hn m hm]; decide
        rw [z]
        have z2 : ls.drop i = l :: ls.drop (i + 1) := by
          rw [List.drop_eq_getElem_cons hlt.1, hlt.2]
        rw [z2]
        simp [c]
      · refine ifF (decide_eq_false c) ?_
        refine ⟨some (.ref r), rfl, rfl, fun m hm => ?_⟩
        rw [List.take_add_one, hl] at hm
        rcases List.mem_append.mp hm with hm | hm
        · exact hn m hm
        · have : m = l := List.mem_singleton.mp hm
          subst this
          exact beq_false_of_ne c
    · rintro σ H' ⟨o, rfl, rfl, hn⟩
      refine q1 (List.find?_eq_none.mpr fun m hm => ?_)
      rw [hl2.length, List.take_length] at hn
      rw [hn m hm]; decide
def w1 (bs : List Ie13.Layer) (l : Ie13.Layer) : Nat := match bs.find? fun m => m.id == l.id with
  | none => l.dots.length
  | some m => Ie13.differ l.dots m.dots
def w2 (as : List Ie13.Layer) (m : Ie13.Layer) : Nat := if as.any fun l => l.id == m.id then 0 else m.dots.length
theorem sum_append : ∀ (l r : List Nat), Ie13.sum (l ++ r) = Ie13.sum l + Ie13.sum r
  | [], r => by rw [List.nil_append]; show _ = 0 + _; omega
  | x :: l, r => by rw [List.cons_append, sum_cons, sum_cons, sum_append l r]; omega
theorem find_any {as : List Ie13.Layer} {k : Nat} : (as.any fun l => l.id == k) = (as.find? fun l => l.id == k).isSome := by
  rw [Bool.eq_iff_iff, List.find?_isSome, List.any_eq_true]
def sp_layers_size (CL CD : Addr) : Sp := fun vs H Q _ => ∃ (F : Hp) (a b : Addr) (x y : Ie13.Doc), vs = [.ref a, .ref b] ∧ Same F H ∧ DocAt CL CD F a x ∧ DocAt CL CD F b y ∧ (∀ l ∈ x.layers, Lok x.n l) ∧ (∀ l ∈ y.layers, Lok x.n l) ∧ x.n ≤ 36 ∧
  ∀ H', Same H H' → Q (.int ((Ie13.sum (x.layers.map (w1 y.layers)) + Ie13.sum (y.layers.map (w2 x.layers)) : Nat) : Int)) H'
theorem ok_layers_size (T : Txt K mg C_Layer C_Document C_Editor) : Ok P w K mg base 2 "layers_size" ["before", "after"] (sp_layers_size C_Layer C_Document) := by
  have O_layer_numbered := ok_layer_numbered (P := P) (w := w) (base := base) T
  have O_differing := ok_differing (P := P) (w := w) (base := base) T
  refine T.d_layers_size.ok sc_layers_size (fun vs H Q E h => ?_) (fun f cdv A outer s H vs Q E hr h => ⟨_, (pss_cons (ps_set (i := 2) sc_layers_size.nd rfl (Or.inl rfl) pe_int)
      (pss_cons (ps_for PassesOwn.never rfl (pi_list (pe_fld (pv 0) rfl)) (pg_name (i := 3) sc_layers_size.nd rfl (Or.inl rfl)) (pss_cons (ps_set (i := 4) sc_layers_size.nd rfl (Or.inl rfl) (pe_callO O_layer_numbered (hr.mono (by decide)) rfl (pa_cons (pe_fld (pv 1) rfl) (pa_cons (pe_fld (pv 3) rfl) pa_nil))))
      (pss_one (ps_aug (i := 2) sc_layers_size.nd rfl (Or.inl rfl) (pe_ifExp (pt_cmpR op_isN (pv 4) pe_non (nomark _)) (pe_callB (r := rLenK K) call_len_seq (by rfl) T.b_len PySem.boot_len (pa_cons (pe_fld (pv 3) rfl) pa_nil)) (pe_callO O_differing (hr.mono (by decide)) rfl (pa_cons (pe_fld (pv 3) rfl) (pa_cons (pe_fld (pv 4) rfl) pa_nil)))) ip_add))))
      (pss_cons (ps_for PassesOwn.never rfl (pi_list (pe_fld (pv 1) rfl)) (pg_name (i := 3) sc_layers_size.nd rfl (Or.inl rfl)) (pss_one (ps_if (pt_cmpR op_isN (pe_callO O_layer_numbered (hr.mono (by decide)) rfl (pa_cons (pe_fld (pv 0) rfl) (pa_cons (pe_fld (pv 3) rfl) pa_nil))) pe_non (nomark _)) (pss_one (ps_aug (i := 2) sc_layers_size.nd rfl (Or.inl rfl) (pe_callB (r := rLenK K) call_len_seq (by rfl) T.b_len PySem.boot_len (pa_cons (pe_fld (pv 3) rfl) pa_nil)) ip_add)) pss_nil)))
      (pss_one (ps_ret (pv 2)))))), ?_⟩)
  · obtain ⟨_, _, _, _, _, rfl, _⟩ := h; rfl
  · obtain ⟨F, a, b, x, y, rfl, hF, hx, hy, lx, ly, h36, q⟩ := h
    obtain ⟨dx, g, ls, ch, x1, x2, ⟨xv, x3, x3'⟩, x4⟩ := hx.ex
    obtain ⟨dy, g', ls', ch', y1, y2, ⟨yv, y3, y3'⟩, y4⟩ := hy.ex
    have hx := hF _ _ x1
    have hy := hF _ _ y1
    refine ⟨_, rfl, _, _, _, _, _, rfl, hx, T.k_Document, T.n_Document_layers, Doc_layers, _, rfl, ⟨_, SqL.of (hF _ _ x3)⟩, ?_⟩
    refine for_list (K := K) (xs := xv) (fun i σ H' => ∃ o1 o2, σ = [some (.ref a), some (.ref b), some (.int ((Ie13.sum ((x.layers.take i).map (w1 y.layers)) : Nat) : Int)), o1, o2] ∧ Same H H') ?_ ?_ ?_ ?_
    · exact ⟨none, none, rfl, Same.refl _⟩
    · rintro i σ H' _ ⟨o1, o2, rfl, e⟩
      exact SqL.of (e _ _ (hF _ _ x3))
    · rintro i v σ H' hv ⟨o1, o2, rfl, e⟩
      obtain ⟨l, hl, r, rfl, hr⟩ := pd_getL x3' hv
      have hr0 := hr
      obtain ⟨dxl, c, g1, ⟨cv, g2, g3⟩⟩ := hr
      have hrH := e _ _ (hF _ _ g1)
      have hlm := List.mem_of_getElem? hl
      have fin : ∀ (H2 : Hp) (o1 : Option V), Same H H2 → ∃ o1' o2', [some (V.ref a), some (V.ref b), some (V.int ((((Ie13.sum ((x.layers.take i).map (w1 y.layers)) : Nat) : Int)) + ((w1 y.layers l : Nat) : Int))), some (V.ref r), o1] = [some (.ref a), some (.ref b), some (.int ((Ie13.sum ((x.layers.take (i + 1)).map (w1 y.layers)) : Nat) : Int)), o1', o2'] ∧ Same H H2 := fun H2 o1 e2 => by
        refine ⟨some (.ref r), o1, ?_, e2⟩
        rw [List.take_add_one, hl, List.map_append, sum_append]
        show _ = [_, _, some (V.int ((Ie13.sum (List.map (w1 y.layers) (List.take i x.layers)) + Ie13.sum [w1 y.layers l] : Nat) : Int)), _, _]
        have : Ie13.sum [w1 y.layers l] = w1 y.layers l := by rw [sum_cons]; rfl
        rw [this, Int.natCast_add]
      refine ⟨_, rfl, _, _, _, _, _, rfl, e _ _ hy, T.k_Document, T.n_Document_layers, Doc_layers, _, rfl, _, _, _, _, _, rfl, hrH, T.k_Layer, T.n_Layer_number, Lay_number, ?_⟩
      refine ⟨F, ls', y.layers, l.id, rfl, hF.trans e, ⟨yv, y3, y3'⟩, fun hn => ?_, fun m hm t ht => ?_⟩
      · refine ⟨_, rfl, _, rfl, rfl, _, rfl, ifT rfl ?_⟩
        refine ⟨_, rfl, _, _, _, _, _, rfl, hrH, T.k_Layer, T.n_Layer_cells, Lay_cells, _, _, rfl, .inl (SqL.of (e _ _ (hF _ _ g2))), _, _, rfl, rfl, ?_⟩
        have ew : w1 y.layers l = cv.length := by unfold w1; rw [hn, g3.length]
        have := fin H' (some .non) e
        rw [ew] at this; exact this
      · refine ⟨_, rfl, _, rfl, rfl, _, rfl, ifF rfl ?_⟩
        obtain ⟨dxm, cm, m1, m2⟩ := ht
        refine ⟨_, rfl, _, _, _, _, _, rfl, hrH, T.k_Layer, T.n_Layer_cells, Lay_cells, _, rfl, _, _, _, _, _, rfl, e _ _ (hF _ _ m1), T.k_Layer, T.n_Layer_cells, Lay_cells, ?_⟩
        have hml := ly m (List.mem_of_find?_eq_some hm)
        have hll := lx l hlm
        refine ⟨F, c, cm, _, _, RD, pdD, l.dots, m.dots, rfl, PD', hF.trans e, ⟨cv, g2, g3⟩, m2, by rw [hll.len, hml.len], by rw [hll.len]; exact h36, fun H2 e2 => ?_⟩
        have ew : w1 y.layers l = Ie13.differ l.dots m.dots := by unfold w1; rw [hm]
        have := fin H2 (some (.ref t)) (e.trans e2)
        rw [ew] at this
        exact ⟨_, _, rfl, rfl, this⟩
    · rintro σ H' ⟨o1, o2, rfl, e⟩
      rw [x3'.length, List.take_length]
      refine ⟨_, rfl, _, _, _, _, _, rfl, e _ _ hy, T.k_Document, T.n_Document_layers, Doc_layers, _, rfl, ⟨_, SqL.of (e _ _ (hF _ _ y3))⟩, ?_⟩
      refine for_list (K := K) (xs := yv) (fun i σ H' => ∃ o1 o2, σ = [some (.ref a), some (.ref b), some (.int ((Ie13.sum (x.layers.map (w1 y.layers)) + Ie13.sum ((y.layers.take i).map (w2 x.layers)) : Nat) : Int)), o1, o2] ∧ Same H H') ?_ ?_ ?_ ?_
      · exact ⟨o1, o2, rfl, e⟩
      · rintro i σ H' _ ⟨o1, o2, rfl, e⟩
        exact SqL.of (e _ _ (hF _ _ y3))
      · rintro i v σ H' hv ⟨o1, o2, rfl, e⟩
        obtain ⟨l, hl, r, rfl, hr⟩ := pd_getL y3' hv
        obtain ⟨dxl, c, g1, ⟨cv, g2, g3⟩⟩ := hr
        have hrH := e _ _ (hF _ _ g1)
        have es : Ie13.sum ((y.layers.take (i + 1)).map (w2 x.layers)) = Ie13.sum ((y.layers.take i).map (w2 x.layers)) + w2 x.layers l := by
          rw [List.take_add_one, hl, List.map_append, sum_append]
          show _ + Ie13.sum [w2 x.layers l] = _
          rw [sum_cons]; rfl
        refine ⟨_, rfl, _, _, _, _, _, rfl, e _ _ hx, T.k_Document, T.n_Document_layers, Doc_layers, _, rfl, _, _, _, _, _, rfl, hrH, T.k_Layer, T.n_Layer_number, Lay_number, ?_⟩
        refine ⟨F, ls, x.layers, l.id, rfl, hF.trans e, ⟨xv, x3, x3'⟩, fun hn => ?_, fun m hm t ht => ?_⟩
        · refine ⟨rfl, _, rfl, ifT rfl ?_⟩
          refine ⟨_, rfl, _, rfl, _, _, _, _, _, rfl, hrH, T.k_Layer, T.n_Layer_cells, Lay_cells, _, _, rfl, .inl (SqL.of (e _ _ (hF _ _ g2))), _, _, rfl, rfl, ?_⟩
          refine ⟨some (.ref r), o2, ?_, e⟩
          have ew : w2 x.layers l = cv.length := by unfold w2; rw [find_any, hn, g3.length]; rfl
          rw [es, ew, ← Nat.add_assoc, Int.natCast_add (_ + _)]; rfl
        · refine ⟨rfl, _, rfl, ifF rfl ?_⟩
          refine ⟨some (.ref r), o2, ?_, e⟩
          have ew : w2 x.layers l = 0 := by unfold w2; rw [find_any, hm]; rfl
          rw [es, ew]; rfl
      · rintro σ H' ⟨o1, o2, rfl, e⟩
        rw [y3'.length, List.take_length]
        exact ⟨_, rfl, q H' e⟩
def sp_step_size (CL CD : Addr) : Sp := fun vs H Q _ => ∃ (F : Hp) (a b : Addr) (x y : Ie13.Doc), vs = [.ref a, .ref b] ∧ Same F H ∧ DocAt CL CD F a x ∧ DocAt CL CD F b y ∧ Wf x ∧ Wf y ∧ x.n = y.n ∧
  ∀ H', Same H H' → Q (.int ((Ie13.weight x y : Nat) : Int)) H'
theorem ok_step_size (T : Txt K mg C_Layer C_Document C_Editor) : Ok P w K mg base 3 "step_size" ["before", "after"] (sp_step_size C_Layer C_Document) := by
  have O_layers_size := ok_layers_size (P := P) (w := w) (base := base) T
  have O_differing := ok_differing (P := P) (w := w) (base := base) T
  refine T.d_step_size.ok sc_step_size (fun vs H Q E h => ?_) (fun f cdv A outer s H vs Q E hr h => ⟨_, (pss_cons (ps_set (i := 2) sc_step_size.nd rfl (Or.inl rfl) (pe_callO O_differing (hr.mono (by decide)) rfl (pa_cons (pe_fld (pv 0) rfl) (pa_cons (pe_fld (pv 1) rfl) pa_nil))))
      (pss_cons (ps_set (i := 3) sc_step_size.nd rfl (Or.inl rfl) (pe_callO O_differing (hr.mono (by decide)) rfl (pa_cons (pe_fld (pv 0) rfl) (pa_cons (pe_fld (pv 1) rfl) pa_nil))))
      (pss_one (ps_ret (pe_op op_add (pe_op op_add (pe_op op_add (pv 2) (pv 3)) (pe_callO O_layers_size (hr.mono (by decide)) rfl (pa_cons (pv 0) (pa_cons (pv 1) pa_nil)))) pe_int))))), ?_⟩)
  · obtain ⟨_, _, _, _, _, rfl, _⟩ := h; rfl
  · obtain ⟨F, a, b, x, y, rfl, hF, hx, hy, wx, wy, hn, q⟩ := h
    obtain ⟨dx, g, ls, ch, x1, x2, x3, x4⟩ := hx.ex
    obtain ⟨dy, g', ls', ch', y1, y2, y3, y4⟩ := hy.ex
    have kx := hF _ _ x1
    have ky := hF _ _ y1
    have h36 := wx.n36
    refine ⟨_, rfl, _, _, _, _, _, rfl, kx, T.k_Document, T.n_Document_ground, Doc_ground, _, rfl, _, _, _, _, _, rfl, ky, T.k_Document, T.n_Document_ground, Doc_ground, ?_⟩
    refine ⟨F, g, g', _, _, RI, pdI, x.ground, y.ground, rfl, PI', hF, x2, y2, by rw [wx.glen, wy.glen, hn], by rw [wx.glen]; exact h36, fun H1 e1 => ?_⟩
    refine ⟨_, rfl, _, _, _, _, _, rfl, e1 _ _ kx, T.k_Document, T.n_Document_chosen, Doc_chosen, _, rfl, _, _, _, _, _, rfl, e1 _ _ ky, T.k_Document, T.n_Document_chosen, Doc_chosen, ?_⟩
    refine ⟨F, ch, ch', _, _, RB, pdB, x.chosen, y.chosen, rfl, PB', hF.trans e1, x4, y4, by rw [wx.clen, wy.clen, hn], by rw [wx.clen]; exact h36, fun H2 e2 => ?_⟩
    refine ⟨_, rfl, _, rfl, _, _, rfl, rfl, _, rfl, _, rfl, ?_⟩
    refine ⟨F, a, b, x, y, rfl, (hF.trans e1).trans e2, hx, hy, wx.lays, by rw [hn]; exact wy.lays, h36, fun H3 e3 => ?_⟩
    refine ⟨_, _, rfl, rfl, _, _, rfl, rfl, ?_⟩
    have z := q H3 ((e1.trans e2).trans e3)
    have ew : Ie13.weight x y = Ie13.differ x.ground y.ground + Ie13.differ x.chosen y.chosen + (Ie13.sum (x.layers.map (w1 y.layers)) + Ie13.sum (y.layers.map (w2 x.layers))) + 1 := by
      unfold Ie13.weight
      rw [← Nat.add_assoc]; rfl
    rw [ew] at z
    exact z
end
end Lp
namespace Lp
open PySem PySem.Spec PyProof.Rows L2
section
variable {P : Program} {w : World} {K : PySem.W.Frag} {mg : Str → Option Value} {base : Heap} {C_Layer C_Document C_Editor : Addr}
def sp_shifted : Sp := fun vs H Q _ => ∃ (F : Hp) (ca la : Addr) (cs : List Bool) (ds : List Ie13.Dot) (w h x y : Nat), vs = [.ref la, .ref ca, .int w, .int h, .int x, .int y] ∧ Same F H ∧ Bits F ca cs ∧ Cells F la ds ∧ cs.length = w * h ∧ ds.length = w * h ∧ 1 ≤ w ∧ w ≤ 6 ∧ 1 ≤ h ∧ h ≤ 6 ∧
  ∀ F' H' p, Ext F H F' H' → Cells F' p ((List.range (w * h)).map fun i => if cs.getD i false = true then ds.getD ((i / w + h - y % h) % h * w + (i % w + w - x % w) % w) Ie13.none_ else ds.getD i Ie13.none_) → Q (.ref p) H'
theorem ok_shifted (T : Txt K mg C_Layer C_Document C_Editor) : Ok P w K mg base 2 "shifted" ["cells", "chosen", "width", "height", "x", "y"] sp_shifted := by
  have O_only_chosen := ok_only_chosen (P := P) (w := w) (base := base) T
  refine T.d_shifted.ok sc_shifted (fun vs H Q E h => ?_) (fun f cdv A outer s H vs Q E hr h => ⟨_, (pss_cons (ps_set (i := 6) sc_shifted.nd rfl (Or.inl rfl) (pe_lst pa_nil))
      (pss_cons (ps_for PassesOwn.never rfl (pi_range1 rfl T.b_range (pa_cons (pe_callB (r := rLenK K) call_len_seq (by rfl) T.b_len PySem.boot_len (pa_cons (pv 0) pa_nil)) pa_nil)) (pg_name (i := 7) sc_shifted.nd rfl (Or.inl rfl)) (pss_cons (ps_set (i := 8) sc_shifted.nd rfl (Or.inl rfl) (pe_op op_mod (pe_op op_sub (pe_op op_mod (pv 7) (pv 2)) (pv 4)) (pv 2)))
      (pss_cons (ps_set (i := 9) sc_shifted.nd rfl (Or.inl rfl) (pe_op op_mod (pe_op op_sub (pe_op op_fdiv (pv 7) (pv 2)) (pv 5)) (pv 3)))
      (pss_one (ps_expr (pe_bm PySem.F.plainAttrs_list PySem.F.slot_list_append PySem.F.type_list_append mt_append (pv 6) (pa_cons (pe_ix (r := rIxL K) ix_list (pv 0) (pe_op op_add (pe_op op_mul (pv 9) (pv 2)) (pv 8)) (fun _ _ => rfl)) pa_nil)))))))
      (pss_one (ps_ret (pe_callO O_only_chosen (hr.mono (by decide)) rfl (pa_cons (pv 1) (pa_cons (pv 0) (pa_cons (pv 6) pa_nil)))))))), ?_⟩)
  · obtain ⟨_, _, _, _, _, _, _, _, _, rfl, _⟩ := h; rfl
  · obtain ⟨F, ca, la, cs, ds, w, h, x, y, rfl, hF, hc, hd, hcn, hdn, hw1, hw6, hh1, hh6, q⟩ := h
    have e36 : w * h ≤ 36 := Nat.le_trans (Nat.mul_le_mul hw6 hh6) (by decide)
    obtain ⟨dv, hd1, hdl⟩ := hd.len
    refine ⟨by decide, fun D hD => ?_⟩
    have hFD : F D = none := Same.free hF hD
    have E0' := (Ext.refl hF).newM (o := .lst []) hD
    dsimp only [cxK, gName, L2.start, List.length, List.map, List.replicate, List.cons_append, List.nil_append, Nat.sub_self, List.append_nil, List.set]
    refine ⟨_, rfl, _, _, rfl, .inl (SqL.of (E0'.hh _ _ (hF _ _ hd1))), _, rfl, by omega, by omega, ?_⟩
    have en : ((dv.length : Int)).toNat = w * h := by rw [Int.toNat_natCast]; omega
    rw [en]
    refine for_range (fun i σ H' => ∃ F1 vs o7 o8 o9, σ = [some (.ref la), some (.ref ca), some (.int w), some (.int h), some (.int x), some (.int y), some (.ref D), o7, o8, o9] ∧ Ext F H F1 H' ∧ F1 D = none ∧ H' D = some (.lst vs) ∧
      Paired (RD F1) vs ((List.range i).map fun i => ds.getD ((i / w + h - y % h) % h * w + (i % w + w - x % w) % w) Ie13.none_)) ?_ ?_ ?_
    · exact ⟨F, [], none, none, none, rfl, E0', hFD, upd_same, .nil⟩
    · rintro i σ H' hi ⟨F1, vs, o7, o8, o9, rfl, e, f1, hv, hp⟩
      rw [Int.zero_add]
      have e1 : (i : Int) % (w : Int) = ((i % w : Nat) : Int) := rfl
      have e2 : (i : Int) / (w : Int) = ((i / w : Nat) : Int) := rfl
      have hlt1 : (i / w + h - y % h) % h < h := Nat.mod_lt _ hh1
      have hlt2 : (i % w + w - x % w) % w < w := Nat.mod_lt _ hw1
      generalize hA : (i / w + h - y % h) % h = a1 at hlt1
      generalize hB : (i % w + w - x % w) % w = b1 at hlt2
      have hk : a1 * w + b1 < w * h := by
        have : a1 * w + w ≤ h * w := by
          rw [← Nat.succ_mul]; exact Nat.mul_le_mul_right _ hlt1
        rw [Nat.mul_comm w h]; omega
      obtain ⟨dv, d, hd1, hd2, hd3⟩ := (hd.mono RD.mono e.ff).at (i := a1 * w + b1) (by omega) Ie13.none_
      simp only [cxK, Bool.false_eq_true, if_false, if_true, tYes, tChain, wipe, ↓reduceIte, tRet, tSeq, tAsg, tDrop, tIfS, tIf, tNext, gName, gTup, gCons, gNil, tFld, tLst, tTup, tTest, rEq_int, rNe_int, rIxL, rIxT, rSum, rAll, decide_eq_true_eq, List.cons.injEq, and_true, true_and, tTest, tC, tVar, tOp, rI, rI0, tCB, tCons, tNil, tAnd, tOr, tNot, tCallO, L2.start, List.length, List.map, List.replicate, List.cons_append, List.nil_append, Nat.sub_self, List.append_nil, List.set, V.int.injEq, V.ref.injEq, V.bl.injEq, Option.some.injEq, exists_eq_left', exists_eq_left, exists_and_left, List.getElem?_cons_zero, List.getElem?_cons_succ]
      rw [e1, e2, shift_int hw1, shift_int hh1, hA, hB]
      have ek : (a1 : Int) * (w : Int) + (b1 : Int) = ((a1 * w + b1 : Nat) : Int) := by push_cast; rfl
      refine ⟨by omega, by omega, ⟨by omega, by omega⟩, by omega, ?_⟩
      have hl := hp.length
      rw [List.length_map, List.length_range] at hl
      refine ⟨_, rfl, .inl ⟨rfl, _, SqL.of hv⟩, _, rfl, _, rfl, _, rfl, _, _, rfl, rfl, .inl ⟨by omega, by omega⟩, _, rfl, _, _, rfl, rfl, _, _, _, _, rfl, rfl, SqL.of (e.fh _ _ hd1), (by rw [ek]; exact hd2), _, _, _, rfl, rfl, hv, small1000 (by omega), ?_⟩
      refine ⟨F1, _, _, _, _, ⟨rfl, rfl, rfl⟩, e.mut hD f1, f1, upd_same, ?_⟩
      rw [List.range_succ, List.map_append]
      refine pd_app hp (.cons ?_ .nil)
      show RD F1 d (ds.getD ((i / w + h - y % h) % h * w + (i % w + w - x % w) % w) Ie13.none_)
      rw [hA, hB]; exact hd3
    · rintro σ H' ⟨F1, vs, o7, o8, o9, rfl, e, f1, hv, hp⟩
      refine ⟨_, rfl, _, rfl, _, rfl, ?_⟩
      have e1 := e.pub hD f1 hv
      refine ⟨_, ca, la, D, cs, ds, _, w * h, rfl, e1.fh, hc.mono RB.mono e1.ff, hd.mono RD.mono e1.ff, ⟨_, upd_same, pd_mono (fun v x => RD.mono F1 _ v x (same_upd f1)) hp⟩, hcn, hdn, by simp, e36, fun F2 H2 p e2 h2 => q F2 H2 p (e1.trans e2) ?_⟩
      have e3 : (List.range (w * h)).map (fun i => if cs.getD i false = true then ((List.range (w * h)).map fun i => ds.getD ((i / w + h - y % h) % h * w + (i % w + w - x % w) % w) Ie13.none_).getD i Ie13.none_ else ds.getD i Ie13.none_) = (List.range (w * h)).map (fun i => if cs.getD i false = true then ds.getD ((i / w + h - y % h) % h * w + (i % w + w - x % w) % w) Ie13.none_ else ds.getD i Ie13.none_) := by
        apply List.map_congr_left
        intro i hi
        rw [getD_range _ (List.mem_range.mp hi)]
      rw [← e3]; exact h2
/-- pieces: where, and what -/
def RP : Rel Piece := fun F v p => ∃ r q, v = .ref r ∧ F r = some (.tup [.int (p.1 : Int), .int (p.2.1 : Int), .ref q]) ∧ F q = some (.tup [.int (p.2.2.tone : Int), .int (p.2.2.much : Int)])
theorem RP.mono : Mono RP := fun _ _ _ _ e ⟨r, q, h1, h2, h3⟩ => ⟨r, q, h1, e _ _ h2, e _ _ h3⟩
def sp_taken_out : Sp := fun vs H Q _ => ∃ (F : Hp) (ca la : Addr) (cs : List Bool) (ds : List Ie13.Dot) (n w : Nat), vs = [.ref la, .ref ca, .int w] ∧ Same F H ∧ Bits F ca cs ∧ Cells F la ds ∧ cs.length = n ∧ ds.length = n ∧ n ≤ 36 ∧ 1 ≤ w ∧ w ≤ 6 ∧
  ∀ F' H' p, Ext F H F' H' → Ls RP F' p (((List.range n).filter fun i => cs.getD i false).map fun i => (i % w, i / w, ds.getD i Ie13.none_)) → Q (.ref p) H'
theorem ok_taken_out (T : Txt K mg C_Layer C_Document C_Editor) : Ok P w K mg base 1 "taken_out" ["cells", "chosen", "width"] sp_taken_out := by
  refine T.d_taken_out.ok sc_taken_out (fun vs H Q E h => ?_) (fun f cdv A outer s H vs Q E hr h => ⟨_, (pss_one (ps_ret (pe_lc (g := (gName 3)) (own := [("cell", 3)]) rfl sc_taken_out.nd (pi_range1 rfl T.b_range (pa_cons (pe_callB (r := rLenK K) call_len_seq (by rfl) T.b_len PySem.boot_len (pa_cons (pv 0) pa_nil)) pa_nil)) (blkOk_by (own := [("cell", 3)]) (N := ["cells", "chosen", "width", "cell"]) (sc := defScope s_taken_out) (by decide +kernel)) (fun _ _ _ _ _ => (pg_name (i := 3) sc_taken_out.nd rfl (Or.inl rfl))) (fun _ _ _ _ _ => (pts_one (pt_cmpR op_eq (pe_ix (r := rIxL K) ix_list (pv 1) (pv 3) (fun _ _ => rfl)) pe_int (nomark _)))) (fun _ _ _ _ _ => (pe_tup (pa_cons (pe_op op_mod (pv 3) (pv 2)) (pa_cons (pe_op op_fdiv (pv 3) (pv 2)) (pa_cons (pe_ix (r := rIxL K) ix_list (pv 0) (pv 3) (fun _ _ => rfl)) pa_nil)))))))), ?_⟩)
  · obtain ⟨_, _, _, _, _, _, _, rfl, _⟩ := h; rfl
  · obtain ⟨F, ca, la, cs, ds, n, w, rfl, hF, hc, hd, hcn, hdn, h36, hw1, hw6, q⟩ := h
    obtain ⟨dv, hd1, hdl⟩ := hd.len
    show iRng1 _ _ H (fun J H1 => LcTail J _ _ _ _ _ H1 Q)
    refine ⟨_, rfl, _, _, rfl, .inl (SqL.of (hF _ _ hd1)), _, rfl, by omega, by omega, ?_⟩
    have en : ((dv.length : Int)).toNat = n := by rw [Int.toNat_natCast]; omega
    rw [en]
    refine lcx_range RP.mono (fun i => cs.getD i false) (fun i => (i % w, i / w, ds.getD i Ie13.none_)) hF (by omega) (fun _ => rfl) ?_ ?_
    · intro i F1 Ha hi e Kp Sk k1 k2
      obtain ⟨cv, c, hc1, hc2, hc3⟩ := (hc.mono RB.mono e.ff).at (i := i) (by omega) false
      obtain ⟨dv, d, hd1, hd2, r, rfl, hd3⟩ := (hd.mono RD.mono e.ff).at (i := i) (by omega) Ie13.none_
      cases hc3
      rw [Int.zero_add]
      refine ⟨_, rfl, _, rfl, _, _, _, _, rfl, rfl, SqL.of (e.fh _ _ hc1), hc2, rfl, _, rfl, ?_⟩
      cases hb : cs.getD i false with
      | true =>
        refine ifT rfl ?_
        refine ⟨_, rfl, _, rfl, _, _, rfl, rfl, (by show (0 : Int) < _; omega), _, rfl, _, rfl, _, _, rfl, rfl, ⟨by omega, by omega⟩, _, rfl, _, rfl, _, _, _, _, rfl, rfl, SqL.of (e.fh _ _ hd1), hd2, (by show 3 ≤ sizeLine; decide), fun p hp => ?_⟩
        refine k1 hb _ _ _ ((Ext.refl e.fh).new hp) ⟨p, r, rfl, upd_same, ?_⟩
        exact upd_at hd3 (Same.free e.fh hp)
      | false => exact ifF rfl (k2 hb F1 Ha (Ext.refl e.fh))
    · intro p F' H' e h
      exact q F' H' p e h
def sp_pasted : Sp := fun vs H Q _ => ∃ (F : Hp) (la pa : Addr) (ds : List Ie13.Dot) (ps : List Piece) (w h x y : Nat), vs = [.ref la, .int w, .int h, .ref pa, .int x, .int y] ∧ Same F H ∧ Cells F la ds ∧ Ls RP F pa ps ∧ ds.length = w * h ∧ 1 ≤ w ∧ w ≤ 6 ∧ 1 ≤ h ∧ h ≤ 6 ∧
  ∀ F' H' p, Ext F H F' H' → Cells F' p (pst w h x y ds ps) → Q (.ref p) H'
theorem ok_pasted (T : Txt K mg C_Layer C_Document C_Editor) : Ok P w K mg base 1 "pasted" ["cells", "width", "height", "pieces", "x", "y"] sp_pasted := by
  refine T.d_pasted.ok sc_pasted (fun vs H Q E h => ?_) (fun f cdv A outer s H vs Q E hr h => ⟨_, (pss_cons (ps_set (i := 6) sc_pasted.nd rfl (Or.inl rfl) (pe_callTy call_list_of (by rfl) T.b_list (by decide +kernel) (pa_cons (pv 0) pa_nil)))
      (pss_cons (ps_for PassesOwn.never rfl (pi_list (pv 3)) (pg_name (i := 7) sc_pasted.nd rfl (Or.inl rfl)) (pss_cons (ps_set (i := 8) sc_pasted.nd rfl (Or.inl rfl) (pe_op op_add (pv 4) (pe_ix (r := rIxT K) ix_tup (pv 7) pe_int (fun _ _ => rfl))))
      (pss_cons (ps_set (i := 9) sc_pasted.nd rfl (Or.inl rfl) (pe_op op_add (pv 5) (pe_ix (r := rIxT K) ix_tup (pv 7) pe_int (fun _ _ => rfl))))
      (pss_one (ps_if (PW.pt (pw_and (pt_cmpR op_lt (pv 8) (pv 1) (nomark _)) (pw_and1 (pt_cmpR op_lt (pv 9) (pv 2) (nomark _))))) (pss_one (ps_asg (pe_ix (r := rIxT K) ix_tup (pv 7) pe_int (fun _ _ => rfl)) (pg_sub (pv 6) (pe_op op_add (pe_op op_mul (pv 9) (pv 1)) (pv 8)) set_list))) pss_nil)))))
      (pss_one (ps_ret (pv 6))))), ?_⟩)
  · obtain ⟨_, _, _, _, _, _, _, _, _, rfl, _⟩ := h; rfl
  · obtain ⟨F, la, pa, ds, ps, w, h, x, y, rfl, hF, hd, ⟨pv, hp1, hp2⟩, hdn, hw1, hw6, hh1, hh6, q⟩ := h
    have e36 : w * h ≤ 36 := Nat.le_trans (Nat.mul_le_mul hw6 hh6) (by decide)
    obtain ⟨dv, hd1, hd2⟩ := hd
    refine ⟨_, rfl, _, _, rfl, .inl (SqL.of (hF _ _ hd1)), fun D hD => ?_⟩
    have hFD : F D = none := Same.free hF hD
    have E1 := (Ext.refl hF).newM (o := .lst dv) hD
    dsimp only [cxK, gName, L2.start, List.length, List.map, List.replicate, List.cons_append, List.nil_append, Nat.sub_self, List.append_nil, List.set]
    refine ⟨_, rfl, _, rfl, ⟨_, SqL.of (E1.hh _ _ (hF _ _ hp1))⟩, ?_⟩
    refine for_list (K := K) (xs := pv) (fun i σ H' => ∃ vs o7 o8 o9, σ = [some (.ref la), some (.int w), some (.int h), some (.ref pa), some (.int x), some (.int y), some (.ref D), o7, o8, o9] ∧ Ext F H F H' ∧ H' D = some (.lst vs) ∧
      Paired (RD F) vs (pst w h x y ds (ps.take i))) ?_ ?_ ?_ ?_
    · exact ⟨dv, none, none, none, rfl, E1, upd_same, hd2⟩
    · rintro i σ H' _ ⟨vs, o7, o8, o9, rfl, e, hv, hp⟩
      exact SqL.of (e.hh _ _ (hF _ _ hp1))
    · rintro i v σ H' hx ⟨vs, o7, o8, o9, rfl, e, hv, hp⟩
      obtain ⟨p, hpi, r, qd, rfl, hr, hq⟩ := pd_getL hp2 hx
      have hrH := e.fh _ _ hr
      have et : pst w h x y ds (ps.take (i + 1)) = pst1 w h x y (pst w h x y ds (ps.take i)) p := by
        rw [List.take_add_one, hpi]
        unfold pst
        rw [List.foldl_append]; rfl
      have hln := hp.length
      rw [pst_len, hdn] at hln
      rw [et]
      have hit : atI [V.int (p.1 : Int), V.int (p.2.1 : Int), V.ref qd] (0 : Int) = some (V.int (p.1 : Int)) := rfl
      have hit1 : atI [V.int (p.1 : Int), V.int (p.2.1 : Int), V.ref qd] (1 : Int) = some (V.int (p.2.1 : Int)) := rfl
      have hit2 : atI [V.int (p.1 : Int), V.int (p.2.1 : Int), V.ref qd] (2 : Int) = some (V.ref qd) := rfl
      refine ⟨_, rfl, _, rfl, _, _, _, _, rfl, rfl, SqT.of hrH, hit, _, _, rfl, rfl, ?_⟩
      refine ⟨_, rfl, _, rfl, _, _, _, _, rfl, rfl, SqT.of hrH, hit1, _, _, rfl, rfl, ?_⟩
      have fin : ∀ vs', Paired (RD F) vs' (pst1 w h x y (pst w h x y ds (ps.take i)) p) → ∀ H2, Ext F H F H2 → H2 D = some (.lst vs') → ∃ vs o7 o8 o9, [some (V.ref la), some (V.int (w : Int)), some (V.int (h : Int)), some (V.ref pa), some (V.int (x : Int)), some (V.int (y : Int)), some (V.ref D), some (V.ref r), some (V.int ((x : Int) + (p.1 : Int))), some (V.int ((y : Int) + (p.2.1 : Int)))] = [some (.ref la), some (.int w), some (.int h), some (.ref pa), some (.int x), some (.int y), some (.ref D), o7, o8, o9] ∧ Ext F H F H2 ∧ H2 D = some (.lst vs) ∧
          Paired (RD F) vs (pst1 w h x y (pst w h x y ds (ps.take i)) p) := fun vs' hp' H2 e2 h2 => ⟨vs', _, _, _, rfl, e2, h2, hp'⟩
      refine ⟨_, rfl, _, rfl, _, _, rfl, rfl, _, rfl, ?_⟩
      by_cases c1 : x + p.1 < w
      · refine ifT (decide_eq_true (by omega)) ?_
        refine ⟨_, rfl, _, rfl, _, _, rfl, rfl, _, rfl, ?_⟩
        by_cases c2 : y + p.2.1 < h
        · refine ifT (decide_eq_true (by omega)) ?_
          have ek : ((y : Int) + (p.2.1 : Int)) * (w : Int) + ((x : Int) + (p.1 : Int)) = (((y + p.2.1) * w + (x + p.1) : Nat) : Int) := by push_cast; rfl
          have hk : (y + p.2.1) * w + (x + p.1) < w * h := by
            have : (y + p.2.1) * w + w ≤ h * w := by
              rw [← Nat.succ_mul]; exact Nat.mul_le_mul_right _ c2
            rw [Nat.mul_comm w h]; omega
          refine ⟨_, rfl, _, _, _, _, rfl, rfl, SqT.of hrH, hit2, ?_⟩
          refine ⟨_, rfl, _, rfl, _, rfl, _, _, rfl, rfl, .inl ⟨by omega, by omega⟩, _, rfl, _, _, rfl, rfl, ?_⟩
          refine ⟨_, _, _, (y + p.2.1) * w + (x + p.1), rfl, rfl, hv, (by rw [ek]; exact ixN_nat (by omega)), ?_⟩
          refine fin _ ?_ _ (e.mut hD hFD) upd_same
          unfold pst1
          rw [if_pos ⟨c1, c2⟩]
          exact pd_set ⟨qd, rfl, hq⟩ _ hp
        · refine ifF (decide_eq_false (by omega)) (fin vs ?_ _ e hv)
          unfold pst1
          rw [if_neg (fun z => c2 z.2)]; exact hp
      · refine ifF (decide_eq_false (by omega)) (ifF rfl (fin vs ?_ _ e hv))
        unfold pst1
        rw [if_neg (fun z => c1 z.1)]; exact hp
    · rintro σ H' ⟨vs, o7, o8, o9, rfl, e, hv, hp⟩
      rw [hp2.length, List.take_length] at hp
      exact ⟨_, rfl, q _ H' D (e.pub hD hFD hv) ⟨_, upd_same, pd_mono (fun v x => RD.mono F _ v x (same_upd hFD)) hp⟩⟩
def sp_with_lowest_pressed (CL CD : Addr) : Sp := fun vs H Q _ => ∃ (F : Hp) (a ga : Addr) (d : Ie13.Doc) (g : List Nat) (l : Ie13.Layer) (r : List Ie13.Layer), vs = [.ref a, .ref ga] ∧ Same F H ∧ DocAt CL CD F a d ∧ Tones F ga g ∧ d.layers = l :: r ∧ d.layers.length ≤ 5 ∧
  ∀ F' H' p, Ext F H F' H' → DocAt CL CD F' p { d with ground := g, layers := r, at_ := d.at_ - 1 } → Q (.ref p) H'
theorem ok_with_lowest_pressed (T : Txt K mg C_Layer C_Document C_Editor) : Ok P w K mg base 3 "with_lowest_pressed" ["document", "ground"] (sp_with_lowest_pressed C_Layer C_Document) := by
  have O_Document___init__ := ok_Document_init (P := P) (w := w) (base := base) T
  refine T.d_with_lowest_pressed.ok sc_with_lowest_pressed (fun vs H Q E h => ?_) (fun f cdv A outer s H vs Q E hr h => ⟨_, (pss_one (ps_ret (pe_makeO O_Document___init__ (hr.mono (by decide)) rfl (pa_cons (pe_fld (pv 0) rfl) (pa_cons (pe_fld (pv 0) rfl) (pa_cons (pv 1) (pa_cons (pe_slice sl_list (pe_fld (pv 0) rfl) (po_some pe_int) po_none) (pa_cons (pe_callB (call_max2 rfl) (by rfl) T.b_max (by decide +kernel) (pa_cons (pe_op op_sub (pe_fld (pv 0) rfl) pe_int) (pa_cons pe_int pa_nil))) (pa_cons (pe_fld (pv 0) rfl) (pa_cons (pe_fld (pv 0) rfl) pa_nil)))))))))), ?_⟩)
  · obtain ⟨_, _, _, _, _, _, _, rfl, _⟩ := h; rfl
  · obtain ⟨F, a, ga, d, g', l, r, rfl, hF, hd, hg, hl, h5', q⟩ := h
    obtain ⟨dx, g, ls, ch, h1, h2, ⟨lv, h3, h4⟩, h5⟩ := hd.ex
    have hH := hF _ _ h1
    refine ⟨_, rfl, _, _, _, _, _, rfl, hH, T.k_Document, T.n_Document_width, Doc_width, ?_⟩
    refine ⟨_, rfl, _, _, _, _, _, rfl, hH, T.k_Document, T.n_Document_height, Doc_height, ?_⟩
    refine ⟨_, rfl, ?_⟩
    refine ⟨_, rfl, _, _, _, _, _, rfl, hH, T.k_Document, T.n_Document_layers, Doc_layers, ?_⟩
    refine ⟨_, rfl, _, _, rfl, SqL.of (hF _ _ h3), fun p1 hp1 => ?_⟩
    have ec : cutV lv (some (1 : Int)) none = lv.drop 1 := cut_from lv 1
    rw [ec]
    have E1 := (Ext.refl hF).new (o := .lst (lv.drop 1)) hp1
    have hH1 := E1.hh _ _ hH
    refine ⟨_, rfl, _, _, _, _, _, rfl, hH1, T.k_Document, T.n_Document_worked, Doc_worked, _, _, rfl, rfl, _, _, rfl, ?_⟩
    refine ⟨_, rfl, _, _, _, _, _, rfl, hH1, T.k_Document, T.n_Document_chosen, Doc_chosen, ?_⟩
    refine ⟨_, rfl, _, _, _, _, _, rfl, hH1, T.k_Document, T.n_Document_given, Doc_given, ?_⟩
    intro x dx' hx hdx ne
    refine ⟨x, dx', _, _, _, _, _, _, _, rfl, upd_same, rfl, ?_⟩
    rw [upd_upd]
    have em : (if (0 : Int) > (d.at_ : Int) - 1 then (0 : Int) else (d.at_ : Int) - 1) = ((d.at_ - 1 : Nat) : Int) := by split <;> omega
    rw [em]
    have m := mkDoc (CL := C_Layer) (CD := C_Document) (d := { d with ground := g', layers := r, at_ := d.at_ - 1 }) (g := ga) (ls := p1) (ch := ch) E1 hx hdx ne (hg.mono RI.mono E1.ff) ⟨_, upd_same, ?_⟩ (h5.mono RB.mono E1.ff)
    · exact q _ _ x m.1 m.2
    · have z := pd_drop 1 h4
      rw [hl] at z
      exact pd_mono (fun v x => RL.mono F _ v x E1.ff) z
/-- numbers given back -/
def vZ (l : List Int) : List V := l.map V.int
def Ans (F : Hp) (p : Addr) (l : List Int) : Prop := F p = some (.lst (vZ l))
theorem Tones.ans {F : Hp} {p : Addr} {l : List Nat} (h : Tones F p l) : Ans F p (Ie13.ints l) := by
  obtain ⟨vs, h1, h2⟩ := h
  unfold Ans vZ Ie13.ints
  rw [h1, ints_of h2]
def dotN (l : List Ie13.Dot) : List Nat := l.flatMap fun x => [x.tone, x.much]
def sp_dot_numbers (CL : Addr) : Sp := fun vs H Q _ => ∃ (F : Hp) (a : Addr) (l : Ie13.Layer), vs = [.ref a] ∧ Same F H ∧ LayAt CL F a l ∧ l.dots.length ≤ 36 ∧
  ∀ F' H' p, Ext F H F' H' → Tones F' p (dotN l.dots) → Q (.ref p) H'
theorem ok_dot_numbers (T : Txt K mg C_Layer C_Document C_Editor) : Ok P w K mg base 1 "dot_numbers" ["layer"] (sp_dot_numbers C_Layer) := by
  refine T.d_dot_numbers.ok sc_dot_numbers (fun vs H Q E h => ?_) (fun f cdv A outer s H vs Q E hr h => ⟨_, (pss_cons (ps_set (i := 1) sc_dot_numbers.nd rfl (Or.inl rfl) (pe_lst pa_nil))
      (pss_cons (ps_for PassesOwn.never rfl (pi_list (pe_fld (pv 0) rfl)) (pg_name (i := 2) sc_dot_numbers.nd rfl (Or.inl rfl)) (pss_cons (ps_expr (pe_bm PySem.F.plainAttrs_list PySem.F.slot_list_append PySem.F.type_list_append mt_append (pv 1) (pa_cons (pe_ix (r := rIxT K) ix_tup (pv 2) pe_int (fun _ _ => rfl)) pa_nil)))
      (pss_one (ps_expr (pe_bm PySem.F.plainAttrs_list PySem.F.slot_list_append PySem.F.type_list_append mt_append (pv 1) (pa_cons (pe_ix (r := rIxT K) ix_tup (pv 2) pe_int (fun _ _ => rfl)) pa_nil))))))
      (pss_one (ps_ret (pv 1))))), ?_⟩)
  · obtain ⟨_, _, _, rfl, _⟩ := h; rfl
  · obtain ⟨F, a, l, rfl, hF, ⟨dx, c, g1, ⟨cv, g2, g3⟩⟩, h36, q⟩ := h
    refine ⟨by decide, fun D hD => ?_⟩
    have hFD : F D = none := Same.free hF hD
    have E1 := (Ext.refl hF).newM (o := .lst []) hD
    dsimp only [cxK, gName, L2.start, List.length, List.map, List.replicate, List.cons_append, List.nil_append, Nat.sub_self, List.append_nil, List.set]
    refine ⟨_, rfl, _, _, _, _, _, rfl, E1.hh _ _ (hF _ _ g1), T.k_Layer, T.n_Layer_cells, Lay_cells, _, rfl, ⟨_, SqL.of (E1.hh _ _ (hF _ _ g2))⟩, ?_⟩
    refine for_list (K := K) (xs := cv) (fun i σ H' => ∃ o, σ = [some (.ref a), some (.ref D), o] ∧ Ext F H F H' ∧ H' D = some (.lst (vI (dotN (l.dots.take i))))) ?_ ?_ ?_ ?_
    · exact ⟨none, rfl, E1, upd_same⟩
    · rintro i σ H' _ ⟨o, rfl, e, hv⟩
      exact SqL.of (e.hh _ _ (hF _ _ g2))
    · rintro i v σ H' hx ⟨o, rfl, e, hv⟩
      obtain ⟨d, hdi, r, rfl, hr⟩ := pd_getL g3 hx
      have hln : (dotN (l.dots.take i)).length ≤ 72 := by
        have z : ∀ k : List Ie13.Dot, (dotN k).length = 2 * k.length := fun k => by
          induction k with
          | nil => rfl
          | cons x k ih => unfold dotN at ih ⊢; rw [List.flatMap_cons, List.length_append, ih, List.length_cons]; simp only [List.length_cons, List.length_nil]; omega
        rw [z, List.length_take]; omega
      have hsz : (1000 : Nat) < sizeLine := by decide
      have et : dotN (l.dots.take (i + 1)) = dotN (l.dots.take i) ++ [d.tone] ++ [d.much] := by
        rw [List.take_add_one, hdi]; unfold dotN; rw [List.flatMap_append, List.append_assoc]; rfl
      have ev : ∀ (k : List Nat) (z : Nat), vI k ++ [V.int (z : Int)] = vI (k ++ [z]) := fun k z => by unfold vI; rw [List.map_append]; rfl
      have e1 := e.mut (o := .lst (vI (dotN (l.dots.take i) ++ [d.tone]))) hD hFD
      refine ⟨_, rfl, .inl ⟨rfl, _, SqL.of hv⟩, _, rfl, _, _, _, _, rfl, rfl, SqT.of (e.fh _ _ hr), rfl, _, _, _, rfl, rfl, hv, (by unfold vI; rw [List.length_map]; omega), ?_⟩
      rw [ev]
      refine ⟨_, rfl, .inl ⟨rfl, _, SqL.of upd_same⟩, _, rfl, _, _, _, _, rfl, rfl, SqT.of (e1.fh _ _ hr), rfl, _, _, _, rfl, rfl, upd_same, (by unfold vI; rw [List.length_map, List.length_append]; simp only [List.length_singleton]; omega), ?_⟩
      rw [ev, upd_upd, et]
      exact ⟨_, rfl, e.mut hD hFD, upd_same⟩
    · rintro σ H' ⟨o, rfl, e, hv⟩
      rw [g3.length, List.take_length] at hv
      exact ⟨_, rfl, q _ H' D (e.pub hD hFD hv) ⟨_, upd_same, vI_pd _ _⟩⟩
def layN (l : Ie13.Layer) : List Nat := [l.id, l.way, l.much, l.shown.toNat, (l.dots.filter fun x => decide (0 < x.much)).length]
theorem filter_range {α : Type} (l : List α) (p : α → Bool) (x : α) : (((List.range l.length).filter fun i => p (l.getD i x)).map fun i => l.getD i x) = l.filter p := by
  have h := range_getD (l := l) rfl x
  conv => rhs; rw [← h]
  rw [List.filter_map]; rfl
def sp_layer_numbers (CL : Addr) : Sp := fun vs H Q _ => ∃ (F : Hp) (a : Addr) (l : Ie13.Layer), vs = [.ref a] ∧ Same F H ∧ LayAt CL F a l ∧ l.dots.length ≤ 36 ∧
  ∀ F' H' p, Ext F H F' H' → Tones F' p (layN l) → Q (.ref p) H'
theorem ok_layer_numbers (T : Txt K mg C_Layer C_Document C_Editor) : Ok P w K mg base 1 "layer_numbers" ["layer"] (sp_layer_numbers C_Layer) := by
  refine T.d_layer_numbers.ok sc_layer_numbers (fun vs H Q E h => ?_) (fun f cdv A outer s H vs Q E hr h => ⟨_, (pss_cons (ps_set (i := 1) sc_layer_numbers.nd rfl (Or.inl rfl) (pe_callB (r := rLenK K) call_len_seq (by rfl) T.b_len PySem.boot_len (pa_cons (pe_lc (g := (gName 2)) (own := [("cell", 2)]) rfl sc_layer_numbers.nd (pi_list (pe_fld (pv 0) rfl)) (blkOk_by (own := [("cell", 2)]) (N := ["layer", "having", "cell"]) (sc := defScope s_layer_numbers) (by decide +kernel)) (fun _ _ _ _ _ => (pg_name (i := 2) sc_layer_numbers.nd rfl (Or.inl rfl))) (fun _ _ _ _ _ => (pts_one (pt_cmpR op_gt (pe_ix (r := rIxT K) ix_tup (pv 2) pe_int (fun _ _ => rfl)) pe_int (nomark _)))) (fun _ _ _ _ _ => (pv 2))) pa_nil)))
      (pss_one (ps_ret (pe_lst (pa_cons (pe_fld (pv 0) rfl) (pa_cons (pe_fld (pv 0) rfl) (pa_cons (pe_fld (pv 0) rfl) (pa_cons (pe_fld (pv 0) rfl) (pa_cons (pv 1) pa_nil))))))))), ?_⟩)
  · obtain ⟨_, _, _, rfl, _⟩ := h; rfl
  · obtain ⟨F, a, l, rfl, hF, ⟨dx, c, g1, ⟨cv, g2, g3⟩⟩, h36, q⟩ := h
    have hH := hF _ _ g1
    simp only [cxK, Bool.false_eq_true, if_false, if_true, tYes, tChain, wipe, ↓reduceIte, tRet, tSeq, tAsg, tDrop, tIfS, tIf, tNext, gName, gTup, gCons, gNil, tFld, tLst, tTup, tTest, rEq_int, rNe_int, rIxL, rIxT, rSum, rAll, decide_eq_true_eq, List.cons.injEq, and_true, true_and, tTest, tC, tVar, tOp, rI, rI0, tCB, tCons, tNil, tAnd, tOr, tNot, tCallO, L2.start, List.length, List.map, List.replicate, List.cons_append, List.nil_append, Nat.sub_self, List.append_nil, List.set, V.int.injEq, V.ref.injEq, V.bl.injEq, Option.some.injEq, exists_eq_left', exists_eq_left, exists_and_left, List.getElem?_cons_zero, List.getElem?_cons_succ]
    refine tLc_of ⟨_, rfl, _, _, _, _, _, rfl, hH, T.k_Layer, T.n_Layer_cells, Lay_cells, _, rfl, ⟨_, SqL.of (hF _ _ g2)⟩, ?_⟩
    refine lcx_list (R := RD) (K := K) (a := c) RD.mono (fun i => decide (0 < (l.dots.getD i Ie13.none_).much)) (fun i => l.dots.getD i Ie13.none_) hF (SqL.of (hF _ _ g2)) g3.length (by omega) (fun _ => rfl) ?_ ?_
    · intro i F1 Ha x hx e Kp Sk k1 k2
      obtain ⟨d, hdi, r, rfl, hr⟩ := pd_getL g3 hx
      have hrH := e.fh _ _ (e.ff _ _ hr)
      have eg : l.dots.getD i Ie13.none_ = d := by rw [List.getD_eq_getElem?_getD, hdi]; rfl
      rw [eg] at k1 k2
      refine ⟨_, rfl, _, _, _, _, rfl, rfl, SqT.of hrH, rfl, _, _, rfl, rfl, _, rfl, ?_⟩
      by_cases cc : 0 < d.much
      · exact ifT (decide_eq_true (by omega)) ⟨_, rfl, k1 (decide_eq_true cc) _ F1 Ha (Ext.refl e.fh) ⟨r, rfl, e.ff _ _ hr⟩⟩
      · exact ifF (decide_eq_false (by omega)) (k2 (decide_eq_false cc) F1 Ha (Ext.refl e.fh))
    · intro p F' H' e ⟨bv, hb1, hb2⟩
      rw [filter_range l.dots (fun d => decide (0 < d.much))] at hb2
      refine ⟨_, _, rfl, .inl (SqL.of (e.fh _ _ hb1)), ?_⟩
      have hH' := e.hh _ _ hH
      refine ⟨_, _, _, hH', T.k_Layer, T.n_Layer_number, _, Lay_number, ?_⟩
      refine ⟨_, _, _, hH', T.k_Layer, T.n_Layer_way, _, Lay_way, ?_⟩
      refine ⟨_, _, _, hH', T.k_Layer, T.n_Layer_much, _, Lay_much, ?_⟩
      refine ⟨_, _, _, hH', T.k_Layer, T.n_Layer_shown, _, Lay_shown, (by show 5 ≤ sizeLine; decide), fun p2 hp2 => ?_⟩
      refine q _ _ p2 (e.new hp2) ⟨_, upd_same, ?_⟩
      refine .cons rfl (.cons rfl (.cons rfl (.cons ?_ (.cons ?_ .nil))))
      · show V.int (bI l.shown) = V.int _
        cases l.shown <;> rfl
      · show V.int _ = V.int _
        rw [hb2.length]
end
end Lp
namespace Lp
open PySem PySem.Spec PyProof.Rows L2
/-! ### the editor: what may change -/
def RS (CL CD : Addr) : Rel (Ie13.Doc × Nat) := fun F v x => ∃ r a, v = .ref r ∧ F r = some (.tup [.int (x.2 : Int), .ref a]) ∧ DocAt CL CD F a x.1
theorem RS.mono {CL CD : Addr} : Mono (RS CL CD) := fun _ _ _ _ e ⟨r, a, h1, h2, h3⟩ => ⟨r, a, h1, e _ _ h2, h3.mono e⟩
def ClipAt (F : Hp) (c : V) (w : Nat) (cl : Ie13.Clip) : Prop := (cl = [] ∧ c = .non) ∨ (cl ≠ [] ∧ ∃ a, c = .ref a ∧ Ls RP F a (pcs w cl))
theorem ClipAt.mono {F F' : Hp} {c : V} {w : Nat} {cl : Ie13.Clip} (e : Same F F') (h : ClipAt F c w cl) : ClipAt F' c w cl := by
  rcases h with h | ⟨h1, a, h2, h3⟩
  · exact .inl h
  · exact .inr ⟨h1, a, h2, h3.mono RP.mono e⟩
def EdF (d D U : Addr) (room : Nat) (c : V) : List (Str × V) := [("document", .ref d), ("room", .int (room : Int)), ("done", .ref D), ("undone", .ref U), ("cut_out", c)]
section
variable {d D U d' D' U' : Addr} {room room' : Nat} {c c' : V}
theorem EdF_len : (EdF d D U room c).length < 1000 := by
  show 5 < 1000
  decide
theorem Ed_document : (EdF d D U room c).lookup ("document" : Str) = some (.ref d) := lk0
theorem Ed_room : (EdF d D U room c).lookup ("room" : Str) = some (.int (room : Int)) := (lkS (by decide +kernel)).trans lk0
theorem Ed_done : (EdF d D U room c).lookup ("done" : Str) = some (.ref D) := (lkS (by decide +kernel)).trans ((lkS (by decide +kernel)).trans lk0)
theorem Ed_undone : (EdF d D U room c).lookup ("undone" : Str) = some (.ref U) := (lkS (by decide +kernel)).trans ((lkS (by decide +kernel)).trans ((lkS (by decide +kernel)).trans lk0))
theorem Ed_cut_out : (EdF d D U room c).lookup ("cut_out" : Str) = some c := (lkS (by decide +kernel)).trans ((lkS (by decide +kernel)).trans ((lkS (by decide +kernel)).trans ((lkS (by decide +kernel)).trans lk0)))
theorem Ed_no {m : Str} (h1 : (m == ("document" : Str)) = false) (h2 : (m == ("room" : Str)) = false) (h3 : (m == ("done" : Str)) = false) (h4 : (m == ("undone" : Str)) = false) (h5 : (m == ("cut_out" : Str)) = false) : (EdF d D U room c).lookup m = none :=
  (lkS h1).trans ((lkS h2).trans ((lkS h3).trans ((lkS h4).trans ((lkS h5).trans rfl))))
theorem pu_document : putF "document" (.ref d') (EdF d D U room c) = EdF d' D U room c := pt0
theorem pu_room : putF "room" (.int (room' : Int)) (EdF d D U room c) = EdF d D U room' c := (ptS (by decide +kernel)).trans (congrArg _ pt0)
theorem pu_done : putF "done" (.ref D') (EdF d D U room c) = EdF d D' U room c := (ptS (by decide +kernel)).trans (congrArg _ ((ptS (by decide +kernel)).trans (congrArg _ pt0)))
theorem pu_undone : putF "undone" (.ref U') (EdF d D U room c) = EdF d D U' room c := (ptS (by decide +kernel)).trans (congrArg _ ((ptS (by decide +kernel)).trans (congrArg _ ((ptS (by decide +kernel)).trans (congrArg _ pt0)))))
theorem pu_cut_out : putF "cut_out" c' (EdF d D U room c) = EdF d D U room c' := (ptS (by decide +kernel)).trans (congrArg _ ((ptS (by decide +kernel)).trans (congrArg _ ((ptS (by decide +kernel)).trans (congrArg _ ((ptS (by decide +kernel)).trans (congrArg _ pt0)))))))
end
theorem putF_len (f : Str) (v : V) : ∀ fs : List (Str × V), (putF f v fs).length ≤ fs.length + 1
  | [] => Nat.le_refl _
  | (g, x) :: r => by
    by_cases h : g = f
    · rw [show putF f v ((g, x) :: r) = (g, v) :: r from if_pos h]; simp
    · rw [ptS h, List.length_cons, List.length_cons]
      have := putF_len f v r
      omega
structure EdR (CL CD CE : Addr) (F H Z : Hp) (e dx d D U : Addr) (c : V) (s : Ie13.St) : Prop where
  he : H e = some (.ins CE dx (EdF d D U s.room c))
  hd : DocAt CL CD F d s.doc
  hD : ∃ dv, H D = some (.lst dv) ∧ Paired (RS CL CD F) dv s.done.reverse
  hU : ∃ uv, H U = some (.lst uv) ∧ Paired (RS CL CD F) uv s.undone.reverse
  hc : ClipAt F c s.doc.w s.clip
  fH : Same F H
  zH : Same Z H
  fe : F e = none
  fD : F D = none
  fU : F U = none
  ze : Z e = none
  zD : Z D = none
  zU : Z U = none
  nDU : D ≠ U
def EdAt (CL CD CE : Addr) (F H Z : Hp) (e : Addr) (s : Ie13.St) : Prop := ∃ dx d D U c, EdR CL CD CE F H Z e dx d D U c s
structure Fr (F H F' H' : Hp) : Prop where
  ff : Same F F'
  fr : ∀ b, F b = none → H b ≠ none → F' b = none
  nn : ∀ b, H b ≠ none → H' b ≠ none
theorem Fr.refl {F H : Hp} : Fr F H F H := ⟨Same.refl _, fun _ h _ => h, fun _ h => h⟩
theorem Fr.trans {F0 H0 F1 H1 F2 H2 : Hp} (a : Fr F0 H0 F1 H1) (b : Fr F1 H1 F2 H2) : Fr F0 H0 F2 H2 :=
  ⟨a.ff.trans b.ff, fun c h n => b.fr c (a.fr c h n) (a.nn c n), fun c n => b.nn c (a.nn c n)⟩
theorem Ext.frame {F H F' H' : Hp} (e : Ext F H F' H') : Fr F H F' H' := ⟨e.ff, e.fr, fun _ h => Same.nn e.hh h⟩
theorem Fr.upd {F H F' H' : Hp} {p : Addr} {o : HO} (e : Fr F H F' H') : Fr F H F' (upd H' p o) := ⟨e.ff, e.fr, fun b h => by
  by_cases c : b = p
  · subst c; rw [upd_same]; simp
  · rw [upd_ne c]; exact e.nn b h⟩
theorem Ext.same {F H H' : Hp} (h : Same F H) (e : Same H H') : Ext F H F H' := ⟨Same.refl _, h.trans e, e, fun _ h _ => h⟩
section
variable {CL CD CE : Addr} {F H Z F' H' : Hp} {e dx d D U : Addr} {c : V} {s : Ie13.St}
theorem EdR.ext (h : EdR CL CD CE F H Z e dx d D U c s) (x : Ext F H F' H') : EdR CL CD CE F' H' Z e dx d D U c s := by
  obtain ⟨dv, d1, d2⟩ := h.hD
  obtain ⟨uv, u1, u2⟩ := h.hU
  exact ⟨x.hh _ _ h.he, h.hd.mono x.ff, ⟨dv, x.hh _ _ d1, pd_mono (fun v y => RS.mono F F' v y x.ff) d2⟩, ⟨uv, x.hh _ _ u1, pd_mono (fun v y => RS.mono F F' v y x.ff) u2⟩, h.hc.mono x.ff, x.fh, h.zH.trans x.hh,
    x.fr e h.fe (by rw [h.he]; simp), x.fr D h.fD (by rw [d1]; simp), x.fr U h.fU (by rw [u1]; simp), h.ze, h.zD, h.zU, h.nDU⟩
theorem EdAt.ext (h : EdAt CL CD CE F H Z e s) (x : Ext F H F' H') : EdAt CL CD CE F' H' Z e s := by
  obtain ⟨dx, d, D, U, c, h⟩ := h
  exact ⟨dx, d, D, U, c, h.ext x⟩
theorem EdR.neD (h : EdR CL CD CE F H Z e dx d D U c s) : D ≠ e := fun z => by
  obtain ⟨dv, d1, d2⟩ := h.hD
  have := h.he
  rw [← z, d1] at this; cases this
theorem EdR.neU (h : EdR CL CD CE F H Z e dx d D U c s) : U ≠ e := fun z => by
  obtain ⟨dv, d1, d2⟩ := h.hU
  have := h.he
  rw [← z, d1] at this; cases this
theorem same_mut {p : Addr} {o : HO} (h : Same F H) (f : F p = none) : Same F (upd H p o) := fun b u q => by
  rw [upd_ne (ne_of_none q f)]; exact h b u q
/-- another document, another cut out -/
theorem EdR.setDoc (h : EdR CL CD CE F H Z e dx d D U c s) {d' : Addr} {x : Ie13.Doc} (hd : DocAt CL CD F d' x) (hw : x.w = s.doc.w) : EdR CL CD CE F (upd H e (.ins CE dx (EdF d' D U s.room c))) Z e dx d' D U c { s with doc := x } := by
  obtain ⟨dv, d1, d2⟩ := h.hD
  obtain ⟨uv, u1, u2⟩ := h.hU
  exact ⟨upd_same, hd, ⟨dv, by rw [upd_ne h.neD]; exact d1, d2⟩, ⟨uv, by rw [upd_ne h.neU]; exact u1, u2⟩, by rw [show ({ s with doc := x } : Ie13.St).doc.w = s.doc.w from hw]; exact h.hc, same_mut h.fH h.fe, same_mut h.zH h.ze, h.fe, h.fD, h.fU, h.ze, h.zD, h.zU, h.nDU⟩
theorem EdR.setClip (h : EdR CL CD CE F H Z e dx d D U c s) {c' : V} {cl : Ie13.Clip} (hc : ClipAt F c' s.doc.w cl) : EdR CL CD CE F (upd H e (.ins CE dx (EdF d D U s.room c'))) Z e dx d D U c' { s with clip := cl } := by
  obtain ⟨dv, d1, d2⟩ := h.hD
  obtain ⟨uv, u1, u2⟩ := h.hU
  exact ⟨upd_same, h.hd, ⟨dv, by rw [upd_ne h.neD]; exact d1, d2⟩, ⟨uv, by rw [upd_ne h.neU]; exact u1, u2⟩, hc, same_mut h.fH h.fe, same_mut h.zH h.ze, h.fe, h.fD, h.fU, h.ze, h.zD, h.zU, h.nDU⟩
/-- the list of steps done is another -/
theorem EdR.mutD (h : EdR CL CD CE F H Z e dx d D U c s) {dv : List V} {l : List (Ie13.Doc × Nat)} (hp : Paired (RS CL CD F) dv l.reverse) : EdR CL CD CE F (upd H D (.lst dv)) Z e dx d D U c { s with done := l } := by
  obtain ⟨uv, u1, u2⟩ := h.hU
  exact ⟨by rw [upd_ne h.neD.symm]; exact h.he, h.hd, ⟨dv, upd_same, hp⟩, ⟨uv, by rw [upd_ne h.nDU.symm]; exact u1, u2⟩, h.hc, same_mut h.fH h.fD, same_mut h.zH h.zD, h.fe, h.fD, h.fU, h.ze, h.zD, h.zU, h.nDU⟩
theorem EdR.mutU (h : EdR CL CD CE F H Z e dx d D U c s) {uv : List V} {l : List (Ie13.Doc × Nat)} (hp : Paired (RS CL CD F) uv l.reverse) : EdR CL CD CE F (upd H U (.lst uv)) Z e dx d D U c { s with undone := l } := by
  obtain ⟨dv, u1, u2⟩ := h.hD
  exact ⟨by rw [upd_ne h.neU.symm]; exact h.he, h.hd, ⟨dv, by rw [upd_ne h.nDU]; exact u1, u2⟩, ⟨uv, upd_same, hp⟩, h.hc, same_mut h.fH h.fU, same_mut h.zH h.zU, h.fe, h.fD, h.fU, h.ze, h.zD, h.zU, h.nDU⟩
/-- a new empty list of steps undone -/
theorem EdR.newU (h : EdR CL CD CE F H Z e dx d D U c s) {U' : Addr} (hU : H U' = none) : EdR CL CD CE F (upd (upd H U' (.lst [])) e (.ins CE dx (EdF d D U' s.room c))) Z e dx d D U' c { s with undone := [] } := by
  obtain ⟨dv, d1, d2⟩ := h.hD
  have n1 : U' ≠ e := fun z => by rw [z, h.he] at hU; cases hU
  have n2 : D ≠ U' := fun z => by rw [← z, d1] at hU; cases hU
  have f1 := Same.free h.fH hU
  have z1 := Same.free h.zH hU
  exact ⟨upd_same, h.hd, ⟨dv, by rw [upd_ne h.neD, upd_ne n2]; exact d1, d2⟩, ⟨[], by rw [upd_ne n1, upd_same], .nil⟩, h.hc, same_mut (same_mut h.fH f1) h.fe, same_mut (same_mut h.zH z1) h.ze, h.fe, h.fD, f1, h.ze, h.zD, z1, n2⟩
end
theorem sum_rev : ∀ (l : List Nat), Ie13.sum l.reverse = Ie13.sum l
  | [] => rfl
  | x :: l => by
    rw [List.reverse_cons, sum_append, sum_rev l, sum_cons, sum_cons]
    have : Ie13.sum [] = 0 := rfl
    rw [this]; omega
theorem lcx_rev {α : Type} {R : Rel α} (mono : Mono R) {K : PySem.W.Frag} {a : Addr} {xs : List V} {n k : Nat} {tt : TT} {te : TE} {σ : L2.St} {F H1 : Hp} {Q : VK} (keep : Nat → Bool) (g : Nat → α) (hF : Same F H1) (hx : SqL K H1 a xs) (hl : xs.length = n) (hn : n ≤ 100000)
    (hw : ∀ x, wipe ((wipe σ [k]).set k (some x)) [k] = wipe σ [k])
    (hs : ∀ i F1 Ha x, i < n → xs[n - 1 - i]? = some x → Ext F H1 F1 Ha → ∀ (Kp : V → Hp → Prop) (Sk : Hp → Prop), (keep i = true → ∀ v F2 Hb, Ext F1 Ha F2 Hb → R F2 v (g i) → Kp v Hb) → (keep i = false → ∀ F2 Hb, Ext F1 Ha F2 Hb → Sk Hb) →
      tt ((wipe σ [k]).set k (some x)) Ha fun b H3 => if b = true then te ((wipe σ [k]).set k (some x)) H3 Kp else Sk H3)
    (hd : ∀ p F' H', Ext F H1 F' H' → Ls R F' p (((List.range n).filter keep).map g) → Q (.ref p) H') : LcTail (Itv K a n) (gName k) tt te [k] σ H1 Q :=
  lcx mono keep g hF hn (fun i Ha e c => ⟨c, xs, _, e.seq hx, List.getElem?_eq_getElem (by omega)⟩) (fun Ha e => Nat.le_refl n) (fun i F1 Ha x H' c e y Kp Sk h1 h2 => by
    obtain ⟨rfl, y⟩ := y
    exact ⟨hw _, hs i F1 H' x c (y xs (e.hh.seq hx)) e Kp Sk h1 h2⟩) hd
section
variable {P : Program} {w : World} {K : PySem.W.Frag} {mg : Str → Option Value} {base : Heap} {C_Layer C_Document C_Editor : Addr}
def sp_begin (CL CD CE : Addr) : Sp := fun vs H Q _ => ∃ (F Z : Hp) (e dx a : Addr) (fs : List (Str × V)) (room : Nat) (d : Ie13.Doc), vs = [.ref e, .ref a, .int room] ∧ Same F H ∧ Same Z H ∧ F e = none ∧ Z e = none ∧ H e = some (.ins CE dx fs) ∧
  (fs = [] ∨ ∃ d D U r c, fs = EdF d D U r c) ∧ DocAt CL CD F a d ∧
  ∀ F' H', Fr F H F' H' → EdAt CL CD CE F' H' Z e ⟨d, [], [], room, []⟩ → Q .non H'
theorem ok_Editor_begin (T : Txt K mg C_Layer C_Document C_Editor) : OkM P w K mg base 1 C_Editor "begin" ["self", "document", "room"] (sp_begin C_Layer C_Document C_Editor) := by
  refine T.d_Editor_begin.ok T.k_Editor sc_Editor_begin (fun vs H Q E h => ?_) (fun f cdv A outer s H vs Q E hr h => ⟨_, (pss_cons (ps_fld (pv 0) (pv 1) rfl)
      (pss_cons (ps_fld (pv 0) (pv 2) rfl)
      (pss_cons (ps_fld (pv 0) (pe_lst pa_nil) rfl)
      (pss_cons (ps_fld (pv 0) (pe_lst pa_nil) rfl)
      (pss_one (ps_fld (pv 0) pe_non rfl)))))), ?_⟩)
  · obtain ⟨_, _, _, _, _, _, _, _, rfl, _⟩ := h; rfl
  · obtain ⟨F, Z, e, dx, a, fs, room, d, rfl, hF, hZ, fe, ze, he, hfs, hd, q⟩ := h
    have P5 : ∀ D U, putF "cut_out" .non (putF "undone" (.ref U) (putF "done" (.ref D) (putF "room" (.int (room : Int)) (putF "document" (.ref a) fs)))) = EdF a D U room .non := fun D U => by
      rcases hfs with rfl | ⟨d, D', U', r, c, rfl⟩
      · have n1 : ¬ ("document" : Str) = "room" := by decide +kernel
        have n2 : ¬ ("document" : Str) = "done" := by decide +kernel
        have n3 : ¬ ("document" : Str) = "undone" := by decide +kernel
        have n4 : ¬ ("document" : Str) = "cut_out" := by decide +kernel
        have n5 : ¬ ("room" : Str) = "done" := by decide +kernel
        have n6 : ¬ ("room" : Str) = "undone" := by decide +kernel
        have n7 : ¬ ("room" : Str) = "cut_out" := by decide +kernel
        have n8 : ¬ ("done" : Str) = "undone" := by decide +kernel
        have n9 : ¬ ("done" : Str) = "cut_out" := by decide +kernel
        have n0 : ¬ ("undone" : Str) = "cut_out" := by decide +kernel
        have p0 : ∀ (f : Str) (v : V), putF f v [] = [(f, v)] := fun _ _ => rfl
        rw [p0, ptS n1, p0, ptS n2, ptS n5, p0, ptS n3, ptS n6, ptS n8, p0, ptS n4, ptS n7, ptS n9, ptS n0, p0]; rfl
      · rw [pu_document, pu_room, pu_done, pu_undone, pu_cut_out]
    have hl0 : fs.length ≤ 5 := by
      rcases hfs with rfl | ⟨d, D', U', r, c, rfl⟩
      · exact Nat.zero_le _
      · exact Nat.le_refl 5
    have l1 := putF_len "document" (.ref a) fs
    generalize hf1 : putF "document" (.ref a) fs = f1 at P5 l1
    have l2 := putF_len "room" (.int (room : Int)) f1
    generalize hf2 : putF "room" (.int (room : Int)) f1 = f2 at P5 l2
    refine ⟨_, rfl, _, rfl, _, _, _, _, rfl, he, T.k_Editor, T.n_Editor_document, by omega, ?_⟩
    rw [hf1]
    refine ⟨_, rfl, _, rfl, _, _, _, _, rfl, upd_same, T.k_Editor, T.n_Editor_room, by omega, ?_⟩
    rw [hf2, upd_upd]
    refine ⟨by decide, fun D hD => ?_⟩
    have nD : D ≠ e := fun z => by rw [z, upd_same] at hD; cases hD
    have l3 := putF_len "done" (.ref D) f2
    generalize hf3 : putF "done" (.ref D) f2 = f3 at l3
    refine ⟨_, rfl, _, _, _, _, rfl, by rw [upd_ne nD.symm, upd_same], T.k_Editor, T.n_Editor_done, by omega, ?_⟩
    rw [hf3]
    refine ⟨by decide, fun U hU => ?_⟩
    have nU : U ≠ e := fun z => by rw [z, upd_same] at hU; cases hU
    have nDU : D ≠ U := fun z => by rw [← z, upd_ne nD, upd_same] at hU; cases hU
    have l4 := putF_len "undone" (.ref U) f3
    generalize hf4 : putF "undone" (.ref U) f3 = f4 at l4
    refine ⟨_, rfl, _, _, _, _, rfl, by rw [upd_ne nU.symm, upd_same], T.k_Editor, T.n_Editor_undone, by omega, ?_⟩
    rw [hf4]
    refine ⟨_, rfl, _, _, _, _, rfl, upd_same, T.k_Editor, T.n_Editor_cut_out, by omega, ?_⟩
    rw [upd_upd]
    have P := P5 D U
    rw [hf3, hf4] at P
    rw [P]
    have hD0 : H D = none := by rw [upd_ne nD] at hD; exact hD
    have hU0 : H U = none := by rw [upd_ne nU, upd_ne nDU.symm, upd_ne nU] at hU; exact hU
    have fD := Same.free hF hD0
    have fU := Same.free hF hU0
    have zD := Same.free hZ hD0
    have zU := Same.free hZ hU0
    refine q F _ (Fr.upd (Fr.upd (Fr.upd (Fr.upd (Fr.upd Fr.refl))))) ⟨dx, a, D, U, .non, ?_⟩
    refine ⟨upd_same, hd, ⟨[], ?_, .nil⟩, ⟨[], ?_, .nil⟩, .inl ⟨rfl, rfl⟩, ?_, ?_, fe, fD, fU, ze, zD, zU, nDU⟩
    · rw [upd_ne nD, upd_ne nDU, upd_ne nD, upd_same]
    · rw [upd_ne nU, upd_same]
    · exact same_mut (same_mut (same_mut (same_mut (same_mut hF fe) fD) fe) fU) fe
    · exact same_mut (same_mut (same_mut (same_mut (same_mut hZ ze) zD) ze) zU) ze
def sp_standing (CL CD CE : Addr) : Sp := fun vs H Q _ => ∃ (F Z : Hp) (e : Addr) (s : Ie13.St), vs = [.ref e] ∧ EdAt CL CD CE F H Z e s ∧
  ∀ F' H' p, Ext F H F' H' → Ans F' p (Ie13.told s) → Q (.ref p) H'
theorem ok_Editor_standing (T : Txt K mg C_Layer C_Document C_Editor) : OkM P w K mg base 1 C_Editor "standing" ["self"] (sp_standing C_Layer C_Document C_Editor) := by
  refine T.d_Editor_standing.ok T.k_Editor sc_Editor_standing (fun vs H Q E h => ?_) (fun f cdv A outer s H vs Q E hr h => ⟨_, (pss_cons (ps_set (i := 1) sc_Editor_standing.nd rfl (Or.inl rfl) (pe_fld (pv 0) rfl))
      (pss_one (ps_ret (pe_lst (pa_cons (pe_callB (r := rLenK K) call_len_seq (by rfl) T.b_len PySem.boot_len (pa_cons (pe_fld (pv 1) rfl) pa_nil)) (pa_cons (pe_fld (pv 1) rfl) (pa_cons (pe_callB (r := rSum K) (cr_sum rfl) (by rfl) T.b_sum (by decide +kernel) (pa_cons (pe_fld (pv 1) rfl) pa_nil)) (pa_cons (pe_callB (r := rLenK K) call_len_seq (by rfl) T.b_len PySem.boot_len (pa_cons (pe_fld (pv 0) rfl) pa_nil)) (pa_cons (pe_callB (r := rLenK K) call_len_seq (by rfl) T.b_len PySem.boot_len (pa_cons (pe_fld (pv 0) rfl) pa_nil)) pa_nil))))))))), ?_⟩)
  · obtain ⟨_, _, _, _, rfl, _⟩ := h; rfl
  · obtain ⟨F, Z, e, s, rfl, ⟨dx, d, D, U, c, h⟩, q⟩ := h
    obtain ⟨ddx, g, ls, ch, h1, h2, ⟨lv, h3, h3'⟩, ⟨cv, h4, h4'⟩⟩ := h.hd.ex
    obtain ⟨dv, d1, d2⟩ := h.hD
    obtain ⟨uv, u1, u2⟩ := h.hU
    have hH := h.fH _ _ h1
    refine ⟨_, rfl, _, _, _, _, _, rfl, h.he, T.k_Editor, T.n_Editor_document, Ed_document, ?_⟩
    refine ⟨_, rfl, _, _, _, _, _, rfl, hH, T.k_Document, T.n_Document_layers, Doc_layers, _, _, rfl, .inl (SqL.of (h.fH _ _ h3)), ?_⟩
    refine ⟨_, rfl, _, _, _, _, _, rfl, hH, T.k_Document, T.n_Document_worked, Doc_worked, ?_⟩
    have ec : cv = (s.doc.chosen.map fun b => if b = true then (1 : Int) else 0).map V.int := by
      rw [List.map_map]; exact pd_map _ (fun _ _ h => h) h4'
    refine ⟨_, rfl, _, _, _, _, _, rfl, hH, T.k_Document, T.n_Document_chosen, Doc_chosen, _, _, rfl, SqL.of (by rw [← ec]; exact h.fH _ _ h4), ?_⟩
    rw [bits_sum]
    refine ⟨_, rfl, _, _, _, _, _, rfl, h.he, T.k_Editor, T.n_Editor_done, Ed_done, _, _, rfl, .inl (SqL.of d1), ?_⟩
    refine ⟨_, rfl, _, _, _, _, _, rfl, h.he, T.k_Editor, T.n_Editor_undone, Ed_undone, _, _, rfl, .inl (SqL.of u1), ?_⟩
    refine ⟨(by show 5 ≤ sizeLine; decide), fun p hp => q _ _ p ((Ext.refl h.fH).new hp) ?_⟩
    unfold Ans vZ Ie13.told Ie13.ints
    rw [upd_same, h3'.length, d2.length, u2.length, List.length_reverse, List.length_reverse]; rfl
def sp_forget (CL CD CE : Addr) : Sp := fun vs H Q _ => ∃ (F Z : Hp) (e : Addr) (s : Ie13.St), vs = [.ref e] ∧ EdAt CL CD CE F H Z e s ∧ s.done.length ≤ 5000 ∧
  ∀ F' H', Fr F H F' H' → EdAt CL CD CE F' H' Z e { s with done := Ie13.kept s.room s.done } → Q .non H'
theorem ok_Editor_forget (T : Txt K mg C_Layer C_Document C_Editor) : OkM P w K mg base 1 C_Editor "forget" ["self"] (sp_forget C_Layer C_Document C_Editor) := by
  refine T.d_Editor_forget.ok T.k_Editor sc_Editor_forget (fun vs H Q E h => ?_) (fun f cdv A outer s H vs Q E hr h => ⟨_, (pss_one (ps_while PassesOwn.never (pt_cmpR op_gt (pe_callB (r := rSum K) (cr_sum rfl) (by rfl) T.b_sum (by decide +kernel) (pa_cons (pe_lc (g := (gName 1)) (tt := tYes) (own := [("step", 1)]) rfl sc_Editor_forget.nd (pi_list (pe_fld (pv 0) rfl)) (blkOk_by (own := [("step", 1)]) (N := ["self", "step"]) (sc := defScope s_Editor_forget) (by decide +kernel)) (fun _ _ _ _ _ => (pg_name (i := 1) sc_Editor_forget.nd rfl (Or.inl rfl))) (fun _ _ _ _ _ => pts_nil) (fun _ _ _ _ _ => (pe_ix (r := rIxT K) ix_tup (pv 1) pe_int (fun _ _ => rfl)))) pa_nil)) (pe_fld (pv 0) rfl) (nomark _)) (pss_one (ps_expr (pe_bm PySem.F.plainAttrs_list PySem.F.slot_list_pop PySem.F.type_list_pop mt_popAt (pe_fld (pv 0) rfl) (pa_cons pe_int pa_nil)))))), ?_⟩)
  · obtain ⟨_, _, _, _, rfl, _⟩ := h; rfl
  · obtain ⟨F, Z, e, s, rfl, hE, hlen, q⟩ := h
    let W : Nat → L2.St → Hp → Prop := fun m σ H' => ∃ o F1 l, σ = [some (.ref e), o] ∧ Fr F H F1 H' ∧ EdAt C_Layer C_Document C_Editor F1 H' Z e { s with done := l } ∧ m = l.length ∧ l.length ≤ 5000 ∧ Ie13.kept s.room l = Ie13.kept s.room s.done
    refine ⟨W, ⟨_, none, F, s.done, rfl, Fr.refl, hE, rfl, hlen, rfl⟩, ?_⟩
    rintro m σ H' ⟨o, F1, l, rfl, fr, ⟨dx, d, D, U, c, h⟩, rfl, hl5, hk⟩
    obtain ⟨dv, d1, d2⟩ := h.hD
    have d2 : Paired (RS C_Layer C_Document F1) dv l.reverse := d2
    have dl := d2.length
    rw [List.length_reverse] at dl
    simp only [cxK, Bool.false_eq_true, if_false, if_true, tYes, tChain, wipe, ↓reduceIte, tRet, tSeq, tAsg, tDrop, tIfS, tIf, tNext, gName, gTup, gCons, gNil, tFld, tLst, tTup, tTest, rEq_int, rNe_int, rIxL, rIxT, rSum, rAll, decide_eq_true_eq, List.cons.injEq, and_true, true_and, tTest, tC, tVar, tOp, rI, rI0, tCB, tCons, tNil, tAnd, tOr, tNot, tCallO, L2.start, List.length, List.map, List.replicate, List.cons_append, List.nil_append, Nat.sub_self, List.append_nil, List.set, V.int.injEq, V.ref.injEq, V.bl.injEq, Option.some.injEq, exists_eq_left', exists_eq_left, exists_and_left, List.getElem?_cons_zero, List.getElem?_cons_succ]
    refine tLc_of ⟨_, rfl, _, _, _, _, _, rfl, h.he, T.k_Editor, T.n_Editor_done, Ed_done, _, rfl, ⟨_, SqL.of d1⟩, ?_⟩
    refine lcx_list (R := RI) (K := K) (a := D) RI.mono (fun _ => true) (fun i => (l.reverse.getD i (Ie13.fresh 1 1 0, 0)).2) h.fH (SqL.of d1) d2.length (by rw [List.length_reverse]; omega) (fun _ => rfl) ?_ ?_
    · intro i F2 Ha x hx e2 Kp Sk k1 k2
      obtain ⟨y, hy, r, a, rfl, hr, ha⟩ := pd_getL d2 hx
      have hrH := e2.fh _ _ (e2.ff _ _ hr)
      refine ⟨_, rfl, _, _, _, _, rfl, rfl, SqT.of hrH, rfl, k1 rfl _ F2 Ha (Ext.refl e2.fh) ?_⟩
      show V.int _ = V.int _
      rw [List.getD_eq_getElem?_getD, hy]; rfl
    · intro p F2 H2 e2 ⟨bv, b1, b2⟩
      rw [filter_yes, pd_map_range (fun y : Ie13.Doc × Nat => y.2)] at b2
      have es : Ie13.sum (l.reverse.map fun y => y.2) = tot l := by
        rw [List.map_reverse, sum_rev]; rfl
      have h := h.ext e2
      have fr2 := fr.trans e2.frame
      have d1 := e2.hh _ _ d1
      have d2 := pd_mono (fun v y => RS.mono F1 F2 v y e2.ff) d2
      refine ⟨_, rfl, _, SqL.of (by rw [← ints_of b2]; exact e2.fh _ _ b1), ?_⟩
      rw [sum_int, es]
      refine ⟨_, _, _, h.he, T.k_Editor, T.n_Editor_room, _, Ed_room, _, rfl, ?_⟩
      by_cases hg : s.room < tot l
      · rw [if_pos (by show ((s.room : Nat) : Int) < ((tot l : Nat) : Int); omega)]
        refine ⟨fun σ' H' => ∃ m', m' < l.length ∧ W m' σ' H', fun _ _ z => z, ?_⟩
        rcases List.eq_nil_or_concat l with rfl | ⟨l, y, rfl⟩
        · exact absurd hg (by rw [tot_nil]; omega)
        rw [List.concat_eq_append] at *
        rw [List.reverse_append] at d2
        cases d2 with
        | cons hv ht =>
          rename_i v dv
          refine ⟨_, rfl, _, _, _, _, _, rfl, h.he, T.k_Editor, T.n_Editor_done, Ed_done, .inl ⟨rfl, _, SqL.of d1⟩, _, _, _, 0, _, rfl, rfl, d1, by decide, by decide, ?_, rfl, ?_⟩
          · unfold seqIndex?
            rw [List.length_cons]
            simp
          · refine ⟨l.length, by rw [List.length_append, List.length_singleton]; omega, _, F2, l, rfl, fr2.upd, ⟨dx, d, D, U, c, ?_⟩, rfl, ?_, ?_⟩
            · exact h.mutD ht
            · rw [List.length_append, List.length_singleton] at hl5; omega
            · rw [← hk]; exact (kept_last l y s.room hg).symm
      · rw [if_neg (by show ¬ ((s.room : Nat) : Int) < ((tot l : Nat) : Int); omega)]
        refine q F2 H2 fr2 ?_
        rw [← hk, kept_all l s.room (by omega)]
        exact ⟨dx, d, D, U, c, h⟩
theorem sameD_iff {x y : Ie13.Doc} (n : Nx x y) : SameD x y ↔ y = x := by
  constructor
  · rintro ⟨h1, h2, h3, h4⟩
    have e := n.nx h4.symm
    have ew := n.w
    have eh := n.h
    obtain ⟨a1, a2, a3, a4, a5, a6, a7⟩ := x
    obtain ⟨b1, b2, b3, b4, b5, b6, b7⟩ := y
    simp only at *
    subst h1; subst h2; subst h3; subst h4; subst e; subst ew; subst eh; rfl
  · rintro rfl; exact ⟨rfl, rfl, rfl, rfl⟩
def sp_step_to (CL CD CE : Addr) : Sp := fun vs H Q _ => ∃ (F Z : Hp) (e a : Addr) (s : Ie13.St) (d : Ie13.Doc), vs = [.ref e, .ref a] ∧ EdAt CL CD CE F H Z e s ∧ SWf s ∧ DocAt CL CD F a d ∧ Nx s.doc d ∧
  ∀ F' H' p, Fr F H F' H' → EdAt CL CD CE F' H' Z e (s.put d) → Ans F' p (Ie13.told (s.put d)) → Q (.ref p) H'
theorem ok_Editor_step_to (T : Txt K mg C_Layer C_Document C_Editor) : OkM P w K mg base 4 C_Editor "step_to" ["self", "after"] (sp_step_to C_Layer C_Document C_Editor) := by
  have O_same_document := ok_same_document (P := P) (w := w) (base := base) T
  have O_step_size := ok_step_size (P := P) (w := w) (base := base) T
  have O_Editor_forget := ok_Editor_forget (P := P) (w := w) (base := base) T
  have O_Editor_standing := ok_Editor_standing (P := P) (w := w) (base := base) T
  refine T.d_Editor_step_to.ok T.k_Editor sc_Editor_step_to (fun vs H Q E h => ?_) (fun f cdv A outer s H vs Q E hr h => ⟨_, (pss_cons (ps_if (pt_not (pt_truth (pe_callO O_same_document (hr.mono (by decide)) rfl (pa_cons (pe_fld (pv 0) rfl) (pa_cons (pv 1) pa_nil))) (by intro _; rfl))) (pss_cons (ps_expr (pe_bm PySem.F.plainAttrs_list PySem.F.slot_list_append PySem.F.type_list_append mt_append (pe_fld (pv 0) rfl) (pa_cons (pe_tup (pa_cons (pe_callO O_step_size (hr.mono (by decide)) rfl (pa_cons (pe_fld (pv 0) rfl) (pa_cons (pv 1) pa_nil))) (pa_cons (pe_fld (pv 0) rfl) pa_nil))) pa_nil)))
      (pss_cons (ps_fld (pv 0) (pe_lst pa_nil) rfl)
      (pss_cons (ps_fld (pv 0) (pv 1) rfl)
      (pss_one (ps_expr (pe_methO0 (pv 0) O_Editor_forget (hr.mono (by decide)))))))) pss_nil)
      (pss_one (ps_ret (pe_methO0 (pv 0) O_Editor_standing (hr.mono (by decide)))))), ?_⟩)
  · obtain ⟨_, _, _, _, _, _, rfl, _⟩ := h; rfl
  · obtain ⟨F, Z, e, a, s, d', rfl, ⟨dx, d, D, U, c, h⟩, wf, hd', nx, q⟩ := h
    refine ⟨_, rfl, _, _, _, _, _, rfl, h.he, T.k_Editor, T.n_Editor_document, Ed_document, _, rfl, ?_⟩
    refine ⟨F, d, a, s.doc, d', rfl, h.fH, h.hd, hd', wf.wf.l5, fun H1 e1 => ?_⟩
    have X1 := Ext.same h.fH e1
    have h := h.ext X1
    refine ⟨_, rfl, ?_⟩
    by_cases c1 : SameD s.doc d'
    · refine ifF (by rw [decide_eq_true c1]; rfl) ?_
      have ed := (sameD_iff nx).mp c1
      have ep : s.put d' = s := by unfold Ie13.St.put; rw [if_pos ed]
      rw [ep] at q
      refine ⟨_, rfl, _, _, _, rfl, h.he, Ed_no (by decide +kernel) (by decide +kernel) (by decide +kernel) (by decide +kernel) (by decide +kernel), ?_⟩
      exact ⟨F, Z, e, s, rfl, ⟨dx, d, D, U, c, h⟩, fun F2 H2 p e2 an => q F2 H2 p (X1.frame.trans e2.frame) (EdAt.ext ⟨dx, d, D, U, c, h⟩ e2) an⟩
    · refine ifT (by rw [decide_eq_false c1]; rfl) ?_
      have ed : ¬ d' = s.doc := fun z => c1 ((sameD_iff nx).mpr z)
      have ep : s.put d' = { s with doc := d', done := Ie13.kept s.room ((s.doc, Ie13.weight s.doc d') :: s.done), undone := [] } := by unfold Ie13.St.put; rw [if_neg ed]
      rw [ep] at q
      obtain ⟨dv, d1, d2⟩ := h.hD
      refine ⟨_, rfl, _, _, _, _, _, rfl, h.he, T.k_Editor, T.n_Editor_done, Ed_done, .inl ⟨rfl, _, SqL.of d1⟩, ?_⟩
      refine ⟨_, rfl, _, _, _, _, _, rfl, h.he, T.k_Editor, T.n_Editor_document, Ed_document, _, rfl, ?_⟩
      refine ⟨F, d, a, s.doc, d', rfl, h.fH, h.hd, hd', wf.wf, nx.wf, ?_, fun H2 e2 => ?_⟩
      · unfold Ie13.Doc.n; rw [nx.w, nx.h]
      have X2 := Ext.same h.fH e2
      have h := h.ext X2
      have d1 := e2 _ _ d1
      refine ⟨_, rfl, _, _, _, _, _, rfl, h.he, T.k_Editor, T.n_Editor_document, Ed_document, (by show 2 ≤ sizeLine; decide), fun t ht => ?_⟩
      have X3 := (Ext.refl h.fH).new (o := .tup [.int ((Ie13.weight s.doc d' : Nat) : Int), .ref d]) ht
      have h := h.ext X3
      have d1 := X3.hh _ _ d1
      have d2 := pd_mono (fun v y => RS.mono F _ v y X3.ff) d2
      have hl1 : s.done.length ≤ 1000 := by
        have := tot_len s.done fun x hx => (wf.done x hx).2.2.2
        have := wf.tot
        have := wf.room
        omega
      have dl := d2.length
      rw [List.length_reverse] at dl
      refine ⟨_, _, _, rfl, rfl, d1, small1000 (by omega), ?_⟩
      have d3 : Paired (RS C_Layer C_Document (upd F t (.tup [.int ((Ie13.weight s.doc d' : Nat) : Int), .ref d]))) (dv ++ [.ref t]) ((s.doc, Ie13.weight s.doc d') :: s.done).reverse := by
        rw [List.reverse_cons]
        exact pd_app d2 (.cons ⟨t, d, rfl, upd_same, h.hd⟩ .nil)
      have h := h.mutD d3
      have fr := ((X1.frame.trans X2.frame).trans X3.frame).upd (p := D) (o := .lst (dv ++ [.ref t]))
      refine ⟨by decide, fun U' hU' => ?_⟩
      have n1 : U' ≠ e := fun z => by rw [z, h.he] at hU'; cases hU'
      refine ⟨_, rfl, _, _, _, _, rfl, by rw [upd_ne n1.symm]; exact h.he, T.k_Editor, T.n_Editor_undone, EdF_len, ?_⟩
      rw [pu_undone]
      have h := h.newU hU'
      have hd'' : DocAt C_Layer C_Document (upd F t (.tup [.int ((Ie13.weight s.doc d' : Nat) : Int), .ref d])) a d' := hd'.mono X3.ff
      refine ⟨_, rfl, _, rfl, _, _, _, _, rfl, h.he, T.k_Editor, T.n_Editor_document, EdF_len, ?_⟩
      rw [pu_document]
      have h := h.setDoc hd'' nx.w
      have fr := ((fr.upd (p := U') (o := .lst [])).upd (p := e) (o := .ins C_Editor dx (EdF d D U' s.room c))).upd (p := e) (o := .ins C_Editor dx (EdF a D U' s.room c))
      refine ⟨_, rfl, _, _, _, rfl, h.he, Ed_no (by decide +kernel) (by decide +kernel) (by decide +kernel) (by decide +kernel) (by decide +kernel), ?_⟩
      refine ⟨_, Z, e, _, rfl, ⟨dx, a, D, U', c, h⟩, (by show (_ :: s.done).length ≤ 5000; rw [List.length_cons]; omega), fun F4 H4 fr4 h4 => ?_⟩
      obtain ⟨dx, d4, D4, U4, c4, h4⟩ := h4
      refine ⟨_, rfl, _, _, _, rfl, h4.he, Ed_no (by decide +kernel) (by decide +kernel) (by decide +kernel) (by decide +kernel) (by decide +kernel), ?_⟩
      exact ⟨F4, Z, e, _, rfl, ⟨dx, d4, D4, U4, c4, h4⟩, fun F5 H5 p e5 an => q F5 H5 p ((fr.trans fr4).trans e5.frame) (EdAt.ext ⟨dx, d4, D4, U4, c4, h4⟩ e5) an⟩
end
end Lp
namespace Lp
open PySem PySem.Spec PyProof.Rows L2
theorem pd_snoc {α β : Type} {F : α → β → Prop} : ∀ {r : List β} {l : List α} {b : β}, Paired F l (r ++ [b]) → ∃ l' a, l = l' ++ [a] ∧ Paired F l' r ∧ F a b
  | [], _, _, .cons a .nil => ⟨[], _, rfl, .nil, a⟩
  | _ :: r, _, _, .cons a t => by
    obtain ⟨l', x, rfl, h1, h2⟩ := pd_snoc (r := r) t
    exact ⟨_ :: l', x, rfl, .cons a h1, h2⟩
theorem SWf.len {s : Ie13.St} (wf : SWf s) : s.done.length + s.undone.length ≤ 1000 := by
  have h1 := tot_len s.done fun x hx => (wf.done x hx).2.2.2
  have h2 := tot_len s.undone fun x hx => (wf.undone x hx).2.2.2
  have := wf.tot
  have := wf.room
  omega
section
variable {P : Program} {w : World} {K : PySem.W.Frag} {mg : Str → Option Value} {base : Heap} {C_Layer C_Document C_Editor : Addr}
def sp_Editor_init (CL CD CE : Addr) : Sp := fun vs H Q _ => ∃ (F Z : Hp) (e dx : Addr), vs = [.ref e] ∧ Same F H ∧ Same Z H ∧ F e = none ∧ Z e = none ∧ H e = some (.ins CE dx []) ∧
  ∀ F' H', Fr F H F' H' → EdAt CL CD CE F' H' Z e Ie13.init → Q .non H'
theorem ok_Editor_init (T : Txt K mg C_Layer C_Document C_Editor) : OkI P w K mg base 4 C_Editor "Editor" ["self"] (sp_Editor_init C_Layer C_Document C_Editor) := by
  have O_new_document := ok_new_document (P := P) (w := w) (base := base) T
  have O_Editor_begin := ok_Editor_begin (P := P) (w := w) (base := base) T
  refine T.d_Editor___init__.ok sc_Editor___init__ (fun vs H Q E h => ?_) (fun f cdv A outer s H vs Q E hr h => ⟨_, (pss_one (ps_expr (pe_methO (pv 0) O_Editor_begin (hr.mono (by decide)) (pa_cons (pe_callO O_new_document (hr.mono (by decide)) rfl (pa_cons pe_int (pa_cons pe_int (pa_cons pe_int pa_nil)))) (pa_cons pe_int pa_nil))))), ?_⟩)
  · obtain ⟨_, _, _, _, rfl, _⟩ := h; rfl
  · obtain ⟨F, Z, e, dx, rfl, hF, hZ, fe, ze, he, q⟩ := h
    refine ⟨_, rfl, _, _, _, rfl, he, rfl, ?_⟩
    refine ⟨F, 1, 1, 0, rfl, hF, by decide, by decide, by decide, by decide, fun F1 H1 p e1 hp => ?_⟩
    exact ⟨F1, Z, e, dx, p, [], 100, _, rfl, e1.fh, hZ.trans e1.hh, e1.fr e fe (by rw [he]; simp), ze, e1.hh _ _ he, .inl rfl, hp, fun F2 H2 fr h2 => q F2 H2 (e1.frame.trans fr) h2⟩
def sp_ed_undo (CL CD CE : Addr) : Sp := fun vs H Q _ => ∃ (F Z : Hp) (e : Addr) (s : Ie13.St) (x : Ie13.Doc × Nat) (l : List (Ie13.Doc × Nat)), vs = [.ref e] ∧ EdAt CL CD CE F H Z e s ∧ SWf s ∧ s.done = x :: l ∧
  ∀ F' H' p, Fr F H F' H' → EdAt CL CD CE F' H' Z e { s with doc := x.1, done := l, undone := (s.doc, x.2) :: s.undone } → Ans F' p (Ie13.told { s with doc := x.1, done := l, undone := (s.doc, x.2) :: s.undone }) → Q (.ref p) H'
theorem ok_Editor_undo (T : Txt K mg C_Layer C_Document C_Editor) : OkM P w K mg base 2 C_Editor "undo" ["self"] (sp_ed_undo C_Layer C_Document C_Editor) := by
  have O_Editor_standing := ok_Editor_standing (P := P) (w := w) (base := base) T
  refine T.d_Editor_undo.ok T.k_Editor sc_Editor_undo (fun vs H Q E h => ?_) (fun f cdv A outer s H vs Q E hr h => ⟨_, (pss_cons (ps_set (i := 1) sc_Editor_undo.nd rfl (Or.inl rfl) (pe_bm0 PySem.F.plainAttrs_list PySem.F.slot_list_pop PySem.F.type_list_pop mt_pop (pe_fld (pv 0) rfl)))
      (pss_cons (ps_expr (pe_bm PySem.F.plainAttrs_list PySem.F.slot_list_append PySem.F.type_list_append mt_append (pe_fld (pv 0) rfl) (pa_cons (pe_tup (pa_cons (pe_ix (r := rIxT K) ix_tup (pv 1) pe_int (fun _ _ => rfl)) (pa_cons (pe_fld (pv 0) rfl) pa_nil))) pa_nil)))
      (pss_cons (ps_fld (pv 0) (pe_ix (r := rIxT K) ix_tup (pv 1) pe_int (fun _ _ => rfl)) rfl)
      (pss_one (ps_ret (pe_methO0 (pv 0) O_Editor_standing (hr.mono (by decide)))))))), ?_⟩)
  · obtain ⟨_, _, _, _, _, _, rfl, _⟩ := h; rfl
  · obtain ⟨F, Z, e, s, x, l, rfl, ⟨dx, d, D, U, c, h⟩, wf, hdn, q⟩ := h
    obtain ⟨dv, d1, d2⟩ := h.hD
    rw [hdn, List.reverse_cons] at d2
    obtain ⟨dv', v, rfl, d3, t0, a0, rfl, t1, t2⟩ := pd_snoc d2
    have hw := (wf.done x (by rw [hdn]; exact List.mem_cons_self)).2.1
    have hln := wf.len
    refine ⟨_, rfl, _, _, _, _, _, rfl, h.he, T.k_Editor, T.n_Editor_done, Ed_done, .inl ⟨rfl, _, SqL.of d1⟩, _, _, .ref t0, rfl, rfl, d1, by simp, ?_⟩
    rw [List.dropLast_concat]
    have h := h.mutD d3
    have fr := (Fr.refl (F := F) (H := H)).upd (p := D) (o := .lst dv')
    obtain ⟨uv, u1, u2⟩ := h.hU
    have u2 : Paired (RS C_Layer C_Document F) uv s.undone.reverse := u2
    refine ⟨_, rfl, _, _, _, _, _, rfl, h.he, T.k_Editor, T.n_Editor_undone, Ed_undone, .inl ⟨rfl, _, SqL.of u1⟩, ?_⟩
    refine ⟨_, rfl, _, _, _, _, rfl, rfl, SqT.of (h.fH _ _ t1), rfl, _, rfl, _, _, _, _, _, rfl, h.he, T.k_Editor, T.n_Editor_document, Ed_document, (by show 2 ≤ sizeLine; decide), fun t ht => ?_⟩
    have X := (Ext.refl h.fH).new (o := .tup [.int (x.2 : Int), .ref d]) ht
    have h := h.ext X
    have u1 := X.hh _ _ u1
    have ul := u2.length
    rw [List.length_reverse] at ul
    refine ⟨_, _, _, rfl, rfl, u1, small1000 (by omega), ?_⟩
    have u3 : Paired (RS C_Layer C_Document (upd F t (.tup [.int (x.2 : Int), .ref d]))) (uv ++ [.ref t]) ((s.doc, x.2) :: s.undone).reverse := by
      rw [List.reverse_cons]
      exact pd_app (pd_mono (fun v y => RS.mono F _ v y X.ff) u2) (.cons ⟨t, d, rfl, upd_same, h.hd⟩ .nil)
    have h := h.mutU u3
    have fr := (fr.trans X.frame).upd (p := U) (o := .lst (uv ++ [.ref t]))
    refine ⟨_, rfl, _, _, _, _, rfl, rfl, SqT.of (h.fH _ _ (X.ff _ _ t1)), rfl, ?_⟩
    refine ⟨_, rfl, _, _, _, _, rfl, h.he, T.k_Editor, T.n_Editor_document, EdF_len, ?_⟩
    rw [pu_document]
    have h := h.setDoc (t2.mono X.ff) hw
    have fr := fr.upd (p := e) (o := .ins C_Editor dx (EdF a0 D U s.room c))
    refine ⟨_, rfl, _, _, _, rfl, h.he, Ed_no (by decide +kernel) (by decide +kernel) (by decide +kernel) (by decide +kernel) (by decide +kernel), ?_⟩
    exact ⟨_, Z, e, _, rfl, ⟨dx, a0, D, U, c, h⟩, fun F5 H5 p e5 an => q F5 H5 p (fr.trans e5.frame) (EdAt.ext ⟨dx, a0, D, U, c, h⟩ e5) an⟩
def sp_ed_redo (CL CD CE : Addr) : Sp := fun vs H Q _ => ∃ (F Z : Hp) (e : Addr) (s : Ie13.St) (x : Ie13.Doc × Nat) (l : List (Ie13.Doc × Nat)), vs = [.ref e] ∧ EdAt CL CD CE F H Z e s ∧ SWf s ∧ s.undone = x :: l ∧
  ∀ F' H' p, Fr F H F' H' → EdAt CL CD CE F' H' Z e { s with doc := x.1, undone := l, done := (s.doc, x.2) :: s.done } → Ans F' p (Ie13.told { s with doc := x.1, undone := l, done := (s.doc, x.2) :: s.done }) → Q (.ref p) H'
theorem ok_Editor_redo (T : Txt K mg C_Layer C_Document C_Editor) : OkM P w K mg base 2 C_Editor "redo" ["self"] (sp_ed_redo C_Layer C_Document C_Editor) := by
  have O_Editor_standing := ok_Editor_standing (P := P) (w := w) (base := base) T
  refine T.d_Editor_redo.ok T.k_Editor sc_Editor_redo (fun vs H Q E h => ?_) (fun f cdv A outer s H vs Q E hr h => ⟨_, (pss_cons (ps_set (i := 1) sc_Editor_redo.nd rfl (Or.inl rfl) (pe_bm0 PySem.F.plainAttrs_list PySem.F.slot_list_pop PySem.F.type_list_pop mt_pop (pe_fld (pv 0) rfl)))
      (pss_cons (ps_expr (pe_bm PySem.F.plainAttrs_list PySem.F.slot_list_append PySem.F.type_list_append mt_append (pe_fld (pv 0) rfl) (pa_cons (pe_tup (pa_cons (pe_ix (r := rIxT K) ix_tup (pv 1) pe_int (fun _ _ => rfl)) (pa_cons (pe_fld (pv 0) rfl) pa_nil))) pa_nil)))
      (pss_cons (ps_fld (pv 0) (pe_ix (r := rIxT K) ix_tup (pv 1) pe_int (fun _ _ => rfl)) rfl)
      (pss_one (ps_ret (pe_methO0 (pv 0) O_Editor_standing (hr.mono (by decide)))))))), ?_⟩)
  · obtain ⟨_, _, _, _, _, _, rfl, _⟩ := h; rfl
  · obtain ⟨F, Z, e, s, x, l, rfl, ⟨dx, d, D, U, c, h⟩, wf, hdn, q⟩ := h
    obtain ⟨dv, d1, d2⟩ := h.hU
    rw [hdn, List.reverse_cons] at d2
    obtain ⟨dv', v, rfl, d3, t0, a0, rfl, t1, t2⟩ := pd_snoc d2
    have hw := (wf.undone x (by rw [hdn]; exact List.mem_cons_self)).2.1
    have hln := wf.len
    refine ⟨_, rfl, _, _, _, _, _, rfl, h.he, T.k_Editor, T.n_Editor_undone, Ed_undone, .inl ⟨rfl, _, SqL.of d1⟩, _, _, .ref t0, rfl, rfl, d1, by simp, ?_⟩
    rw [List.dropLast_concat]
    have h := h.mutU d3
    have fr := (Fr.refl (F := F) (H := H)).upd (p := U) (o := .lst dv')
    obtain ⟨uv, u1, u2⟩ := h.hD
    have u2 : Paired (RS C_Layer C_Document F) uv s.done.reverse := u2
    refine ⟨_, rfl, _, _, _, _, _, rfl, h.he, T.k_Editor, T.n_Editor_done, Ed_done, .inl ⟨rfl, _, SqL.of u1⟩, ?_⟩
    refine ⟨_, rfl, _, _, _, _, rfl, rfl, SqT.of (h.fH _ _ t1), rfl, _, rfl, _, _, _, _, _, rfl, h.he, T.k_Editor, T.n_Editor_document, Ed_document, (by show 2 ≤ sizeLine; decide), fun t ht => ?_⟩
    have X := (Ext.refl h.fH).new (o := .tup [.int (x.2 : Int), .ref d]) ht
    have h := h.ext X
    have u1 := X.hh _ _ u1
    have ul := u2.length
    rw [List.length_reverse] at ul
    refine ⟨_, _, _, rfl, rfl, u1, small1000 (by omega), ?_⟩
    have u3 : Paired (RS C_Layer C_Document (upd F t (.tup [.int (x.2 : Int), .ref d]))) (uv ++ [.ref t]) ((s.doc, x.2) :: s.done).reverse := by
      rw [List.reverse_cons]
      exact pd_app (pd_mono (fun v y => RS.mono F _ v y X.ff) u2) (.cons ⟨t, d, rfl, upd_same, h.hd⟩ .nil)
    have h := h.mutD u3
    have fr := (fr.trans X.frame).upd (p := D) (o := .lst (uv ++ [.ref t]))
    refine ⟨_, rfl, _, _, _, _, rfl, rfl, SqT.of (h.fH _ _ (X.ff _ _ t1)), rfl, ?_⟩
    refine ⟨_, rfl, _, _, _, _, rfl, h.he, T.k_Editor, T.n_Editor_document, EdF_len, ?_⟩
    rw [pu_document]
    have h := h.setDoc (t2.mono X.ff) hw
    have fr := fr.upd (p := e) (o := .ins C_Editor dx (EdF a0 D U s.room c))
    refine ⟨_, rfl, _, _, _, rfl, h.he, Ed_no (by decide +kernel) (by decide +kernel) (by decide +kernel) (by decide +kernel) (by decide +kernel), ?_⟩
    exact ⟨_, Z, e, _, rfl, ⟨dx, a0, D, U, c, h⟩, fun F5 H5 p e5 an => q F5 H5 p (fr.trans e5.frame) (EdAt.ext ⟨dx, a0, D, U, c, h⟩ e5) an⟩
/-- what each step counts, the newest first -/
theorem rev_get {l : List (Ie13.Doc × Nat)} {i : Nat} {y : Ie13.Doc × Nat} (hi : i < l.length) (h : l.reverse[l.length - 1 - i]? = some y) : l[i]? = some y := by
  rw [List.getElem?_reverse (by omega)] at h
  have : l.length - 1 - (l.length - 1 - i) = i := by omega
  rw [this] at h; exact h
theorem lc_steps {CL CD : Addr} {a : Addr} {dv : List V} {l : List (Ie13.Doc × Nat)} {k : Nat} {σ : L2.St} {F H1 : Hp} {Q : VK} (hF : Same F H1) (h1 : H1 a = some (.lst dv)) (h2 : Paired (RS CL CD F) dv l.reverse) (hl : l.length ≤ 1000)
    (hw : ∀ x, wipe ((wipe σ [k]).set k (some x)) [k] = wipe σ [k]) (hk : ∀ x, ((wipe σ [k]).set k (some x))[k]? = some (some x))
    (hd : ∀ p F' H', Ext F H1 F' H' → Tones F' p (l.map fun x => x.2) → Q (.ref p) H') : LcTail (Itv K a dv.length) (gName k) tYes (tOp (rIxT K) (tVar k) (tC (.int 0))) [k] σ H1 Q := by
  have dl := h2.length
  rw [List.length_reverse] at dl
  rw [dl]
  refine lcx_rev (R := RI) (K := K) (a := a) RI.mono (fun _ => true) (fun i => (l.getD i (Ie13.fresh 1 1 0, 0)).2) hF (SqL.of h1) dl (by omega) hw ?_ ?_
  · intro i F2 Ha x hi hx e2 Kp Sk k1 k2
    obtain ⟨y, hy, r, a, rfl, hr, ha⟩ := pd_getL h2 hx
    have hy := rev_get hi hy
    have hrH := e2.fh _ _ (e2.ff _ _ hr)
    refine ⟨_, hk _, _, _, _, _, rfl, rfl, SqT.of hrH, rfl, k1 rfl _ F2 Ha (Ext.refl e2.fh) ?_⟩
    show V.int _ = V.int _
    rw [List.getD_eq_getElem?_getD, hy]; rfl
  · intro p F' H' e h
    rw [filter_yes, pd_map_range (fun y : Ie13.Doc × Nat => y.2)] at h
    exact hd p F' H' e h
def sp_step_sizes (CL CD CE : Addr) : Sp := fun vs H Q _ => ∃ (F Z : Hp) (e : Addr) (s : Ie13.St), vs = [.ref e] ∧ EdAt CL CD CE F H Z e s ∧ SWf s ∧
  ∀ F' H' p, Ext F H F' H' → Ans F' p (Ie13.ints (s.done.length :: (s.done.map fun x => x.2) ++ s.undone.length :: s.undone.map fun x => x.2)) → Q (.ref p) H'
theorem ok_Editor_step_sizes (T : Txt K mg C_Layer C_Document C_Editor) : OkM P w K mg base 1 C_Editor "step_sizes" ["self"] (sp_step_sizes C_Layer C_Document C_Editor) := by
  refine T.d_Editor_step_sizes.ok T.k_Editor sc_Editor_step_sizes (fun vs H Q E h => ?_) (fun f cdv A outer s H vs Q E hr h => ⟨_, (pss_cons (ps_setLc (i := 1) (g := (gName 2)) (tt := tYes) (own := [("step", 2)]) rfl sc_Editor_step_sizes.nd rfl rfl (sw_true rfl rfl rfl (by decide +kernel)) (pi_reversed (by rfl) T.b_reversed (pa_cons (pe_fld (pv 0) rfl) pa_nil)) (blkOk_by (own := [("step", 2)]) (N := ["self", "done", "step", "undone"]) (sc := defScope s_Editor_step_sizes) (by decide +kernel)) (fun _ _ _ _ _ => (pg_name (i := 2) sc_Editor_step_sizes.nd rfl (Or.inl rfl))) (fun _ _ _ _ _ => pts_nil) (fun _ _ _ _ _ => (pe_ix (r := rIxT K) ix_tup (pv 2) pe_int (fun _ _ => rfl))))
      (pss_cons (ps_setLc (i := 3) (g := (gName 2)) (tt := tYes) (own := [("step", 2)]) rfl sc_Editor_step_sizes.nd rfl rfl (sw_true rfl rfl rfl (by decide +kernel)) (pi_reversed (by rfl) T.b_reversed (pa_cons (pe_fld (pv 0) rfl) pa_nil)) (blkOk_by (own := [("step", 2)]) (N := ["self", "done", "step", "undone"]) (sc := defScope s_Editor_step_sizes) (by decide +kernel)) (fun _ _ _ _ _ => (pg_name (i := 2) sc_Editor_step_sizes.nd rfl (Or.inl rfl))) (fun _ _ _ _ _ => pts_nil) (fun _ _ _ _ _ => (pe_ix (r := rIxT K) ix_tup (pv 2) pe_int (fun _ _ => rfl))))
      (pss_one (ps_ret (pe_op op_cat (pe_op op_cat (pe_op op_cat (pe_lst (pa_cons (pe_callB (r := rLenK K) call_len_seq (by rfl) T.b_len PySem.boot_len (pa_cons (pv 1) pa_nil)) pa_nil)) (pv 1)) (pe_lst (pa_cons (pe_callB (r := rLenK K) call_len_seq (by rfl) T.b_len PySem.boot_len (pa_cons (pv 3) pa_nil)) pa_nil))) (pv 3)))))), ?_⟩)
  · obtain ⟨_, _, _, _, rfl, _⟩ := h; rfl
  · obtain ⟨F, Z, e, s, rfl, ⟨dx, d, D, U, c, h⟩, wf, q⟩ := h
    have hln := wf.len
    obtain ⟨dv, d1, d2⟩ := h.hD
    simp only [tSeq, tAsg]
    refine tLc_of (wi := iRev K (tCons (tFld K (tVar 0) "done") tNil)) (gt := gName 2) (tt := tYes) (te := tOp (rIxT K) (tVar 2) (tC (.int 0))) (vs := [2]) ?_
    refine ⟨_, rfl, _, _, _, _, _, rfl, h.he, T.k_Editor, T.n_Editor_done, Ed_done, _, _, rfl, SqL.of d1, ?_⟩
    refine lc_steps h.fH d1 d2 (by omega) (fun _ => rfl) (fun _ => rfl) ?_
    intro p1 F1 H1 e1 hp1
    have h := h.ext e1
    obtain ⟨uv, u1, u2⟩ := h.hU
    show tSeq (tAsg _ (gName 3)) _ _ _ _
    simp only [tSeq, tAsg]
    refine tLc_of (wi := iRev K (tCons (tFld K (tVar 0) "undone") tNil)) (gt := gName 2) (tt := tYes) (te := tOp (rIxT K) (tVar 2) (tC (.int 0))) (vs := [2]) ?_
    refine ⟨_, rfl, _, _, _, _, _, rfl, h.he, T.k_Editor, T.n_Editor_undone, Ed_undone, _, _, rfl, SqL.of u1, ?_⟩
    refine lc_steps h.fH u1 u2 (by omega) (fun _ => rfl) (fun _ => rfl) ?_
    intro p2 F2 H2 e2 ⟨v2, g1, g2⟩
    obtain ⟨v1, f1, f2⟩ := hp1.mono RI.mono e2.ff
    have l1 := f2.length
    have l2 := g2.length
    rw [List.length_map] at l1 l2
    have hsz : (5000 : Nat) ≤ sizeLine := by decide
    refine ⟨_, rfl, _, _, rfl, .inl (SqL.of (e2.fh _ _ f1)), (by show 1 ≤ sizeLine; decide), fun q1 hq1 => ?_⟩
    have E1 := (Ext.refl e2.fh).newM (o := .lst [.int (v1.length : Int)]) hq1
    refine ⟨_, rfl, _, _, _, _, rfl, rfl, upd_same, E1.fh _ _ f1, ?_, fun q2 hq2 => ?_⟩
    · simp only [List.length_singleton]; omega
    have E2 := E1.newM (o := .lst ([.int (v1.length : Int)] ++ v1)) hq2
    refine ⟨_, rfl, _, _, rfl, .inl (SqL.of (E2.fh _ _ g1)), (by show 1 ≤ sizeLine; decide), fun q3 hq3 => ?_⟩
    have E3 := E2.newM (o := .lst [.int (v2.length : Int)]) hq3
    refine ⟨_, _, _, _, rfl, rfl, upd_at upd_same hq3, upd_same, ?_, fun q4 hq4 => ?_⟩
    · simp only [List.length_append, List.length_singleton]; omega
    have E4 := E3.newM (o := .lst ([.int (v1.length : Int)] ++ v1 ++ [.int (v2.length : Int)])) hq4
    refine ⟨_, rfl, _, _, _, _, rfl, rfl, upd_same, E4.fh _ _ g1, ?_, fun q5 hq5 => ?_⟩
    · simp only [List.length_append, List.length_singleton]; omega
    refine q _ _ q5 ((e1.trans e2).trans (E4.new hq5)) ?_
    unfold Ans
    rw [upd_same, l1, l2, ints_of f2, ints_of g2]
    unfold vZ Ie13.ints
    simp only [List.map_append, List.map_cons, List.map_nil, List.cons_append, List.nil_append, List.append_assoc]
end
end Lp
namespace Lp
open PySem PySem.Spec PyProof.Rows L2
/-! ### what the commands make, by the layer worked on -/
section
open Ie13
variable {d : Doc} {l : Layer} {clip : Clip}
theorem ie_ne {d : Doc} (hl : d.layers ≠ []) : ¬ d.layers.isEmpty = true := fun z => hl (List.isEmpty_iff.mp z)
theorem does_fill {t m : Nat} (hl : d.layers ≠ []) (el : d.layers[d.at_]? = some l) (ht : t ≤ 255) (hm : m ≤ 255) : d.does clip (.fill t m) = .ok { d with layers := d.layers.set d.at_ { l with dots := (List.range d.n).map fun i => if d.chosen.getD i false = true then ⟨t, m⟩ else l.dots.getD i none_ } } := by
  simp only [Doc.does]
  rw [if_neg (ie_ne hl), if_neg (by omega), onChosen_set el]; rfl
theorem does_bright {u k : Nat} (hl : d.layers ≠ []) (el : d.layers[d.at_]? = some l) (hu : u ≤ 1) (hk : k ≤ 255) : d.does clip (.bright u k) = .ok { d with layers := d.layers.set d.at_ { l with dots := (List.range d.n).map fun i => if d.chosen.getD i false = true then brightD u k (l.dots.getD i none_) else l.dots.getD i none_ } } := by
  simp only [Doc.does]
  rw [if_neg (ie_ne hl), if_neg (by omega), onChosen_set el]; rfl
theorem does_soft (hl : d.layers ≠ []) (el : d.layers[d.at_]? = some l) : d.does clip .soft = .ok { d with layers := d.layers.set d.at_ { l with dots := (List.range (d.w * d.h)).map fun i => if d.chosen.getD i false = true then softD ((around d.w d.h i).map fun j => l.dots.getD j none_) else l.dots.getD i none_ } } := by
  simp only [Doc.does]
  rw [if_neg (ie_ne hl), onChosen_set el]; rfl
theorem does_shift {x y : Nat} (hl : d.layers ≠ []) (el : d.layers[d.at_]? = some l) : d.does clip (.shift x y) = .ok { d with layers := d.layers.set d.at_ { l with dots := (List.range (d.w * d.h)).map fun i => if d.chosen.getD i false = true then l.dots.getD ((i / d.w + d.h - y % d.h) % d.h * d.w + (i % d.w + d.w - x % d.w) % d.w) none_ else l.dots.getD i none_ } } := by
  simp only [Doc.does]
  rw [if_neg (ie_ne hl), onChosen_set el]; rfl
theorem does_cut (hl : d.layers ≠ []) (el : d.layers[d.at_]? = some l) : d.does clip .cut = .ok { d with layers := d.layers.set d.at_ { l with dots := (List.range d.n).map fun i => if d.chosen.getD i false = true then ⟨0, 0⟩ else l.dots.getD i none_ } } := by
  simp only [Doc.does]
  rw [if_neg (ie_ne hl), onChosen_set el]; rfl
theorem does_paste {x y : Nat} (wf : Wf d) (hl : d.layers ≠ []) (el : d.layers[d.at_]? = some l) (ok : Lok d.n l) (hc : clip ≠ []) (hn : clip.length = d.n) : d.does clip (.paste x y) = .ok { d with layers := d.layers.set d.at_ { l with dots := pst d.w d.h x y l.dots (pcs d.w clip) } } := by
  simp only [Doc.does]
  rw [if_neg (ie_ne hl), if_neg (fun z => hc (List.isEmpty_iff.mp z))]
  have z := zip_set0 (fun q : Layer => { q with dots := (List.range d.n).map fun i => if x ≤ i % d.w ∧ y ≤ i / d.w then ((clip.getD ((i / d.w - y) * d.w + (i % d.w - x)) none).getD (q.dot i)) else q.dot i }) el
  have z2 := congrArg (fun ls => (Except.ok ({ d with layers := ls } : Doc) : Except Int Doc)) z
  rw [pst_all wf.w1 ok.len hn]
  exact z2
theorem does_set {a b c : Nat} (hl : d.layers ≠ []) (el : d.layers[d.at_]? = some l) (h1 : a ≤ 3) (h2 : b ≤ 255) (h3 : c ≤ 1) : d.does clip (.set a b c) = .ok { d with layers := d.layers.set d.at_ { l with way := a, much := b, shown := c == 1 } } := by
  simp only [Doc.does]
  rw [if_neg (ie_ne hl), if_neg (by omega)]
  have z := zip_set0 (fun q : Layer => { q with way := a, much := b, shown := c == 1 }) el
  exact congrArg (fun ls => (Except.ok ({ d with layers := ls } : Doc) : Except Int Doc)) z
theorem does_press {r : List Layer} (hl : d.layers = l :: r) : d.does clip .press = .ok { d with ground := (List.range d.n).map (fun i => over (d.ground.getD i 0) l i), layers := r, at_ := d.at_ - 1 } := by
  simp only [Doc.does]
  rw [hl]
theorem does_new (h : d.layers.length < 5) : d.does clip .layer = .ok (newLayer d) := by
  simp only [Doc.does]
  rw [if_neg (by omega)]; rfl
end
theorem pd_empty {α β : Type} {F : α → β → Prop} : ∀ {l₁ : List α} {l₂ : List β}, Paired F l₁ l₂ → l₁.isEmpty = l₂.isEmpty
  | _, _, .nil => rfl
  | _, _, .cons _ _ => rfl
section
variable {P : Program} {w : World} {K : PySem.W.Frag} {mg : Str → Option Value} {base : Heap} {C_Layer C_Document C_Editor : Addr}
/-- a call x on the editor at e -/
def CallP (CL CD CE : Addr) (x : Ie13.Call) (e : Addr) (H : Hp) (Q : VK) : Prop := ∃ (F Z : Hp) (s : Ie13.St), EdAt CL CD CE F H Z e s ∧ SWf s ∧
  ∀ F' H' p, Fr F H F' H' → EdAt CL CD CE F' H' Z e (Ie13.step s x).1 → Ans F' p (Ie13.step s x).2 → Q (.ref p) H'
theorem CallP.err {CL CD CE : Addr} {x : Ie13.Call} {e p : Addr} {F H Z : Hp} {Q : VK} {s : Ie13.St} {i : Int} (hE : EdAt CL CD CE F H Z e s)
    (q : ∀ F' H' p, Fr F H F' H' → EdAt CL CD CE F' H' Z e (Ie13.step s x).1 → Ans F' p (Ie13.step s x).2 → Q (.ref p) H') (es : Ie13.step s x = (s, [i])) (hp : H p = none) : Q (.ref p) (upd H p (.lst [.int i])) := by
  rw [es] at q
  have hF : Same F H := by obtain ⟨_, _, _, _, _, h⟩ := hE; exact h.fH
  have X := (Ext.refl hF).new (o := .lst [.int i]) hp
  exact q _ _ p X.frame (hE.ext X) upd_same
theorem CallP.step {CL CD CE : Addr} {c : Ie13.Command} {e p : Addr} {F H Z F2 H2 : Hp} {Q : VK} {s : Ie13.St} {d : Ie13.Doc} (hE : EdAt CL CD CE F H Z e s) (wf : SWf s)
    (q : ∀ F' H' p, Fr F H F' H' → EdAt CL CD CE F' H' Z e (Ie13.step s (.command c)).1 → Ans F' p (Ie13.step s (.command c)).2 → Q (.ref p) H') (X : Ext F H F2 H2) (hd : DocAt CL CD F2 p d) (hdo : s.doc.does s.clip c = .ok d) (hc : c ≠ .cut) :
    sp_step_to CL CD CE [.ref e, .ref p] H2 Q E0 := by
  rw [step_cmd hdo hc] at q
  exact ⟨F2, Z, e, p, s, d, rfl, hE.ext X, wf, hd, does_nx wf.wf wf.clipB hdo, fun F' H' p fr ed an => q F' H' p (X.frame.trans fr) ed an⟩
theorem Ed_step : ∀ {d D U : Addr} {room : Nat} {c : V}, (EdF d D U room c).lookup ("step_to" : Str) = none := Ed_no (by decide +kernel) (by decide +kernel) (by decide +kernel) (by decide +kernel) (by decide +kernel)
theorem Ed_stand : ∀ {d D U : Addr} {room : Nat} {c : V}, (EdF d D U room c).lookup ("standing" : Str) = none := Ed_no (by decide +kernel) (by decide +kernel) (by decide +kernel) (by decide +kernel) (by decide +kernel)
theorem Ed_begin : ∀ {d D U : Addr} {room : Nat} {c : V}, (EdF d D U room c).lookup ("begin" : Str) = none := Ed_no (by decide +kernel) (by decide +kernel) (by decide +kernel) (by decide +kernel) (by decide +kernel)
theorem Ed_undo : ∀ {d D U : Addr} {room : Nat} {c : V}, (EdF d D U room c).lookup ("undo" : Str) = none := Ed_no (by decide +kernel) (by decide +kernel) (by decide +kernel) (by decide +kernel) (by decide +kernel)
theorem Ed_redo : ∀ {d D U : Addr} {room : Nat} {c : V}, (EdF d D U room c).lookup ("redo" : Str) = none := Ed_no (by decide +kernel) (by decide +kernel) (by decide +kernel) (by decide +kernel) (by decide +kernel)
theorem Ed_sizes : ∀ {d D U : Addr} {room : Nat} {c : V}, (EdF d D U room c).lookup ("step_sizes" : Str) = none := Ed_no (by decide +kernel) (by decide +kernel) (by decide +kernel) (by decide +kernel) (by decide +kernel)
theorem one_ok : 1 ≤ sizeLine := by decide
def sp_page (CL CD CE : Addr) : Sp := fun vs H Q _ => ∃ (e : Addr) (w h g r : Nat), vs = [.ref e, .int w, .int h, .int g, .int r] ∧ CallP CL CD CE (.page w h g r) e H Q
theorem ok_page (T : Txt K mg C_Layer C_Document C_Editor) : Ok P w K mg base 4 "page" ["editor", "w", "h", "tone", "room"] (sp_page C_Layer C_Document C_Editor) := by
  have O_new_document := ok_new_document (P := P) (w := w) (base := base) T
  have O_Editor_begin := ok_Editor_begin (P := P) (w := w) (base := base) T
  have O_Editor_standing := ok_Editor_standing (P := P) (w := w) (base := base) T
  refine T.d_page.ok sc_page (fun vs H Q E h => ?_) (fun f cdv A outer s H vs Q E hr h => ⟨_, (pss_cons (ps_if (PW.pt (pw_or (pt_cmpR op_lt (pv 1) pe_int (nomark _)) (pw_or (pt_cmpR op_gt (pv 1) (pe_globC T.c_MOST_SIDE rfl) (nomark _)) (pw_or (pt_cmpR op_lt (pv 2) pe_int (nomark _)) (pw_or (pt_cmpR op_gt (pv 2) (pe_globC T.c_MOST_SIDE rfl) (nomark _)) (pw_or (pt_cmpR op_gt (pv 3) (pe_globC T.c_MOST_TONE rfl) (nomark _)) (pw_or1 (pt_cmpR op_gt (pv 4) (pe_globC T.c_MOST_ROOM rfl) (nomark _))))))))) (pss_one (ps_ret (pe_lst (pa_cons (pe_globC T.c_NO_SUCH_PAGE rfl) pa_nil)))) pss_nil)
      (pss_cons (ps_expr (pe_methO (pv 0) O_Editor_begin (hr.mono (by decide)) (pa_cons (pe_callO O_new_document (hr.mono (by decide)) rfl (pa_cons (pv 1) (pa_cons (pv 2) (pa_cons (pv 3) pa_nil)))) (pa_cons (pv 4) pa_nil))))
      (pss_one (ps_ret (pe_methO0 (pv 0) O_Editor_standing (hr.mono (by decide))))))), ?_⟩)
  · obtain ⟨_, _, _, _, _, rfl, _⟩ := h; rfl
  · obtain ⟨e, w, h, g, r, rfl, F, Z, s, hE, wf, q⟩ := h
    have bad : ∀ p, (w < 1 ∨ 6 < w ∨ h < 1 ∨ 6 < h ∨ 255 < g ∨ 1000 < r) → H p = none → Q (.ref p) (upd H p (.lst [.int (-1)])) := fun p hb hp =>
      CallP.err hE q (by simp only [Ie13.step]; rw [if_pos hb]) hp
    refine ⟨_, rfl, _, _, rfl, rfl, _, rfl, ?_⟩
    by_cases c1 : w < 1
    · exact ifT (decide_eq_true (by omega)) ⟨one_ok, fun p hp => bad p (by omega) hp⟩
    refine ifF (decide_eq_false (by omega)) ?_
    refine ⟨_, rfl, _, _, rfl, rfl, _, rfl, ?_⟩
    by_cases c2 : 6 < w
    · exact ifT (decide_eq_true (by omega)) ⟨one_ok, fun p hp => bad p (by omega) hp⟩
    refine ifF (decide_eq_false (by omega)) ?_
    refine ⟨_, rfl, _, _, rfl, rfl, _, rfl, ?_⟩
    by_cases c3 : h < 1
    · exact ifT (decide_eq_true (by omega)) ⟨one_ok, fun p hp => bad p (by omega) hp⟩
    refine ifF (decide_eq_false (by omega)) ?_
    refine ⟨_, rfl, _, _, rfl, rfl, _, rfl, ?_⟩
    by_cases c4 : 6 < h
    · exact ifT (decide_eq_true (by omega)) ⟨one_ok, fun p hp => bad p (by omega) hp⟩
    refine ifF (decide_eq_false (by omega)) ?_
    refine ⟨_, rfl, _, _, rfl, rfl, _, rfl, ?_⟩
    by_cases c5 : 255 < g
    · exact ifT (decide_eq_true (by omega)) ⟨one_ok, fun p hp => bad p (by omega) hp⟩
    refine ifF (decide_eq_false (by omega)) ?_
    refine ⟨_, rfl, _, _, rfl, rfl, _, rfl, ?_⟩
    by_cases c6 : 1000 < r
    · exact ifT (decide_eq_true (by omega)) ⟨one_ok, fun p hp => bad p (by omega) hp⟩
    refine ifF (decide_eq_false (by omega)) ?_
    have es : Ie13.step s (.page w h g r) = ((⟨Ie13.fresh w h g, [], [], r, []⟩ : Ie13.St), Ie13.told ⟨Ie13.fresh w h g, [], [], r, []⟩) := by
      simp only [Ie13.step]; rw [if_neg (by omega)]
    rw [es] at q
    obtain ⟨dx, d, D, U, c, hR⟩ := hE
    refine ⟨_, rfl, _, _, _, rfl, hR.he, Ed_begin, ?_⟩
    refine ⟨_, rfl, _, rfl, _, rfl, ?_⟩
    refine ⟨F, w, h, g, rfl, hR.fH, by omega, by omega, by omega, by omega, fun F1 H1 p e1 hp => ?_⟩
    have h1 := hR.ext e1
    refine ⟨_, rfl, F1, Z, e, dx, p, _, r, _, rfl, h1.fH, h1.zH, h1.fe, h1.ze, h1.he, .inr ⟨_, _, _, _, _, rfl⟩, hp, fun F2 H2 fr2 h2 => ?_⟩
    obtain ⟨dx2, d2, D2, U2, c2, h2⟩ := h2
    refine ⟨_, rfl, _, _, _, rfl, h2.he, Ed_stand, ?_⟩
    exact ⟨F2, Z, e, _, rfl, ⟨_, _, _, _, _, h2⟩, fun F3 H3 p e3 an => q F3 H3 p ((e1.frame.trans fr2).trans e3.frame) (EdAt.ext ⟨_, _, _, _, _, h2⟩ e3) an⟩
def sp_layer (CL CD CE : Addr) : Sp := fun vs H Q _ => ∃ (e : Addr), vs = [.ref e] ∧ CallP CL CD CE (.command .layer) e H Q
theorem ok_layer (T : Txt K mg C_Layer C_Document C_Editor) : Ok P w K mg base 5 "layer" ["editor"] (sp_layer C_Layer C_Document C_Editor) := by
  have O_with_new_layer := ok_with_new_layer (P := P) (w := w) (base := base) T
  have O_Editor_step_to := ok_Editor_step_to (P := P) (w := w) (base := base) T
  refine T.d_layer.ok sc_layer (fun vs H Q E h => ?_) (fun f cdv A outer s H vs Q E hr h => ⟨_, (pss_cons (ps_if (pt_cmpR op_eq (pe_callB (r := rLenK K) call_len_seq (by rfl) T.b_len PySem.boot_len (pa_cons (pe_fld (pe_fld (pv 0) rfl) rfl) pa_nil)) (pe_globC T.c_MOST_LAYERS rfl) (nomark _)) (pss_one (ps_ret (pe_lst (pa_cons (pe_globC T.c_NO_MORE_LAYERS rfl) pa_nil)))) pss_nil)
      (pss_one (ps_ret (pe_methO (pv 0) O_Editor_step_to (hr.mono (by decide)) (pa_cons (pe_callO O_with_new_layer (hr.mono (by decide)) rfl (pa_cons (pe_fld (pv 0) rfl) pa_nil)) pa_nil))))), ?_⟩)
  · obtain ⟨_, rfl, _⟩ := h; rfl
  · obtain ⟨e, rfl, F, Z, s, hE, wf, q⟩ := h
    have hE0 := hE
    obtain ⟨dx, d, D, U, c, h⟩ := hE
    obtain ⟨ddx, g, ls, ch, h1, h2, ⟨lv, h3, h4⟩, h5⟩ := h.hd.ex
    have hH := h.fH _ _ h1
    have hll := h4.length
    have hl5 := wf.wf.l5
    refine ⟨_, rfl, _, _, _, _, _, rfl, h.he, T.k_Editor, T.n_Editor_document, Ed_document, _, _, _, _, _, rfl, hH, T.k_Document, T.n_Document_layers, Doc_layers, _, _, rfl, .inl (SqL.of (h.fH _ _ h3)), rfl, _, rfl, ?_⟩
    by_cases c1 : s.doc.layers.length = 5
    · refine ifT (decide_eq_true (by rw [hll, c1]; rfl)) ⟨one_ok, fun p hp => CallP.err hE0 q (step_err ?_) hp⟩
      simp only [Ie13.Doc.does]; rw [if_pos (by omega)]
    · refine ifF (decide_eq_false (fun z => by injection z with z; omega)) ?_
      refine ⟨_, rfl, _, _, _, rfl, h.he, Ed_step, ?_⟩
      refine ⟨_, rfl, _, _, _, _, _, rfl, h.he, T.k_Editor, T.n_Editor_document, Ed_document, F, d, s.doc, rfl, h.fH, h.hd, wf.wf, fun F1 H1 p e1 hp => ?_⟩
      exact CallP.step hE0 wf q e1 hp (does_new (by omega)) (fun z => by cases z)
def sp_drop (CL CD CE : Addr) : Sp := fun vs H Q _ => ∃ (e : Addr), vs = [.ref e] ∧ CallP CL CD CE (.command .drop) e H Q
theorem ok_drop (T : Txt K mg C_Layer C_Document C_Editor) : Ok P w K mg base 5 "drop" ["editor"] (sp_drop C_Layer C_Document C_Editor) := by
  have O_with_layers := ok_with_layers (P := P) (w := w) (base := base) T
  have O_Editor_step_to := ok_Editor_step_to (P := P) (w := w) (base := base) T
  refine T.d_drop.ok sc_drop (fun vs H Q E h => ?_) (fun f cdv A outer s H vs Q E hr h => ⟨_, (pss_cons (ps_set (i := 1) sc_drop.nd rfl (Or.inl rfl) (pe_fld (pv 0) rfl))
      (pss_cons (ps_if (pt_not (pt_truth (pe_fld (pv 1) rfl) (by intro _; rfl))) (pss_one (ps_ret (pe_lst (pa_cons (pe_globC T.c_NO_SUCH_LAYER rfl) pa_nil)))) pss_nil)
      (pss_cons (ps_set (i := 2) sc_drop.nd rfl (Or.inl rfl) (pe_fld (pv 1) rfl))
      (pss_cons (ps_set (i := 3) sc_drop.nd rfl (Or.inl rfl) (pe_op op_cat (pe_slice sl_list (pe_fld (pv 1) rfl) po_none (po_some (pv 2))) (pe_slice sl_list (pe_fld (pv 1) rfl) (po_some (pe_op op_add (pv 2) pe_int)) po_none)))
      (pss_one (ps_ret (pe_methO (pv 0) O_Editor_step_to (hr.mono (by decide)) (pa_cons (pe_callO O_with_layers (hr.mono (by decide)) rfl (pa_cons (pv 1) (pa_cons (pv 3) (pa_cons (pe_callB (call_max2 rfl) (by rfl) T.b_max (by decide +kernel) (pa_cons (pe_callB (call_min2 rfl) (by rfl) T.b_min (by decide +kernel) (pa_cons (pv 2) (pa_cons (pe_op op_sub (pe_callB (r := rLenK K) call_len_seq (by rfl) T.b_len PySem.boot_len (pa_cons (pv 3) pa_nil)) pe_int) pa_nil))) (pa_cons pe_int pa_nil))) pa_nil)))) pa_nil)))))))), ?_⟩)
  · obtain ⟨_, rfl, _⟩ := h; rfl
  · obtain ⟨e, rfl, F, Z, s, hE, wf, q⟩ := h
    have hE0 := hE
    obtain ⟨dx, d, D, U, c, h⟩ := hE
    obtain ⟨ddx, g, ls, ch, h1, h2, ⟨lv, h3, h4⟩, h5⟩ := h.hd.ex
    have hH := h.fH _ _ h1
    have hll := h4.length
    have hl5 := wf.wf.l5
    have hsz : (100 : Nat) ≤ sizeLine := by decide
    refine ⟨_, rfl, _, _, _, _, _, rfl, h.he, T.k_Editor, T.n_Editor_document, Ed_document, ?_⟩
    refine ⟨_, rfl, _, _, _, _, _, rfl, hH, T.k_Document, T.n_Document_layers, Doc_layers, !lv.isEmpty, .inl ⟨_, SqL.of (h.fH _ _ h3), rfl⟩, ?_⟩
    by_cases hl : s.doc.layers = []
    · refine ifT (by rw [pd_empty h4, hl]; rfl) ⟨one_ok, fun p hp => CallP.err hE0 q (step_err ?_) hp⟩
      simp only [Ie13.Doc.does]; rw [if_pos (by rw [hl]; rfl)]
    refine ifF (by rw [pd_empty h4]; cases z : s.doc.layers with | nil => exact absurd z hl | cons a b => rfl) ?_
    have hat := wf.wf.at1 hl
    refine ⟨_, rfl, _, _, _, _, _, rfl, hH, T.k_Document, T.n_Document_worked, Doc_worked, ?_⟩
    refine ⟨_, rfl, _, _, _, _, _, rfl, hH, T.k_Document, T.n_Document_layers, Doc_layers, ?_⟩
    refine ⟨_, rfl, _, rfl, _, _, rfl, SqL.of (h.fH _ _ h3), fun p1 hp1 => ?_⟩
    rw [cut_to]
    have E1 := (Ext.refl h.fH).newM (o := .lst (lv.take s.doc.at_)) hp1
    refine ⟨_, rfl, _, _, _, _, _, rfl, (E1.hh _ _ hH), T.k_Document, T.n_Document_layers, Doc_layers, ?_⟩
    refine ⟨_, rfl, _, _, rfl, rfl, _, rfl, _, _, rfl, SqL.of (E1.hh _ _ (h.fH _ _ h3)), fun p2 hp2 => ?_⟩
    have ec : cutV lv (some ((s.doc.at_ : Int) + 1)) none = lv.drop (s.doc.at_ + 1) := cut_from lv (s.doc.at_ + 1)
    rw [ec]
    have E2 := E1.newM (o := .lst (lv.drop (s.doc.at_ + 1))) hp2
    refine ⟨_, _, _, _, rfl, rfl, upd_at upd_same hp2, upd_same, ?_, fun p3 hp3 => ?_⟩
    · rw [List.length_take, List.length_drop]; omega
    have E3 := E2.new (o := .lst (lv.take s.doc.at_ ++ lv.drop (s.doc.at_ + 1))) hp3
    have h3' := h.ext E3
    refine ⟨_, rfl, _, _, _, rfl, h3'.he, Ed_step, ?_⟩
    refine ⟨_, rfl, _, rfl, ?_⟩
    refine ⟨_, rfl, _, rfl, _, _, rfl, .inl (SqL.of upd_same), _, _, rfl, rfl, _, _, rfl, _, _, rfl, ?_⟩
    have el : (lv.take s.doc.at_ ++ lv.drop (s.doc.at_ + 1)).length = s.doc.layers.length - 1 := by
      rw [List.length_append, List.length_take, List.length_drop]; omega
    refine ⟨_, d, p3, s.doc, s.doc.layers.eraseIdx s.doc.at_, min s.doc.at_ (s.doc.layers.length - 2), ?_, E3.fh, h3'.hd, ⟨_, upd_same, ?_⟩, fun F4 H4 p e4 hp => ?_⟩
    · rw [el]
      congr 3
      refine congrArg V.int ?_
      show (if (0 : Int) > (if ((s.doc.layers.length - 1 : Nat) : Int) - 1 < (s.doc.at_ : Int) then ((s.doc.layers.length - 1 : Nat) : Int) - 1 else (s.doc.at_ : Int)) then (0 : Int) else (if ((s.doc.layers.length - 1 : Nat) : Int) - 1 < (s.doc.at_ : Int) then ((s.doc.layers.length - 1 : Nat) : Int) - 1 else (s.doc.at_ : Int))) = ((min s.doc.at_ (s.doc.layers.length - 2) : Nat) : Int)
      split <;> split at * <;> omega
    · rw [List.eraseIdx_eq_take_drop_succ]
      exact pd_mono (fun v x => RL.mono F _ v x E3.ff) (pd_app (pd_take _ h4) (pd_drop _ h4))
    · refine CallP.step hE0 wf q (E3.trans e4) hp ?_ (fun z => by cases z)
      simp only [Ie13.Doc.does]; rw [if_neg (ie_ne hl)]
def sp_pick (CL CD CE : Addr) : Sp := fun vs H Q _ => ∃ (e : Addr) (i : Nat), vs = [.ref e, .int i] ∧ CallP CL CD CE (.command (.pick i)) e H Q
theorem ok_pick (T : Txt K mg C_Layer C_Document C_Editor) : Ok P w K mg base 5 "pick" ["editor", "i"] (sp_pick C_Layer C_Document C_Editor) := by
  have O_with_layers := ok_with_layers (P := P) (w := w) (base := base) T
  have O_Editor_step_to := ok_Editor_step_to (P := P) (w := w) (base := base) T
  refine T.d_pick.ok sc_pick (fun vs H Q E h => ?_) (fun f cdv A outer s H vs Q E hr h => ⟨_, (pss_cons (ps_set (i := 2) sc_pick.nd rfl (Or.inl rfl) (pe_fld (pv 0) rfl))
      (pss_cons (ps_if (pt_cmpR op_ge (pv 1) (pe_callB (r := rLenK K) call_len_seq (by rfl) T.b_len PySem.boot_len (pa_cons (pe_fld (pv 2) rfl) pa_nil)) (nomark _)) (pss_one (ps_ret (pe_lst (pa_cons (pe_globC T.c_NO_SUCH_LAYER rfl) pa_nil)))) pss_nil)
      (pss_one (ps_ret (pe_methO (pv 0) O_Editor_step_to (hr.mono (by decide)) (pa_cons (pe_callO O_with_layers (hr.mono (by decide)) rfl (pa_cons (pv 2) (pa_cons (pe_fld (pv 2) rfl) (pa_cons (pv 1) pa_nil)))) pa_nil)))))), ?_⟩)
  · obtain ⟨_, _, rfl, _⟩ := h; rfl
  · obtain ⟨e, i, rfl, F, Z, s, hE, wf, q⟩ := h
    have hE0 := hE
    obtain ⟨dx, d, D, U, c, h⟩ := hE
    obtain ⟨ddx, g, ls, ch, h1, h2, ⟨lv, h3, h4⟩, h5⟩ := h.hd.ex
    have hH := h.fH _ _ h1
    have hll := h4.length
    refine ⟨_, rfl, _, _, _, _, _, rfl, h.he, T.k_Editor, T.n_Editor_document, Ed_document, ?_⟩
    refine ⟨_, rfl, _, rfl, _, _, _, _, _, rfl, hH, T.k_Document, T.n_Document_layers, Doc_layers, _, _, rfl, .inl (SqL.of (h.fH _ _ h3)), _, _, rfl, rfl, _, rfl, ?_⟩
    by_cases c1 : s.doc.layers.length ≤ i
    · refine ifT (decide_eq_true (by omega)) ⟨one_ok, fun p hp => CallP.err hE0 q (step_err ?_) hp⟩
      simp only [Ie13.Doc.does]; rw [if_pos c1]
    · refine ifF (decide_eq_false (by omega)) ?_
      refine ⟨_, rfl, _, _, _, rfl, h.he, Ed_step, ?_⟩
      refine ⟨_, rfl, _, rfl, _, _, _, _, _, rfl, hH, T.k_Document, T.n_Document_layers, Doc_layers, _, rfl, F, d, ls, s.doc, s.doc.layers, i, rfl, h.fH, h.hd, ⟨lv, h3, h4⟩, fun F1 H1 p e1 hp => ?_⟩
      refine CallP.step hE0 wf q e1 hp ?_ (fun z => by cases z)
      simp only [Ie13.Doc.does]; rw [if_neg c1]
def sp_raise_it (CL CD CE : Addr) : Sp := fun vs H Q _ => ∃ (e : Addr), vs = [.ref e] ∧ CallP CL CD CE (.command .raise) e H Q
theorem ok_raise_it (T : Txt K mg C_Layer C_Document C_Editor) : Ok P w K mg base 5 "raise_it" ["editor"] (sp_raise_it C_Layer C_Document C_Editor) := by
  have O_with_layers := ok_with_layers (P := P) (w := w) (base := base) T
  have O_Editor_step_to := ok_Editor_step_to (P := P) (w := w) (base := base) T
  refine T.d_raise_it.ok sc_raise_it (fun vs H Q E h => ?_) (fun f cdv A outer s H vs Q E hr h => ⟨_, (pss_cons (ps_set (i := 1) sc_raise_it.nd rfl (Or.inl rfl) (pe_fld (pv 0) rfl))
      (pss_cons (ps_set (i := 2) sc_raise_it.nd rfl (Or.inl rfl) (pe_fld (pv 1) rfl))
      (pss_cons (ps_if (pt_cmpR op_ge (pe_op op_add (pv 2) pe_int) (pe_callB (r := rLenK K) call_len_seq (by rfl) T.b_len PySem.boot_len (pa_cons (pe_fld (pv 1) rfl) pa_nil)) (nomark _)) (pss_one (ps_ret (pe_lst (pa_cons (pe_globC T.c_NO_SUCH_LAYER rfl) pa_nil)))) pss_nil)
      (pss_cons (ps_set (i := 3) sc_raise_it.nd rfl (Or.inl rfl) (pe_lst (pa_cons (pe_ix (r := rIxL K) ix_list (pe_fld (pv 1) rfl) (pe_op op_add (pv 2) pe_int) (fun _ _ => rfl)) (pa_cons (pe_ix (r := rIxL K) ix_list (pe_fld (pv 1) rfl) (pv 2) (fun _ _ => rfl)) pa_nil))))
      (pss_cons (ps_set (i := 4) sc_raise_it.nd rfl (Or.inl rfl) (pe_op op_cat (pe_op op_cat (pe_slice sl_list (pe_fld (pv 1) rfl) po_none (po_some (pv 2))) (pv 3)) (pe_slice sl_list (pe_fld (pv 1) rfl) (po_some (pe_op op_add (pv 2) pe_int)) po_none)))
      (pss_one (ps_ret (pe_methO (pv 0) O_Editor_step_to (hr.mono (by decide)) (pa_cons (pe_callO O_with_layers (hr.mono (by decide)) rfl (pa_cons (pv 1) (pa_cons (pv 4) (pa_cons (pe_op op_add (pv 2) pe_int) pa_nil)))) pa_nil))))))))), ?_⟩)
  · obtain ⟨_, rfl, _⟩ := h; rfl
  · obtain ⟨e, rfl, F, Z, s, hE, wf, q⟩ := h
    have hE0 := hE
    obtain ⟨dx, d, D, U, c, h⟩ := hE
    obtain ⟨ddx, g, ls, ch, h1, h2, ⟨lv, h3, h4⟩, h5⟩ := h.hd.ex
    have hH := h.fH _ _ h1
    have hll := h4.length
    have hl5 := wf.wf.l5
    have hsz : (100 : Nat) ≤ sizeLine := by decide
    refine ⟨_, rfl, _, _, _, _, _, rfl, h.he, T.k_Editor, T.n_Editor_document, Ed_document, ?_⟩
    refine ⟨_, rfl, _, _, _, _, _, rfl, hH, T.k_Document, T.n_Document_worked, Doc_worked, ?_⟩
    refine ⟨_, rfl, _, _, rfl, rfl, _, rfl, _, _, _, _, _, rfl, hH, T.k_Document, T.n_Document_layers, Doc_layers, _, _, rfl, .inl (SqL.of (h.fH _ _ h3)), _, _, rfl, rfl, _, rfl, ?_⟩
    by_cases c1 : s.doc.layers.length ≤ s.doc.at_ + 1
    · refine ifT (decide_eq_true (by omega)) ⟨one_ok, fun p hp => CallP.err hE0 q (step_err ?_) hp⟩
      simp only [Ie13.Doc.does]
      have z : s.doc.layers[s.doc.at_ + 1]? = none := List.getElem?_eq_none c1
      rw [z]
      split
      · rename_i h2; cases h2
      · rfl
    · refine ifF (decide_eq_false (by omega)) ?_
      obtain ⟨a, ha⟩ : ∃ a, s.doc.layers[s.doc.at_]? = some a := ⟨_, List.getElem?_eq_getElem (by omega)⟩
      obtain ⟨b, hb⟩ : ∃ a, s.doc.layers[s.doc.at_ + 1]? = some a := ⟨_, List.getElem?_eq_getElem (by omega)⟩
      obtain ⟨va, hva, ra⟩ := pd_get h4 ha
      obtain ⟨vb, hvb, rb⟩ := pd_get h4 hb
      have eat : ((s.doc.at_ : Int) + 1) = ((s.doc.at_ + 1 : Nat) : Int) := rfl
      refine ⟨_, rfl, _, _, _, _, _, rfl, hH, T.k_Document, T.n_Document_layers, Doc_layers, _, rfl, _, _, rfl, rfl, _, _, _, _, rfl, rfl, SqL.of (h.fH _ _ h3), atI_nat hvb, ?_⟩
      refine ⟨_, rfl, _, _, _, _, _, rfl, hH, T.k_Document, T.n_Document_layers, Doc_layers, _, rfl, _, _, _, _, rfl, rfl, SqL.of (h.fH _ _ h3), atI_nat hva, (by show 2 ≤ sizeLine; decide), fun p0 hp0 => ?_⟩
      have E0' := (Ext.refl h.fH).newM (o := .lst [vb, va]) hp0
      refine ⟨_, rfl, _, _, _, _, _, rfl, (E0'.hh _ _ hH), T.k_Document, T.n_Document_layers, Doc_layers, ?_⟩
      refine ⟨_, rfl, _, rfl, _, _, rfl, SqL.of (E0'.hh _ _ (h.fH _ _ h3)), fun p1 hp1 => ?_⟩
      rw [cut_to]
      have E1 := E0'.newM (o := .lst (lv.take s.doc.at_)) hp1
      refine ⟨_, rfl, _, _, _, _, rfl, rfl, upd_same, upd_at upd_same hp1, ?_, fun p2 hp2 => ?_⟩
      · rw [List.length_take]; simp only [List.length_cons, List.length_nil]; omega
      have E2 := E1.newM (o := .lst (lv.take s.doc.at_ ++ [vb, va])) hp2
      refine ⟨_, rfl, _, _, _, _, _, rfl, (E2.hh _ _ hH), T.k_Document, T.n_Document_layers, Doc_layers, ?_⟩
      refine ⟨_, rfl, _, _, rfl, rfl, _, rfl, _, _, rfl, SqL.of (E2.hh _ _ (h.fH _ _ h3)), fun p3 hp3 => ?_⟩
      have ec : cutV lv (some ((s.doc.at_ : Int) + 2)) none = lv.drop (s.doc.at_ + 2) := cut_from lv (s.doc.at_ + 2)
      rw [ec]
      have E3 := E2.newM (o := .lst (lv.drop (s.doc.at_ + 2))) hp3
      refine ⟨_, _, _, _, rfl, rfl, upd_at upd_same hp3, upd_same, ?_, fun p4 hp4 => ?_⟩
      · rw [List.length_append, List.length_take, List.length_drop]; simp only [List.length_cons, List.length_nil]; omega
      have E4 := E3.new (o := .lst (lv.take s.doc.at_ ++ [vb, va] ++ lv.drop (s.doc.at_ + 2))) hp4
      have h4' := h.ext E4
      refine ⟨_, rfl, _, _, _, rfl, h4'.he, Ed_step, ?_⟩
      refine ⟨_, rfl, _, rfl, _, rfl, _, _, rfl, rfl, ?_⟩
      refine ⟨_, d, p4, s.doc, (s.doc.layers.set s.doc.at_ b).set (s.doc.at_ + 1) a, s.doc.at_ + 1, rfl, E4.fh, h4'.hd, ⟨_, upd_same, ?_⟩, fun F5 H5 p e5 hp => ?_⟩
      · rw [raise_cut ha hb]
        exact pd_mono (fun v x => RL.mono F _ v x E4.ff) (pd_app (pd_app (pd_take _ h4) (.cons rb (.cons ra .nil))) (pd_drop _ h4))
      · refine CallP.step hE0 wf q (E4.trans e5) hp ?_ (fun z => by cases z)
        simp only [Ie13.Doc.does, ha, hb]
def sp_set_it (CL CD CE : Addr) : Sp := fun vs H Q _ => ∃ (e : Addr) (a b c : Nat), vs = [.ref e, .int a, .int b, .int c] ∧ CallP CL CD CE (.command (.set a b c)) e H Q
theorem ok_set_it (T : Txt K mg C_Layer C_Document C_Editor) : Ok P w K mg base 5 "set_it" ["editor", "way", "much", "shown"] (sp_set_it C_Layer C_Document C_Editor) := by
  have O_worked_layer := ok_worked_layer (P := P) (w := w) (base := base) T
  have O_with_worked_layer := ok_with_worked_layer (P := P) (w := w) (base := base) T
  have O_Layer___init__ := ok_Layer_init (P := P) (w := w) (base := base) T
  have O_Editor_step_to := ok_Editor_step_to (P := P) (w := w) (base := base) T
  refine T.d_set_it.ok sc_set_it (fun vs H Q E h => ?_) (fun f cdv A outer s H vs Q E hr h => ⟨_, (pss_cons (ps_set (i := 4) sc_set_it.nd rfl (Or.inl rfl) (pe_fld (pv 0) rfl))
      (pss_cons (ps_if (pt_not (pt_truth (pe_fld (pv 4) rfl) (by intro _; rfl))) (pss_one (ps_ret (pe_lst (pa_cons (pe_globC T.c_NO_SUCH_LAYER rfl) pa_nil)))) pss_nil)
      (pss_cons (ps_if (PW.pt (pw_or (pt_cmpR op_gt (pv 1) (pe_globC T.c_MOST_WAY rfl) (nomark _)) (pw_or (pt_cmpR op_gt (pv 2) (pe_globC T.c_MOST_TONE rfl) (nomark _)) (pw_or1 (pt_cmpR op_gt (pv 3) pe_int (nomark _)))))) (pss_one (ps_ret (pe_lst (pa_cons (pe_globC T.c_NO_SUCH_SETTING rfl) pa_nil)))) pss_nil)
      (pss_cons (ps_set (i := 5) sc_set_it.nd rfl (Or.inl rfl) (pe_callO O_worked_layer (hr.mono (by decide)) rfl (pa_cons (pv 4) pa_nil)))
      (pss_one (ps_ret (pe_methO (pv 0) O_Editor_step_to (hr.mono (by decide)) (pa_cons (pe_callO O_with_worked_layer (hr.mono (by decide)) rfl (pa_cons (pv 4) (pa_cons (pe_makeO O_Layer___init__ (hr.mono (by decide)) rfl (pa_cons (pe_fld (pv 5) rfl) (pa_cons (pv 1) (pa_cons (pv 2) (pa_cons (pv 3) (pa_cons (pe_fld (pv 5) rfl) pa_nil)))))) pa_nil))) pa_nil)))))))), ?_⟩)
  · obtain ⟨_, _, _, _, rfl, _⟩ := h; rfl
  · obtain ⟨e, a, b, k, rfl, F, Z, s, hE, wf, q⟩ := h
    have hE0 := hE
    obtain ⟨dx, d, D, U, c, h⟩ := hE
    obtain ⟨ddx, g, ls, ch, h1, h2, ⟨lv, h3, h4⟩, h5⟩ := h.hd.ex
    have hH := h.fH _ _ h1
    refine ⟨_, rfl, _, _, _, _, _, rfl, h.he, T.k_Editor, T.n_Editor_document, Ed_document, ?_⟩
    refine ⟨_, rfl, _, _, _, _, _, rfl, hH, T.k_Document, T.n_Document_layers, Doc_layers, !lv.isEmpty, .inl ⟨_, SqL.of (h.fH _ _ h3), rfl⟩, ?_⟩
    by_cases hl : s.doc.layers = []
    · refine ifT (by rw [pd_empty h4, hl]; rfl) ⟨one_ok, fun p hp => CallP.err hE0 q (step_err ?_) hp⟩
      simp only [Ie13.Doc.does]; rw [if_pos (by rw [hl]; rfl)]
    refine ifF (by rw [pd_empty h4]; cases z : s.doc.layers with | nil => exact absurd z hl | cons a b => rfl) ?_
    have bad : ∀ p, (3 < a ∨ 255 < b ∨ 1 < k) → H p = none → Q (.ref p) (upd H p (.lst [.int (-3)])) := fun p hb hp =>
      CallP.err hE0 q (step_err (by simp only [Ie13.Doc.does]; rw [if_neg (ie_ne hl), if_pos hb])) hp
    refine ⟨_, rfl, _, _, rfl, rfl, _, rfl, ?_⟩
    by_cases c1 : 3 < a
    · exact ifT (decide_eq_true (by omega)) ⟨one_ok, fun p hp => bad p (by omega) hp⟩
    refine ifF (decide_eq_false (by omega)) ?_
    refine ⟨_, rfl, _, _, rfl, rfl, _, rfl, ?_⟩
    by_cases c2 : 255 < b
    · exact ifT (decide_eq_true (by omega)) ⟨one_ok, fun p hp => bad p (by omega) hp⟩
    refine ifF (decide_eq_false (by omega)) ?_
    refine ⟨_, rfl, _, _, rfl, rfl, _, rfl, ?_⟩
    by_cases c3 : 1 < k
    · exact ifT (decide_eq_true (by omega)) ⟨one_ok, fun p hp => bad p (by omega) hp⟩
    refine ifF (decide_eq_false (by omega)) ?_
    obtain ⟨l, el, lok⟩ := wf.wf.lay hl
    refine ⟨_, rfl, F, d, s.doc, l, rfl, h.fH, h.hd, el, fun r hr => ?_⟩
    obtain ⟨dxl, cc, g1, g2⟩ := hr
    have gH := h.fH _ _ g1
    refine ⟨_, rfl, _, _, _, rfl, h.he, Ed_step, ?_⟩
    refine ⟨_, rfl, _, rfl, _, _, _, _, _, rfl, gH, T.k_Layer, T.n_Layer_number, Lay_number, _, rfl, _, rfl, _, rfl, _, rfl, _, _, _, _, _, rfl, gH, T.k_Layer, T.n_Layer_cells, Lay_cells, ?_⟩
    intro x dx' hx hdx ne
    refine ⟨x, dx', _, _, _, _, _, rfl, upd_same, rfl, ?_⟩
    rw [upd_upd]
    have ek : V.int (k : Int) = V.int (bI (k == 1)) := by
      rcases (show k = 0 ∨ k = 1 by omega) with rfl | rfl <;> rfl
    rw [ek]
    have m := mkLay (CL := C_Layer) (l := { l with way := a, much := b, shown := k == 1 }) (c := cc) (Ext.refl h.fH) hx hdx ne g2
    refine ⟨_, d, x, s.doc, { l with way := a, much := b, shown := k == 1 }, rfl, m.1.fh, h.hd.mono m.1.ff, m.2, (List.getElem?_eq_some_iff.mp el).1, wf.wf.l5, fun F2 H2 p e2 hp => ?_⟩
    exact CallP.step hE0 wf q (m.1.trans e2) hp (does_set hl el (by omega) (by omega) (by omega)) (fun z => by cases z)
end
end Lp
namespace Lp
open PySem PySem.Spec PyProof.Rows L2
section
variable {P : Program} {w : World} {K : PySem.W.Frag} {mg : Str → Option Value} {base : Heap} {C_Layer C_Document C_Editor : Addr}
def chs (d : Ie13.Doc) (k : Nat) (bs : List Bool) : Ie13.Doc := { d with chosen := (List.range d.n).map fun i => Ie13.mix k (d.chosen.getD i false) (bs.getD i false) }
def sp_choose (CL CD CE : Addr) : Sp := fun vs H Q _ => ∃ (F Z : Hp) (s : Ie13.St) (e ra : Addr) (k : Nat) (bs : List Bool), vs = [.ref e, .int k, .ref ra] ∧ EdAt CL CD CE F H Z e s ∧ SWf s ∧ Bits F ra bs ∧ bs.length = s.doc.n ∧
  ∀ F' H' p, Fr F H F' H' → EdAt CL CD CE F' H' Z e (s.put (chs s.doc k bs)) → Ans F' p (Ie13.told (s.put (chs s.doc k bs))) → Q (.ref p) H'
theorem ok_choose (T : Txt K mg C_Layer C_Document C_Editor) : Ok P w K mg base 5 "choose" ["editor", "how", "region"] (sp_choose C_Layer C_Document C_Editor) := by
  have O_chosen_by := ok_chosen_by (P := P) (w := w) (base := base) T
  have O_with_chosen := ok_with_chosen (P := P) (w := w) (base := base) T
  have O_Editor_step_to := ok_Editor_step_to (P := P) (w := w) (base := base) T
  refine T.d_choose.ok sc_choose (fun vs H Q E h => ?_) (fun f cdv A outer s H vs Q E hr h => ⟨_, (pss_cons (ps_set (i := 3) sc_choose.nd rfl (Or.inl rfl) (pe_fld (pv 0) rfl))
      (pss_one (ps_ret (pe_methO (pv 0) O_Editor_step_to (hr.mono (by decide)) (pa_cons (pe_callO O_with_chosen (hr.mono (by decide)) rfl (pa_cons (pv 3) (pa_cons (pe_callO O_chosen_by (hr.mono (by decide)) rfl (pa_cons (pv 1) (pa_cons (pe_fld (pv 3) rfl) (pa_cons (pv 2) pa_nil)))) pa_nil))) pa_nil))))), ?_⟩)
  · obtain ⟨_, _, _, _, _, _, _, rfl, _⟩ := h; rfl
  · obtain ⟨F, Z, s, e, ra, k, bs, rfl, hE, wf, hb, hbl, q⟩ := h
    have hE0 := hE
    obtain ⟨dx, d, D, U, c, h⟩ := hE
    obtain ⟨ddx, g, ls, ch, h1, h2, ⟨lv, h3, h4⟩, h5⟩ := h.hd.ex
    have hH := h.fH _ _ h1
    have hll := h4.length
    have hl5 := wf.wf.l5
    have h36 := wf.wf.n36
    refine ⟨_, rfl, _, _, _, _, _, rfl, h.he, T.k_Editor, T.n_Editor_document, Ed_document, ?_⟩
    refine ⟨_, rfl, _, _, _, rfl, h.he, Ed_step, ?_⟩
    refine ⟨_, rfl, _, rfl, _, rfl, _, _, _, _, _, rfl, hH, T.k_Document, T.n_Document_chosen, Doc_chosen, _, rfl, F, k, s.doc.n, ch, ra, s.doc.chosen, bs, rfl, h.fH, h5, hb, wf.wf.clen, hbl, h36, fun F1 H1 p1 e1 hp1 => ?_⟩
    refine ⟨F1, d, p1, s.doc, _, rfl, e1.fh, h.hd.mono e1.ff, hp1, fun F2 H2 p2 e2 hp2 => ?_⟩
    exact ⟨F2, Z, e, p2, s, _, rfl, hE0.ext (e1.trans e2), wf, hp2, Nx.chosen wf.wf (by rw [List.length_map, List.length_range]), fun F3 H3 p fr ed an => q F3 H3 p ((e1.trans e2).frame.trans fr) ed an⟩

/-- the cells chosen are others -/
theorem choose_eq {d : Ie13.Doc} {k : Nat} {f : Nat → Bool} {bs : List Bool} (hb : ∀ i, i < d.n → bs.getD i false = f i) : chs d k bs = d.choose k f := by
  unfold chs Ie13.Doc.choose
  have z : (List.range d.n).map (fun i => Ie13.mix k (d.chosen.getD i false) (bs.getD i false)) = (List.range d.n).map (fun i => Ie13.mix k (d.isChosen i) (f i)) := by
    apply List.map_congr_left
    intro i hi
    rw [hb i (List.mem_range.mp hi)]; rfl
  rw [z]
def sp_box (CL CD CE : Addr) : Sp := fun vs H Q _ => ∃ (e : Addr) (x y u v k : Nat), vs = [.ref e, .int x, .int y, .int u, .int v, .int k] ∧ CallP CL CD CE (.command (.box x y u v k)) e H Q
theorem ok_box (T : Txt K mg C_Layer C_Document C_Editor) : Ok P w K mg base 6 "box" ["editor", "x", "y", "u", "v", "how"] (sp_box C_Layer C_Document C_Editor) := by
  have O_box_region := ok_box_region (P := P) (w := w) (base := base) T
  have O_choose := ok_choose (P := P) (w := w) (base := base) T
  refine T.d_box.ok sc_box (fun vs H Q E h => ?_) (fun f cdv A outer s H vs Q E hr h => ⟨_, (pss_cons (ps_if (pt_cmpR op_gt (pv 5) (pe_globC T.c_MOST_HOW rfl) (nomark _)) (pss_one (ps_ret (pe_lst (pa_cons (pe_globC T.c_NO_SUCH_SETTING rfl) pa_nil)))) pss_nil)
      (pss_cons (ps_set (i := 6) sc_box.nd rfl (Or.inl rfl) (pe_fld (pv 0) rfl))
      (pss_one (ps_ret (pe_callO O_choose (hr.mono (by decide)) rfl (pa_cons (pv 0) (pa_cons (pv 5) (pa_cons (pe_callO O_box_region (hr.mono (by decide)) rfl (pa_cons (pe_fld (pv 6) rfl) (pa_cons (pe_fld (pv 6) rfl) (pa_cons (pv 1) (pa_cons (pv 2) (pa_cons (pv 3) (pa_cons (pv 4) pa_nil))))))) pa_nil)))))))), ?_⟩)
  · obtain ⟨_, _, _, _, _, _, rfl, _⟩ := h; rfl
  · obtain ⟨e, x, y, u, v, k, rfl, F, Z, s, hE, wf, q⟩ := h
    have hE0 := hE
    obtain ⟨dx, d, D, U, c, h⟩ := hE
    obtain ⟨ddx, g, ls, ch, h1, h2, ⟨lv, h3, h4⟩, h5⟩ := h.hd.ex
    have hH := h.fH _ _ h1
    have hll := h4.length
    have hl5 := wf.wf.l5
    have h36 := wf.wf.n36
    refine ⟨_, rfl, _, _, rfl, rfl, _, rfl, ?_⟩
    by_cases c1 : 3 < k
    · exact ifT (decide_eq_true (by omega)) ⟨one_ok, fun p hp => CallP.err hE0 q (step_err (by simp only [Ie13.Doc.does]; rw [if_pos c1])) hp⟩
    refine ifF (decide_eq_false (by omega)) ?_
    refine ⟨_, rfl, _, _, _, _, _, rfl, h.he, T.k_Editor, T.n_Editor_document, Ed_document, ?_⟩
    have hdo : s.doc.does s.clip (.box x y u v k) = .ok (s.doc.choose k (Ie13.inBox s.doc.w x y u v)) := by
      simp only [Ie13.Doc.does]; rw [if_neg c1]
    rw [step_cmd hdo (fun z => by cases z)] at q
    refine ⟨_, rfl, _, rfl, _, rfl, _, _, _, _, _, rfl, hH, T.k_Document, T.n_Document_width, Doc_width, _, rfl, _, _, _, _, _, rfl, hH, T.k_Document, T.n_Document_height, Doc_height, _, rfl, _, rfl, _, rfl, _, rfl, F, s.doc.w, s.doc.h, x, y, u, v, rfl, h.fH, wf.wf.w1, wf.wf.w6, wf.wf.h1, wf.wf.h6, fun F1 H1 p1 e1 hp1 => ?_⟩
    refine ⟨F1, Z, s, e, p1, k, _, rfl, hE0.ext e1, wf, hp1, by rw [List.length_map, List.length_range]; rfl, ?_⟩
    have z := choose_eq (d := s.doc) (k := k) (bs := (List.range (s.doc.w * s.doc.h)).map (Ie13.inBox s.doc.w x y u v)) (f := Ie13.inBox s.doc.w x y u v) (fun i hi => getD_range _ hi false)
    rw [← z] at q
    exact fun F2 H2 p fr ed an => q F2 H2 p (e1.frame.trans fr) ed an
def sp_like (CL CD CE : Addr) : Sp := fun vs H Q _ => ∃ (e : Addr) (x y t k : Nat), vs = [.ref e, .int x, .int y, .int t, .int k] ∧ CallP CL CD CE (.command (.like x y t k)) e H Q
theorem ok_like (T : Txt K mg C_Layer C_Document C_Editor) : Ok P w K mg base 6 "like" ["editor", "x", "y", "t", "how"] (sp_like C_Layer C_Document C_Editor) := by
  have O_picture_tones := ok_picture_tones (P := P) (w := w) (base := base) T
  have O_like_region := ok_like_region (P := P) (w := w) (base := base) T
  have O_choose := ok_choose (P := P) (w := w) (base := base) T
  refine T.d_like.ok sc_like (fun vs H Q E h => ?_) (fun f cdv A outer s H vs Q E hr h => ⟨_, (pss_cons (ps_set (i := 5) sc_like.nd rfl (Or.inl rfl) (pe_fld (pv 0) rfl))
      (pss_cons (ps_if (PW.pt (pw_or (pt_cmpR op_ge (pv 1) (pe_fld (pv 5) rfl) (nomark _)) (pw_or1 (pt_cmpR op_ge (pv 2) (pe_fld (pv 5) rfl) (nomark _))))) (pss_one (ps_ret (pe_lst (pa_cons (pe_globC T.c_NO_SUCH_CELL rfl) pa_nil)))) pss_nil)
      (pss_cons (ps_if (pt_cmpR op_gt (pv 4) (pe_globC T.c_MOST_HOW rfl) (nomark _)) (pss_one (ps_ret (pe_lst (pa_cons (pe_globC T.c_NO_SUCH_SETTING rfl) pa_nil)))) pss_nil)
      (pss_cons (ps_set (i := 6) sc_like.nd rfl (Or.inl rfl) (pe_op op_add (pe_op op_mul (pv 2) (pe_fld (pv 5) rfl)) (pv 1)))
      (pss_cons (ps_set (i := 7) sc_like.nd rfl (Or.inl rfl) (pe_callO O_like_region (hr.mono (by decide)) rfl (pa_cons (pe_callO O_picture_tones (hr.mono (by decide)) rfl (pa_cons (pv 5) pa_nil)) (pa_cons (pe_fld (pv 5) rfl) (pa_cons (pe_fld (pv 5) rfl) (pa_cons (pv 6) (pa_cons (pv 3) pa_nil)))))))
      (pss_one (ps_ret (pe_callO O_choose (hr.mono (by decide)) rfl (pa_cons (pv 0) (pa_cons (pv 4) (pa_cons (pv 7) pa_nil))))))))))), ?_⟩)
  · obtain ⟨_, _, _, _, _, rfl, _⟩ := h; rfl
  · obtain ⟨e, x, y, t, k, rfl, F, Z, s, hE, wf, q⟩ := h
    have hE0 := hE
    obtain ⟨dx, d, D, U, c, h⟩ := hE
    obtain ⟨ddx, g, ls, ch, h1, h2, ⟨lv, h3, h4⟩, h5⟩ := h.hd.ex
    have hH := h.fH _ _ h1
    have hll := h4.length
    have hl5 := wf.wf.l5
    have h36 := wf.wf.n36
    refine ⟨_, rfl, _, _, _, _, _, rfl, h.he, T.k_Editor, T.n_Editor_document, Ed_document, ?_⟩
    have bad : ∀ p, (s.doc.w ≤ x ∨ s.doc.h ≤ y) → H p = none → Q (.ref p) (upd H p (.lst [.int (-1)])) := fun p hb hp =>
      CallP.err hE0 q (step_err (by simp only [Ie13.Doc.does]; rw [if_pos hb])) hp
    refine ⟨_, rfl, _, rfl, _, _, _, _, _, rfl, hH, T.k_Document, T.n_Document_width, Doc_width, _, _, rfl, rfl, _, rfl, ?_⟩
    by_cases c1 : s.doc.w ≤ x
    · exact ifT (decide_eq_true (by omega)) ⟨one_ok, fun p hp => bad p (.inl c1) hp⟩
    refine ifF (decide_eq_false (by omega)) ?_
    refine ⟨_, rfl, _, rfl, _, _, _, _, _, rfl, hH, T.k_Document, T.n_Document_height, Doc_height, _, _, rfl, rfl, _, rfl, ?_⟩
    by_cases c2 : s.doc.h ≤ y
    · exact ifT (decide_eq_true (by omega)) ⟨one_ok, fun p hp => bad p (.inr c2) hp⟩
    refine ifF (decide_eq_false (by omega)) ?_
    refine ⟨_, rfl, _, _, rfl, rfl, _, rfl, ?_⟩
    by_cases c3 : 3 < k
    · exact ifT (decide_eq_true (by omega)) ⟨one_ok, fun p hp => CallP.err hE0 q (step_err (by simp only [Ie13.Doc.does]; rw [if_neg (by omega), if_pos c3])) hp⟩
    refine ifF (decide_eq_false (by omega)) ?_
    have hdo : s.doc.does s.clip (.like x y t k) = .ok (s.doc.choose k (Ie13.reach s.doc.w s.doc.n t s.doc.picture s.doc.n [y * s.doc.w + x]).contains) := by
      simp only [Ie13.Doc.does]; rw [if_neg (by omega), if_neg c3]
    rw [step_cmd hdo (fun z => by cases z)] at q
    have hw1 := wf.wf.w1
    have hw6 := wf.wf.w6
    have hst : y * s.doc.w + x < s.doc.w * s.doc.h := by
      have : y * s.doc.w + s.doc.w ≤ s.doc.h * s.doc.w := by
        rw [← Nat.succ_mul]; exact Nat.mul_le_mul_right _ (by omega)
      rw [Nat.mul_comm s.doc.w s.doc.h]; omega
    refine ⟨_, rfl, _, rfl, _, _, _, _, _, rfl, hH, T.k_Document, T.n_Document_width, Doc_width, _, _, rfl, rfl, .inr ⟨by omega, by omega⟩, _, rfl, _, _, rfl, rfl, ?_⟩
    refine ⟨_, rfl, F, d, s.doc, rfl, h.fH, h.hd, wf.wf, fun F1 H1 p1 e1 hp1 => ?_⟩
    have hH1 := e1.hh _ _ hH
    refine ⟨_, rfl, _, _, _, _, _, rfl, hH1, T.k_Document, T.n_Document_width, Doc_width, _, rfl, _, _, _, _, _, rfl, hH1, T.k_Document, T.n_Document_height, Doc_height, _, rfl, _, rfl, ?_⟩
    refine ⟨F1, p1, s.doc.picture, s.doc.w, s.doc.h, y * s.doc.w + x, t, ?_, e1.fh, hp1, by unfold Ie13.Doc.picture; rw [List.length_map, List.length_range]; rfl, wf.wf.w1, wf.wf.w6, wf.wf.h1, wf.wf.h6, hst, fun F2 H2 p2 e2 hp2 => ?_⟩
    · have : (y : Int) * (s.doc.w : Int) + (x : Int) = ((y * s.doc.w + x : Nat) : Int) := by push_cast; rfl
      rw [← this]
    refine ⟨_, rfl, _, rfl, _, rfl, F2, Z, s, e, p2, k, _, rfl, hE0.ext (e1.trans e2), wf, hp2, by rw [List.length_map, List.length_range]; rfl, ?_⟩
    have z := choose_eq (d := s.doc) (k := k) (bs := (List.range (s.doc.w * s.doc.h)).map fun b => (Ie13.reach s.doc.w (s.doc.w * s.doc.h) t s.doc.picture (s.doc.w * s.doc.h) [y * s.doc.w + x]).contains b) (f := (Ie13.reach s.doc.w s.doc.n t s.doc.picture s.doc.n [y * s.doc.w + x]).contains) (fun i hi => getD_range _ hi false)
    rw [← z] at q
    exact fun F3 H3 p fr ed an => q F3 H3 p ((e1.trans e2).frame.trans fr) ed an
def sp_turn (CL CD CE : Addr) : Sp := fun vs H Q _ => ∃ (e : Addr), vs = [.ref e] ∧ CallP CL CD CE (.command .turn) e H Q
theorem ok_turn (T : Txt K mg C_Layer C_Document C_Editor) : Ok P w K mg base 5 "turn" ["editor"] (sp_turn C_Layer C_Document C_Editor) := by
  have O_with_chosen := ok_with_chosen (P := P) (w := w) (base := base) T
  have O_Editor_step_to := ok_Editor_step_to (P := P) (w := w) (base := base) T
  refine T.d_turn.ok sc_turn (fun vs H Q E h => ?_) (fun f cdv A outer s H vs Q E hr h => ⟨_, (pss_cons (ps_set (i := 1) sc_turn.nd rfl (Or.inl rfl) (pe_fld (pv 0) rfl))
      (pss_one (ps_ret (pe_methO (pv 0) O_Editor_step_to (hr.mono (by decide)) (pa_cons (pe_callO O_with_chosen (hr.mono (by decide)) rfl (pa_cons (pv 1) (pa_cons (pe_lc (g := (gName 2)) (tt := tYes) (own := [("was", 2)]) rfl sc_turn.nd (pi_list (pe_fld (pv 1) rfl)) (blkOk_by (own := [("was", 2)]) (N := ["editor", "document", "was"]) (sc := defScope s_turn) (by decide +kernel)) (fun _ _ _ _ _ => (pg_name (i := 2) sc_turn.nd rfl (Or.inl rfl))) (fun _ _ _ _ _ => pts_nil) (fun _ _ _ _ _ => (pe_op op_sub pe_int (pv 2)))) pa_nil))) pa_nil))))), ?_⟩)
  · obtain ⟨_, rfl, _⟩ := h; rfl
  · obtain ⟨e, rfl, F, Z, s, hE, wf, q⟩ := h
    have hE0 := hE
    obtain ⟨dx, d, D, U, c, h⟩ := hE
    obtain ⟨ddx, g, ls, ch, h1, h2, ⟨lv, h3, h4⟩, h5⟩ := h.hd.ex
    have hH := h.fH _ _ h1
    have hll := h4.length
    have hl5 := wf.wf.l5
    have h36 := wf.wf.n36
    refine ⟨_, rfl, _, _, _, _, _, rfl, h.he, T.k_Editor, T.n_Editor_document, Ed_document, ?_⟩
    obtain ⟨cv, k1, k2⟩ := h5
    refine ⟨_, rfl, _, _, _, rfl, h.he, Ed_step, ?_⟩
    refine ⟨_, rfl, tLc_of ⟨_, rfl, _, _, _, _, _, rfl, hH, T.k_Document, T.n_Document_chosen, Doc_chosen, _, rfl, ⟨_, SqL.of (h.fH _ _ k1)⟩, ?_⟩⟩
    refine lcx_list (R := RB) (K := K) (a := ch) RB.mono (fun _ => true) (fun i => !(s.doc.chosen.getD i false)) h.fH (SqL.of (h.fH _ _ k1)) (k2.length.trans wf.wf.clen) (by omega) (fun _ => rfl) ?_ ?_
    · intro i F1 Ha x hx e1 Kp Sk a1 a2
      obtain ⟨b, hb, rfl⟩ := pd_getL k2 hx
      refine ⟨_, rfl, _, _, rfl, rfl, a1 rfl _ F1 Ha (Ext.refl e1.fh) ?_⟩
      show V.int _ = V.int _
      rw [List.getD_eq_getElem?_getD, hb]
      cases b <;> rfl
    · intro p F1 H1 e1 hp
      rw [filter_yes, ← wf.wf.clen, pd_map_range (fun b : Bool => !b)] at hp
      refine ⟨F1, d, p, s.doc, _, rfl, e1.fh, h.hd.mono e1.ff, hp, fun F2 H2 p2 e2 hp2 => ?_⟩
      refine CallP.step hE0 wf q (e1.trans e2) hp2 ?_ (fun z => by cases z)
      simp only [Ie13.Doc.does]
def sp_fill (CL CD CE : Addr) : Sp := fun vs H Q _ => ∃ (e : Addr) (t m : Nat), vs = [.ref e, .int t, .int m] ∧ CallP CL CD CE (.command (.fill t m)) e H Q
theorem ok_fill (T : Txt K mg C_Layer C_Document C_Editor) : Ok P w K mg base 6 "fill" ["editor", "tone", "much"] (sp_fill C_Layer C_Document C_Editor) := by
  have O_worked_layer := ok_worked_layer (P := P) (w := w) (base := base) T
  have O_filled := ok_filled (P := P) (w := w) (base := base) T
  have O_with_worked_cells := ok_with_worked_cells (P := P) (w := w) (base := base) T
  have O_Editor_step_to := ok_Editor_step_to (P := P) (w := w) (base := base) T
  refine T.d_fill.ok sc_fill (fun vs H Q E h => ?_) (fun f cdv A outer s H vs Q E hr h => ⟨_, (pss_cons (ps_set (i := 3) sc_fill.nd rfl (Or.inl rfl) (pe_fld (pv 0) rfl))
      (pss_cons (ps_if (pt_not (pt_truth (pe_fld (pv 3) rfl) (by intro _; rfl))) (pss_one (ps_ret (pe_lst (pa_cons (pe_globC T.c_NO_SUCH_LAYER rfl) pa_nil)))) pss_nil)
      (pss_cons (ps_if (PW.pt (pw_or (pt_cmpR op_gt (pv 1) (pe_globC T.c_MOST_TONE rfl) (nomark _)) (pw_or1 (pt_cmpR op_gt (pv 2) (pe_globC T.c_MOST_TONE rfl) (nomark _))))) (pss_one (ps_ret (pe_lst (pa_cons (pe_globC T.c_NO_SUCH_SETTING rfl) pa_nil)))) pss_nil)
      (pss_cons (ps_set (i := 4) sc_fill.nd rfl (Or.inl rfl) (pe_callO O_filled (hr.mono (by decide)) rfl (pa_cons (pe_fld (pe_callO O_worked_layer (hr.mono (by decide)) rfl (pa_cons (pv 3) pa_nil)) rfl) (pa_cons (pe_fld (pv 3) rfl) (pa_cons (pv 1) (pa_cons (pv 2) pa_nil))))))
      (pss_one (ps_ret (pe_methO (pv 0) O_Editor_step_to (hr.mono (by decide)) (pa_cons (pe_callO O_with_worked_cells (hr.mono (by decide)) rfl (pa_cons (pv 3) (pa_cons (pv 4) pa_nil))) pa_nil)))))))), ?_⟩)
  · obtain ⟨_, _, _, rfl, _⟩ := h; rfl
  · obtain ⟨e, t, m, rfl, F, Z, s, hE, wf, q⟩ := h
    have hE0 := hE
    obtain ⟨dx, d, D, U, c, h⟩ := hE
    obtain ⟨ddx, g, ls, ch, h1, h2, ⟨lv, h3, h4⟩, h5⟩ := h.hd.ex
    have hH := h.fH _ _ h1
    have hll := h4.length
    have hl5 := wf.wf.l5
    have h36 := wf.wf.n36
    refine ⟨_, rfl, _, _, _, _, _, rfl, h.he, T.k_Editor, T.n_Editor_document, Ed_document, ?_⟩
    refine ⟨_, rfl, _, _, _, _, _, rfl, hH, T.k_Document, T.n_Document_layers, Doc_layers, !lv.isEmpty, .inl ⟨_, SqL.of (h.fH _ _ h3), rfl⟩, ?_⟩
    by_cases hl : s.doc.layers = []
    · refine ifT (by rw [pd_empty h4, hl]; rfl) ⟨one_ok, fun p hp => CallP.err hE0 q (step_err ?_) hp⟩
      simp only [Ie13.Doc.does]; rw [if_pos (by rw [hl]; rfl)]
    refine ifF (by rw [pd_empty h4]; cases z : s.doc.layers with | nil => exact absurd z hl | cons a b => rfl) ?_
    have bad : ∀ p, (255 < t ∨ 255 < m) → H p = none → Q (.ref p) (upd H p (.lst [.int (-3)])) := fun p hb hp =>
      CallP.err hE0 q (step_err (by simp only [Ie13.Doc.does]; rw [if_neg (ie_ne hl), if_pos hb])) hp
    refine ⟨_, rfl, _, _, rfl, rfl, _, rfl, ?_⟩
    by_cases c1 : 255 < t
    · exact ifT (decide_eq_true (by omega)) ⟨one_ok, fun p hp => bad p (by omega) hp⟩
    refine ifF (decide_eq_false (by omega)) ?_
    refine ⟨_, rfl, _, _, rfl, rfl, _, rfl, ?_⟩
    by_cases c2 : 255 < m
    · exact ifT (decide_eq_true (by omega)) ⟨one_ok, fun p hp => bad p (by omega) hp⟩
    refine ifF (decide_eq_false (by omega)) ?_
    obtain ⟨l, el, lok⟩ := wf.wf.lay hl
    refine ⟨_, rfl, F, d, s.doc, l, rfl, h.fH, h.hd, el, fun r hr => ?_⟩
    obtain ⟨dxl, cc, g1, g2⟩ := hr
    have gH := h.fH _ _ g1
    refine ⟨_, _, _, _, _, rfl, gH, T.k_Layer, T.n_Layer_cells, Lay_cells, _, rfl, _, _, _, _, _, rfl, hH, T.k_Document, T.n_Document_chosen, Doc_chosen, _, rfl, _, rfl, F, ch, cc, s.doc.chosen, l.dots, s.doc.n, t, m, rfl, h.fH, h5, g2, wf.wf.clen, lok.len, h36, fun F1 H1 p1 e1 hp1 => ?_⟩
    have h' := h.ext e1
    refine ⟨_, rfl, _, _, _, rfl, h'.he, Ed_step, ?_⟩
    refine ⟨_, rfl, _, rfl, F1, d, p1, s.doc, l, _, rfl, e1.fh, h'.hd, el, hp1, hl5, fun F2 H2 p2 e2 hp2 => ?_⟩
    exact CallP.step hE0 wf q (e1.trans e2) hp2 (does_fill hl el (by omega) (by omega)) (fun z => by cases z)
def sp_bright (CL CD CE : Addr) : Sp := fun vs H Q _ => ∃ (e : Addr) (u k : Nat), vs = [.ref e, .int u, .int k] ∧ CallP CL CD CE (.command (.bright u k)) e H Q
theorem ok_bright (T : Txt K mg C_Layer C_Document C_Editor) : Ok P w K mg base 6 "bright" ["editor", "up", "k"] (sp_bright C_Layer C_Document C_Editor) := by
  have O_worked_layer := ok_worked_layer (P := P) (w := w) (base := base) T
  have O_brightened := ok_brightened (P := P) (w := w) (base := base) T
  have O_with_worked_cells := ok_with_worked_cells (P := P) (w := w) (base := base) T
  have O_Editor_step_to := ok_Editor_step_to (P := P) (w := w) (base := base) T
  refine T.d_bright.ok sc_bright (fun vs H Q E h => ?_) (fun f cdv A outer s H vs Q E hr h => ⟨_, (pss_cons (ps_set (i := 3) sc_bright.nd rfl (Or.inl rfl) (pe_fld (pv 0) rfl))
      (pss_cons (ps_if (pt_not (pt_truth (pe_fld (pv 3) rfl) (by intro _; rfl))) (pss_one (ps_ret (pe_lst (pa_cons (pe_globC T.c_NO_SUCH_LAYER rfl) pa_nil)))) pss_nil)
      (pss_cons (ps_if (PW.pt (pw_or (pt_cmpR op_gt (pv 1) pe_int (nomark _)) (pw_or1 (pt_cmpR op_gt (pv 2) (pe_globC T.c_MOST_TONE rfl) (nomark _))))) (pss_one (ps_ret (pe_lst (pa_cons (pe_globC T.c_NO_SUCH_SETTING rfl) pa_nil)))) pss_nil)
      (pss_cons (ps_set (i := 4) sc_bright.nd rfl (Or.inl rfl) (pe_callO O_brightened (hr.mono (by decide)) rfl (pa_cons (pe_fld (pe_callO O_worked_layer (hr.mono (by decide)) rfl (pa_cons (pv 3) pa_nil)) rfl) (pa_cons (pe_fld (pv 3) rfl) (pa_cons (pv 1) (pa_cons (pv 2) pa_nil))))))
      (pss_one (ps_ret (pe_methO (pv 0) O_Editor_step_to (hr.mono (by decide)) (pa_cons (pe_callO O_with_worked_cells (hr.mono (by decide)) rfl (pa_cons (pv 3) (pa_cons (pv 4) pa_nil))) pa_nil)))))))), ?_⟩)
  · obtain ⟨_, _, _, rfl, _⟩ := h; rfl
  · obtain ⟨e, u, k, rfl, F, Z, s, hE, wf, q⟩ := h
    have hE0 := hE
    obtain ⟨dx, d, D, U, c, h⟩ := hE
    obtain ⟨ddx, g, ls, ch, h1, h2, ⟨lv, h3, h4⟩, h5⟩ := h.hd.ex
    have hH := h.fH _ _ h1
    have hll := h4.length
    have hl5 := wf.wf.l5
    have h36 := wf.wf.n36
    refine ⟨_, rfl, _, _, _, _, _, rfl, h.he, T.k_Editor, T.n_Editor_document, Ed_document, ?_⟩
    refine ⟨_, rfl, _, _, _, _, _, rfl, hH, T.k_Document, T.n_Document_layers, Doc_layers, !lv.isEmpty, .inl ⟨_, SqL.of (h.fH _ _ h3), rfl⟩, ?_⟩
    by_cases hl : s.doc.layers = []
    · refine ifT (by rw [pd_empty h4, hl]; rfl) ⟨one_ok, fun p hp => CallP.err hE0 q (step_err ?_) hp⟩
      simp only [Ie13.Doc.does]; rw [if_pos (by rw [hl]; rfl)]
    refine ifF (by rw [pd_empty h4]; cases z : s.doc.layers with | nil => exact absurd z hl | cons a b => rfl) ?_
    have bad : ∀ p, (1 < u ∨ 255 < k) → H p = none → Q (.ref p) (upd H p (.lst [.int (-3)])) := fun p hb hp =>
      CallP.err hE0 q (step_err (by simp only [Ie13.Doc.does]; rw [if_neg (ie_ne hl), if_pos hb])) hp
    refine ⟨_, rfl, _, _, rfl, rfl, _, rfl, ?_⟩
    by_cases c1 : 1 < u
    · exact ifT (decide_eq_true (by omega)) ⟨one_ok, fun p hp => bad p (by omega) hp⟩
    refine ifF (decide_eq_false (by omega)) ?_
    refine ⟨_, rfl, _, _, rfl, rfl, _, rfl, ?_⟩
    by_cases c2 : 255 < k
    · exact ifT (decide_eq_true (by omega)) ⟨one_ok, fun p hp => bad p (by omega) hp⟩
    refine ifF (decide_eq_false (by omega)) ?_
    obtain ⟨l, el, lok⟩ := wf.wf.lay hl
    refine ⟨_, rfl, F, d, s.doc, l, rfl, h.fH, h.hd, el, fun r hr => ?_⟩
    obtain ⟨dxl, cc, g1, g2⟩ := hr
    have gH := h.fH _ _ g1
    refine ⟨_, _, _, _, _, rfl, gH, T.k_Layer, T.n_Layer_cells, Lay_cells, _, rfl, _, _, _, _, _, rfl, hH, T.k_Document, T.n_Document_chosen, Doc_chosen, _, rfl, _, rfl, F, ch, cc, s.doc.chosen, l.dots, s.doc.n, u, k, rfl, h.fH, h5, g2, wf.wf.clen, lok.len, h36, fun F1 H1 p1 e1 hp1 => ?_⟩
    have h' := h.ext e1
    refine ⟨_, rfl, _, _, _, rfl, h'.he, Ed_step, ?_⟩
    refine ⟨_, rfl, _, rfl, F1, d, p1, s.doc, l, _, rfl, e1.fh, h'.hd, el, hp1, hl5, fun F2 H2 p2 e2 hp2 => ?_⟩
    exact CallP.step hE0 wf q (e1.trans e2) hp2 (does_bright hl el (by omega) (by omega)) (fun z => by cases z)
def sp_soft (CL CD CE : Addr) : Sp := fun vs H Q _ => ∃ (e : Addr), vs = [.ref e] ∧ CallP CL CD CE (.command .soft) e H Q
theorem ok_soft (T : Txt K mg C_Layer C_Document C_Editor) : Ok P w K mg base 6 "soft" ["editor"] (sp_soft C_Layer C_Document C_Editor) := by
  have O_worked_layer := ok_worked_layer (P := P) (w := w) (base := base) T
  have O_softened := ok_softened (P := P) (w := w) (base := base) T
  have O_with_worked_cells := ok_with_worked_cells (P := P) (w := w) (base := base) T
  have O_Editor_step_to := ok_Editor_step_to (P := P) (w := w) (base := base) T
  refine T.d_soft.ok sc_soft (fun vs H Q E h => ?_) (fun f cdv A outer s H vs Q E hr h => ⟨_, (pss_cons (ps_set (i := 1) sc_soft.nd rfl (Or.inl rfl) (pe_fld (pv 0) rfl))
      (pss_cons (ps_if (pt_not (pt_truth (pe_fld (pv 1) rfl) (by intro _; rfl))) (pss_one (ps_ret (pe_lst (pa_cons (pe_globC T.c_NO_SUCH_LAYER rfl) pa_nil)))) pss_nil)
      (pss_cons (ps_set (i := 2) sc_soft.nd rfl (Or.inl rfl) (pe_callO O_softened (hr.mono (by decide)) rfl (pa_cons (pe_fld (pe_callO O_worked_layer (hr.mono (by decide)) rfl (pa_cons (pv 1) pa_nil)) rfl) (pa_cons (pe_fld (pv 1) rfl) (pa_cons (pe_fld (pv 1) rfl) (pa_cons (pe_fld (pv 1) rfl) pa_nil))))))
      (pss_one (ps_ret (pe_methO (pv 0) O_Editor_step_to (hr.mono (by decide)) (pa_cons (pe_callO O_with_worked_cells (hr.mono (by decide)) rfl (pa_cons (pv 1) (pa_cons (pv 2) pa_nil))) pa_nil))))))), ?_⟩)
  · obtain ⟨_, rfl, _⟩ := h; rfl
  · obtain ⟨e, rfl, F, Z, s, hE, wf, q⟩ := h
    have hE0 := hE
    obtain ⟨dx, d, D, U, c, h⟩ := hE
    obtain ⟨ddx, g, ls, ch, h1, h2, ⟨lv, h3, h4⟩, h5⟩ := h.hd.ex
    have hH := h.fH _ _ h1
    have hll := h4.length
    have hl5 := wf.wf.l5
    have h36 := wf.wf.n36
    refine ⟨_, rfl, _, _, _, _, _, rfl, h.he, T.k_Editor, T.n_Editor_document, Ed_document, ?_⟩
    refine ⟨_, rfl, _, _, _, _, _, rfl, hH, T.k_Document, T.n_Document_layers, Doc_layers, !lv.isEmpty, .inl ⟨_, SqL.of (h.fH _ _ h3), rfl⟩, ?_⟩
    by_cases hl : s.doc.layers = []
    · refine ifT (by rw [pd_empty h4, hl]; rfl) ⟨one_ok, fun p hp => CallP.err hE0 q (step_err ?_) hp⟩
      simp only [Ie13.Doc.does]; rw [if_pos (by rw [hl]; rfl)]
    refine ifF (by rw [pd_empty h4]; cases z : s.doc.layers with | nil => exact absurd z hl | cons a b => rfl) ?_
    obtain ⟨l, el, lok⟩ := wf.wf.lay hl
    refine ⟨_, rfl, F, d, s.doc, l, rfl, h.fH, h.hd, el, fun r hr => ?_⟩
    obtain ⟨dxl, cc, g1, g2⟩ := hr
    have gH := h.fH _ _ g1
    refine ⟨_, _, _, _, _, rfl, gH, T.k_Layer, T.n_Layer_cells, Lay_cells, _, rfl, _, _, _, _, _, rfl, hH, T.k_Document, T.n_Document_chosen, Doc_chosen, _, rfl, _, _, _, _, _, rfl, hH, T.k_Document, T.n_Document_width, Doc_width, _, rfl, _, _, _, _, _, rfl, hH, T.k_Document, T.n_Document_height, Doc_height, F, ch, cc, s.doc.chosen, l.dots, s.doc.w, s.doc.h, rfl, h.fH, h5, g2, wf.wf.clen, lok.len, wf.wf.w1, wf.wf.w6, wf.wf.h1, wf.wf.h6, lok.dots, fun F1 H1 p1 e1 hp1 => ?_⟩
    have h' := h.ext e1
    refine ⟨_, rfl, _, _, _, rfl, h'.he, Ed_step, ?_⟩
    refine ⟨_, rfl, _, rfl, F1, d, p1, s.doc, l, _, rfl, e1.fh, h'.hd, el, hp1, hl5, fun F2 H2 p2 e2 hp2 => ?_⟩
    exact CallP.step hE0 wf q (e1.trans e2) hp2 (does_soft hl el) (fun z => by cases z)
def sp_shift (CL CD CE : Addr) : Sp := fun vs H Q _ => ∃ (e : Addr) (x y : Nat), vs = [.ref e, .int x, .int y] ∧ CallP CL CD CE (.command (.shift x y)) e H Q
theorem ok_shift (T : Txt K mg C_Layer C_Document C_Editor) : Ok P w K mg base 6 "shift" ["editor", "x", "y"] (sp_shift C_Layer C_Document C_Editor) := by
  have O_worked_layer := ok_worked_layer (P := P) (w := w) (base := base) T
  have O_shifted := ok_shifted (P := P) (w := w) (base := base) T
  have O_with_worked_cells := ok_with_worked_cells (P := P) (w := w) (base := base) T
  have O_Editor_step_to := ok_Editor_step_to (P := P) (w := w) (base := base) T
  refine T.d_shift.ok sc_shift (fun vs H Q E h => ?_) (fun f cdv A outer s H vs Q E hr h => ⟨_, (pss_cons (ps_set (i := 3) sc_shift.nd rfl (Or.inl rfl) (pe_fld (pv 0) rfl))
      (pss_cons (ps_if (pt_not (pt_truth (pe_fld (pv 3) rfl) (by intro _; rfl))) (pss_one (ps_ret (pe_lst (pa_cons (pe_globC T.c_NO_SUCH_LAYER rfl) pa_nil)))) pss_nil)
      (pss_cons (ps_set (i := 4) sc_shift.nd rfl (Or.inl rfl) (pe_fld (pe_callO O_worked_layer (hr.mono (by decide)) rfl (pa_cons (pv 3) pa_nil)) rfl))
      (pss_cons (ps_set (i := 5) sc_shift.nd rfl (Or.inl rfl) (pe_callO O_shifted (hr.mono (by decide)) rfl (pa_cons (pv 4) (pa_cons (pe_fld (pv 3) rfl) (pa_cons (pe_fld (pv 3) rfl) (pa_cons (pe_fld (pv 3) rfl) (pa_cons (pv 1) (pa_cons (pv 2) pa_nil))))))))
      (pss_one (ps_ret (pe_methO (pv 0) O_Editor_step_to (hr.mono (by decide)) (pa_cons (pe_callO O_with_worked_cells (hr.mono (by decide)) rfl (pa_cons (pv 3) (pa_cons (pv 5) pa_nil))) pa_nil)))))))), ?_⟩)
  · obtain ⟨_, _, _, rfl, _⟩ := h; rfl
  · obtain ⟨e, x, y, rfl, F, Z, s, hE, wf, q⟩ := h
    have hE0 := hE
    obtain ⟨dx, d, D, U, c, h⟩ := hE
    obtain ⟨ddx, g, ls, ch, h1, h2, ⟨lv, h3, h4⟩, h5⟩ := h.hd.ex
    have hH := h.fH _ _ h1
    have hll := h4.length
    have hl5 := wf.wf.l5
    have h36 := wf.wf.n36
    refine ⟨_, rfl, _, _, _, _, _, rfl, h.he, T.k_Editor, T.n_Editor_document, Ed_document, ?_⟩
    refine ⟨_, rfl, _, _, _, _, _, rfl, hH, T.k_Document, T.n_Document_layers, Doc_layers, !lv.isEmpty, .inl ⟨_, SqL.of (h.fH _ _ h3), rfl⟩, ?_⟩
    by_cases hl : s.doc.layers = []
    · refine ifT (by rw [pd_empty h4, hl]; rfl) ⟨one_ok, fun p hp => CallP.err hE0 q (step_err ?_) hp⟩
      simp only [Ie13.Doc.does]; rw [if_pos (by rw [hl]; rfl)]
    refine ifF (by rw [pd_empty h4]; cases z : s.doc.layers with | nil => exact absurd z hl | cons a b => rfl) ?_
    obtain ⟨l, el, lok⟩ := wf.wf.lay hl
    refine ⟨_, rfl, F, d, s.doc, l, rfl, h.fH, h.hd, el, fun r hr => ?_⟩
    obtain ⟨dxl, cc, g1, g2⟩ := hr
    have gH := h.fH _ _ g1
    refine ⟨_, _, _, _, _, rfl, gH, T.k_Layer, T.n_Layer_cells, Lay_cells, ?_⟩
    refine ⟨_, rfl, _, rfl, _, _, _, _, _, rfl, hH, T.k_Document, T.n_Document_chosen, Doc_chosen, _, rfl, _, _, _, _, _, rfl, hH, T.k_Document, T.n_Document_width, Doc_width, _, rfl, _, _, _, _, _, rfl, hH, T.k_Document, T.n_Document_height, Doc_height, _, rfl, _, rfl, F, ch, cc, s.doc.chosen, l.dots, s.doc.w, s.doc.h, x, y, rfl, h.fH, h5, g2, wf.wf.clen, lok.len, wf.wf.w1, wf.wf.w6, wf.wf.h1, wf.wf.h6, fun F1 H1 p1 e1 hp1 => ?_⟩
    have h' := h.ext e1
    refine ⟨_, rfl, _, _, _, rfl, h'.he, Ed_step, ?_⟩
    refine ⟨_, rfl, _, rfl, F1, d, p1, s.doc, l, _, rfl, e1.fh, h'.hd, el, hp1, hl5, fun F2 H2 p2 e2 hp2 => ?_⟩
    exact CallP.step hE0 wf q (e1.trans e2) hp2 (does_shift hl el) (fun z => by cases z)
def sp_take_chosen (CL CD CE : Addr) : Sp := fun vs H Q _ => ∃ (F Z : Hp) (s : Ie13.St) (e : Addr), vs = [.ref e] ∧ EdAt CL CD CE F H Z e s ∧ SWf s ∧ s.doc.layers ≠ [] ∧
  ∀ F' H', Fr F H F' H' → EdAt CL CD CE F' H' Z e { s with clip := s.doc.clip } → Q .non H'
theorem ok_take_chosen (T : Txt K mg C_Layer C_Document C_Editor) : Ok P w K mg base 2 "take_chosen" ["editor"] (sp_take_chosen C_Layer C_Document C_Editor) := by
  have O_worked_layer := ok_worked_layer (P := P) (w := w) (base := base) T
  have O_taken_out := ok_taken_out (P := P) (w := w) (base := base) T
  refine T.d_take_chosen.ok sc_take_chosen (fun vs H Q E h => ?_) (fun f cdv A outer s H vs Q E hr h => ⟨_, (pss_cons (ps_set (i := 1) sc_take_chosen.nd rfl (Or.inl rfl) (pe_fld (pv 0) rfl))
      (pss_one (ps_fld (pv 0) (pe_callO O_taken_out (hr.mono (by decide)) rfl (pa_cons (pe_fld (pe_callO O_worked_layer (hr.mono (by decide)) rfl (pa_cons (pv 1) pa_nil)) rfl) (pa_cons (pe_fld (pv 1) rfl) (pa_cons (pe_fld (pv 1) rfl) pa_nil)))) rfl))), ?_⟩)
  · obtain ⟨_, _, _, _, rfl, _⟩ := h; rfl
  · obtain ⟨F, Z, s, e, rfl, hE, wf, hl, q⟩ := h
    have hE0 := hE
    obtain ⟨dx, d, D, U, c, h⟩ := hE
    obtain ⟨ddx, g, ls, ch, h1, h2, ⟨lv, h3, h4⟩, h5⟩ := h.hd.ex
    have hH := h.fH _ _ h1
    have hll := h4.length
    have hl5 := wf.wf.l5
    have h36 := wf.wf.n36
    refine ⟨_, rfl, _, _, _, _, _, rfl, h.he, T.k_Editor, T.n_Editor_document, Ed_document, ?_⟩
    obtain ⟨l, el, lok⟩ := wf.wf.lay hl
    refine ⟨_, rfl, F, d, s.doc, l, rfl, h.fH, h.hd, el, fun r hr => ?_⟩
    obtain ⟨dxl, cc, g1, g2⟩ := hr
    have gH := h.fH _ _ g1
    refine ⟨_, _, _, _, _, rfl, gH, T.k_Layer, T.n_Layer_cells, Lay_cells, _, rfl, _, _, _, _, _, rfl, hH, T.k_Document, T.n_Document_chosen, Doc_chosen, _, rfl, _, _, _, _, _, rfl, hH, T.k_Document, T.n_Document_width, Doc_width, F, ch, cc, s.doc.chosen, l.dots, s.doc.n, s.doc.w, rfl, h.fH, h5, g2, wf.wf.clen, lok.len, h36, wf.wf.w1, wf.wf.w6, fun F1 H1 p1 e1 hp1 => ?_⟩
    have h' := h.ext e1
    refine ⟨_, rfl, _, _, _, _, rfl, h'.he, T.k_Editor, T.n_Editor_cut_out, EdF_len, ?_⟩
    rw [pu_cut_out]
    have hc : ClipAt F1 (.ref p1) s.doc.w s.doc.clip := .inr ⟨clip_ne wf.wf hl, p1, rfl, by rw [pcs_clip el]; exact hp1⟩
    exact q F1 _ e1.frame.upd ⟨_, _, _, _, _, h'.setClip hc⟩
def sp_cut (CL CD CE : Addr) : Sp := fun vs H Q _ => ∃ (e : Addr), vs = [.ref e] ∧ CallP CL CD CE (.command .cut) e H Q
theorem ok_cut (T : Txt K mg C_Layer C_Document C_Editor) : Ok P w K mg base 6 "cut" ["editor"] (sp_cut C_Layer C_Document C_Editor) := by
  have O_take_chosen := ok_take_chosen (P := P) (w := w) (base := base) T
  have O_worked_layer := ok_worked_layer (P := P) (w := w) (base := base) T
  have O_filled := ok_filled (P := P) (w := w) (base := base) T
  have O_with_worked_cells := ok_with_worked_cells (P := P) (w := w) (base := base) T
  have O_Editor_step_to := ok_Editor_step_to (P := P) (w := w) (base := base) T
  refine T.d_cut.ok sc_cut (fun vs H Q E h => ?_) (fun f cdv A outer s H vs Q E hr h => ⟨_, (pss_cons (ps_set (i := 1) sc_cut.nd rfl (Or.inl rfl) (pe_fld (pv 0) rfl))
      (pss_cons (ps_if (pt_not (pt_truth (pe_fld (pv 1) rfl) (by intro _; rfl))) (pss_one (ps_ret (pe_lst (pa_cons (pe_globC T.c_NO_SUCH_LAYER rfl) pa_nil)))) pss_nil)
      (pss_cons (ps_expr (pe_callO O_take_chosen (hr.mono (by decide)) rfl (pa_cons (pv 0) pa_nil)))
      (pss_cons (ps_set (i := 2) sc_cut.nd rfl (Or.inl rfl) (pe_callO O_filled (hr.mono (by decide)) rfl (pa_cons (pe_fld (pe_callO O_worked_layer (hr.mono (by decide)) rfl (pa_cons (pv 1) pa_nil)) rfl) (pa_cons (pe_fld (pv 1) rfl) (pa_cons pe_int (pa_cons pe_int pa_nil))))))
      (pss_one (ps_ret (pe_methO (pv 0) O_Editor_step_to (hr.mono (by decide)) (pa_cons (pe_callO O_with_worked_cells (hr.mono (by decide)) rfl (pa_cons (pv 1) (pa_cons (pv 2) pa_nil))) pa_nil)))))))), ?_⟩)
  · obtain ⟨_, rfl, _⟩ := h; rfl
  · obtain ⟨e, rfl, F, Z, s, hE, wf, q⟩ := h
    have hE0 := hE
    obtain ⟨dx, d, D, U, c, h⟩ := hE
    obtain ⟨ddx, g, ls, ch, h1, h2, ⟨lv, h3, h4⟩, h5⟩ := h.hd.ex
    have hH := h.fH _ _ h1
    have hll := h4.length
    have hl5 := wf.wf.l5
    have h36 := wf.wf.n36
    refine ⟨_, rfl, _, _, _, _, _, rfl, h.he, T.k_Editor, T.n_Editor_document, Ed_document, ?_⟩
    refine ⟨_, rfl, _, _, _, _, _, rfl, hH, T.k_Document, T.n_Document_layers, Doc_layers, !lv.isEmpty, .inl ⟨_, SqL.of (h.fH _ _ h3), rfl⟩, ?_⟩
    by_cases hl : s.doc.layers = []
    · refine ifT (by rw [pd_empty h4, hl]; rfl) ⟨one_ok, fun p hp => CallP.err hE0 q (step_err ?_) hp⟩
      simp only [Ie13.Doc.does]; rw [if_pos (by rw [hl]; rfl)]
    refine ifF (by rw [pd_empty h4]; cases z : s.doc.layers with | nil => exact absurd z hl | cons a b => rfl) ?_
    obtain ⟨l, el, lok⟩ := wf.wf.lay hl
    have hdo : s.doc.does s.clip .cut = .ok _ := does_cut hl el
    rw [step_cut hdo] at q
    refine ⟨_, rfl, F, Z, s, e, rfl, hE0, wf, hl, fun F0 H0 fr0 hE1 => ?_⟩
    obtain ⟨dx, d', D, U, c, hR⟩ := hE1
    have hd0 := h.hd.mono fr0.ff
    have hH := hR.fH _ _ (fr0.ff _ _ h1)
    have h5 := h5.mono RB.mono fr0.ff
    have wf' : SWf { s with clip := s.doc.clip } := ⟨wf.wf, wf.done, wf.undone, wf.room, wf.tot, .inr (clip_ok wf.wf hl)⟩
    refine ⟨_, rfl, F0, d, s.doc, l, rfl, hR.fH, hd0, el, fun r hr => ?_⟩
    obtain ⟨dxl, cc, g1, g2⟩ := hr
    have gH := hR.fH _ _ g1
    refine ⟨_, _, _, _, _, rfl, gH, T.k_Layer, T.n_Layer_cells, Lay_cells, _, rfl, _, _, _, _, _, rfl, hH, T.k_Document, T.n_Document_chosen, Doc_chosen, F0, ch, cc, s.doc.chosen, l.dots, s.doc.n, 0, 0, rfl, hR.fH, h5, g2, wf.wf.clen, lok.len, h36, fun F1 H1 p1 e1 hp1 => ?_⟩
    have h' := hR.ext e1
    refine ⟨_, rfl, _, _, _, rfl, h'.he, Ed_step, ?_⟩
    refine ⟨_, rfl, _, rfl, F1, d, p1, s.doc, l, _, rfl, e1.fh, hd0.mono e1.ff, el, hp1, hl5, fun F2 H2 p2 e2 hp2 => ?_⟩
    exact ⟨F2, Z, e, p2, { s with clip := s.doc.clip }, _, rfl, EdAt.ext ⟨_, _, _, _, _, hR⟩ (e1.trans e2), wf', hp2, does_nx wf.wf wf.clipB hdo, fun F3 H3 p fr ed an => q F3 H3 p ((fr0.trans (e1.trans e2).frame).trans fr) ed an⟩
def sp_paste (CL CD CE : Addr) : Sp := fun vs H Q _ => ∃ (e : Addr) (x y : Nat), vs = [.ref e, .int x, .int y] ∧ CallP CL CD CE (.command (.paste x y)) e H Q
theorem ok_paste (T : Txt K mg C_Layer C_Document C_Editor) : Ok P w K mg base 6 "paste" ["editor", "x", "y"] (sp_paste C_Layer C_Document C_Editor) := by
  have O_worked_layer := ok_worked_layer (P := P) (w := w) (base := base) T
  have O_pasted := ok_pasted (P := P) (w := w) (base := base) T
  have O_with_worked_cells := ok_with_worked_cells (P := P) (w := w) (base := base) T
  have O_Editor_step_to := ok_Editor_step_to (P := P) (w := w) (base := base) T
  refine T.d_paste.ok sc_paste (fun vs H Q E h => ?_) (fun f cdv A outer s H vs Q E hr h => ⟨_, (pss_cons (ps_set (i := 3) sc_paste.nd rfl (Or.inl rfl) (pe_fld (pv 0) rfl))
      (pss_cons (ps_if (pt_not (pt_truth (pe_fld (pv 3) rfl) (by intro _; rfl))) (pss_one (ps_ret (pe_lst (pa_cons (pe_globC T.c_NO_SUCH_LAYER rfl) pa_nil)))) pss_nil)
      (pss_cons (ps_if (pt_cmpR op_isN (pe_fld (pv 0) rfl) pe_non (nomark _)) (pss_one (ps_ret (pe_lst (pa_cons (pe_globC T.c_NOTHING_THERE rfl) pa_nil)))) pss_nil)
      (pss_cons (ps_set (i := 4) sc_paste.nd rfl (Or.inl rfl) (pe_fld (pe_callO O_worked_layer (hr.mono (by decide)) rfl (pa_cons (pv 3) pa_nil)) rfl))
      (pss_cons (ps_set (i := 5) sc_paste.nd rfl (Or.inl rfl) (pe_callO O_pasted (hr.mono (by decide)) rfl (pa_cons (pv 4) (pa_cons (pe_fld (pv 3) rfl) (pa_cons (pe_fld (pv 3) rfl) (pa_cons (pe_fld (pv 0) rfl) (pa_cons (pv 1) (pa_cons (pv 2) pa_nil))))))))
      (pss_one (ps_ret (pe_methO (pv 0) O_Editor_step_to (hr.mono (by decide)) (pa_cons (pe_callO O_with_worked_cells (hr.mono (by decide)) rfl (pa_cons (pv 3) (pa_cons (pv 5) pa_nil))) pa_nil))))))))), ?_⟩)
  · obtain ⟨_, _, _, rfl, _⟩ := h; rfl
  · obtain ⟨e, x, y, rfl, F, Z, s, hE, wf, q⟩ := h
    have hE0 := hE
    obtain ⟨dx, d, D, U, c, h⟩ := hE
    obtain ⟨ddx, g, ls, ch, h1, h2, ⟨lv, h3, h4⟩, h5⟩ := h.hd.ex
    have hH := h.fH _ _ h1
    have hll := h4.length
    have hl5 := wf.wf.l5
    have h36 := wf.wf.n36
    refine ⟨_, rfl, _, _, _, _, _, rfl, h.he, T.k_Editor, T.n_Editor_document, Ed_document, ?_⟩
    refine ⟨_, rfl, _, _, _, _, _, rfl, hH, T.k_Document, T.n_Document_layers, Doc_layers, !lv.isEmpty, .inl ⟨_, SqL.of (h.fH _ _ h3), rfl⟩, ?_⟩
    by_cases hl : s.doc.layers = []
    · refine ifT (by rw [pd_empty h4, hl]; rfl) ⟨one_ok, fun p hp => CallP.err hE0 q (step_err ?_) hp⟩
      simp only [Ie13.Doc.does]; rw [if_pos (by rw [hl]; rfl)]
    refine ifF (by rw [pd_empty h4]; cases z : s.doc.layers with | nil => exact absurd z hl | cons a b => rfl) ?_
    obtain ⟨l, el, lok⟩ := wf.wf.lay hl
    refine ⟨_, rfl, _, _, _, _, _, rfl, h.he, T.k_Editor, T.n_Editor_cut_out, Ed_cut_out, rfl, _, rfl, ?_⟩
    rcases h.hc with ⟨hc1, rfl⟩ | ⟨hc1, pa, rfl, hc2⟩
    · refine ifT rfl ⟨one_ok, fun p hp => CallP.err hE0 q (step_err ?_) hp⟩
      simp only [Ie13.Doc.does]; rw [if_neg (ie_ne hl), if_pos (by rw [hc1]; rfl)]
    refine ifF rfl ?_
    have hcl : s.clip.length = s.doc.n := by
      rcases wf.clip with z | z
      · exact absurd z hc1
      · exact z.1
    refine ⟨_, rfl, F, d, s.doc, l, rfl, h.fH, h.hd, el, fun r hr => ?_⟩
    obtain ⟨dxl, cc, g1, g2⟩ := hr
    have gH := h.fH _ _ g1
    refine ⟨_, _, _, _, _, rfl, gH, T.k_Layer, T.n_Layer_cells, Lay_cells, ?_⟩
    refine ⟨_, rfl, _, rfl, _, _, _, _, _, rfl, hH, T.k_Document, T.n_Document_width, Doc_width, _, rfl, _, _, _, _, _, rfl, hH, T.k_Document, T.n_Document_height, Doc_height, _, rfl, _, _, _, _, _, rfl, h.he, T.k_Editor, T.n_Editor_cut_out, Ed_cut_out, _, rfl, _, rfl, F, cc, pa, l.dots, _, s.doc.w, s.doc.h, x, y, rfl, h.fH, g2, hc2, lok.len, wf.wf.w1, wf.wf.w6, wf.wf.h1, wf.wf.h6, fun F1 H1 p1 e1 hp1 => ?_⟩
    have h' := h.ext e1
    refine ⟨_, rfl, _, _, _, rfl, h'.he, Ed_step, ?_⟩
    refine ⟨_, rfl, _, rfl, F1, d, p1, s.doc, l, _, rfl, e1.fh, h'.hd, el, hp1, hl5, fun F2 H2 p2 e2 hp2 => ?_⟩
    exact CallP.step hE0 wf q (e1.trans e2) hp2 (does_paste wf.wf hl el lok hc1 hcl) (fun z => by cases z)
def sp_press (CL CD CE : Addr) : Sp := fun vs H Q _ => ∃ (e : Addr), vs = [.ref e] ∧ CallP CL CD CE (.command .press) e H Q
theorem ok_press (T : Txt K mg C_Layer C_Document C_Editor) : Ok P w K mg base 5 "press" ["editor"] (sp_press C_Layer C_Document C_Editor) := by
  have O_covered := ok_covered (P := P) (w := w) (base := base) T
  have O_with_lowest_pressed := ok_with_lowest_pressed (P := P) (w := w) (base := base) T
  have O_Editor_step_to := ok_Editor_step_to (P := P) (w := w) (base := base) T
  refine T.d_press.ok sc_press (fun vs H Q E h => ?_) (fun f cdv A outer s H vs Q E hr h => ⟨_, (pss_cons (ps_set (i := 1) sc_press.nd rfl (Or.inl rfl) (pe_fld (pv 0) rfl))
      (pss_cons (ps_if (pt_not (pt_truth (pe_fld (pv 1) rfl) (by intro _; rfl))) (pss_one (ps_ret (pe_lst (pa_cons (pe_globC T.c_NO_SUCH_LAYER rfl) pa_nil)))) pss_nil)
      (pss_cons (ps_set (i := 2) sc_press.nd rfl (Or.inl rfl) (pe_callO O_covered (hr.mono (by decide)) rfl (pa_cons (pe_fld (pv 1) rfl) (pa_cons (pe_ix (r := rIxL K) ix_list (pe_fld (pv 1) rfl) pe_int (fun _ _ => rfl)) pa_nil))))
      (pss_one (ps_ret (pe_methO (pv 0) O_Editor_step_to (hr.mono (by decide)) (pa_cons (pe_callO O_with_lowest_pressed (hr.mono (by decide)) rfl (pa_cons (pv 1) (pa_cons (pv 2) pa_nil))) pa_nil))))))), ?_⟩)
  · obtain ⟨_, rfl, _⟩ := h; rfl
  · obtain ⟨e, rfl, F, Z, s, hE, wf, q⟩ := h
    have hE0 := hE
    obtain ⟨dx, d, D, U, c, h⟩ := hE
    obtain ⟨ddx, g, ls, ch, h1, h2, ⟨lv, h3, h4⟩, h5⟩ := h.hd.ex
    have hH := h.fH _ _ h1
    have hll := h4.length
    have hl5 := wf.wf.l5
    have h36 := wf.wf.n36
    refine ⟨_, rfl, _, _, _, _, _, rfl, h.he, T.k_Editor, T.n_Editor_document, Ed_document, ?_⟩
    refine ⟨_, rfl, _, _, _, _, _, rfl, hH, T.k_Document, T.n_Document_layers, Doc_layers, !lv.isEmpty, .inl ⟨_, SqL.of (h.fH _ _ h3), rfl⟩, ?_⟩
    by_cases hl : s.doc.layers = []
    · refine ifT (by rw [pd_empty h4, hl]; rfl) ⟨one_ok, fun p hp => CallP.err hE0 q (step_err ?_) hp⟩
      simp only [Ie13.Doc.does]; rw [hl]
    refine ifF (by rw [pd_empty h4]; cases z : s.doc.layers with | nil => exact absurd z hl | cons a b => rfl) ?_
    obtain ⟨l, r, elr⟩ : ∃ l r, s.doc.layers = l :: r := by
      cases z : s.doc.layers with
      | nil => exact absurd z hl
      | cons a b => exact ⟨a, b, rfl⟩
    have lok := wf.wf.lays l (by rw [elr]; exact List.mem_cons_self)
    obtain ⟨v, hv, ra, rfl, hra⟩ := pd_get (i := 0) (y := l) h4 (by rw [elr]; rfl)
    have hgl := wf.wf.glen
    refine ⟨_, rfl, _, _, _, _, _, rfl, hH, T.k_Document, T.n_Document_ground, Doc_ground, _, rfl, _, _, _, _, _, rfl, hH, T.k_Document, T.n_Document_layers, Doc_layers, _, _, _, _, rfl, rfl, SqL.of (h.fH _ _ h3), atI_nat (j := 0) hv, ?_⟩
    refine ⟨F, g, ra, s.doc.ground, l, rfl, h.fH, h2, hra, by rw [hgl]; exact lok, wf.wf.gt, by rw [hgl]; exact h36, fun F1 H1 p1 e1 hp1 => ?_⟩
    rw [hgl] at hp1
    have h' := h.ext e1
    refine ⟨_, rfl, _, _, _, rfl, h'.he, Ed_step, ?_⟩
    refine ⟨_, rfl, _, rfl, F1, d, p1, s.doc, _, l, r, rfl, e1.fh, h'.hd, hp1, elr, hl5, fun F2 H2 p2 e2 hp2 => ?_⟩
    exact CallP.step hE0 wf q (e1.trans e2) hp2 (does_press elr) (fun z => by cases z)
def sp_copy (CL CD CE : Addr) : Sp := fun vs H Q _ => ∃ (e : Addr), vs = [.ref e] ∧ CallP CL CD CE (.copy) e H Q
theorem ok_copy (T : Txt K mg C_Layer C_Document C_Editor) : Ok P w K mg base 3 "copy" ["editor"] (sp_copy C_Layer C_Document C_Editor) := by
  have O_take_chosen := ok_take_chosen (P := P) (w := w) (base := base) T
  have O_Editor_standing := ok_Editor_standing (P := P) (w := w) (base := base) T
  refine T.d_copy.ok sc_copy (fun vs H Q E h => ?_) (fun f cdv A outer s H vs Q E hr h => ⟨_, (pss_cons (ps_if (pt_not (pt_truth (pe_fld (pe_fld (pv 0) rfl) rfl) (by intro _; rfl))) (pss_one (ps_ret (pe_lst (pa_cons (pe_globC T.c_NO_SUCH_LAYER rfl) pa_nil)))) pss_nil)
      (pss_cons (ps_expr (pe_callO O_take_chosen (hr.mono (by decide)) rfl (pa_cons (pv 0) pa_nil)))
      (pss_one (ps_ret (pe_methO0 (pv 0) O_Editor_standing (hr.mono (by decide))))))), ?_⟩)
  · obtain ⟨_, rfl, _⟩ := h; rfl
  · obtain ⟨e, rfl, F, Z, s, hE, wf, q⟩ := h
    have hE0 := hE
    obtain ⟨dx, d, D, U, c, h⟩ := hE
    obtain ⟨ddx, g, ls, ch, h1, h2, ⟨lv, h3, h4⟩, h5⟩ := h.hd.ex
    have hH := h.fH _ _ h1
    have hll := h4.length
    have hl5 := wf.wf.l5
    have h36 := wf.wf.n36
    refine ⟨_, rfl, _, _, _, _, _, rfl, h.he, T.k_Editor, T.n_Editor_document, Ed_document, _, _, _, _, _, rfl, hH, T.k_Document, T.n_Document_layers, Doc_layers, !lv.isEmpty, .inl ⟨_, SqL.of (h.fH _ _ h3), rfl⟩, ?_⟩
    by_cases hl : s.doc.layers = []
    · refine ifT (by rw [pd_empty h4, hl]; rfl) ⟨one_ok, fun p hp => CallP.err hE0 q (?_) hp⟩
      simp only [Ie13.step]; rw [if_pos (by rw [hl]; rfl)]
    refine ifF (by rw [pd_empty h4]; cases z : s.doc.layers with | nil => exact absurd z hl | cons a b => rfl) ?_
    have es : Ie13.step s .copy = (({ s with clip := s.doc.clip } : Ie13.St), Ie13.told { s with clip := s.doc.clip }) := by
      simp only [Ie13.step]; rw [if_neg (ie_ne hl)]
    rw [es] at q
    refine ⟨_, rfl, F, Z, s, e, rfl, hE0, wf, hl, fun F0 H0 fr0 hE1 => ?_⟩
    have hE2 := hE1
    obtain ⟨dx, d', D, U, c, hR⟩ := hE1
    refine ⟨_, rfl, _, _, _, rfl, hR.he, Ed_stand, ?_⟩
    exact ⟨F0, Z, e, _, rfl, hE2, fun F3 H3 p e3 an => q F3 H3 p (fr0.trans e3.frame) (hE2.ext e3) an⟩
def sp_undo (CL CD CE : Addr) : Sp := fun vs H Q _ => ∃ (e : Addr), vs = [.ref e] ∧ CallP CL CD CE (.undo) e H Q
theorem ok_undo (T : Txt K mg C_Layer C_Document C_Editor) : Ok P w K mg base 3 "undo" ["editor"] (sp_undo C_Layer C_Document C_Editor) := by
  have O_Editor_undo := ok_Editor_undo (P := P) (w := w) (base := base) T
  refine T.d_undo.ok sc_undo (fun vs H Q E h => ?_) (fun f cdv A outer s H vs Q E hr h => ⟨_, (pss_cons (ps_if (pt_not (pt_truth (pe_fld (pv 0) rfl) (by intro _; rfl))) (pss_one (ps_ret (pe_lst (pa_cons (pe_globC T.c_NOTHING_THERE rfl) pa_nil)))) pss_nil)
      (pss_one (ps_ret (pe_methO0 (pv 0) O_Editor_undo (hr.mono (by decide)))))), ?_⟩)
  · obtain ⟨_, rfl, _⟩ := h; rfl
  · obtain ⟨e, rfl, F, Z, s, hE, wf, q⟩ := h
    have hE0 := hE
    obtain ⟨dx, d, D, U, c, h⟩ := hE
    obtain ⟨ddx, g, ls, ch, h1, h2, ⟨lv, h3, h4⟩, h5⟩ := h.hd.ex
    have hH := h.fH _ _ h1
    have hll := h4.length
    have hl5 := wf.wf.l5
    have h36 := wf.wf.n36
    obtain ⟨dv, d1, d2⟩ := h.hD
    refine ⟨_, rfl, _, _, _, _, _, rfl, h.he, T.k_Editor, T.n_Editor_done, Ed_done, !dv.isEmpty, .inl ⟨_, SqL.of d1, rfl⟩, ?_⟩
    cases hd : s.done with
    | nil =>
      refine ifT (by rw [pd_empty d2, hd]; rfl) ⟨one_ok, fun p hp => CallP.err hE0 q ?_ hp⟩
      simp only [Ie13.step, hd]
    | cons x l =>
      refine ifF (by rw [pd_empty d2, hd]; simp) ?_
      refine ⟨_, rfl, _, _, _, rfl, h.he, Ed_undo, ?_⟩
      refine ⟨F, Z, e, s, x, l, rfl, hE0, wf, hd, fun F1 H1 p fr ed an => q F1 H1 p fr ?_ ?_⟩
      · simp only [Ie13.step, hd]; exact ed
      · simp only [Ie13.step, hd]; exact an
def sp_redo (CL CD CE : Addr) : Sp := fun vs H Q _ => ∃ (e : Addr), vs = [.ref e] ∧ CallP CL CD CE (.redo) e H Q
theorem ok_redo (T : Txt K mg C_Layer C_Document C_Editor) : Ok P w K mg base 3 "redo" ["editor"] (sp_redo C_Layer C_Document C_Editor) := by
  have O_Editor_redo := ok_Editor_redo (P := P) (w := w) (base := base) T
  refine T.d_redo.ok sc_redo (fun vs H Q E h => ?_) (fun f cdv A outer s H vs Q E hr h => ⟨_, (pss_cons (ps_if (pt_not (pt_truth (pe_fld (pv 0) rfl) (by intro _; rfl))) (pss_one (ps_ret (pe_lst (pa_cons (pe_globC T.c_NOTHING_THERE rfl) pa_nil)))) pss_nil)
      (pss_one (ps_ret (pe_methO0 (pv 0) O_Editor_redo (hr.mono (by decide)))))), ?_⟩)
  · obtain ⟨_, rfl, _⟩ := h; rfl
  · obtain ⟨e, rfl, F, Z, s, hE, wf, q⟩ := h
    have hE0 := hE
    obtain ⟨dx, d, D, U, c, h⟩ := hE
    obtain ⟨ddx, g, ls, ch, h1, h2, ⟨lv, h3, h4⟩, h5⟩ := h.hd.ex
    have hH := h.fH _ _ h1
    have hll := h4.length
    have hl5 := wf.wf.l5
    have h36 := wf.wf.n36
    obtain ⟨dv, d1, d2⟩ := h.hU
    refine ⟨_, rfl, _, _, _, _, _, rfl, h.he, T.k_Editor, T.n_Editor_undone, Ed_undone, !dv.isEmpty, .inl ⟨_, SqL.of d1, rfl⟩, ?_⟩
    cases hd : s.undone with
    | nil =>
      refine ifT (by rw [pd_empty d2, hd]; rfl) ⟨one_ok, fun p hp => CallP.err hE0 q ?_ hp⟩
      simp only [Ie13.step, hd]
    | cons x l =>
      refine ifF (by rw [pd_empty d2, hd]; simp) ?_
      refine ⟨_, rfl, _, _, _, rfl, h.he, Ed_redo, ?_⟩
      refine ⟨F, Z, e, s, x, l, rfl, hE0, wf, hd, fun F1 H1 p fr ed an => q F1 H1 p fr ?_ ?_⟩
      · simp only [Ie13.step, hd]; exact ed
      · simp only [Ie13.step, hd]; exact an
def sp_dots (CL CD CE : Addr) : Sp := fun vs H Q _ => ∃ (e : Addr) (i : Nat), vs = [.ref e, .int i] ∧ CallP CL CD CE (.layer i) e H Q
theorem ok_dots (T : Txt K mg C_Layer C_Document C_Editor) : Ok P w K mg base 2 "dots" ["editor", "i"] (sp_dots C_Layer C_Document C_Editor) := by
  have O_dot_numbers := ok_dot_numbers (P := P) (w := w) (base := base) T
  refine T.d_dots.ok sc_dots (fun vs H Q E h => ?_) (fun f cdv A outer s H vs Q E hr h => ⟨_, (pss_cons (ps_set (i := 2) sc_dots.nd rfl (Or.inl rfl) (pe_fld (pe_fld (pv 0) rfl) rfl))
      (pss_cons (ps_if (pt_cmpR op_ge (pv 1) (pe_callB (r := rLenK K) call_len_seq (by rfl) T.b_len PySem.boot_len (pa_cons (pv 2) pa_nil)) (nomark _)) (pss_one (ps_ret (pe_lst (pa_cons (pe_globC T.c_NO_SUCH_LAYER rfl) pa_nil)))) pss_nil)
      (pss_one (ps_ret (pe_callO O_dot_numbers (hr.mono (by decide)) rfl (pa_cons (pe_ix (r := rIxL K) ix_list (pv 2) (pv 1) (fun _ _ => rfl)) pa_nil)))))), ?_⟩)
  · obtain ⟨_, _, rfl, _⟩ := h; rfl
  · obtain ⟨e, i, rfl, F, Z, s, hE, wf, q⟩ := h
    have hE0 := hE
    obtain ⟨dx, d, D, U, c, h⟩ := hE
    obtain ⟨ddx, g, ls, ch, h1, h2, ⟨lv, h3, h4⟩, h5⟩ := h.hd.ex
    have hH := h.fH _ _ h1
    have hll := h4.length
    have hl5 := wf.wf.l5
    have h36 := wf.wf.n36
    refine ⟨_, rfl, _, _, _, _, _, rfl, h.he, T.k_Editor, T.n_Editor_document, Ed_document, _, _, _, _, _, rfl, hH, T.k_Document, T.n_Document_layers, Doc_layers, ?_⟩
    refine ⟨_, rfl, _, rfl, _, _, rfl, .inl (SqL.of (h.fH _ _ h3)), _, _, rfl, rfl, _, rfl, ?_⟩
    by_cases c1 : s.doc.layers.length ≤ i
    · refine ifT (decide_eq_true (by omega)) ⟨one_ok, fun p hp => CallP.err hE0 q ?_ hp⟩
      simp only [Ie13.step]; rw [List.getElem?_eq_none c1]
    refine ifF (decide_eq_false (by omega)) ?_
    obtain ⟨l, el⟩ : ∃ a, s.doc.layers[i]? = some a := ⟨_, List.getElem?_eq_getElem (by omega)⟩
    obtain ⟨v, hv, ra, rfl, hra⟩ := pd_get h4 el
    have lok := wf.wf.lays l (List.mem_of_getElem? el)
    have es : Ie13.step s (.layer i) = (s, Ie13.ints (dotN l.dots)) := by simp only [Ie13.step, el]; rfl
    rw [es] at q
    refine ⟨_, rfl, _, rfl, _, _, _, _, rfl, rfl, SqL.of (h.fH _ _ h3), atI_nat hv, ?_⟩
    exact ⟨F, ra, l, rfl, h.fH, hra, by rw [lok.len]; exact h36, fun F1 H1 p e1 hp => q F1 H1 p e1.frame (hE0.ext e1) (Tones.ans hp)⟩
def sp_list_of (CL CD CE : Addr) : Sp := fun vs H Q _ => ∃ (e : Addr), vs = [.ref e] ∧ CallP CL CD CE (.list) e H Q
theorem ok_list_of (T : Txt K mg C_Layer C_Document C_Editor) : Ok P w K mg base 2 "list_of" ["editor"] (sp_list_of C_Layer C_Document C_Editor) := by
  have O_layer_numbers := ok_layer_numbers (P := P) (w := w) (base := base) T
  refine T.d_list_of.ok sc_list_of (fun vs H Q E h => ?_) (fun f cdv A outer s H vs Q E hr h => ⟨_, (pss_cons (ps_set (i := 1) sc_list_of.nd rfl (Or.inl rfl) (pe_fld (pe_fld (pv 0) rfl) rfl))
      (pss_cons (ps_set (i := 2) sc_list_of.nd rfl (Or.inl rfl) (pe_lst (pa_cons (pe_callB (r := rLenK K) call_len_seq (by rfl) T.b_len PySem.boot_len (pa_cons (pv 1) pa_nil)) pa_nil)))
      (pss_cons (ps_for PassesOwn.never rfl (pi_list (pv 1)) (pg_name (i := 3) sc_list_of.nd rfl (Or.inl rfl)) (pss_one (ps_expr (pe_bm PySem.F.plainAttrs_list PySem.F.slot_list_extend PySem.F.type_list_extend mt_extend (pv 2) (pa_cons (pe_callO O_layer_numbers (hr.mono (by decide)) rfl (pa_cons (pv 3) pa_nil)) pa_nil)))))
      (pss_one (ps_ret (pv 2)))))), ?_⟩)
  · obtain ⟨_, rfl, _⟩ := h; rfl
  · obtain ⟨e, rfl, F, Z, s, hE, wf, q⟩ := h
    have hE0 := hE
    obtain ⟨dx, d, D, U, c, h⟩ := hE
    obtain ⟨ddx, g, ls, ch, h1, h2, ⟨lv, h3, h4⟩, h5⟩ := h.hd.ex
    have hH := h.fH _ _ h1
    have hll := h4.length
    have hl5 := wf.wf.l5
    have h36 := wf.wf.n36
    refine ⟨_, rfl, _, _, _, _, _, rfl, h.he, T.k_Editor, T.n_Editor_document, Ed_document, _, _, _, _, _, rfl, hH, T.k_Document, T.n_Document_layers, Doc_layers, ?_⟩
    refine ⟨_, rfl, _, _, rfl, .inl (SqL.of (h.fH _ _ h3)), one_ok, fun G hG => ?_⟩
    have hFG : F G = none := Same.free h.fH hG
    have E1 := (Ext.refl h.fH).newM (o := .lst [.int (lv.length : Int)]) hG
    dsimp only [cxK, gName, L2.start, List.length, List.map, List.replicate, List.cons_append, List.nil_append, Nat.sub_self, List.append_nil, List.set]
    refine ⟨_, rfl, _, rfl, ⟨_, SqL.of (E1.hh _ _ (h.fH _ _ h3))⟩, ?_⟩
    refine for_list (K := K) (xs := lv) (fun i σ H' => ∃ o F1, σ = [some (.ref e), some (.ref ls), some (.ref G), o] ∧ Ext F H F1 H' ∧ F1 G = none ∧ H' G = some (.lst (vI (s.doc.layers.length :: (s.doc.layers.take i).flatMap layN)))) ?_ ?_ ?_ ?_
    · refine ⟨none, F, rfl, E1, hFG, ?_⟩
      rw [upd_same, hll]; rfl
    · rintro i σ H' _ ⟨o, F1, rfl, e1, _⟩
      exact SqL.of (e1.hh _ _ (h.fH _ _ h3))
    · rintro i v σ H' hx ⟨o, F1, rfl, e1, f1, hv⟩
      obtain ⟨l, el, ra, rfl, hra⟩ := pd_getL h4 hx
      have lok := wf.wf.lays l (List.mem_of_getElem? el)
      refine ⟨_, rfl, .inl ⟨rfl, _, SqL.of hv⟩, ?_⟩
      refine ⟨_, rfl, F1, ra, l, rfl, e1.fh, hra.mono e1.ff, by rw [lok.len]; exact h36, fun F2 H2 p e2 hp => ?_⟩
      obtain ⟨pv, p1, p2⟩ := hp
      have hv2 := e2.hh _ _ hv
      have f2 := e2.fr G f1 (by rw [hv]; simp)
      have ep : pv = vI (layN l) := ints_of p2 |>.trans (by unfold vI; rw [List.map_map]; rfl)
      have hlen : ∀ k : List Ie13.Layer, (k.flatMap layN).length = 5 * k.length := fun k => by
        induction k with
        | nil => rfl
        | cons x k ih => rw [List.flatMap_cons, List.length_append, ih, List.length_cons]; show 5 + _ = _; omega
      refine ⟨_, _, _, _, rfl, rfl, hv2, e2.fh _ _ p1, ?_, ?_⟩
      · rw [ep]
        unfold vI
        rw [List.length_map, List.length_map, List.length_cons, hlen, List.length_take]
        show _ + 5 ≤ sizeLine
        have : (1000 : Nat) ≤ sizeLine := by decide
        omega
      · refine ⟨_, F2, rfl, (e1.trans e2).mut hG f2, f2, ?_⟩
        rw [upd_same, ep, List.take_add_one, el]
        unfold vI
        rw [← List.map_append]
        congr 3
        simp only [List.cons_append, List.flatMap_append]
        simp
    · rintro σ H' ⟨o, F1, rfl, e1, f1, hv⟩
      rw [hll, List.take_length] at hv
      refine ⟨_, rfl, ?_⟩
      have e2 := e1.pub hG f1 hv
      refine q _ _ G e2.frame (hE0.ext e2) ?_
      show upd F1 G _ G = some (.lst (vZ (Ie13.ints _)))
      rw [upd_same]
      unfold vI vZ Ie13.ints
      rw [List.map_map]; rfl
end
end Lp
namespace Lp
open PySem PySem.Spec PyProof.Rows L2
theorem cut_mid (xs : List V) (i j : Nat) (h : i ≤ j) (hj : j ≤ xs.length) : cutV xs (some (i : Int)) (some (j : Int)) = (xs.drop i).take (j - i) := by
  unfold cutV
  rw [HT.sIx_nat, HT.sIx_nat, Nat.min_eq_left hj, Nat.min_eq_left (Nat.le_trans h hj)]
section
variable {P : Program} {w : World} {K : PySem.W.Frag} {mg : Str → Option Value} {base : Heap} {C_Layer C_Document C_Editor : Addr}
def sp_layer_answer (CL CD CE : Addr) : Sp := fun vs H Q _ => ∃ (e r : Addr) (x : Ie13.Call), vs = [.ref e, .int ((numOf x : Nat) : Int), .ref r] ∧ numOf x ≤ 5 ∧ H r = some (.lst (vI (argsOf x))) ∧ CallP CL CD CE x e H Q
theorem ok_layer_answer (T : Txt K mg C_Layer C_Document C_Editor) : Ok P w K mg base 6 "layer_answer" ["editor", "number", "row"] (sp_layer_answer C_Layer C_Document C_Editor) := by
  have O_page := ok_page (P := P) (w := w) (base := base) T
  have O_layer := ok_layer (P := P) (w := w) (base := base) T
  have O_drop := ok_drop (P := P) (w := w) (base := base) T
  have O_pick := ok_pick (P := P) (w := w) (base := base) T
  have O_raise_it := ok_raise_it (P := P) (w := w) (base := base) T
  have O_set_it := ok_set_it (P := P) (w := w) (base := base) T
  refine T.d_layer_answer.ok sc_layer_answer (fun vs H Q E h => ?_) (fun f cdv A outer s H vs Q E hr h => ⟨_, (pss_cons (ps_if (pt_cmpR op_eq (pv 1) pe_int (nomark _)) (pss_one (ps_ret (pe_callO O_page (hr.mono (by decide)) rfl (pa_cons (pv 0) (pa_cons (pe_ix (r := rIxL K) ix_list (pv 2) pe_int (fun _ _ => rfl)) (pa_cons (pe_ix (r := rIxL K) ix_list (pv 2) pe_int (fun _ _ => rfl)) (pa_cons (pe_ix (r := rIxL K) ix_list (pv 2) pe_int (fun _ _ => rfl)) (pa_cons (pe_ix (r := rIxL K) ix_list (pv 2) pe_int (fun _ _ => rfl)) pa_nil)))))))) pss_nil)
      (pss_cons (ps_if (pt_cmpR op_eq (pv 1) pe_int (nomark _)) (pss_one (ps_ret (pe_callO O_layer (hr.mono (by decide)) rfl (pa_cons (pv 0) pa_nil)))) pss_nil)
      (pss_cons (ps_if (pt_cmpR op_eq (pv 1) pe_int (nomark _)) (pss_one (ps_ret (pe_callO O_drop (hr.mono (by decide)) rfl (pa_cons (pv 0) pa_nil)))) pss_nil)
      (pss_cons (ps_if (pt_cmpR op_eq (pv 1) pe_int (nomark _)) (pss_one (ps_ret (pe_callO O_pick (hr.mono (by decide)) rfl (pa_cons (pv 0) (pa_cons (pe_ix (r := rIxL K) ix_list (pv 2) pe_int (fun _ _ => rfl)) pa_nil))))) pss_nil)
      (pss_cons (ps_if (pt_cmpR op_eq (pv 1) pe_int (nomark _)) (pss_one (ps_ret (pe_callO O_raise_it (hr.mono (by decide)) rfl (pa_cons (pv 0) pa_nil)))) pss_nil)
      (pss_one (ps_ret (pe_callO O_set_it (hr.mono (by decide)) rfl (pa_cons (pv 0) (pa_cons (pe_ix (r := rIxL K) ix_list (pv 2) pe_int (fun _ _ => rfl)) (pa_cons (pe_ix (r := rIxL K) ix_list (pv 2) pe_int (fun _ _ => rfl)) (pa_cons (pe_ix (r := rIxL K) ix_list (pv 2) pe_int (fun _ _ => rfl)) pa_nil)))))))))))), ?_⟩)
  · obtain ⟨_, _, _, rfl, _⟩ := h; rfl
  · obtain ⟨e, r, x, rfl, hhi, hr2, hC⟩ := h
    have hlo : 0 ≤ numOf x := Nat.zero_le _
    cases x with
    | page a b c d =>
      refine ⟨_, rfl, rfl, _, rfl, ifT rfl ?_⟩
      exact ⟨_, rfl, _, rfl, _, _, _, _, rfl, rfl, SqL.of hr2, rfl, _, rfl, _, _, _, _, rfl, rfl, SqL.of hr2, rfl, _, rfl, _, _, _, _, rfl, rfl, SqL.of hr2, rfl, _, rfl, _, _, _, _, rfl, rfl, SqL.of hr2, rfl, e, a, b, c, d, rfl, hC⟩
    | copy =>
      exact absurd (show 16 ≤ 5 from hhi) (by decide)
    | undo =>
      exact absurd (show 17 ≤ 5 from hhi) (by decide)
    | redo =>
      exact absurd (show 18 ≤ 5 from hhi) (by decide)
    | picture =>
      exact absurd (show 19 ≤ 5 from hhi) (by decide)
    | layer a =>
      exact absurd (show 20 ≤ 5 from hhi) (by decide)
    | chosen =>
      exact absurd (show 21 ≤ 5 from hhi) (by decide)
    | steps =>
      exact absurd (show 22 ≤ 5 from hhi) (by decide)
    | list =>
      exact absurd (show 23 ≤ 5 from hhi) (by decide)
    | command c =>
      cases c with
      | layer =>
        refine ⟨_, rfl, rfl, _, rfl, ifF rfl ?_⟩
        refine ⟨_, rfl, rfl, _, rfl, ifT rfl ?_⟩
        exact ⟨_, rfl, e, rfl, hC⟩
      | drop =>
        refine ⟨_, rfl, rfl, _, rfl, ifF rfl ?_⟩
        refine ⟨_, rfl, rfl, _, rfl, ifF rfl ?_⟩
        refine ⟨_, rfl, rfl, _, rfl, ifT rfl ?_⟩
        exact ⟨_, rfl, e, rfl, hC⟩
      | pick a =>
        refine ⟨_, rfl, rfl, _, rfl, ifF rfl ?_⟩
        refine ⟨_, rfl, rfl, _, rfl, ifF rfl ?_⟩
        refine ⟨_, rfl, rfl, _, rfl, ifF rfl ?_⟩
        refine ⟨_, rfl, rfl, _, rfl, ifT rfl ?_⟩
        exact ⟨_, rfl, _, rfl, _, _, _, _, rfl, rfl, SqL.of hr2, rfl, e, a, rfl, hC⟩
      | raise =>
        refine ⟨_, rfl, rfl, _, rfl, ifF rfl ?_⟩
        refine ⟨_, rfl, rfl, _, rfl, ifF rfl ?_⟩
        refine ⟨_, rfl, rfl, _, rfl, ifF rfl ?_⟩
        refine ⟨_, rfl, rfl, _, rfl, ifF rfl ?_⟩
        refine ⟨_, rfl, rfl, _, rfl, ifT rfl ?_⟩
        exact ⟨_, rfl, e, rfl, hC⟩
      | set a b c =>
        refine ⟨_, rfl, rfl, _, rfl, ifF rfl ?_⟩
        refine ⟨_, rfl, rfl, _, rfl, ifF rfl ?_⟩
        refine ⟨_, rfl, rfl, _, rfl, ifF rfl ?_⟩
        refine ⟨_, rfl, rfl, _, rfl, ifF rfl ?_⟩
        refine ⟨_, rfl, rfl, _, rfl, ifF rfl ?_⟩
        exact ⟨_, rfl, _, rfl, _, _, _, _, rfl, rfl, SqL.of hr2, rfl, _, rfl, _, _, _, _, rfl, rfl, SqL.of hr2, rfl, _, rfl, _, _, _, _, rfl, rfl, SqL.of hr2, rfl, e, a, b, c, rfl, hC⟩
      | box a b c d k =>
        exact absurd (show 6 ≤ 5 from hhi) (by decide)
      | like a b c d =>
        exact absurd (show 7 ≤ 5 from hhi) (by decide)
      | turn =>
        exact absurd (show 8 ≤ 5 from hhi) (by decide)
      | fill a b =>
        exact absurd (show 9 ≤ 5 from hhi) (by decide)
      | bright a b =>
        exact absurd (show 10 ≤ 5 from hhi) (by decide)
      | soft =>
        exact absurd (show 11 ≤ 5 from hhi) (by decide)
      | shift a b =>
        exact absurd (show 12 ≤ 5 from hhi) (by decide)
      | cut =>
        exact absurd (show 13 ≤ 5 from hhi) (by decide)
      | paste a b =>
        exact absurd (show 14 ≤ 5 from hhi) (by decide)
      | press =>
        exact absurd (show 15 ≤ 5 from hhi) (by decide)
def sp_cell_answer (CL CD CE : Addr) : Sp := fun vs H Q _ => ∃ (e r : Addr) (x : Ie13.Call), vs = [.ref e, .int ((numOf x : Nat) : Int), .ref r] ∧ 6 ≤ numOf x ∧ numOf x ≤ 11 ∧ H r = some (.lst (vI (argsOf x))) ∧ CallP CL CD CE x e H Q
theorem ok_cell_answer (T : Txt K mg C_Layer C_Document C_Editor) : Ok P w K mg base 7 "cell_answer" ["editor", "number", "row"] (sp_cell_answer C_Layer C_Document C_Editor) := by
  have O_box := ok_box (P := P) (w := w) (base := base) T
  have O_like := ok_like (P := P) (w := w) (base := base) T
  have O_turn := ok_turn (P := P) (w := w) (base := base) T
  have O_fill := ok_fill (P := P) (w := w) (base := base) T
  have O_bright := ok_bright (P := P) (w := w) (base := base) T
  have O_soft := ok_soft (P := P) (w := w) (base := base) T
  refine T.d_cell_answer.ok sc_cell_answer (fun vs H Q E h => ?_) (fun f cdv A outer s H vs Q E hr h => ⟨_, (pss_cons (ps_if (pt_cmpR op_eq (pv 1) pe_int (nomark _)) (pss_one (ps_ret (pe_callO O_box (hr.mono (by decide)) rfl (pa_cons (pv 0) (pa_cons (pe_ix (r := rIxL K) ix_list (pv 2) pe_int (fun _ _ => rfl)) (pa_cons (pe_ix (r := rIxL K) ix_list (pv 2) pe_int (fun _ _ => rfl)) (pa_cons (pe_ix (r := rIxL K) ix_list (pv 2) pe_int (fun _ _ => rfl)) (pa_cons (pe_ix (r := rIxL K) ix_list (pv 2) pe_int (fun _ _ => rfl)) (pa_cons (pe_ix (r := rIxL K) ix_list (pv 2) pe_int (fun _ _ => rfl)) pa_nil))))))))) pss_nil)
      (pss_cons (ps_if (pt_cmpR op_eq (pv 1) pe_int (nomark _)) (pss_one (ps_ret (pe_callO O_like (hr.mono (by decide)) rfl (pa_cons (pv 0) (pa_cons (pe_ix (r := rIxL K) ix_list (pv 2) pe_int (fun _ _ => rfl)) (pa_cons (pe_ix (r := rIxL K) ix_list (pv 2) pe_int (fun _ _ => rfl)) (pa_cons (pe_ix (r := rIxL K) ix_list (pv 2) pe_int (fun _ _ => rfl)) (pa_cons (pe_ix (r := rIxL K) ix_list (pv 2) pe_int (fun _ _ => rfl)) pa_nil)))))))) pss_nil)
      (pss_cons (ps_if (pt_cmpR op_eq (pv 1) pe_int (nomark _)) (pss_one (ps_ret (pe_callO O_turn (hr.mono (by decide)) rfl (pa_cons (pv 0) pa_nil)))) pss_nil)
      (pss_cons (ps_if (pt_cmpR op_eq (pv 1) pe_int (nomark _)) (pss_one (ps_ret (pe_callO O_fill (hr.mono (by decide)) rfl (pa_cons (pv 0) (pa_cons (pe_ix (r := rIxL K) ix_list (pv 2) pe_int (fun _ _ => rfl)) (pa_cons (pe_ix (r := rIxL K) ix_list (pv 2) pe_int (fun _ _ => rfl)) pa_nil)))))) pss_nil)
      (pss_cons (ps_if (pt_cmpR op_eq (pv 1) pe_int (nomark _)) (pss_one (ps_ret (pe_callO O_bright (hr.mono (by decide)) rfl (pa_cons (pv 0) (pa_cons (pe_ix (r := rIxL K) ix_list (pv 2) pe_int (fun _ _ => rfl)) (pa_cons (pe_ix (r := rIxL K) ix_list (pv 2) pe_int (fun _ _ => rfl)) pa_nil)))))) pss_nil)
      (pss_one (ps_ret (pe_callO O_soft (hr.mono (by decide)) rfl (pa_cons (pv 0) pa_nil))))))))), ?_⟩)
  · obtain ⟨_, _, _, rfl, _⟩ := h; rfl
  · obtain ⟨e, r, x, rfl, hlo, hhi, hr2, hC⟩ := h
    cases x with
    | page a b c d =>
      exact absurd (show 6 ≤ 0 from hlo) (by decide)
    | copy =>
      exact absurd (show 16 ≤ 11 from hhi) (by decide)
    | undo =>
      exact absurd (show 17 ≤ 11 from hhi) (by decide)
    | redo =>
      exact absurd (show 18 ≤ 11 from hhi) (by decide)
    | picture =>
      exact absurd (show 19 ≤ 11 from hhi) (by decide)
    | layer a =>
      exact absurd (show 20 ≤ 11 from hhi) (by decide)
    | chosen =>
      exact absurd (show 21 ≤ 11 from hhi) (by decide)
    | steps =>
      exact absurd (show 22 ≤ 11 from hhi) (by decide)
    | list =>
      exact absurd (show 23 ≤ 11 from hhi) (by decide)
    | command c =>
      cases c with
      | layer =>
        exact absurd (show 6 ≤ 1 from hlo) (by decide)
      | drop =>
        exact absurd (show 6 ≤ 2 from hlo) (by decide)
      | pick a =>
        exact absurd (show 6 ≤ 3 from hlo) (by decide)
      | raise =>
        exact absurd (show 6 ≤ 4 from hlo) (by decide)
      | set a b c =>
        exact absurd (show 6 ≤ 5 from hlo) (by decide)
      | box a b c d k =>
        refine ⟨_, rfl, rfl, _, rfl, ifT rfl ?_⟩
        exact ⟨_, rfl, _, rfl, _, _, _, _, rfl, rfl, SqL.of hr2, rfl, _, rfl, _, _, _, _, rfl, rfl, SqL.of hr2, rfl, _, rfl, _, _, _, _, rfl, rfl, SqL.of hr2, rfl, _, rfl, _, _, _, _, rfl, rfl, SqL.of hr2, rfl, _, rfl, _, _, _, _, rfl, rfl, SqL.of hr2, rfl, e, a, b, c, d, k, rfl, hC⟩
      | like a b c d =>
        refine ⟨_, rfl, rfl, _, rfl, ifF rfl ?_⟩
        refine ⟨_, rfl, rfl, _, rfl, ifT rfl ?_⟩
        exact ⟨_, rfl, _, rfl, _, _, _, _, rfl, rfl, SqL.of hr2, rfl, _, rfl, _, _, _, _, rfl, rfl, SqL.of hr2, rfl, _, rfl, _, _, _, _, rfl, rfl, SqL.of hr2, rfl, _, rfl, _, _, _, _, rfl, rfl, SqL.of hr2, rfl, e, a, b, c, d, rfl, hC⟩
      | turn =>
        refine ⟨_, rfl, rfl, _, rfl, ifF rfl ?_⟩
        refine ⟨_, rfl, rfl, _, rfl, ifF rfl ?_⟩
        refine ⟨_, rfl, rfl, _, rfl, ifT rfl ?_⟩
        exact ⟨_, rfl, e, rfl, hC⟩
      | fill a b =>
        refine ⟨_, rfl, rfl, _, rfl, ifF rfl ?_⟩
        refine ⟨_, rfl, rfl, _, rfl, ifF rfl ?_⟩
        refine ⟨_, rfl, rfl, _, rfl, ifF rfl ?_⟩
        refine ⟨_, rfl, rfl, _, rfl, ifT rfl ?_⟩
        exact ⟨_, rfl, _, rfl, _, _, _, _, rfl, rfl, SqL.of hr2, rfl, _, rfl, _, _, _, _, rfl, rfl, SqL.of hr2, rfl, e, a, b, rfl, hC⟩
      | bright a b =>
        refine ⟨_, rfl, rfl, _, rfl, ifF rfl ?_⟩
        refine ⟨_, rfl, rfl, _, rfl, ifF rfl ?_⟩
        refine ⟨_, rfl, rfl, _, rfl, ifF rfl ?_⟩
        refine ⟨_, rfl, rfl, _, rfl, ifF rfl ?_⟩
        refine ⟨_, rfl, rfl, _, rfl, ifT rfl ?_⟩
        exact ⟨_, rfl, _, rfl, _, _, _, _, rfl, rfl, SqL.of hr2, rfl, _, rfl, _, _, _, _, rfl, rfl, SqL.of hr2, rfl, e, a, b, rfl, hC⟩
      | soft =>
        refine ⟨_, rfl, rfl, _, rfl, ifF rfl ?_⟩
        refine ⟨_, rfl, rfl, _, rfl, ifF rfl ?_⟩
        refine ⟨_, rfl, rfl, _, rfl, ifF rfl ?_⟩
        refine ⟨_, rfl, rfl, _, rfl, ifF rfl ?_⟩
        refine ⟨_, rfl, rfl, _, rfl, ifF rfl ?_⟩
        exact ⟨_, rfl, e, rfl, hC⟩
      | shift a b =>
        exact absurd (show 12 ≤ 11 from hhi) (by decide)
      | cut =>
        exact absurd (show 13 ≤ 11 from hhi) (by decide)
      | paste a b =>
        exact absurd (show 14 ≤ 11 from hhi) (by decide)
      | press =>
        exact absurd (show 15 ≤ 11 from hhi) (by decide)
def sp_piece_answer (CL CD CE : Addr) : Sp := fun vs H Q _ => ∃ (e r : Addr) (x : Ie13.Call), vs = [.ref e, .int ((numOf x : Nat) : Int), .ref r] ∧ 12 ≤ numOf x ∧ numOf x ≤ 18 ∧ H r = some (.lst (vI (argsOf x))) ∧ CallP CL CD CE x e H Q
theorem ok_piece_answer (T : Txt K mg C_Layer C_Document C_Editor) : Ok P w K mg base 7 "piece_answer" ["editor", "number", "row"] (sp_piece_answer C_Layer C_Document C_Editor) := by
  have O_shift := ok_shift (P := P) (w := w) (base := base) T
  have O_cut := ok_cut (P := P) (w := w) (base := base) T
  have O_paste := ok_paste (P := P) (w := w) (base := base) T
  have O_press := ok_press (P := P) (w := w) (base := base) T
  have O_copy := ok_copy (P := P) (w := w) (base := base) T
  have O_undo := ok_undo (P := P) (w := w) (base := base) T
  have O_redo := ok_redo (P := P) (w := w) (base := base) T
  refine T.d_piece_answer.ok sc_piece_answer (fun vs H Q E h => ?_) (fun f cdv A outer s H vs Q E hr h => ⟨_, (pss_cons (ps_if (pt_cmpR op_eq (pv 1) pe_int (nomark _)) (pss_one (ps_ret (pe_callO O_shift (hr.mono (by decide)) rfl (pa_cons (pv 0) (pa_cons (pe_ix (r := rIxL K) ix_list (pv 2) pe_int (fun _ _ => rfl)) (pa_cons (pe_ix (r := rIxL K) ix_list (pv 2) pe_int (fun _ _ => rfl)) pa_nil)))))) pss_nil)
      (pss_cons (ps_if (pt_cmpR op_eq (pv 1) pe_int (nomark _)) (pss_one (ps_ret (pe_callO O_cut (hr.mono (by decide)) rfl (pa_cons (pv 0) pa_nil)))) pss_nil)
      (pss_cons (ps_if (pt_cmpR op_eq (pv 1) pe_int (nomark _)) (pss_one (ps_ret (pe_callO O_paste (hr.mono (by decide)) rfl (pa_cons (pv 0) (pa_cons (pe_ix (r := rIxL K) ix_list (pv 2) pe_int (fun _ _ => rfl)) (pa_cons (pe_ix (r := rIxL K) ix_list (pv 2) pe_int (fun _ _ => rfl)) pa_nil)))))) pss_nil)
      (pss_cons (ps_if (pt_cmpR op_eq (pv 1) pe_int (nomark _)) (pss_one (ps_ret (pe_callO O_press (hr.mono (by decide)) rfl (pa_cons (pv 0) pa_nil)))) pss_nil)
      (pss_cons (ps_if (pt_cmpR op_eq (pv 1) pe_int (nomark _)) (pss_one (ps_ret (pe_callO O_copy (hr.mono (by decide)) rfl (pa_cons (pv 0) pa_nil)))) pss_nil)
      (pss_cons (ps_if (pt_cmpR op_eq (pv 1) pe_int (nomark _)) (pss_one (ps_ret (pe_callO O_undo (hr.mono (by decide)) rfl (pa_cons (pv 0) pa_nil)))) pss_nil)
      (pss_one (ps_ret (pe_callO O_redo (hr.mono (by decide)) rfl (pa_cons (pv 0) pa_nil)))))))))), ?_⟩)
  · obtain ⟨_, _, _, rfl, _⟩ := h; rfl
  · obtain ⟨e, r, x, rfl, hlo, hhi, hr2, hC⟩ := h
    cases x with
    | page a b c d =>
      exact absurd (show 12 ≤ 0 from hlo) (by decide)
    | copy =>
      refine ⟨_, rfl, rfl, _, rfl, ifF rfl ?_⟩
      refine ⟨_, rfl, rfl, _, rfl, ifF rfl ?_⟩
      refine ⟨_, rfl, rfl, _, rfl, ifF rfl ?_⟩
      refine ⟨_, rfl, rfl, _, rfl, ifF rfl ?_⟩
      refine ⟨_, rfl, rfl, _, rfl, ifT rfl ?_⟩
      exact ⟨_, rfl, e, rfl, hC⟩
    | undo =>
      refine ⟨_, rfl, rfl, _, rfl, ifF rfl ?_⟩
      refine ⟨_, rfl, rfl, _, rfl, ifF rfl ?_⟩
      refine ⟨_, rfl, rfl, _, rfl, ifF rfl ?_⟩
      refine ⟨_, rfl, rfl, _, rfl, ifF rfl ?_⟩
      refine ⟨_, rfl, rfl, _, rfl, ifF rfl ?_⟩
      refine ⟨_, rfl, rfl, _, rfl, ifT rfl ?_⟩
      exact ⟨_, rfl, e, rfl, hC⟩
    | redo =>
      refine ⟨_, rfl, rfl, _, rfl, ifF rfl ?_⟩
      refine ⟨_, rfl, rfl, _, rfl, ifF rfl ?_⟩
      refine ⟨_, rfl, rfl, _, rfl, ifF rfl ?_⟩
      refine ⟨_, rfl, rfl, _, rfl, ifF rfl ?_⟩
      refine ⟨_, rfl, rfl, _, rfl, ifF rfl ?_⟩
      refine ⟨_, rfl, rfl, _, rfl, ifF rfl ?_⟩
      exact ⟨_, rfl, e, rfl, hC⟩
    | picture =>
      exact absurd (show 19 ≤ 18 from hhi) (by decide)
    | layer a =>
      exact absurd (show 20 ≤ 18 from hhi) (by decide)
    | chosen =>
      exact absurd (show 21 ≤ 18 from hhi) (by decide)
    | steps =>
      exact absurd (show 22 ≤ 18 from hhi) (by decide)
    | list =>
      exact absurd (show 23 ≤ 18 from hhi) (by decide)
    | command c =>
      cases c with
      | layer =>
        exact absurd (show 12 ≤ 1 from hlo) (by decide)
      | drop =>
        exact absurd (show 12 ≤ 2 from hlo) (by decide)
      | pick a =>
        exact absurd (show 12 ≤ 3 from hlo) (by decide)
      | raise =>
        exact absurd (show 12 ≤ 4 from hlo) (by decide)
      | set a b c =>
        exact absurd (show 12 ≤ 5 from hlo) (by decide)
      | box a b c d k =>
        exact absurd (show 12 ≤ 6 from hlo) (by decide)
      | like a b c d =>
        exact absurd (show 12 ≤ 7 from hlo) (by decide)
      | turn =>
        exact absurd (show 12 ≤ 8 from hlo) (by decide)
      | fill a b =>
        exact absurd (show 12 ≤ 9 from hlo) (by decide)
      | bright a b =>
        exact absurd (show 12 ≤ 10 from hlo) (by decide)
      | soft =>
        exact absurd (show 12 ≤ 11 from hlo) (by decide)
      | shift a b =>
        refine ⟨_, rfl, rfl, _, rfl, ifT rfl ?_⟩
        exact ⟨_, rfl, _, rfl, _, _, _, _, rfl, rfl, SqL.of hr2, rfl, _, rfl, _, _, _, _, rfl, rfl, SqL.of hr2, rfl, e, a, b, rfl, hC⟩
      | cut =>
        refine ⟨_, rfl, rfl, _, rfl, ifF rfl ?_⟩
        refine ⟨_, rfl, rfl, _, rfl, ifT rfl ?_⟩
        exact ⟨_, rfl, e, rfl, hC⟩
      | paste a b =>
        refine ⟨_, rfl, rfl, _, rfl, ifF rfl ?_⟩
        refine ⟨_, rfl, rfl, _, rfl, ifF rfl ?_⟩
        refine ⟨_, rfl, rfl, _, rfl, ifT rfl ?_⟩
        exact ⟨_, rfl, _, rfl, _, _, _, _, rfl, rfl, SqL.of hr2, rfl, _, rfl, _, _, _, _, rfl, rfl, SqL.of hr2, rfl, e, a, b, rfl, hC⟩
      | press =>
        refine ⟨_, rfl, rfl, _, rfl, ifF rfl ?_⟩
        refine ⟨_, rfl, rfl, _, rfl, ifF rfl ?_⟩
        refine ⟨_, rfl, rfl, _, rfl, ifF rfl ?_⟩
        refine ⟨_, rfl, rfl, _, rfl, ifT rfl ?_⟩
        exact ⟨_, rfl, e, rfl, hC⟩
theorem bits_ans {F : Hp} {p : Addr} {cs : List Bool} {n : Nat} (h : Bits F p cs) (hn : cs.length = n) : Ans F p (Ie13.ints ((List.range n).map fun i => (cs.getD i false).toNat)) := by
  obtain ⟨vs, h1, h2⟩ := h
  have e := pd_map_range (fun b : Bool => b.toNat) cs false
  rw [hn] at e
  unfold Ans
  rw [e, h1, pd_map _ (fun _ _ h => h) h2]
  unfold vZ Ie13.ints
  rw [List.map_map, List.map_map]
  congr 2
  apply List.map_congr_left
  intro b _
  cases b <;> rfl
def sp_asked_answer (CL CD CE : Addr) : Sp := fun vs H Q _ => ∃ (e r : Addr) (x : Ie13.Call), vs = [.ref e, .int ((numOf x : Nat) : Int), .ref r] ∧ 19 ≤ numOf x ∧ H r = some (.lst (vI (argsOf x))) ∧ CallP CL CD CE x e H Q
theorem ok_asked_answer (T : Txt K mg C_Layer C_Document C_Editor) : Ok P w K mg base 6 "asked_answer" ["editor", "number", "row"] (sp_asked_answer C_Layer C_Document C_Editor) := by
  have O_picture_tones := ok_picture_tones (P := P) (w := w) (base := base) T
  have O_dots := ok_dots (P := P) (w := w) (base := base) T
  have O_Editor_step_sizes := ok_Editor_step_sizes (P := P) (w := w) (base := base) T
  have O_list_of := ok_list_of (P := P) (w := w) (base := base) T
  refine T.d_asked_answer.ok sc_asked_answer (fun vs H Q E h => ?_) (fun f cdv A outer s H vs Q E hr h => ⟨_, (pss_cons (ps_if (pt_cmpR op_eq (pv 1) pe_int (nomark _)) (pss_one (ps_ret (pe_callO O_picture_tones (hr.mono (by decide)) rfl (pa_cons (pe_fld (pv 0) rfl) pa_nil)))) pss_nil)
      (pss_cons (ps_if (pt_cmpR op_eq (pv 1) pe_int (nomark _)) (pss_one (ps_ret (pe_callO O_dots (hr.mono (by decide)) rfl (pa_cons (pv 0) (pa_cons (pe_ix (r := rIxL K) ix_list (pv 2) pe_int (fun _ _ => rfl)) pa_nil))))) pss_nil)
      (pss_cons (ps_if (pt_cmpR op_eq (pv 1) pe_int (nomark _)) (pss_one (ps_ret (pe_fld (pe_fld (pv 0) rfl) rfl))) pss_nil)
      (pss_cons (ps_if (pt_cmpR op_eq (pv 1) pe_int (nomark _)) (pss_one (ps_ret (pe_methO0 (pv 0) O_Editor_step_sizes (hr.mono (by decide))))) pss_nil)
      (pss_one (ps_ret (pe_callO O_list_of (hr.mono (by decide)) rfl (pa_cons (pv 0) pa_nil)))))))), ?_⟩)
  · obtain ⟨_, _, _, rfl, _⟩ := h; rfl
  · obtain ⟨e, r, x, rfl, hlo, hr2, hC⟩ := h
    cases x with
    | page a b c d =>
      exact absurd (show 19 ≤ 0 from hlo) (by decide)
    | copy =>
      exact absurd (show 19 ≤ 16 from hlo) (by decide)
    | undo =>
      exact absurd (show 19 ≤ 17 from hlo) (by decide)
    | redo =>
      exact absurd (show 19 ≤ 18 from hlo) (by decide)
    | picture =>
      refine ⟨_, rfl, rfl, _, rfl, ifT rfl ?_⟩
      obtain ⟨F, Z, s, hE, wf, q⟩ := hC
      have hE0 := hE
      obtain ⟨dx, d, D, U, c, h⟩ := hE
      obtain ⟨ddx, g, ls, ch, h1, h2, ⟨lv, h3, h4⟩, h5⟩ := h.hd.ex
      have hH := h.fH _ _ h1
      refine ⟨_, rfl, _, _, _, _, _, rfl, h.he, T.k_Editor, T.n_Editor_document, Ed_document, F, d, s.doc, rfl, h.fH, h.hd, wf.wf, fun F1 H1 p e1 hp => ?_⟩
      exact q F1 H1 p e1.frame (hE0.ext e1) (Tones.ans hp)
    | layer a =>
      refine ⟨_, rfl, rfl, _, rfl, ifF rfl ?_⟩
      refine ⟨_, rfl, rfl, _, rfl, ifT rfl ?_⟩
      exact ⟨_, rfl, _, rfl, _, _, _, _, rfl, rfl, SqL.of hr2, rfl, e, a, rfl, hC⟩
    | chosen =>
      refine ⟨_, rfl, rfl, _, rfl, ifF rfl ?_⟩
      refine ⟨_, rfl, rfl, _, rfl, ifF rfl ?_⟩
      refine ⟨_, rfl, rfl, _, rfl, ifT rfl ?_⟩
      obtain ⟨F, Z, s, hE, wf, q⟩ := hC
      have hE0 := hE
      obtain ⟨dx, d, D, U, c, h⟩ := hE
      obtain ⟨ddx, g, ls, ch, h1, h2, ⟨lv, h3, h4⟩, h5⟩ := h.hd.ex
      have hH := h.fH _ _ h1
      refine ⟨_, rfl, _, _, _, _, _, rfl, h.he, T.k_Editor, T.n_Editor_document, Ed_document, _, _, _, _, _, rfl, hH, T.k_Document, T.n_Document_chosen, Doc_chosen, ?_⟩
      exact q F H ch Fr.refl hE0 (bits_ans h5 wf.wf.clen)
    | steps =>
      refine ⟨_, rfl, rfl, _, rfl, ifF rfl ?_⟩
      refine ⟨_, rfl, rfl, _, rfl, ifF rfl ?_⟩
      refine ⟨_, rfl, rfl, _, rfl, ifF rfl ?_⟩
      refine ⟨_, rfl, rfl, _, rfl, ifT rfl ?_⟩
      obtain ⟨F, Z, s, hE, wf, q⟩ := hC
      have hE0 := hE
      obtain ⟨dx, d, D, U, c, h⟩ := hE
      obtain ⟨ddx, g, ls, ch, h1, h2, ⟨lv, h3, h4⟩, h5⟩ := h.hd.ex
      have hH := h.fH _ _ h1
      refine ⟨_, rfl, _, _, _, rfl, h.he, Ed_sizes, ?_⟩
      exact ⟨F, Z, e, s, rfl, hE0, wf, fun F1 H1 p e1 hp => q F1 H1 p e1.frame (hE0.ext e1) hp⟩
    | list =>
      refine ⟨_, rfl, rfl, _, rfl, ifF rfl ?_⟩
      refine ⟨_, rfl, rfl, _, rfl, ifF rfl ?_⟩
      refine ⟨_, rfl, rfl, _, rfl, ifF rfl ?_⟩
      refine ⟨_, rfl, rfl, _, rfl, ifF rfl ?_⟩
      exact ⟨_, rfl, e, rfl, hC⟩
    | command c =>
      cases c with
      | layer =>
        exact absurd (show 19 ≤ 1 from hlo) (by decide)
      | drop =>
        exact absurd (show 19 ≤ 2 from hlo) (by decide)
      | pick a =>
        exact absurd (show 19 ≤ 3 from hlo) (by decide)
      | raise =>
        exact absurd (show 19 ≤ 4 from hlo) (by decide)
      | set a b c =>
        exact absurd (show 19 ≤ 5 from hlo) (by decide)
      | box a b c d k =>
        exact absurd (show 19 ≤ 6 from hlo) (by decide)
      | like a b c d =>
        exact absurd (show 19 ≤ 7 from hlo) (by decide)
      | turn =>
        exact absurd (show 19 ≤ 8 from hlo) (by decide)
      | fill a b =>
        exact absurd (show 19 ≤ 9 from hlo) (by decide)
      | bright a b =>
        exact absurd (show 19 ≤ 10 from hlo) (by decide)
      | soft =>
        exact absurd (show 19 ≤ 11 from hlo) (by decide)
      | shift a b =>
        exact absurd (show 19 ≤ 12 from hlo) (by decide)
      | cut =>
        exact absurd (show 19 ≤ 13 from hlo) (by decide)
      | paste a b =>
        exact absurd (show 19 ≤ 14 from hlo) (by decide)
      | press =>
        exact absurd (show 19 ≤ 15 from hlo) (by decide)
def sp_call_answer (CL CD CE : Addr) : Sp := fun vs H Q _ => ∃ (e r : Addr) (x : Ie13.Call), vs = [.ref e, .int ((numOf x : Nat) : Int), .ref r] ∧ H r = some (.lst (vI (argsOf x))) ∧ CallP CL CD CE x e H Q
theorem ok_call_answer (T : Txt K mg C_Layer C_Document C_Editor) : Ok P w K mg base 8 "call_answer" ["editor", "number", "row"] (sp_call_answer C_Layer C_Document C_Editor) := by
  have O_layer_answer := ok_layer_answer (P := P) (w := w) (base := base) T
  have O_cell_answer := ok_cell_answer (P := P) (w := w) (base := base) T
  have O_piece_answer := ok_piece_answer (P := P) (w := w) (base := base) T
  have O_asked_answer := ok_asked_answer (P := P) (w := w) (base := base) T
  refine T.d_call_answer.ok sc_call_answer (fun vs H Q E h => ?_) (fun f cdv A outer s H vs Q E hr h => ⟨_, (pss_cons (ps_if (pt_cmpR op_le (pv 1) pe_int (nomark _)) (pss_one (ps_ret (pe_callO O_layer_answer (hr.mono (by decide)) rfl (pa_cons (pv 0) (pa_cons (pv 1) (pa_cons (pv 2) pa_nil)))))) pss_nil)
      (pss_cons (ps_if (pt_cmpR op_le (pv 1) pe_int (nomark _)) (pss_one (ps_ret (pe_callO O_cell_answer (hr.mono (by decide)) rfl (pa_cons (pv 0) (pa_cons (pv 1) (pa_cons (pv 2) pa_nil)))))) pss_nil)
      (pss_cons (ps_if (pt_cmpR op_le (pv 1) pe_int (nomark _)) (pss_one (ps_ret (pe_callO O_piece_answer (hr.mono (by decide)) rfl (pa_cons (pv 0) (pa_cons (pv 1) (pa_cons (pv 2) pa_nil)))))) pss_nil)
      (pss_one (ps_ret (pe_callO O_asked_answer (hr.mono (by decide)) rfl (pa_cons (pv 0) (pa_cons (pv 1) (pa_cons (pv 2) pa_nil))))))))), ?_⟩)
  · obtain ⟨_, _, _, rfl, _⟩ := h; rfl
  · obtain ⟨e, r, x, rfl, hr2, hC⟩ := h
    refine ⟨_, rfl, _, _, rfl, rfl, _, rfl, ?_⟩
    by_cases c1 : numOf x ≤ 5
    · exact ifT (decide_eq_true (by omega)) ⟨_, rfl, _, rfl, _, rfl, e, r, x, rfl, c1, hr2, hC⟩
    refine ifF (decide_eq_false (by omega)) ?_
    refine ⟨_, rfl, _, _, rfl, rfl, _, rfl, ?_⟩
    by_cases c2 : numOf x ≤ 11
    · exact ifT (decide_eq_true (by omega)) ⟨_, rfl, _, rfl, _, rfl, e, r, x, rfl, by omega, c2, hr2, hC⟩
    refine ifF (decide_eq_false (by omega)) ?_
    refine ⟨_, rfl, _, _, rfl, rfl, _, rfl, ?_⟩
    by_cases c3 : numOf x ≤ 18
    · exact ifT (decide_eq_true (by omega)) ⟨_, rfl, _, rfl, _, rfl, e, r, x, rfl, by omega, c3, hr2, hC⟩
    refine ifF (decide_eq_false (by omega)) ?_
    exact ⟨_, rfl, _, rfl, _, rfl, e, r, x, rfl, by omega, hr2, hC⟩
end
end Lp
namespace Lp
open PySem PySem.Spec PyProof.Rows L2
/-- one list alone -/
def sing (G : Addr) (o : HO) : Hp := fun b => if b = G then some o else none
theorem sing_at {G : Addr} {o : HO} : sing G o G = some o := if_pos rfl
theorem sing_ne {G b : Addr} {o : HO} (h : sing G o b = none) : b ≠ G := fun z => by rw [z, sing_at] at h; cases h
theorem sing_no {G b : Addr} {o : HO} (h : b ≠ G) : sing G o b = none := if_neg h
theorem same_sing {G : Addr} {o : HO} {H : Hp} (h : H G = some o) : Same (sing G o) H := fun b u q => by
  by_cases c : b = G
  · subst c; rw [sing_at] at q; cases q; exact h
  · rw [sing_no c] at q; cases q
theorem EdR.sing {CL CD CE : Addr} {F H : Hp} {e dx d D U G : Addr} {c : V} {s : Ie13.St} {o o' : HO} (h : EdR CL CD CE F H (sing G o) e dx d D U c s) (fG : F G = none) : EdR CL CD CE F (upd H G o') (Lp.sing G o') e dx d D U c s := by
  obtain ⟨dv, d1, d2⟩ := h.hD
  obtain ⟨uv, u1, u2⟩ := h.hU
  have n1 := sing_ne h.ze
  have n2 := sing_ne h.zD
  have n3 := sing_ne h.zU
  exact ⟨by rw [upd_ne n1]; exact h.he, h.hd, ⟨dv, by rw [upd_ne n2]; exact d1, d2⟩, ⟨uv, by rw [upd_ne n3]; exact u1, u2⟩, h.hc, same_mut h.fH fG, same_sing upd_same, h.fe, h.fD, h.fU, sing_no n1, sing_no n2, sing_no n3, h.nDU⟩
theorem EdAt.sing {CL CD CE : Addr} {F H : Hp} {e G : Addr} {s : Ie13.St} {o o' : HO} (h : EdAt CL CD CE F H (sing G o) e s) (fG : F G = none) : EdAt CL CD CE F (upd H G o') (Lp.sing G o') e s := by
  obtain ⟨dx, d, D, U, c, h⟩ := h
  exact ⟨dx, d, D, U, c, h.sing fG⟩
theorem EdAt.fH {CL CD CE : Addr} {F H Z : Hp} {e : Addr} {s : Ie13.St} (h : EdAt CL CD CE F H Z e s) : Same F H := by
  obtain ⟨dx, d, D, U, c, h⟩ := h
  exact h.fH
theorem EdAt.zH {CL CD CE : Addr} {F H Z : Hp} {e : Addr} {s : Ie13.St} (h : EdAt CL CD CE F H Z e s) : Same Z H := by
  obtain ⟨dx, d, D, U, c, h⟩ := h
  exact h.zH
theorem EdAt.newZ {CL CD CE : Addr} {F H Z : Hp} {e G : Addr} {s : Ie13.St} {o : HO} (h : EdAt CL CD CE F H Z e s) (hG : H G = none) : EdAt CL CD CE F (upd H G o) (Lp.sing G o) e s := by
  obtain ⟨dx, d, D, U, c, h⟩ := h
  have h0 := h
  obtain ⟨dv, d1, d2⟩ := h.hD
  obtain ⟨uv, u1, u2⟩ := h.hU
  have n1 : e ≠ G := fun z => by rw [← z, h.he] at hG; cases hG
  have n2 : D ≠ G := fun z => by rw [← z, d1] at hG; cases hG
  have n3 : U ≠ G := fun z => by rw [← z, u1] at hG; cases hG
  have h := h.ext ((Ext.refl h.fH).newM (o := o) hG)
  exact ⟨dx, d, D, U, c, h.he, h.hd, h.hD, h.hU, h.hc, h.fH, same_sing upd_same, h.fe, h.fD, h.fU, sing_no n1, sing_no n2, sing_no n3, h.nDU⟩
theorem asked_short {l : List Int} (h : PyIe13.answers_asked l = true) : (PyIe13.answers l).length ≤ 10000000 := by
  unfold PyIe13.answers_asked at h
  cases hc : PyFlat.calls PyIe13.shape l.length l with
  | none => rw [hc] at h; cases h
  | some raw =>
    rw [hc] at h
    simp only [Bool.and_eq_true] at h
    exact of_decide_eq_true h.2
theorem calls_cons {l : List Int} {x : Ie13.Call} {xs : List Ie13.Call} (h : Calls l (x :: xs)) : ∃ r, l = ((numOf x : Nat) : Int) :: (argsOf x).map (fun (n : Nat) => (n : Int)) ++ r ∧ Calls r xs := by
  cases h with
  | cons hc ht =>
    rename_i c r
    have := callIn_num hc
    subst this
    exact ⟨r, rfl, ht⟩
theorem calls_nil {l : List Int} (h : Calls l []) : l = [] := by cases h; rfl
theorem args_at (x : Ie13.Call) : atI [V.int (4), V.int (0), V.int (0), V.int (1), V.int (0), V.int (3), V.int (5), V.int (4), V.int (0), V.int (2), V.int (2), V.int (0), V.int (2), V.int (0), V.int (2), V.int (0), V.int (0), V.int (0), V.int (0), V.int (0), V.int (1), V.int (0), V.int (0), V.int (0)] ((numOf x : Nat) : Int) = some (V.int (((argsOf x).length : Nat) : Int)) := by
  cases x with
  | command c => cases c <;> rfl
  | _ => rfl
section
variable {P : Program} {w : World} {K : PySem.W.Frag} {mg : Str → Option Value} {base : Heap} {C_Layer C_Document C_Editor : Addr}
def spAns (K : PySem.W.Frag) : Sp := fun vs H Q _ => ∃ (a : Addr) (ns : List Int), vs = [.ref a] ∧ SqL K H a (ns.map V.int) ∧ PyIe13.answers_asked ns = true ∧
  ∀ (H' : Hp) (p : Addr), H' p = some (.lst ((PyIe13.answers ns).map V.int)) → Q (.ref p) H'
theorem ok_answers (T : Txt K mg C_Layer C_Document C_Editor) {f : Addr} {fd : FuncData} (FA : Fun K "answers" "answers" s_answers f fd) : FnOk P w K mg base CX0 9 f fd ["calls"] (spAns K) := by
  have O_Editor___init__ := ok_Editor_init (P := P) (w := w) (base := base) T
  have O_call_answer := ok_call_answer (P := P) (w := w) (base := base) T
  obtain ⟨aA, hA1, hA2⟩ := T.c_ARGUMENTS
  have c_ARGUMENTS : ∃ u, mg "ARGUMENTS" = some u ∧ RelV (.ref aA) u := ⟨_, hA1, rfl⟩
  refine FA.ok sc_answers (fun vs H Q E h => ?_) (fun cdv A outer s H vs Q E hr h => ⟨_, (pss_cons (ps_set (i := 1) sc_answers.nd rfl (Or.inl rfl) (pe_makeO0 O_Editor___init__ (hr.mono (by decide)) rfl))
      (pss_cons (ps_set (i := 2) sc_answers.nd rfl (Or.inl rfl) (pe_lst pa_nil))
      (pss_cons (ps_set (i := 3) sc_answers.nd rfl (Or.inl rfl) pe_int)
      (pss_cons (ps_while PassesOwn.never (pt_cmpR op_lt (pv 3) (pe_callB (r := rLenK K) call_len_seq (by rfl) T.b_len PySem.boot_len (pa_cons (pv 0) pa_nil)) (nomark _)) (pss_cons (ps_set (i := 4) sc_answers.nd rfl (Or.inl rfl) (pe_ix (r := rIxL K) ix_list (pv 0) (pv 3) (fun _ _ => rfl)))
      (pss_cons (ps_set (i := 5) sc_answers.nd rfl (Or.inl rfl) (pe_op op_add (pe_op op_add (pv 3) pe_int) (pe_ix (r := rIxT K) ix_tup (pe_globC c_ARGUMENTS rfl) (pv 4) (fun _ _ => rfl))))
      (pss_cons (ps_set (i := 6) sc_answers.nd rfl (Or.inl rfl) (pe_callO O_call_answer (hr.mono (by decide)) rfl (pa_cons (pv 1) (pa_cons (pv 4) (pa_cons (pe_slice sl_list (pv 0) (po_some (pe_op op_add (pv 3) pe_int)) (po_some (pv 5))) pa_nil)))))
      (pss_cons (ps_expr (pe_bm PySem.F.plainAttrs_list PySem.F.slot_list_append PySem.F.type_list_append mt_append (pv 2) (pa_cons (pe_callB (r := rLenK K) call_len_seq (by rfl) T.b_len PySem.boot_len (pa_cons (pv 6) pa_nil)) pa_nil)))
      (pss_cons (ps_expr (pe_bm PySem.F.plainAttrs_list PySem.F.slot_list_extend PySem.F.type_list_extend mt_extend (pv 2) (pa_cons (pv 6) pa_nil)))
      (pss_one (ps_set (i := 3) sc_answers.nd rfl (Or.inl rfl) (pv 5)))))))))
      (pss_one (ps_ret (pv 2))))))), ?_⟩)
  · obtain ⟨_, _, rfl, _⟩ := h; rfl
  · obtain ⟨a, l, rfl, hl, hask, q⟩ := h
    obtain ⟨xs, hcs, hx40, hans⟩ := asked_calls hask
    have hshort := asked_short hask
    have hsz : (10000000 : Nat) < sizeLine := by decide
    intro e dx he hdx ne
    have X0 := (Ext.refl (Same.refl H)).madeM (o := .ins C_Editor dx []) he hdx ne
    refine ⟨H, fun _ => none, e, dx, rfl, X0.fh, fun b o z => by (cases z), he, rfl, upd_same, fun F1 H1 fr1 hE1 => ⟨rfl, ?_⟩⟩
    refine ⟨by decide, fun G hG => ?_⟩
    dsimp only [cxK, gName, L2.start, List.length, List.map, List.replicate, List.cons_append, List.nil_append, Nat.sub_self, List.append_nil, List.set]
    have hfG : F1 G = none := Same.free hE1.fH hG
    have hE2 : EdAt C_Layer C_Document C_Editor F1 (upd H1 G (.lst (vZ []))) (sing G (.lst (vZ []))) e Ie13.init := hE1.newZ hG
    let W : Nat → L2.St → Hp → Prop := fun m σ H' => ∃ F2 s rest gs i o4 o5 o6, σ = [some (.ref a), some (.ref e), some (.ref G), some (.int ((i : Nat) : Int)), o4, o5, o6] ∧ Same H F2 ∧ F2 G = none ∧ EdAt C_Layer C_Document C_Editor F2 H' (sing G (.lst (vZ gs))) e s ∧ SWf s ∧
      Calls (l.drop i) rest ∧ PyIe13.answers l = gs ++ PyFlat.told (plays s rest) ∧ m = rest.length
    refine ⟨W, ⟨_, F1, Ie13.init, xs, [], 0, none, none, none, rfl, fr1.ff, hfG, hE2, init_wf, hcs, hans, rfl⟩, ?_⟩
    rintro m σ H2 ⟨F2, s, rest, gs, i, o4, o5, o6, rfl, sF, fG, hE, wf, hc, ha, rfl⟩
    have hl2 : SqL K H2 a (l.map V.int) := (sF.trans hE.fH).seq hl
    refine ⟨_, rfl, _, rfl, _, _, rfl, .inl hl2, _, _, rfl, rfl, _, rfl, ?_⟩
    cases rest with
    | nil =>
      have hd := calls_nil hc
      have hle : l.length ≤ i := List.drop_eq_nil_iff.mp hd
      refine ifF (decide_eq_false (by rw [List.length_map]; omega)) ⟨_, rfl, q H2 G ?_⟩
      have z : PyIe13.answers l = gs := by rw [ha]; exact List.append_nil _
      rw [z]
      exact hE.zH _ _ sing_at
    | cons x rest =>
      obtain ⟨r, er, hc'⟩ := calls_cons hc
      have hlen : i + 1 + (argsOf x).length + r.length = l.length := by
        have := congrArg List.length er
        rw [List.length_drop, List.length_append, List.length_cons, List.length_map] at this
        omega
      have h0 : l[i]? = some ((numOf x : Nat) : Int) := by
        have := congrArg (fun k => k[0]?) er
        simpa using this
      have h1 : (l.drop (i + 1)).take (argsOf x).length = (argsOf x).map (fun (n : Nat) => (n : Int)) := by
        have : l.drop (i + 1) = (argsOf x).map (fun (n : Nat) => (n : Int)) ++ r := by
          rw [← List.drop_drop, er]; rfl
        rw [this]
        have e : (argsOf x).length = ((argsOf x).map (fun (n : Nat) => (n : Int))).length := by rw [List.length_map]
        rw [e, List.take_left]
      have h2 : l.drop (i + 1 + (argsOf x).length) = r := by
        have : l.drop (i + 1) = (argsOf x).map (fun (n : Nat) => (n : Int)) ++ r := by
          rw [← List.drop_drop, er]; rfl
        rw [← List.drop_drop, this]
        have e : (argsOf x).length = ((argsOf x).map (fun (n : Nat) => (n : Int))).length := by rw [List.length_map]
        rw [e, List.drop_left]
      refine ifT (decide_eq_true (by rw [List.length_map]; omega)) ⟨fun σ' H' => ∃ m', m' < (x :: rest).length ∧ W m' σ' H', fun _ _ z => z, ?_⟩
      refine ⟨_, rfl, _, rfl, _, _, _, _, rfl, rfl, hl2, atI_nat (by rw [List.getElem?_map, h0]; rfl), ?_⟩
      refine ⟨_, rfl, _, _, rfl, rfl, _, rfl, _, _, _, _, rfl, rfl, hA2 _, args_at x, _, _, rfl, rfl, ?_⟩
      refine ⟨_, rfl, _, rfl, _, rfl, _, rfl, _, _, rfl, rfl, _, rfl, _, rfl, _, rfl, _, _, rfl, hl2, fun p hp => ?_⟩
      have ec : cutV (l.map V.int) (some ((i : Int) + 1)) (some ((i : Int) + 1 + (((argsOf x).length : Nat) : Int))) = vI (argsOf x) := by
        have z := cut_mid (l.map V.int) (i + 1) (i + 1 + (argsOf x).length) (by omega) (by rw [List.length_map]; omega)
        have z2 : i + 1 + (argsOf x).length - (i + 1) = (argsOf x).length := by omega
        rw [z2, ← List.map_drop, ← List.map_take, h1] at z
        have z3 : ((argsOf x).map (fun (n : Nat) => (n : Int))).map V.int = vI (argsOf x) := by unfold vI; rw [List.map_map]; rfl
        rw [z3] at z
        exact z
      rw [ec]
      have E1 := (Ext.refl hE.fH).new (o := .lst (vI (argsOf x))) hp
      refine ⟨e, p, x, rfl, upd_same, _, _, s, hE.ext E1, wf, fun F3 H3 b fr3 hE3 an => ?_⟩
      have sF3 := (sF.trans E1.ff).trans fr3.ff
      have hG2 : H2 G = some (.lst (vZ gs)) := hE.zH _ _ sing_at
      have fG3 : F3 G = none := fr3.fr G (E1.fr G fG (by rw [hG2]; simp)) (by rw [E1.hh _ _ hG2]; simp)
      have hG3 : H3 G = some (.lst (vZ gs)) := hE3.zH _ _ sing_at
      have hb := hE3.fH _ _ an
      have nb : b ≠ G := fun z => by rw [z] at an; rw [show F3 G = some _ from an] at fG3; cases fG3
      have et : PyIe13.answers l = gs ++ ((((Ie13.step s x).2.length : Nat) : Int) :: (Ie13.step s x).2) ++ PyFlat.told (plays (Ie13.step s x).1 rest) := by
        rw [ha, List.append_assoc, ← told_cons]; rfl
      have hsum : gs.length + 1 + (Ie13.step s x).2.length ≤ 10000000 := by
        have := hshort
        rw [et, List.length_append, List.length_append, List.length_cons] at this
        omega
      have evl : ∀ k : List Int, (vZ k).length = k.length := fun k => by unfold vZ; rw [List.length_map]
      refine ⟨_, rfl, .inl ⟨rfl, _, SqL.of hG3⟩, _, rfl, _, _, rfl, .inl (SqL.of hb), _, _, _, rfl, rfl, hG3, by rw [evl]; omega, ?_⟩
      rw [evl]
      have ev1 : vZ gs ++ [V.int (((Ie13.step s x).2.length : Nat) : Int)] = vZ (gs ++ [(((Ie13.step s x).2.length : Nat) : Int)]) := by unfold vZ; rw [List.map_append]; rfl
      rw [ev1]
      have hE4 := hE3.sing (o' := .lst (vZ (gs ++ [(((Ie13.step s x).2.length : Nat) : Int)]))) fG3
      have hb4 := hE4.fH _ _ an
      refine ⟨_, rfl, .inl ⟨rfl, _, SqL.of upd_same⟩, _, rfl, _, _, _, _, rfl, rfl, upd_same, hb4, by rw [evl, evl, List.length_append, List.length_singleton]; omega, ?_⟩
      have ev2 : vZ (gs ++ [(((Ie13.step s x).2.length : Nat) : Int)]) ++ vZ (Ie13.step s x).2 = vZ (gs ++ [(((Ie13.step s x).2.length : Nat) : Int)] ++ (Ie13.step s x).2) := by unfold vZ; rw [← List.map_append]
      rw [ev2]
      have hE5 := hE4.sing (o' := .lst (vZ (gs ++ [(((Ie13.step s x).2.length : Nat) : Int)] ++ (Ie13.step s x).2))) fG3
      refine ⟨_, rfl, rest.length, by rw [List.length_cons]; omega, F3, (Ie13.step s x).1, rest, gs ++ [(((Ie13.step s x).2.length : Nat) : Int)] ++ (Ie13.step s x).2, i + 1 + (argsOf x).length, _, _, _, rfl, sF3, fG3, hE5, step_wf wf x, ?_, ?_, rfl⟩
      · rw [h2]; exact hc'
      · rw [et]; simp only [List.append_assoc, List.cons_append, List.nil_append]
end
end Lp
set_option maxHeartbeats 8000000
namespace Lp
open PySem PySem.Spec PyProof.Rows L2
section
variable {K : PySem.W.Frag} {mg : Str → Option Value} {h : Heap}
theorem noattr_mk {C : Addr} {f : Str} (e : PySem.W.findIn K (.ref C) f = some none) : NoAttr K C f := e
theorem con_mk {x : Str} {i : Int} {t : Tok} (X : K.In h) (G : h.Ns mainGlobals mg) (a : PySem.W.nsIn K mainGlobals x = some (some (.int i t))) : ∃ u, mg x = some u ∧ RelV (.int i) u := ⟨_, PySem.W.mg_of X G a, t, rfl⟩
theorem tup_mk {x : Str} {a : Addr} {cl : Value} {od : Option Addr} {its : Array Value} {n : Nat} {sl : Array (Option Value)} {xs : List V} (X : K.In h) (G : h.Ns mainGlobals mg) (e : PySem.W.nsIn K mainGlobals x = some (some (.ref a)))
    (l : K.lookup a = some ⟨cl, od, .seq its n, sl⟩) (hc : cl = .type "tuple") (hs : its.size ≤ 1000) (v : Vals xs its.toList) : ∃ a, mg x = some (.ref a) ∧ ∀ H, SqT K H a xs :=
  ⟨a, PySem.W.mg_of X G e, fun H => .inr ⟨_, its, n, l, hc, rfl, Nat.le_trans hs (by decide), v⟩⟩
theorem dfn_mk {x : Str} {st : Stmt} {ps : List Str} {f : Addr} {oc : Value} {od an : Option Addr} {osl : Array (Option Value)} {kV doc pm cdv ct : Value} (X : K.In h) (G : h.Ns mainGlobals mg)
    (a : PySem.W.nsIn K mainGlobals x = some (some (.ref f))) (l : K.lookup f = some ⟨oc, od, .func (PySem.W.fnOf x x (defArgs st) (defBody st) (defScope st) .none kV doc pm an cdv ct), osl⟩)
    (c : PySem.W.codeIn K cdv x = true) (k : PySem.W.keepIn K (.ref f) = true)
    (hb : ∀ (kV doc pm : Value) (an : Option Addr) (cdv ct : Value) (us : List Value), us.length = ps.length → bindArgs (PySem.W.fnOf x x (defArgs st) (defBody st) (defScope st) .none kV doc pm an cdv ct) ⟨us, []⟩ = pure (ps.zip us)) : Dfn K mg x st ps :=
  ⟨f, _, fun_mk l c k, PySem.W.mg_of X G a, (fun_mk l c k).binds hb⟩
theorem mth_mk {C : Addr} {m q : Str} {st : Stmt} {ps : List Str} {f : Addr} {oc : Value} {od an : Option Addr} {osl : Array (Option Value)} {kV doc pm cdv ct : Value}
    (a : PySem.W.findIn K (.ref C) m = some (some (.ref f))) (i : PySem.W.isFn K (.ref f) = true) (l : K.lookup f = some ⟨oc, od, .func (PySem.W.fnOf m q (defArgs st) (defBody st) (defScope st) .none kV doc pm an cdv ct), osl⟩)
    (c : PySem.W.codeIn K cdv q = true) (k : PySem.W.keepIn K (.ref f) = true)
    (hb : ∀ (kV doc pm : Value) (an : Option Addr) (cdv ct : Value) (us : List Value), us.length = ps.length → bindArgs (PySem.W.fnOf m q (defArgs st) (defBody st) (defScope st) .none kV doc pm an cdv ct) ⟨us, []⟩ = pure (ps.zip us)) : Mth K C m q st ps :=
  ⟨f, _, fun_mk l c k, ⟨a, i, k⟩, (fun_mk l c k).binds hb⟩
theorem ini_mk {C : Addr} {cn q : Str} {st : Stmt} {ps : List Str} {f : Addr} {oc : Value} {od an : Option Addr} {osl : Array (Option Value)} {kV doc pm cdv ct : Value} (X : K.In h) (G : h.Ns mainGlobals mg)
    (a : PySem.W.findIn K (.ref C) "__init__" = some (some (.ref f))) (l : K.lookup f = some ⟨oc, od, .func (PySem.W.fnOf "__init__" q (defArgs st) (defBody st) (defScope st) .none kV doc pm an cdv ct), osl⟩)
    (c : PySem.W.codeIn K cdv q = true) (k : PySem.W.keepIn K (.ref f) = true) (g : PySem.W.nsIn K mainGlobals cn = some (some (.ref C))) (m : PySem.W.makesIn K C = true) (i : PySem.W.isFn K (.ref f) = true) (kc : PySem.W.keepIn K (.ref C) = true)
    (hb : ∀ (kV doc pm : Value) (an : Option Addr) (cdv ct : Value) (us : List Value), us.length = ps.length → bindArgs (PySem.W.fnOf "__init__" q (defArgs st) (defBody st) (defScope st) .none kV doc pm an cdv ct) ⟨us, []⟩ = pure (ps.zip us)) : Ini K mg C cn q st ps :=
  ⟨f, _, fun_mk l c k, ⟨m, a, i, kc⟩, PySem.W.mg_of X G g, (fun_mk l c k).binds hb⟩
end
theorem all_mk {P : Program} {w : World} {K : PySem.W.Frag} {h : Heap} {mg : Str → Option Value} {fa C_Layer C_Document C_Editor : Addr} (X : K.In h) (G : h.Ns mainGlobals mg) (hfa : mg "answers" = some (.ref fa))
    (aL : PySem.W.nsIn K mainGlobals "Layer" = some (some (.ref C_Layer))) (aD : PySem.W.nsIn K mainGlobals "Document" = some (some (.ref C_Document))) (aE : PySem.W.nsIn K mainGlobals "Editor" = some (some (.ref C_Editor)))
    (T : Txt K mg C_Layer C_Document C_Editor) : ∃ fd : FuncData, (∀ (s : Shared) (us : List Value), us.length = (["calls"] : List Str).length → BindsTo s fd ⟨us, []⟩ ((["calls"] : List Str).zip us)) ∧ ∀ base : Heap, K.In base → base.Ns mainGlobals mg → FnOk P w K mg base CX0 9 fa fd ["calls"] (spAns K) := by
  obtain ⟨f, fd, F, g, b⟩ := T.d_answers
  have e := hfa.symm.trans g
  cases e
  have F2 := F
  obtain ⟨oc, od, kV, doc, pm, an, cdv, ct, osl, rfl, lk, hcd⟩ := F.ex
  exact ⟨_, fun s us hu => match us, hu with | [_], _ => .of_eq rfl, fun base _ _ => ok_answers T F2⟩
end Lp
open PySem PySem.W PyProof.Rows
theorem PySem.Challenge.cw_layeredpage_s01_answers_holds : PySem.Challenge.rw_layeredpage_s01_answers.Holds := by
  w_on; k_headS; (case hw => exact ⟨[.list [.int 1]], by decide +kernel, by decide +kernel⟩)
  k_fillS
  refine L2.walk_specK (r := PySem.Challenge.rw_layeredpage_s01_answers) (k := 9) (CX := L2.CX0) (ps := ["calls"]) (sp := Lp.spAns) (by decide +kernel) rfl rfl ⟨rfl, by decide, by decide⟩ (fun w h Y => PySem.W.kIn_of Y) ?F ?S (fun _ _ _ _ z => z)
  case F =>
    intro w mg fa h Y KX G hmg
    refine' Lp.all_mk KX G hmg ?aL ?aD ?aE ?t
    (case aL => k_is); (case aD => k_is); (case aE => k_is)
    (case t =>
    refine' { b_abs := ?b_abs, b_all := ?b_all, b_len := ?b_len, b_list := ?b_list, b_max := ?b_max, b_min := ?b_min, b_range := ?b_range, b_reversed := ?b_reversed, b_sum := ?b_sum, b_zip := ?b_zip, c_FULL := ?c_FULL, c_FULL_TWICE := ?c_FULL_TWICE, c_NO_SUCH_PAGE := ?c_NO_SUCH_PAGE, c_NO_SUCH_CELL := ?c_NO_SUCH_CELL, c_NO_SUCH_LAYER := ?c_NO_SUCH_LAYER, c_NO_SUCH_SETTING := ?c_NO_SUCH_SETTING, c_NOTHING_THERE := ?c_NOTHING_THERE, c_NO_MORE_LAYERS := ?c_NO_MORE_LAYERS, c_MOST_SIDE := ?c_MOST_SIDE, c_MOST_TONE := ?c_MOST_TONE, c_MOST_ROOM := ?c_MOST_ROOM, c_MOST_LAYERS := ?c_MOST_LAYERS, c_MOST_WAY := ?c_MOST_WAY, c_MOST_HOW := ?c_MOST_HOW, c_ARGUMENTS := ?c_ARGUMENTS, k_Layer := ?k_Layer, n_Layer_number := ?n_Layer_number, n_Layer_way := ?n_Layer_way, n_Layer_much := ?n_Layer_much, n_Layer_shown := ?n_Layer_shown, n_Layer_cells := ?n_Layer_cells, k_Document := ?k_Document, n_Document_width := ?n_Document_width, n_Document_height := ?n_Document_height, n_Document_ground := ?n_Document_ground, n_Document_layers := ?n_Document_layers, n_Document_worked := ?n_Document_worked, n_Document_chosen := ?n_Document_chosen, n_Document_given := ?n_Document_given, k_Editor := ?k_Editor, n_Editor_document := ?n_Editor_document, n_Editor_room := ?n_Editor_room, n_Editor_done := ?n_Editor_done, n_Editor_undone := ?n_Editor_undone, n_Editor_cut_out := ?n_Editor_cut_out, d_nearest := ?d_nearest, d_met_tone := ?d_met_tone, d_covered_tone := ?d_covered_tone, d_covered := ?d_covered, d_picture_tones := ?d_picture_tones, d_box_region := ?d_box_region, d_beside := ?d_beside, d_like_region := ?d_like_region, d_around := ?d_around, d_chosen_after := ?d_chosen_after, d_chosen_by := ?d_chosen_by, d_only_chosen := ?d_only_chosen, d_filled := ?d_filled, d_moved_tone := ?d_moved_tone, d_brightened := ?d_brightened, d_mixed := ?d_mixed, d_softened := ?d_softened, d_shifted := ?d_shifted, d_taken_out := ?d_taken_out, d_pasted := ?d_pasted, d_Layer___init__ := ?d_Layer___init__, d_Document___init__ := ?d_Document___init__, d_new_document := ?d_new_document, d_empty_layer := ?d_empty_layer, d_with_layers := ?d_with_layers, d_with_new_layer := ?d_with_new_layer, d_with_lowest_pressed := ?d_with_lowest_pressed, d_with_chosen := ?d_with_chosen, d_worked_layer := ?d_worked_layer, d_with_worked_layer := ?d_with_worked_layer, d_with_worked_cells := ?d_with_worked_cells, d_dot_numbers := ?d_dot_numbers, d_layer_numbers := ?d_layer_numbers, d_same_layer := ?d_same_layer, d_same_layers := ?d_same_layers, d_same_document := ?d_same_document, d_differing := ?d_differing, d_layer_numbered := ?d_layer_numbered, d_layers_size := ?d_layers_size, d_step_size := ?d_step_size, d_Editor___init__ := ?d_Editor___init__, d_Editor_begin := ?d_Editor_begin, d_Editor_standing := ?d_Editor_standing, d_Editor_step_to := ?d_Editor_step_to, d_Editor_forget := ?d_Editor_forget, d_Editor_undo := ?d_Editor_undo, d_Editor_redo := ?d_Editor_redo, d_Editor_step_sizes := ?d_Editor_step_sizes, d_page := ?d_page, d_layer := ?d_layer, d_drop := ?d_drop, d_pick := ?d_pick, d_raise_it := ?d_raise_it, d_set_it := ?d_set_it, d_choose := ?d_choose, d_box := ?d_box, d_like := ?d_like, d_turn := ?d_turn, d_fill := ?d_fill, d_bright := ?d_bright, d_soft := ?d_soft, d_shift := ?d_shift, d_take_chosen := ?d_take_chosen, d_cut := ?d_cut, d_paste := ?d_paste, d_press := ?d_press, d_copy := ?d_copy, d_undo := ?d_undo, d_redo := ?d_redo, d_dots := ?d_dots, d_list_of := ?d_list_of, d_layer_answer := ?d_layer_answer, d_cell_answer := ?d_cell_answer, d_piece_answer := ?d_piece_answer, d_asked_answer := ?d_asked_answer, d_call_answer := ?d_call_answer, d_answers := ?d_answers }
    (case b_abs => refine PySem.W.mg_none_of KX G ?_; k_is)
    (case b_all => refine PySem.W.mg_none_of KX G ?_; k_is)
    (case b_len => refine PySem.W.mg_none_of KX G ?_; k_is)
    (case b_list => refine PySem.W.mg_none_of KX G ?_; k_is)
    (case b_max => refine PySem.W.mg_none_of KX G ?_; k_is)
    (case b_min => refine PySem.W.mg_none_of KX G ?_; k_is)
    (case b_range => refine PySem.W.mg_none_of KX G ?_; k_is)
    (case b_reversed => refine PySem.W.mg_none_of KX G ?_; k_is)
    (case b_sum => refine PySem.W.mg_none_of KX G ?_; k_is)
    (case b_zip => refine PySem.W.mg_none_of KX G ?_; k_is)
    (case c_FULL => refine' Lp.con_mk KX G ?x_FULL; (case x_FULL => k_is))
    (case c_FULL_TWICE => refine' Lp.con_mk KX G ?x_FULL_TWICE; (case x_FULL_TWICE => k_is))
    (case c_NO_SUCH_PAGE => refine' Lp.con_mk KX G ?x_NO_SUCH_PAGE; (case x_NO_SUCH_PAGE => k_is))
    (case c_NO_SUCH_CELL => refine' Lp.con_mk KX G ?x_NO_SUCH_CELL; (case x_NO_SUCH_CELL => k_is))
    (case c_NO_SUCH_LAYER => refine' Lp.con_mk KX G ?x_NO_SUCH_LAYER; (case x_NO_SUCH_LAYER => k_is))
    (case c_NO_SUCH_SETTING => refine' Lp.con_mk KX G ?x_NO_SUCH_SETTING; (case x_NO_SUCH_SETTING => k_is))
    (case c_NOTHING_THERE => refine' Lp.con_mk KX G ?x_NOTHING_THERE; (case x_NOTHING_THERE => k_is))
    (case c_NO_MORE_LAYERS => refine' Lp.con_mk KX G ?x_NO_MORE_LAYERS; (case x_NO_MORE_LAYERS => k_is))
    (case c_MOST_SIDE => refine' Lp.con_mk KX G ?x_MOST_SIDE; (case x_MOST_SIDE => k_is))
    (case c_MOST_TONE => refine' Lp.con_mk KX G ?x_MOST_TONE; (case x_MOST_TONE => k_is))
    (case c_MOST_ROOM => refine' Lp.con_mk KX G ?x_MOST_ROOM; (case x_MOST_ROOM => k_is))
    (case c_MOST_LAYERS => refine' Lp.con_mk KX G ?x_MOST_LAYERS; (case x_MOST_LAYERS => k_is))
    (case c_MOST_WAY => refine' Lp.con_mk KX G ?x_MOST_WAY; (case x_MOST_WAY => k_is))
    (case c_MOST_HOW => refine' Lp.con_mk KX G ?x_MOST_HOW; (case x_MOST_HOW => k_is))
    (case c_ARGUMENTS => refine' Lp.tup_mk KX G ?e_ARGUMENTS ?l_ARGUMENTS ?h_ARGUMENTS ?s_ARGUMENTS ?v_ARGUMENTS; (case e_ARGUMENTS => k_is); (case l_ARGUMENTS => k_is); (case h_ARGUMENTS => rfl); (case s_ARGUMENTS => decide); (case v_ARGUMENTS => exact (.cons ⟨_, rfl⟩ (.cons ⟨_, rfl⟩ (.cons ⟨_, rfl⟩ (.cons ⟨_, rfl⟩ (.cons ⟨_, rfl⟩ (.cons ⟨_, rfl⟩ (.cons ⟨_, rfl⟩ (.cons ⟨_, rfl⟩ (.cons ⟨_, rfl⟩ (.cons ⟨_, rfl⟩ (.cons ⟨_, rfl⟩ (.cons ⟨_, rfl⟩ (.cons ⟨_, rfl⟩ (.cons ⟨_, rfl⟩ (.cons ⟨_, rfl⟩ (.cons ⟨_, rfl⟩ (.cons ⟨_, rfl⟩ (.cons ⟨_, rfl⟩ (.cons ⟨_, rfl⟩ (.cons ⟨_, rfl⟩ (.cons ⟨_, rfl⟩ (.cons ⟨_, rfl⟩ (.cons ⟨_, rfl⟩ (.cons ⟨_, rfl⟩ .nil))))))))))))))))))))))))))
    (case k_Layer => refine ⟨?_, ?_, ?_, ?_⟩ <;> k_is)
    (case n_Layer_number => refine Lp.noattr_mk ?_; k_is)
    (case n_Layer_way => refine Lp.noattr_mk ?_; k_is)
    (case n_Layer_much => refine Lp.noattr_mk ?_; k_is)
    (case n_Layer_shown => refine Lp.noattr_mk ?_; k_is)
    (case n_Layer_cells => refine Lp.noattr_mk ?_; k_is)
    (case k_Document => refine ⟨?_, ?_, ?_, ?_⟩ <;> k_is)
    (case n_Document_width => refine Lp.noattr_mk ?_; k_is)
    (case n_Document_height => refine Lp.noattr_mk ?_; k_is)
    (case n_Document_ground => refine Lp.noattr_mk ?_; k_is)
    (case n_Document_layers => refine Lp.noattr_mk ?_; k_is)
    (case n_Document_worked => refine Lp.noattr_mk ?_; k_is)
    (case n_Document_chosen => refine Lp.noattr_mk ?_; k_is)
    (case n_Document_given => refine Lp.noattr_mk ?_; k_is)
    (case k_Editor => refine ⟨?_, ?_, ?_, ?_⟩ <;> k_is)
    (case n_Editor_document => refine Lp.noattr_mk ?_; k_is)
    (case n_Editor_room => refine Lp.noattr_mk ?_; k_is)
    (case n_Editor_done => refine Lp.noattr_mk ?_; k_is)
    (case n_Editor_undone => refine Lp.noattr_mk ?_; k_is)
    (case n_Editor_cut_out => refine Lp.noattr_mk ?_; k_is)
    (case d_nearest => refine' Lp.dfn_mk KX G ?a_nearest ?l_nearest ?c_nearest ?k_nearest (fun _ _ _ _ _ _ us hl => match us, hl with | [_, _], _ => rfl); (case a_nearest => k_is); (case l_nearest => k_is); (case c_nearest => k_is); (case k_nearest => k_is))
    (case d_met_tone => refine' Lp.dfn_mk KX G ?a_met_tone ?l_met_tone ?c_met_tone ?k_met_tone (fun _ _ _ _ _ _ us hl => match us, hl with | [_, _, _], _ => rfl); (case a_met_tone => k_is); (case l_met_tone => k_is); (case c_met_tone => k_is); (case k_met_tone => k_is))
    (case d_covered_tone => refine' Lp.dfn_mk KX G ?a_covered_tone ?l_covered_tone ?c_covered_tone ?k_covered_tone (fun _ _ _ _ _ _ us hl => match us, hl with | [_, _, _], _ => rfl); (case a_covered_tone => k_is); (case l_covered_tone => k_is); (case c_covered_tone => k_is); (case k_covered_tone => k_is))
    (case d_covered => refine' Lp.dfn_mk KX G ?a_covered ?l_covered ?c_covered ?k_covered (fun _ _ _ _ _ _ us hl => match us, hl with | [_, _], _ => rfl); (case a_covered => k_is); (case l_covered => k_is); (case c_covered => k_is); (case k_covered => k_is))
    (case d_picture_tones => refine' Lp.dfn_mk KX G ?a_picture_tones ?l_picture_tones ?c_picture_tones ?k_picture_tones (fun _ _ _ _ _ _ us hl => match us, hl with | [_], _ => rfl); (case a_picture_tones => k_is); (case l_picture_tones => k_is); (case c_picture_tones => k_is); (case k_picture_tones => k_is))
    (case d_box_region => refine' Lp.dfn_mk KX G ?a_box_region ?l_box_region ?c_box_region ?k_box_region (fun _ _ _ _ _ _ us hl => match us, hl with | [_, _, _, _, _, _], _ => rfl); (case a_box_region => k_is); (case l_box_region => k_is); (case c_box_region => k_is); (case k_box_region => k_is))
    (case d_beside => refine' Lp.dfn_mk KX G ?a_beside ?l_beside ?c_beside ?k_beside (fun _ _ _ _ _ _ us hl => match us, hl with | [_, _, _], _ => rfl); (case a_beside => k_is); (case l_beside => k_is); (case c_beside => k_is); (case k_beside => k_is))
    (case d_like_region => refine' Lp.dfn_mk KX G ?a_like_region ?l_like_region ?c_like_region ?k_like_region (fun _ _ _ _ _ _ us hl => match us, hl with | [_, _, _, _, _], _ => rfl); (case a_like_region => k_is); (case l_like_region => k_is); (case c_like_region => k_is); (case k_like_region => k_is))
    (case d_around => refine' Lp.dfn_mk KX G ?a_around ?l_around ?c_around ?k_around (fun _ _ _ _ _ _ us hl => match us, hl with | [_, _, _], _ => rfl); (case a_around => k_is); (case l_around => k_is); (case c_around => k_is); (case k_around => k_is))
    (case d_chosen_after => refine' Lp.dfn_mk KX G ?a_chosen_after ?l_chosen_after ?c_chosen_after ?k_chosen_after (fun _ _ _ _ _ _ us hl => match us, hl with | [_, _, _], _ => rfl); (case a_chosen_after => k_is); (case l_chosen_after => k_is); (case c_chosen_after => k_is); (case k_chosen_after => k_is))
    (case d_chosen_by => refine' Lp.dfn_mk KX G ?a_chosen_by ?l_chosen_by ?c_chosen_by ?k_chosen_by (fun _ _ _ _ _ _ us hl => match us, hl with | [_, _, _], _ => rfl); (case a_chosen_by => k_is); (case l_chosen_by => k_is); (case c_chosen_by => k_is); (case k_chosen_by => k_is))
    (case d_only_chosen => refine' Lp.dfn_mk KX G ?a_only_chosen ?l_only_chosen ?c_only_chosen ?k_only_chosen (fun _ _ _ _ _ _ us hl => match us, hl with | [_, _, _], _ => rfl); (case a_only_chosen => k_is); (case l_only_chosen => k_is); (case c_only_chosen => k_is); (case k_only_chosen => k_is))
    (case d_filled => refine' Lp.dfn_mk KX G ?a_filled ?l_filled ?c_filled ?k_filled (fun _ _ _ _ _ _ us hl => match us, hl with | [_, _, _, _], _ => rfl); (case a_filled => k_is); (case l_filled => k_is); (case c_filled => k_is); (case k_filled => k_is))
    (case d_moved_tone => refine' Lp.dfn_mk KX G ?a_moved_tone ?l_moved_tone ?c_moved_tone ?k_moved_tone (fun _ _ _ _ _ _ us hl => match us, hl with | [_, _, _], _ => rfl); (case a_moved_tone => k_is); (case l_moved_tone => k_is); (case c_moved_tone => k_is); (case k_moved_tone => k_is))
    (case d_brightened => refine' Lp.dfn_mk KX G ?a_brightened ?l_brightened ?c_brightened ?k_brightened (fun _ _ _ _ _ _ us hl => match us, hl with | [_, _, _, _], _ => rfl); (case a_brightened => k_is); (case l_brightened => k_is); (case c_brightened => k_is); (case k_brightened => k_is))
    (case d_mixed => refine' Lp.dfn_mk KX G ?a_mixed ?l_mixed ?c_mixed ?k_mixed (fun _ _ _ _ _ _ us hl => match us, hl with | [_], _ => rfl); (case a_mixed => k_is); (case l_mixed => k_is); (case c_mixed => k_is); (case k_mixed => k_is))
    (case d_softened => refine' Lp.dfn_mk KX G ?a_softened ?l_softened ?c_softened ?k_softened (fun _ _ _ _ _ _ us hl => match us, hl with | [_, _, _, _], _ => rfl); (case a_softened => k_is); (case l_softened => k_is); (case c_softened => k_is); (case k_softened => k_is))
    (case d_shifted => refine' Lp.dfn_mk KX G ?a_shifted ?l_shifted ?c_shifted ?k_shifted (fun _ _ _ _ _ _ us hl => match us, hl with | [_, _, _, _, _, _], _ => rfl); (case a_shifted => k_is); (case l_shifted => k_is); (case c_shifted => k_is); (case k_shifted => k_is))
    (case d_taken_out => refine' Lp.dfn_mk KX G ?a_taken_out ?l_taken_out ?c_taken_out ?k_taken_out (fun _ _ _ _ _ _ us hl => match us, hl with | [_, _, _], _ => rfl); (case a_taken_out => k_is); (case l_taken_out => k_is); (case c_taken_out => k_is); (case k_taken_out => k_is))
    (case d_pasted => refine' Lp.dfn_mk KX G ?a_pasted ?l_pasted ?c_pasted ?k_pasted (fun _ _ _ _ _ _ us hl => match us, hl with | [_, _, _, _, _, _], _ => rfl); (case a_pasted => k_is); (case l_pasted => k_is); (case c_pasted => k_is); (case k_pasted => k_is))
    (case d_Layer___init__ => refine' Lp.ini_mk KX G ?a_Layer___init__ ?l_Layer___init__ ?c_Layer___init__ ?k_Layer___init__ ?g_Layer___init__ ?m_Layer___init__ ?i_Layer___init__ ?q_Layer___init__ (fun _ _ _ _ _ _ us hl => match us, hl with | [_, _, _, _, _, _], _ => rfl); (case a_Layer___init__ => k_is); (case l_Layer___init__ => k_is); (case c_Layer___init__ => k_is); (case k_Layer___init__ => k_is); (case g_Layer___init__ => k_is); (case m_Layer___init__ => k_is); (case i_Layer___init__ => k_is); (case q_Layer___init__ => k_is))
    (case d_Document___init__ => refine' Lp.ini_mk KX G ?a_Document___init__ ?l_Document___init__ ?c_Document___init__ ?k_Document___init__ ?g_Document___init__ ?m_Document___init__ ?i_Document___init__ ?q_Document___init__ (fun _ _ _ _ _ _ us hl => match us, hl with | [_, _, _, _, _, _, _, _], _ => rfl); (case a_Document___init__ => k_is); (case l_Document___init__ => k_is); (case c_Document___init__ => k_is); (case k_Document___init__ => k_is); (case g_Document___init__ => k_is); (case m_Document___init__ => k_is); (case i_Document___init__ => k_is); (case q_Document___init__ => k_is))
    (case d_new_document => refine' Lp.dfn_mk KX G ?a_new_document ?l_new_document ?c_new_document ?k_new_document (fun _ _ _ _ _ _ us hl => match us, hl with | [_, _, _], _ => rfl); (case a_new_document => k_is); (case l_new_document => k_is); (case c_new_document => k_is); (case k_new_document => k_is))
    (case d_empty_layer => refine' Lp.dfn_mk KX G ?a_empty_layer ?l_empty_layer ?c_empty_layer ?k_empty_layer (fun _ _ _ _ _ _ us hl => match us, hl with | [_, _], _ => rfl); (case a_empty_layer => k_is); (case l_empty_layer => k_is); (case c_empty_layer => k_is); (case k_empty_layer => k_is))
    (case d_with_layers => refine' Lp.dfn_mk KX G ?a_with_layers ?l_with_layers ?c_with_layers ?k_with_layers (fun _ _ _ _ _ _ us hl => match us, hl with | [_, _, _], _ => rfl); (case a_with_layers => k_is); (case l_with_layers => k_is); (case c_with_layers => k_is); (case k_with_layers => k_is))
    (case d_with_new_layer => refine' Lp.dfn_mk KX G ?a_with_new_layer ?l_with_new_layer ?c_with_new_layer ?k_with_new_layer (fun _ _ _ _ _ _ us hl => match us, hl with | [_], _ => rfl); (case a_with_new_layer => k_is); (case l_with_new_layer => k_is); (case c_with_new_layer => k_is); (case k_with_new_layer => k_is))
    (case d_with_lowest_pressed => refine' Lp.dfn_mk KX G ?a_with_lowest_pressed ?l_with_lowest_pressed ?c_with_lowest_pressed ?k_with_lowest_pressed (fun _ _ _ _ _ _ us hl => match us, hl with | [_, _], _ => rfl); (case a_with_lowest_pressed => k_is); (case l_with_lowest_pressed => k_is); (case c_with_lowest_pressed => k_is); (case k_with_lowest_pressed => k_is))
    (case d_with_chosen => refine' Lp.dfn_mk KX G ?a_with_chosen ?l_with_chosen ?c_with_chosen ?k_with_chosen (fun _ _ _ _ _ _ us hl => match us, hl with | [_, _], _ => rfl); (case a_with_chosen => k_is); (case l_with_chosen => k_is); (case c_with_chosen => k_is); (case k_with_chosen => k_is))
    (case d_worked_layer => refine' Lp.dfn_mk KX G ?a_worked_layer ?l_worked_layer ?c_worked_layer ?k_worked_layer (fun _ _ _ _ _ _ us hl => match us, hl with | [_], _ => rfl); (case a_worked_layer => k_is); (case l_worked_layer => k_is); (case c_worked_layer => k_is); (case k_worked_layer => k_is))
    (case d_with_worked_layer => refine' Lp.dfn_mk KX G ?a_with_worked_layer ?l_with_worked_layer ?c_with_worked_layer ?k_with_worked_layer (fun _ _ _ _ _ _ us hl => match us, hl with | [_, _], _ => rfl); (case a_with_worked_layer => k_is); (case l_with_worked_layer => k_is); (case c_with_worked_layer => k_is); (case k_with_worked_layer => k_is))
    (case d_with_worked_cells => refine' Lp.dfn_mk KX G ?a_with_worked_cells ?l_with_worked_cells ?c_with_worked_cells ?k_with_worked_cells (fun _ _ _ _ _ _ us hl => match us, hl with | [_, _], _ => rfl); (case a_with_worked_cells => k_is); (case l_with_worked_cells => k_is); (case c_with_worked_cells => k_is); (case k_with_worked_cells => k_is))
    (case d_dot_numbers => refine' Lp.dfn_mk KX G ?a_dot_numbers ?l_dot_numbers ?c_dot_numbers ?k_dot_numbers (fun _ _ _ _ _ _ us hl => match us, hl with | [_], _ => rfl); (case a_dot_numbers => k_is); (case l_dot_numbers => k_is); (case c_dot_numbers => k_is); (case k_dot_numbers => k_is))
    (case d_layer_numbers => refine' Lp.dfn_mk KX G ?a_layer_numbers ?l_layer_numbers ?c_layer_numbers ?k_layer_numbers (fun _ _ _ _ _ _ us hl => match us, hl with | [_], _ => rfl); (case a_layer_numbers => k_is); (case l_layer_numbers => k_is); (case c_layer_numbers => k_is); (case k_layer_numbers => k_is))
    (case d_same_layer => refine' Lp.dfn_mk KX G ?a_same_layer ?l_same_layer ?c_same_layer ?k_same_layer (fun _ _ _ _ _ _ us hl => match us, hl with | [_, _], _ => rfl); (case a_same_layer => k_is); (case l_same_layer => k_is); (case c_same_layer => k_is); (case k_same_layer => k_is))
    (case d_same_layers => refine' Lp.dfn_mk KX G ?a_same_layers ?l_same_layers ?c_same_layers ?k_same_layers (fun _ _ _ _ _ _ us hl => match us, hl with | [_, _], _ => rfl); (case a_same_layers => k_is); (case l_same_layers => k_is); (case c_same_layers => k_is); (case k_same_layers => k_is))
    (case d_same_document => refine' Lp.dfn_mk KX G ?a_same_document ?l_same_document ?c_same_document ?k_same_document (fun _ _ _ _ _ _ us hl => match us, hl with | [_, _], _ => rfl); (case a_same_document => k_is); (case l_same_document => k_is); (case c_same_document => k_is); (case k_same_document => k_is))
    (case d_differing => refine' Lp.dfn_mk KX G ?a_differing ?l_differing ?c_differing ?k_differing (fun _ _ _ _ _ _ us hl => match us, hl with | [_, _], _ => rfl); (case a_differing => k_is); (case l_differing => k_is); (case c_differing => k_is); (case k_differing => k_is))
    (case d_layer_numbered => refine' Lp.dfn_mk KX G ?a_layer_numbered ?l_layer_numbered ?c_layer_numbered ?k_layer_numbered (fun _ _ _ _ _ _ us hl => match us, hl with | [_, _], _ => rfl); (case a_layer_numbered => k_is); (case l_layer_numbered => k_is); (case c_layer_numbered => k_is); (case k_layer_numbered => k_is))
    (case d_layers_size => refine' Lp.dfn_mk KX G ?a_layers_size ?l_layers_size ?c_layers_size ?k_layers_size (fun _ _ _ _ _ _ us hl => match us, hl with | [_, _], _ => rfl); (case a_layers_size => k_is); (case l_layers_size => k_is); (case c_layers_size => k_is); (case k_layers_size => k_is))
    (case d_step_size => refine' Lp.dfn_mk KX G ?a_step_size ?l_step_size ?c_step_size ?k_step_size (fun _ _ _ _ _ _ us hl => match us, hl with | [_, _], _ => rfl); (case a_step_size => k_is); (case l_step_size => k_is); (case c_step_size => k_is); (case k_step_size => k_is))
    (case d_Editor___init__ => refine' Lp.ini_mk KX G ?a_Editor___init__ ?l_Editor___init__ ?c_Editor___init__ ?k_Editor___init__ ?g_Editor___init__ ?m_Editor___init__ ?i_Editor___init__ ?q_Editor___init__ (fun _ _ _ _ _ _ us hl => match us, hl with | [_], _ => rfl); (case a_Editor___init__ => k_is); (case l_Editor___init__ => k_is); (case c_Editor___init__ => k_is); (case k_Editor___init__ => k_is); (case g_Editor___init__ => k_is); (case m_Editor___init__ => k_is); (case i_Editor___init__ => k_is); (case q_Editor___init__ => k_is))
    (case d_Editor_begin => refine' Lp.mth_mk ?a_Editor_begin ?i_Editor_begin ?l_Editor_begin ?c_Editor_begin ?k_Editor_begin (fun _ _ _ _ _ _ us hl => match us, hl with | [_, _, _], _ => rfl); (case a_Editor_begin => k_is); (case i_Editor_begin => k_is); (case l_Editor_begin => k_is); (case c_Editor_begin => k_is); (case k_Editor_begin => k_is))
    (case d_Editor_standing => refine' Lp.mth_mk ?a_Editor_standing ?i_Editor_standing ?l_Editor_standing ?c_Editor_standing ?k_Editor_standing (fun _ _ _ _ _ _ us hl => match us, hl with | [_], _ => rfl); (case a_Editor_standing => k_is); (case i_Editor_standing => k_is); (case l_Editor_standing => k_is); (case c_Editor_standing => k_is); (case k_Editor_standing => k_is))
    (case d_Editor_step_to => refine' Lp.mth_mk ?a_Editor_step_to ?i_Editor_step_to ?l_Editor_step_to ?c_Editor_step_to ?k_Editor_step_to (fun _ _ _ _ _ _ us hl => match us, hl with | [_, _], _ => rfl); (case a_Editor_step_to => k_is); (case i_Editor_step_to => k_is); (case l_Editor_step_to => k_is); (case c_Editor_step_to => k_is); (case k_Editor_step_to => k_is))
    (case d_Editor_forget => refine' Lp.mth_mk ?a_Editor_forget ?i_Editor_forget ?l_Editor_forget ?c_Editor_forget ?k_Editor_forget (fun _ _ _ _ _ _ us hl => match us, hl with | [_], _ => rfl); (case a_Editor_forget => k_is); (case i_Editor_forget => k_is); (case l_Editor_forget => k_is); (case c_Editor_forget => k_is); (case k_Editor_forget => k_is))
    (case d_Editor_undo => refine' Lp.mth_mk ?a_Editor_undo ?i_Editor_undo ?l_Editor_undo ?c_Editor_undo ?k_Editor_undo (fun _ _ _ _ _ _ us hl => match us, hl with | [_], _ => rfl); (case a_Editor_undo => k_is); (case i_Editor_undo => k_is); (case l_Editor_undo => k_is); (case c_Editor_undo => k_is); (case k_Editor_undo => k_is))
    (case d_Editor_redo => refine' Lp.mth_mk ?a_Editor_redo ?i_Editor_redo ?l_Editor_redo ?c_Editor_redo ?k_Editor_redo (fun _ _ _ _ _ _ us hl => match us, hl with | [_], _ => rfl); (case a_Editor_redo => k_is); (case i_Editor_redo => k_is); (case l_Editor_redo => k_is); (case c_Editor_redo => k_is); (case k_Editor_redo => k_is))
    (case d_Editor_step_sizes => refine' Lp.mth_mk ?a_Editor_step_sizes ?i_Editor_step_sizes ?l_Editor_step_sizes ?c_Editor_step_sizes ?k_Editor_step_sizes (fun _ _ _ _ _ _ us hl => match us, hl with | [_], _ => rfl); (case a_Editor_step_sizes => k_is); (case i_Editor_step_sizes => k_is); (case l_Editor_step_sizes => k_is); (case c_Editor_step_sizes => k_is); (case k_Editor_step_sizes => k_is))
    (case d_page => refine' Lp.dfn_mk KX G ?a_page ?l_page ?c_page ?k_page (fun _ _ _ _ _ _ us hl => match us, hl with | [_, _, _, _, _], _ => rfl); (case a_page => k_is); (case l_page => k_is); (case c_page => k_is); (case k_page => k_is))
    (case d_layer => refine' Lp.dfn_mk KX G ?a_layer ?l_layer ?c_layer ?k_layer (fun _ _ _ _ _ _ us hl => match us, hl with | [_], _ => rfl); (case a_layer => k_is); (case l_layer => k_is); (case c_layer => k_is); (case k_layer => k_is))
    (case d_drop => refine' Lp.dfn_mk KX G ?a_drop ?l_drop ?c_drop ?k_drop (fun _ _ _ _ _ _ us hl => match us, hl with | [_], _ => rfl); (case a_drop => k_is); (case l_drop => k_is); (case c_drop => k_is); (case k_drop => k_is))
    (case d_pick => refine' Lp.dfn_mk KX G ?a_pick ?l_pick ?c_pick ?k_pick (fun _ _ _ _ _ _ us hl => match us, hl with | [_, _], _ => rfl); (case a_pick => k_is); (case l_pick => k_is); (case c_pick => k_is); (case k_pick => k_is))
    (case d_raise_it => refine' Lp.dfn_mk KX G ?a_raise_it ?l_raise_it ?c_raise_it ?k_raise_it (fun _ _ _ _ _ _ us hl => match us, hl with | [_], _ => rfl); (case a_raise_it => k_is); (case l_raise_it => k_is); (case c_raise_it => k_is); (case k_raise_it => k_is))
    (case d_set_it => refine' Lp.dfn_mk KX G ?a_set_it ?l_set_it ?c_set_it ?k_set_it (fun _ _ _ _ _ _ us hl => match us, hl with | [_, _, _, _], _ => rfl); (case a_set_it => k_is); (case l_set_it => k_is); (case c_set_it => k_is); (case k_set_it => k_is))
    (case d_choose => refine' Lp.dfn_mk KX G ?a_choose ?l_choose ?c_choose ?k_choose (fun _ _ _ _ _ _ us hl => match us, hl with | [_, _, _], _ => rfl); (case a_choose => k_is); (case l_choose => k_is); (case c_choose => k_is); (case k_choose => k_is))
    (case d_box => refine' Lp.dfn_mk KX G ?a_box ?l_box ?c_box ?k_box (fun _ _ _ _ _ _ us hl => match us, hl with | [_, _, _, _, _, _], _ => rfl); (case a_box => k_is); (case l_box => k_is); (case c_box => k_is); (case k_box => k_is))
    (case d_like => refine' Lp.dfn_mk KX G ?a_like ?l_like ?c_like ?k_like (fun _ _ _ _ _ _ us hl => match us, hl with | [_, _, _, _, _], _ => rfl); (case a_like => k_is); (case l_like => k_is); (case c_like => k_is); (case k_like => k_is))
    (case d_turn => refine' Lp.dfn_mk KX G ?a_turn ?l_turn ?c_turn ?k_turn (fun _ _ _ _ _ _ us hl => match us, hl with | [_], _ => rfl); (case a_turn => k_is); (case l_turn => k_is); (case c_turn => k_is); (case k_turn => k_is))
    (case d_fill => refine' Lp.dfn_mk KX G ?a_fill ?l_fill ?c_fill ?k_fill (fun _ _ _ _ _ _ us hl => match us, hl with | [_, _, _], _ => rfl); (case a_fill => k_is); (case l_fill => k_is); (case c_fill => k_is); (case k_fill => k_is))
    (case d_bright => refine' Lp.dfn_mk KX G ?a_bright ?l_bright ?c_bright ?k_bright (fun _ _ _ _ _ _ us hl => match us, hl with | [_, _, _], _ => rfl); (case a_bright => k_is); (case l_bright => k_is); (case c_bright => k_is); (case k_bright => k_is))
    (case d_soft => refine' Lp.dfn_mk KX G ?a_soft ?l_soft ?c_soft ?k_soft (fun _ _ _ _ _ _ us hl => match us, hl with | [_], _ => rfl); (case a_soft => k_is); (case l_soft => k_is); (case c_soft => k_is); (case k_soft => k_is))
    (case d_shift => refine' Lp.dfn_mk KX G ?a_shift ?l_shift ?c_shift ?k_shift (fun _ _ _ _ _ _ us hl => match us, hl with | [_, _, _], _ => rfl); (case a_shift => k_is); (case l_shift => k_is); (case c_shift => k_is); (case k_shift => k_is))
    (case d_take_chosen => refine' Lp.dfn_mk KX G ?a_take_chosen ?l_take_chosen ?c_take_chosen ?k_take_chosen (fun _ _ _ _ _ _ us hl => match us, hl with | [_], _ => rfl); (case a_take_chosen => k_is); (case l_take_chosen => k_is); (case c_take_chosen => k_is); (case k_take_chosen => k_is))
    (case d_cut => refine' Lp.dfn_mk KX G ?a_cut ?l_cut ?c_cut ?k_cut (fun _ _ _ _ _ _ us hl => match us, hl with | [_], _ => rfl); (case a_cut => k_is); (case l_cut => k_is); (case c_cut => k_is); (case k_cut => k_is))
    (case d_paste => refine' Lp.dfn_mk KX G ?a_paste ?l_paste ?c_paste ?k_paste (fun _ _ _ _ _ _ us hl => match us, hl with | [_, _, _], _ => rfl); (case a_paste => k_is); (case l_paste => k_is); (case c_paste => k_is); (case k_paste => k_is))
    (case d_press => refine' Lp.dfn_mk KX G ?a_press ?l_press ?c_press ?k_press (fun _ _ _ _ _ _ us hl => match us, hl with | [_], _ => rfl); (case a_press => k_is); (case l_press => k_is); (case c_press => k_is); (case k_press => k_is))
    (case d_copy => refine' Lp.dfn_mk KX G ?a_copy ?l_copy ?c_copy ?k_copy (fun _ _ _ _ _ _ us hl => match us, hl with | [_], _ => rfl); (case a_copy => k_is); (case l_copy => k_is); (case c_copy => k_is); (case k_copy => k_is))
    (case d_undo => refine' Lp.dfn_mk KX G ?a_undo ?l_undo ?c_undo ?k_undo (fun _ _ _ _ _ _ us hl => match us, hl with | [_], _ => rfl); (case a_undo => k_is); (case l_undo => k_is); (case c_undo => k_is); (case k_undo => k_is))
    (case d_redo => refine' Lp.dfn_mk KX G ?a_redo ?l_redo ?c_redo ?k_redo (fun _ _ _ _ _ _ us hl => match us, hl with | [_], _ => rfl); (case a_redo => k_is); (case l_redo => k_is); (case c_redo => k_is); (case k_redo => k_is))
    (case d_dots => refine' Lp.dfn_mk KX G ?a_dots ?l_dots ?c_dots ?k_dots (fun _ _ _ _ _ _ us hl => match us, hl with | [_, _], _ => rfl); (case a_dots => k_is); (case l_dots => k_is); (case c_dots => k_is); (case k_dots => k_is))
    (case d_list_of => refine' Lp.dfn_mk KX G ?a_list_of ?l_list_of ?c_list_of ?k_list_of (fun _ _ _ _ _ _ us hl => match us, hl with | [_], _ => rfl); (case a_list_of => k_is); (case l_list_of => k_is); (case c_list_of => k_is); (case k_list_of => k_is))
    (case d_layer_answer => refine' Lp.dfn_mk KX G ?a_layer_answer ?l_layer_answer ?c_layer_answer ?k_layer_answer (fun _ _ _ _ _ _ us hl => match us, hl with | [_, _, _], _ => rfl); (case a_layer_answer => k_is); (case l_layer_answer => k_is); (case c_layer_answer => k_is); (case k_layer_answer => k_is))
    (case d_cell_answer => refine' Lp.dfn_mk KX G ?a_cell_answer ?l_cell_answer ?c_cell_answer ?k_cell_answer (fun _ _ _ _ _ _ us hl => match us, hl with | [_, _, _], _ => rfl); (case a_cell_answer => k_is); (case l_cell_answer => k_is); (case c_cell_answer => k_is); (case k_cell_answer => k_is))
    (case d_piece_answer => refine' Lp.dfn_mk KX G ?a_piece_answer ?l_piece_answer ?c_piece_answer ?k_piece_answer (fun _ _ _ _ _ _ us hl => match us, hl with | [_, _, _], _ => rfl); (case a_piece_answer => k_is); (case l_piece_answer => k_is); (case c_piece_answer => k_is); (case k_piece_answer => k_is))
    (case d_asked_answer => refine' Lp.dfn_mk KX G ?a_asked_answer ?l_asked_answer ?c_asked_answer ?k_asked_answer (fun _ _ _ _ _ _ us hl => match us, hl with | [_, _, _], _ => rfl); (case a_asked_answer => k_is); (case l_asked_answer => k_is); (case c_asked_answer => k_is); (case k_asked_answer => k_is))
    (case d_call_answer => refine' Lp.dfn_mk KX G ?a_call_answer ?l_call_answer ?c_call_answer ?k_call_answer (fun _ _ _ _ _ _ us hl => match us, hl with | [_, _, _], _ => rfl); (case a_call_answer => k_is); (case l_call_answer => k_is); (case c_call_answer => k_is); (case k_call_answer => k_is))
    (case d_answers => refine' Lp.dfn_mk KX G ?a_answers ?l_answers ?c_answers ?k_answers (fun _ _ _ _ _ _ us hl => match us, hl with | [_], _ => rfl); (case a_answers => k_is); (case l_answers => k_is); (case c_answers => k_is); (case k_answers => k_is)))
  case S =>
    intro K H xs a hO hwi hask hx
    cases hx with
    | cons h1 h2 =>
      cases h2
      cases h1 with
      | lst hs ha =>
        have e := L2.ints_dw a.1 _ ha
        subst e
        exact ⟨_, a.1, rfl, hs, hask, fun H' p hp => .lst (L2.SqL.of hp) (L2.dw_ints _)⟩
