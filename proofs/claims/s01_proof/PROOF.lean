import PyProof.Rows.All
import Wide.All
import OpenK.AllK
import Wide.FinOn
import HandS.List
import KE.KExcInit
import HandS.ForSpec
import HandS.ForMost
import HandS.Walk
import HandS.Wide
import HandS.SortInts
import HandS.Conv
import HandS.CallLocal
import HandS.Nested
import HandS.More
import HandS.Evl
import HandS.Steps
import HandS.NestedK
import HandS.Head4
import HandS.HeadHook4
import HandS.Spec
import HandS.EndTab
import KE.OsGo
import PySem.Challenge.RW_layerpaint_s01_answers
set_option Elab.async false
set_option linter.all false
set_option maxRecDepth 100000
section
namespace LP
open Sq50
/-! places and cells -/
theorem range_add (n m : Nat) : List.range (n + m) = List.range n ++ (List.range m).map (n + ·) := by
  rw [List.range_add]
theorem flat_cells {α : Type} (w : Nat) (hw : 1 ≤ w) (f : Nat → Nat → α) : ∀ h, ((List.range h).flatMap fun y => (List.range w).map fun x => f x y) = (List.range (w * h)).map fun p => f (p % w) (p / w)
  | 0 => by simp
  | h + 1 => by
    rw [List.range_succ, List.flatMap_append, flat_cells w hw f h, Nat.mul_succ, range_add, List.map_append, List.map_map]
    congr 1
    show ((List.range w).map fun x => f x h) ++ [] = _
    rw [List.append_nil]
    refine List.map_congr_left fun x hx => ?_
    have hx' : x < w := List.mem_range.mp hx
    show f x h = f ((w * h + x) % w) ((w * h + x) / w)
    rw [Nat.mul_add_mod, Nat.mod_eq_of_lt hx', Nat.mul_add_div (by omega), Nat.div_eq_of_lt hx', Nat.add_zero]
theorem back (p w : Nat) : p / w * w + p % w = p := by
  rw [Nat.mul_comm]; exact Nat.div_add_mod p w
structure WF (s : State) : Prop where
  w1 : 1 ≤ s.w
  w12 : s.w ≤ 12
  h1 : 1 ≤ s.h
  h12 : s.h ≤ 12
  len : ∀ l ∈ s.layers, l.dots.length = s.w * s.h
  str : ∀ l ∈ s.layers, l.strong ≤ 255
  way : ∀ l ∈ s.layers, l.way ≤ 6
  dot : ∀ l ∈ s.layers, ∀ d ∈ l.dots, d.1 ≤ 255 ∧ d.2 ≤ 255
  n5 : s.layers.length ≤ 5
  ids : (s.layers.map (·.id)).Nodup
  on : s.on ∈ s.layers.map (·.id)
  nx : ∀ l ∈ s.layers, l.id < s.next
  ch : s.chosen.length = s.w * s.h
theorem WF.n (W : WF s) : s.w * s.h ≤ 144 := by
  have := Nat.mul_le_mul W.w12 W.h12
  omega
theorem cells_map {α : Type} {s : State} (W : WF s) (f : Nat × Nat → α) : s.cells.map f = (List.range (s.w * s.h)).map fun p => f (p % s.w, p / s.w) := by
  unfold State.cells
  rw [List.map_flatMap]
  have := flat_cells s.w W.w1 (fun x y => f (x, y)) s.h
  rw [← this]
  congr 1
  funext y
  rw [List.map_map]
  rfl
theorem at_p {s : State} (l : Layer) (p : Nat) : s.at_ l (p % s.w) (p / s.w) = (l.dots[p]?).getD (0, 0) := by
  unfold State.at_; rw [back]
theorem is_p {s : State} (p : Nat) : s.is (p % s.w) (p / s.w) = (s.chosen[p]?).getD false := by
  unfold State.is; rw [back]
/-- may change, by place -/
def mayL (s : State) : List Bool := s.chosen.map fun b => b || !s.chosen.any (fun b => b)
theorem may_p {s : State} (W : WF s) {p : Nat} (hp : p < s.w * s.h) : s.may (p % s.w) (p / s.w) = ((mayL s)[p]?).getD false := by
  unfold State.may mayL
  rw [is_p, List.getElem?_map]
  have h : p < s.chosen.length := by rw [W.ch]; exact hp
  rw [List.getElem?_eq_getElem h]
  rfl
theorem mayL_len (W : WF s) : (mayL s).length = s.w * s.h := by unfold mayL; rw [List.length_map, W.ch]
theorem mem_p {w h p : Nat} (h1 : 1 ≤ w) (hp : p < w * h) : p % w < w ∧ p / w < h :=
  ⟨Nat.mod_lt _ (by omega), by rw [Nat.div_lt_iff_lt_mul (by omega), Nat.mul_comm]; exact hp⟩
/-- the layer worked on gets other dots -/
def setDots (s : State) (ds : List Dot) : State := { s with layers := s.layers.map fun l => if l.id = s.on then { l with dots := ds } else l }
theorem find_on {s : State} (W : WF s) : ∃ l, s.layers.find? (fun l => l.id == s.on) = some l ∧ l ∈ s.layers ∧ l.id = s.on ∧ s.layer = l := by
  have h := W.on
  obtain ⟨l, hl, e⟩ := List.mem_map.mp h
  cases q : s.layers.find? (fun l => l.id == s.on) with
  | none =>
    have := List.find?_eq_none.mp q l hl
    simp [e] at this
  | some m =>
    refine ⟨m, rfl, List.mem_of_find?_eq_some q, ?_, ?_⟩
    · have := List.find?_some q
      simpa using this
    · unfold State.layer; rw [q]; rfl
theorem layer_mem {s : State} (W : WF s) : s.layer ∈ s.layers := by
  obtain ⟨l, _, h, _, e⟩ := find_on W; rw [e]; exact h
theorem layer_id {s : State} (W : WF s) : s.layer.id = s.on := by
  obtain ⟨l, _, _, h, e⟩ := find_on W; rw [e]; exact h
theorem id_inj {s : State} (W : WF s) {a b : Layer} (ha : a ∈ s.layers) (hb : b ∈ s.layers) (e : a.id = b.id) : a = b := by
  have h := W.ids
  generalize s.layers = l at ha hb h
  induction l with
  | nil => cases ha
  | cons x l ih =>
    rw [List.map_cons, List.nodup_cons] at h  -- own
    rcases List.mem_cons.mp ha with rfl | ha  -- own
    · rcases List.mem_cons.mp hb with rfl | hb  -- own
      · rfl
      · exact absurd (List.mem_map.mpr ⟨b, hb, e.symm⟩) h.1
    · rcases List.mem_cons.mp hb with rfl | hb  -- own
      · exact absurd (List.mem_map.mpr ⟨a, (by assumption : a ∈ l), e⟩) h.1
      · exact ih ha hb h.2
theorem work_eq {s : State} (W : WF s) (f : Nat → Nat → Dot) : s.work f = setDots s ((List.range (s.w * s.h)).map fun p => if ((mayL s)[p]?).getD false = true then f (p % s.w) (p / s.w) else (s.layer.dots[p]?).getD (0, 0)) := by
  unfold State.work setDots
  congr 1
  refine List.map_congr_left fun l hl => ?_
  by_cases e : l.id = s.on
  · rw [if_pos e, if_pos e]
    have hs : l = s.layer := id_inj W hl (layer_mem W) (e.trans (layer_id W).symm)
    subst hs
    congr 1
    rw [cells_map W]
    refine List.map_congr_left fun p hp => ?_  -- own
    have hp' : p < s.w * s.h := List.mem_range.mp hp
    show (if s.may (p % s.w) (p / s.w) = true then f (p % s.w) (p / s.w) else s.at_ s.layer (p % s.w) (p / s.w)) = _
    rw [may_p W hp', at_p]
  · rw [if_neg e, if_neg e]
theorem place_on {s : State} (W : WF s) : ∃ l, s.layers[s.place]? = some l ∧ s.layers.findIdx? (fun l => l.id == s.on) = some s.place ∧ l = s.layer := by
  obtain ⟨l, hl, e⟩ := List.mem_map.mp W.on
  cases q : s.layers.findIdx? (fun l => l.id == s.on) with
  | none =>
    have := List.findIdx?_eq_none_iff.mp q l hl
    simp [e] at this
  | some i =>
    have hi := List.findIdx?_eq_some_iff_getElem.mp q
    obtain ⟨h1, h2, _⟩ := hi
    have ep : s.place = i := by unfold State.place; rw [q]; rfl
    rw [ep]
    refine ⟨s.layers[i], List.getElem?_eq_getElem h1, rfl, id_inj W (List.getElem_mem h1) (layer_mem W) ?_⟩
    rw [layer_id W]
    simpa using h2
theorem set_map {α : Type} (l : List α) (P : α → Prop) [DecidablePred P] (f : α → α) (i : Nat) (a : α) (hi : l[i]? = some a) (hp : P a) (hu : ∀ j b, l[j]? = some b → P b → j = i) : l.map (fun x => if P x then f x else x) = l.set i (f a) := by
  refine List.ext_getElem? fun j => ?_  -- own
  rw [List.getElem?_map, List.getElem?_set]
  by_cases e : i = j
  · subst e
    rw [hi, if_pos rfl, if_pos (List.getElem?_eq_some_iff.mp hi).1]
    simp [hp]
  · rw [if_neg e]
    cases q : l[j]? with
    | none => rfl
    | some b =>
      have : ¬ P b := fun hb => e (hu j b q hb).symm
      simp [this]
theorem idx_inj {s : State} (W : WF s) {i j : Nat} {a b : Layer} (ha : s.layers[i]? = some a) (hb : s.layers[j]? = some b) (e : a.id = b.id) : i = j := by
  have h := W.ids
  have h1 : (s.layers.map (·.id))[i]? = some a.id := by rw [List.getElem?_map, ha]; rfl
  have h2 : (s.layers.map (·.id))[j]? = some a.id := by rw [List.getElem?_map, hb, e]; rfl
  obtain ⟨l1, e1⟩ := List.getElem?_eq_some_iff.mp h1
  obtain ⟨l2, e2⟩ := List.getElem?_eq_some_iff.mp h2
  exact (List.getElem_inj h).mp (e1.trans e2.symm)
theorem setDots_set {s : State} (W : WF s) (ds : List Dot) : setDots s ds = { s with layers := s.layers.set s.place { s.layer with dots := ds } } := by
  obtain ⟨l, h1, _, h3⟩ := place_on W
  unfold setDots
  congr 1
  subst h3
  exact set_map s.layers (fun l => l.id = s.on) (fun l => { l with dots := ds }) s.place s.layer h1 (layer_id W) fun j b hb e => idx_inj W hb h1 (e.trans (layer_id W).symm)
theorem WF.setDots {s : State} (W : WF s) {ds : List Dot} (hl : ds.length = s.w * s.h) (hd : ∀ d ∈ ds, d.1 ≤ 255 ∧ d.2 ≤ 255) : WF (setDots s ds) := by
  have hm : ∀ l ∈ (LP.setDots s ds).layers, ∃ m ∈ s.layers, l = m ∨ l = { m with dots := ds } := fun l h => by
    obtain ⟨m, hm, e⟩ := List.mem_map.mp h
    refine ⟨m, hm, ?_⟩
    by_cases c : m.id = s.on
    · rw [if_pos c] at e; exact .inr e.symm
    · rw [if_neg c] at e; exact .inl e.symm
  have hi : (LP.setDots s ds).layers.map (·.id) = s.layers.map (·.id) := by
    show (s.layers.map _).map _ = _
    rw [List.map_map]
    refine List.map_congr_left fun l _ => ?_
    show (if l.id = s.on then { l with dots := ds } else l).id = l.id
    split <;> rfl
  refine ⟨W.w1, W.w12, W.h1, W.h12, fun l h => ?_, fun l h => ?_, fun l h => ?_, fun l h => ?_, ?_, ?_, ?_, fun l h => ?_, W.ch⟩
  · obtain ⟨m, hm, rfl | rfl⟩ := hm l h
    · exact W.len _ hm
    · exact hl
  · obtain ⟨m, hm, rfl | rfl⟩ := hm l h
    · exact W.str _ hm
    · exact W.str m hm
  · obtain ⟨m, hm, rfl | rfl⟩ := hm l h
    · exact W.way _ hm
    · exact W.way m hm
  · obtain ⟨m, hm, rfl | rfl⟩ := hm l h
    · exact W.dot _ hm
    · exact hd
  · show (s.layers.map _).length ≤ 5
    rw [List.length_map]; exact W.n5
  · rw [hi]; exact W.ids
  · rw [hi]; exact W.on
  · obtain ⟨m, hm, rfl | rfl⟩ := hm l h
    · exact W.nx _ hm
    · exact W.nx m hm
end LP
end
section
set_option maxHeartbeats 2000000
namespace LP
open Sq49 (Frac frac)
/-! fractions by what they are worth -/
structure Is (f : Frac) (n d : Nat) : Prop where
  eq : f.n * d = n * f.d
  dp : 0 < f.d
  d0 : 0 < d
theorem Is.frac (n : Nat) {d : Nat} (h : 0 < d) : Is (frac n d) n d := by
  unfold Sq49.frac
  by_cases e : n = 0
  · rw [if_pos e]; subst e; exact ⟨by simp, by simp, h⟩
  · rw [if_neg e]
    have g : 0 < Nat.gcd n d := Nat.gcd_pos_of_pos_right n h
    obtain ⟨a, ha⟩ := Nat.gcd_dvd_left n d
    obtain ⟨b, hb⟩ := Nat.gcd_dvd_right n d
    have e1 : n / Nat.gcd n d = a := by
      conv => lhs; lhs; rw [ha]
      exact Nat.mul_div_cancel_left a g
    have e2 : d / Nat.gcd n d = b := by
      conv => lhs; lhs; rw [hb]
      exact Nat.mul_div_cancel_left b g
    refine ⟨?_, ?_, h⟩
    · show n / Nat.gcd n d * d = n * (d / Nat.gcd n d)
      rw [e1, e2]
      conv => lhs; rhs; rw [hb]
      conv => rhs; lhs; rw [ha]
      rw [Nat.mul_left_comm, Nat.mul_assoc]
    · show 0 < d / Nat.gcd n d
      rw [e2]
      rcases Nat.eq_zero_or_pos b with z | z
      · rw [z, Nat.mul_zero] at hb; omega
      · exact z
theorem Is.to {f : Frac} {n d m e : Nat} (h : Is f n d) (he : 0 < e) (q : n * e = m * d) : Is f m e := by
  refine ⟨?_, h.dp, he⟩
  have h0 := h.d0
  apply Nat.eq_of_mul_eq_mul_right h0
  calc f.n * e * d = f.n * d * e := by rw [Nat.mul_right_comm]
    _ = n * f.d * e := by rw [h.eq]
    _ = n * e * f.d := by rw [Nat.mul_right_comm]
    _ = m * d * f.d := by rw [q]
    _ = m * f.d * d := by rw [Nat.mul_right_comm]
theorem Is.self (f : Frac) (h : 0 < f.d) : Is f f.n f.d := ⟨rfl, h, h⟩
section
variable {a b : Frac} {n d m e : Nat}
theorem cross (ha : Is a n d) (hb : Is b m e) : (a.n * b.d) * (d * e) = (n * e) * (a.d * b.d) := by
  calc (a.n * b.d) * (d * e) = (a.n * d) * (e * b.d) := by ac_rfl
    _ = (n * a.d) * (e * b.d) := by rw [ha.eq]
    _ = (n * e) * (a.d * b.d) := by ac_rfl
theorem Is.add (ha : Is a n d) (hb : Is b m e) : Is (a.add b) (n * e + m * d) (d * e) := by
  refine (Is.frac _ (Nat.mul_pos ha.dp hb.dp)).to (Nat.mul_pos ha.d0 hb.d0) ?_
  rw [Nat.add_mul, Nat.add_mul, cross ha hb]
  congr 1
  have := cross hb ha
  rw [Nat.mul_comm e d, Nat.mul_comm b.d a.d] at this
  exact this
theorem Is.less (ha : Is a n d) (hb : Is b m e) : Is (a.less b) (n * e - m * d) (d * e) := by
  refine (Is.frac _ (Nat.mul_pos ha.dp hb.dp)).to (Nat.mul_pos ha.d0 hb.d0) ?_
  rw [Nat.sub_mul, Nat.sub_mul, cross ha hb]
  congr 1
  have := cross hb ha
  rw [Nat.mul_comm e d, Nat.mul_comm b.d a.d] at this
  exact this
theorem Is.mul (ha : Is a n d) (hb : Is b m e) : Is (a.mul b) (n * m) (d * e) := by
  refine (Is.frac _ (Nat.mul_pos ha.dp hb.dp)).to (Nat.mul_pos ha.d0 hb.d0) ?_
  calc (a.n * b.n) * (d * e) = (a.n * d) * (b.n * e) := by ac_rfl
    _ = (n * a.d) * (m * b.d) := by rw [ha.eq, hb.eq]
    _ = (n * m) * (a.d * b.d) := by ac_rfl
theorem Is.nz (ha : Is a n d) : a.n = 0 ↔ n = 0 := by
  constructor
  · intro h
    have := ha.eq
    rw [h, Nat.zero_mul] at this
    rcases Nat.mul_eq_zero.mp this.symm with z | z
    · exact z
    · exact absurd z (Nat.ne_of_gt ha.dp)
  · intro h
    have := ha.eq
    rw [h, Nat.zero_mul] at this
    rcases Nat.mul_eq_zero.mp this with z | z
    · exact z
    · exact absurd z (Nat.ne_of_gt ha.d0)
theorem Is.by_ (ha : Is a n d) (hb : Is b m e) (hm : 0 < m) : Is (a.by_ b) (n * e) (d * m) := by
  have hbn : 0 < b.n := Nat.pos_of_ne_zero fun z => by rw [hb.nz.mp z] at hm; omega
  refine (Is.frac _ (Nat.mul_pos ha.dp hbn)).to (Nat.mul_pos ha.d0 hm) ?_
  calc (a.n * b.d) * (d * m) = (a.n * d) * (m * b.d) := by ac_rfl
    _ = (n * a.d) * (b.n * e) := by rw [ha.eq, hb.eq]
    _ = (n * e) * (a.d * b.n) := by ac_rfl
theorem Is.le (ha : Is a n d) (hb : Is b m e) : a.le b = decide (n * e ≤ m * d) := by
  unfold Frac.le
  congr 1
  have h1 := cross ha hb
  have h2 := cross hb ha
  rw [Nat.mul_comm e d, Nat.mul_comm b.d a.d] at h2
  have p1 : 0 < d * e := Nat.mul_pos ha.d0 hb.d0
  have p2 : 0 < a.d * b.d := Nat.mul_pos ha.dp hb.dp
  refine propext ⟨fun h => ?_, fun h => ?_⟩
  · have := Nat.mul_le_mul_right (d * e) h
    rw [h1, h2] at this
    exact Nat.le_of_mul_le_mul_right this p2
  · have := Nat.mul_le_mul_right (a.d * b.d) h
    rw [← h1, ← h2] at this
    exact Nat.le_of_mul_le_mul_right this p1
end
theorem div_same {x y X Y : Nat} (hy : 0 < y) (hY : 0 < Y) (h : x * Y = X * y) : x / y = X / Y := by
  rw [← Nat.mul_div_mul_right x y hY, h, Nat.mul_comm y Y, Nat.mul_div_mul_right X Y hy]
theorem Is.rounded {f : Frac} {n d : Nat} (h : Is f n d) : Sq49.rounded f = (2 * (n * 255) + d) / (2 * d) := by
  unfold Sq49.rounded
  refine div_same (by have := h.dp; omega) (by have := h.d0; omega) ?_
  have e := h.eq
  calc (2 * 255 * f.n + f.d) * (2 * d) = 2 * (2 * 255 * (f.n * d)) + 2 * (f.d * d) := by
        rw [Nat.add_mul]; congr 1 <;> ac_rfl
    _ = 2 * (2 * 255 * (n * f.d)) + 2 * (f.d * d) := by rw [e]
    _ = (2 * (n * 255) + d) * (2 * f.d) := by
        rw [Nat.add_mul]; congr 1 <;> ac_rfl
/-- what there is so far: light, cover, both by whole -/
structure So (b : Sq49.Dot) (p c w : Nat) : Prop where
  co : Is b.cover c w
  li : Is b.light p w
  pc : p ≤ c
  cw : c ≤ w
theorem So.clear : So Sq49.clear 0 0 1 := ⟨⟨rfl, by decide, by decide⟩, ⟨rfl, by decide, by decide⟩, by decide, by decide⟩
/-- M times what is covered below, times 255 -/
def nMet (way p c v : Nat) : Nat :=
  if way = 0 then c * v else if way = 1 then p * v else if way = 2 then p * 255 + c * v - p * v
  else if way = 3 then min (p * 255) (c * v) else if way = 4 then max (p * 255) (c * v)
  else if way = 5 then (p * 255 - c * v) + (c * v - p * 255) else min (p * 255 + c * v) (c * 255)
theorem nMet_le {way p c v : Nat} (h : p ≤ c) (hv : v ≤ 255) : nMet way p c v ≤ c * 255 := by
  have h1 : p * 255 ≤ c * 255 := Nat.mul_le_mul_right _ h
  have h2 : c * v ≤ c * 255 := Nat.mul_le_mul_left _ hv
  have h3 : p * v ≤ c * v := Nat.mul_le_mul_right _ h
  have h4 : p * v ≤ p * 255 := Nat.mul_le_mul_left _ hv
  have h5 : p * 255 + c * v - p * v ≤ c * 255 := by
    -- (c - p) (255 - v) >= 0
    obtain ⟨k, rfl⟩ : ∃ k, c = p + k := ⟨c - p, by omega⟩
    obtain ⟨j, hj⟩ : ∃ j, 255 = v + j := ⟨255 - v, by omega⟩
    have e1 : (p + k) * v = p * v + k * v := Nat.add_mul ..
    have e2 : (p + k) * 255 = p * 255 + k * 255 := Nat.add_mul ..
    have e3 : k * v ≤ k * 255 := Nat.mul_le_mul_left _ hv
    omega
  unfold nMet
  repeat' split
  all_goals omega
theorem nMet_mix {way p c v : Nat} {b s : Frac} (hb : Is b p c) (hs : Is s v 255) (hv : v ≤ 255) (hw : way ≤ 6) : Is (Sq49.mix way b s) (nMet way p c v) (c * 255) := by
  have c0 := hb.d0
  have t0 : 0 < c * 255 := by omega
  have hbs := hb.mul hs
  have hadd := hb.add hs
  have hle := hb.le hs
  have hls := hb.less hs
  have hsl := hs.less hb
  have vc : v * c = c * v := Nat.mul_comm v c
  rcases way with _ | _ | _ | _ | _ | _ | way
  · exact hs.to t0 (by show v * (c * 255) = c * v * 255; ac_rfl)
  · exact hbs
  · show Is ((b.add s).less (b.mul s)) (p * 255 + c * v - p * v) (c * 255)
    have h4 : p * v ≤ p * 255 := Nat.mul_le_mul_left _ hv
    refine (hadd.less hbs).to t0 ?_
    rw [vc, ← Nat.sub_mul, Nat.mul_assoc]
  · show Is (Sq49.least b s) (min (p * 255) (c * v)) (c * 255)
    unfold Sq49.least
    rw [hle, vc]
    by_cases q : p * 255 ≤ c * v
    · rw [Nat.min_eq_left q]
      simp only [q, decide_true, if_true]
      exact hb.to t0 (by rw [Nat.mul_right_comm, Nat.mul_assoc])
    · rw [Nat.min_eq_right (by omega)]
      simp only [q, decide_false]
      exact hs.to t0 (by show v * (c * 255) = c * v * 255; ac_rfl)
  · show Is (Sq49.most b s) (max (p * 255) (c * v)) (c * 255)
    unfold Sq49.most
    rw [hle, vc]
    by_cases q : p * 255 ≤ c * v
    · rw [Nat.max_eq_right q]
      simp only [q, decide_true, if_true]
      exact hs.to t0 (by show v * (c * 255) = c * v * 255; ac_rfl)
    · rw [Nat.max_eq_left (by omega)]
      simp only [q, decide_false]
      exact hb.to t0 (by rw [Nat.mul_right_comm, Nat.mul_assoc])
  · show Is ((b.less s).add (s.less b)) ((p * 255 - c * v) + (c * v - p * 255)) (c * 255)
    refine (hls.add hsl).to t0 ?_
    rw [vc, Nat.mul_comm 255 c, ← Nat.add_mul, Nat.mul_assoc]
  · show Is (Sq49.least Sq49.one (b.add s)) _ (c * 255)
    have h1 : Is Sq49.one 1 1 := ⟨rfl, by decide, by decide⟩
    have hl := h1.le hadd
    unfold Sq49.least
    rw [hl]
    have e : nMet (way + 1 + 1 + 1 + 1 + 1 + 1) p c v = min (p * 255 + c * v) (c * 255) := by
      unfold nMet
      rw [if_neg (by omega), if_neg (by omega), if_neg (by omega), if_neg (by omega), if_neg (by omega), if_neg (by omega)]
    rw [e, vc]
    by_cases q : 1 * (c * 255) ≤ (p * 255 + c * v) * 1
    · rw [Nat.min_eq_right (by omega)]
      simp only [q, decide_true, if_true]
      exact h1.to t0 (by omega)
    · rw [Nat.min_eq_left (by omega)]
      simp only [q, decide_false]
      rw [vc] at hadd
      exact hadd
theorem over_light (way : Nat) (s b : Sq49.Dot) : (Sq49.over way s b).light = ((s.light.mul (Sq49.one.less b.cover)).add (b.light.mul (Sq49.one.less s.cover))).add ((s.cover.mul b.cover).mul (Sq49.mix way b.colour s.colour)) := rfl
theorem over_cover (way : Nat) (s b : Sq49.Dot) : (Sq49.over way s b).cover = (s.cover.add b.cover).less (s.cover.mul b.cover) := rfl
/-- one more layer -/
def nOver (way p c w v u : Nat) : Nat × Nat × Nat :=
  (v * u * (w - c) + p * (65025 - u) * 255 + u * nMet way p c v, (u * w + c * (65025 - u)) * 255, w * 65025 * 255)
theorem So.over {b : Sq49.Dot} {p c w way v k strong : Nat} (h : So b p c w) (hv : v ≤ 255) (hk : k ≤ 255) (hst : strong ≤ 255) (hw : way ≤ 6) :
    So (Sq49.over way (Sq49.Dot.part (frac strong 255) ⟨frac k 255, (frac v 255).mul (frac k 255)⟩) b) (nOver way p c w v (k * strong)).1 (nOver way p c w v (k * strong)).2.1 (nOver way p c w v (k * strong)).2.2 := by
  have hu : k * strong ≤ 65025 := Nat.mul_le_mul hk hst
  have w0 : 0 < w := h.co.d0
  have h255 : (0 : Nat) < 255 := by decide
  have sC : Is ((frac strong 255).mul (frac k 255)) (k * strong) 65025 := ((Is.frac strong h255).mul (Is.frac k h255)).to (by decide) (by rw [Nat.mul_comm strong k])
  have sL : Is ((frac strong 255).mul ((frac v 255).mul (frac k 255))) (v * (k * strong)) (65025 * 255) :=
    ((Is.frac strong h255).mul ((Is.frac v h255).mul (Is.frac k h255))).to (by decide) (by
      have e : strong * (v * k) = v * (k * strong) := by ac_rfl
      rw [e])
  generalize hU : k * strong = u at *
  have one : Is Sq49.one 1 1 := ⟨rfl, by decide, by decide⟩
  have sb := sC.mul h.co
  have cov := (sC.add h.co).less sb
  have T0 : 0 < w * 65025 * 255 := by have := Nat.mul_pos w0 (by decide : 0 < 65025); omega
  obtain ⟨r, hr⟩ : ∃ r, 65025 = u + r := ⟨65025 - u, by omega⟩
  obtain ⟨q, hq⟩ : ∃ q, w = c + q := ⟨w - c, by have := h.cw; omega⟩
  have eB : 65025 - u = r := by omega
  have eQ : w - c = q := by omega
  -- the cover
  have cov' : Is ((Sq49.Frac.add ((frac strong 255).mul (frac k 255)) b.cover).less (((frac strong 255).mul (frac k 255)).mul b.cover)) ((u * w + c * r) * 255) (w * 65025 * 255) := by
    refine cov.to T0 ?_
    -- (u w + c 65025) T - u c T over T * T
    have e1 : (u * w + c * 65025) * (65025 * w) - u * c * (65025 * w) = (u * w + c * r) * (65025 * w) := by
      rw [← Nat.sub_mul]
      congr 1
      have : c * 65025 = u * c + c * r := by rw [hr, Nat.mul_add, Nat.mul_comm c u]
      omega
    rw [e1]
    ac_rfl
  -- the light without what is mixed
  have l1 := sL.mul (one.less h.co)
  have l2 := h.li.mul (one.less sC)
  -- what is mixed
  have l3 : Is ((((frac strong 255).mul (frac k 255)).mul b.cover).mul (Sq49.mix way b.colour (Sq49.Dot.part (frac strong 255) ⟨frac k 255, (frac v 255).mul (frac k 255)⟩).colour)) (u * nMet way p c v) (w * 65025 * 255) := by
    by_cases z : u = 0 ∨ c = 0
    · have e0 : (((frac strong 255).mul (frac k 255)).mul b.cover).n = 0 := sb.nz.mpr (by rcases z with z | z <;> simp [z])
      have e1 : u * nMet way p c v = 0 := by
        rcases z with z | z
        · rw [z, Nat.zero_mul]
        · have := nMet_le (way := way) h.pc hv
          rw [z] at this ⊢
          have : nMet way p 0 v = 0 := by omega
          rw [this, Nat.mul_zero]
      rw [e1]
      generalize ((frac strong 255).mul (frac k 255)).mul b.cover = f at e0 ⊢
      generalize Sq49.mix way b.colour _ = g
      have : f.mul g = ⟨0, 1⟩ := by
        unfold Frac.mul Sq49.frac
        rw [e0, Nat.zero_mul, if_pos rfl]
      rw [this]
      exact ⟨by simp, by decide, T0⟩
    · have u0 : 0 < u := Nat.pos_of_ne_zero fun e => z (.inl e)
      have c0 : 0 < c := Nat.pos_of_ne_zero fun e => z (.inr e)
      have hS : Is (Sq49.Dot.part (frac strong 255) ⟨frac k 255, (frac v 255).mul (frac k 255)⟩).colour v 255 := by
        show Is (if ((frac strong 255).mul (frac k 255)).n = 0 then Sq49.zero else ((frac strong 255).mul ((frac v 255).mul (frac k 255))).by_ ((frac strong 255).mul (frac k 255))) v 255
        rw [if_neg (fun e => by have := sC.nz.mp e; omega)]
        refine (sL.by_ sC u0).to h255 ?_
        ac_rfl
      have hB : Is b.colour p c := by
        unfold Sq49.Dot.colour
        rw [if_neg (fun e => by have := h.co.nz.mp e; omega)]
        refine (h.li.by_ h.co c0).to c0 ?_
        ac_rfl
      refine (sb.mul (nMet_mix hB hS hv hw)).to T0 ?_
      ac_rfl
  refine ⟨?_, ?_, ?_, ?_⟩
  · show Is _ ((u * w + c * (65025 - u)) * 255) (w * 65025 * 255)
    rw [eB, over_cover]
    exact cov'
  · show Is _ (v * u * (w - c) + p * (65025 - u) * 255 + u * nMet way p c v) (w * 65025 * 255)
    rw [eB, eQ, over_light]
    refine Is.to ((l1.add l2).add l3) T0 ?_
    have f1 : 1 * w - c * 1 = q := by omega
    have f2 : 1 * 65025 - u * 1 = r := by omega
    rw [f1, f2, Nat.one_mul, Nat.one_mul]
    generalize nMet way p c v = N
    -- all over the same
    have e1 : v * u * q * (w * 65025) + p * r * (65025 * 255 * w) = (v * u * q + p * r * 255) * (w * 65025) := by
      rw [Nat.add_mul]; congr 1; ac_rfl
    rw [e1]
    have e2 : (v * u * q + p * r * 255) * (w * 65025) * (w * 65025 * 255) + u * N * (65025 * 255 * w * (w * 65025)) = (v * u * q + p * r * 255 + u * N) * (65025 * 255 * w * (w * 65025)) := by
      rw [Nat.add_mul (v * u * q + p * r * 255)]; congr 1; ac_rfl
    rw [e2]
    ac_rfl
  · show v * u * (w - c) + p * (65025 - u) * 255 + u * nMet way p c v ≤ (u * w + c * (65025 - u)) * 255
    rw [eB, eQ]
    have n1 := nMet_le (way := way) h.pc hv
    have m1 : u * nMet way p c v ≤ u * (c * 255) := Nat.mul_le_mul_left _ n1
    have m2 : p * r ≤ c * r := Nat.mul_le_mul_right _ h.pc
    have m3 : v * (u * q) ≤ 255 * (u * q) := Nat.mul_le_mul_right _ hv
    have e3 : v * u * q = v * (u * q) := Nat.mul_assoc ..
    have e4 : u * w = u * c + u * q := by rw [hq, Nat.mul_add]
    have e5 : u * (c * 255) = u * c * 255 := by rw [Nat.mul_assoc]
    rw [e3, e4]
    omega
  · show (u * w + c * (65025 - u)) * 255 ≤ w * 65025 * 255
    rw [eB]
    have m2 : c * r ≤ w * r := Nat.mul_le_mul_right _ h.cw
    have e4 : w * 65025 = u * w + w * r := by rw [hr, Nat.mul_add, Nat.mul_comm w u]
    omega
end LP
end
section
namespace LP
/-! lists that go on beyond their ends -/
def arL (c r n : Nat) : List Nat := (List.range (2 * r + 1)).map fun i => min (c + i - r) (n - 1)
theorem arL_len (c r n : Nat) : (arL c r n).length = 2 * r + 1 := by unfold arL; rw [List.length_map, List.length_range]
theorem arL_lt {c r n x : Nat} (hn : 1 ≤ n) (h : x ∈ arL c r n) : x < n := by
  unfold arL at h
  obtain ⟨i, _, rfl⟩ := List.mem_map.mp h
  omega
def padL {α : Type} (d : α) (l : List α) (r : Nat) : List α := List.replicate r (l[0]?.getD d) ++ l ++ List.replicate r (l[l.length - 1]?.getD d)
theorem pad_len {α : Type} (d : α) (l : List α) (r : Nat) : (padL d l r).length = l.length + 2 * r := by
  unfold padL
  simp only [List.length_append, List.length_replicate]
  omega
theorem pad_get {α : Type} {d : α} {l : List α} {r j : Nat} (hl : 0 < l.length) (hj : j < l.length + 2 * r) : (padL d l r)[j]? = some (l[min (j - r) (l.length - 1)]?.getD d) := by
  unfold padL
  by_cases h1 : j < r
  · have e : min (j - r) (l.length - 1) = 0 := by omega
    rw [List.append_assoc, List.getElem?_append_left (by rw [List.length_replicate]; exact h1), List.getElem?_replicate, if_pos h1, e]
  · by_cases h2 : j < r + l.length
    · have e : min (j - r) (l.length - 1) = j - r := by omega
      rw [List.getElem?_append_left (by rw [List.length_append, List.length_replicate]; omega), List.getElem?_append_right (by rw [List.length_replicate]; omega), List.length_replicate, e, List.getElem?_eq_getElem (by omega)]
      rfl
    · have e : min (j - r) (l.length - 1) = l.length - 1 := by omega
      rw [List.getElem?_append_right (by rw [List.length_append, List.length_replicate]; omega), List.getElem?_replicate, if_pos (by rw [List.length_append, List.length_replicate]; omega), e]
theorem pad_cut {α : Type} {d : α} {l : List α} {r x : Nat} (hx : x < l.length) : ((padL d l r).drop x).take (2 * r + 1) = (arL x r l.length).map fun i => l[i]?.getD d := by
  refine List.ext_getElem? fun i => ?_
  unfold arL
  rw [List.map_map, List.getElem?_map]
  by_cases c : i < 2 * r + 1
  · rw [List.getElem?_take_of_lt c, List.getElem?_drop, pad_get (by omega) (by omega), List.getElem?_range c]
    rfl
  · rw [List.getElem?_take_eq_none (by omega), List.getElem?_eq_none (by rw [List.length_range]; omega)]
    rfl
/-- the rows of a picture's colours -/
def rowsL (w h : Nat) (cs : List Nat) : List (List Nat) := (List.range h).map fun y => (cs.drop (y * w)).take w
theorem rows_len (w h : Nat) (cs : List Nat) : (rowsL w h cs).length = h := by unfold rowsL; rw [List.length_map, List.length_range]
theorem row_get {w h y : Nat} (cs : List Nat) (hy : y < h) : (rowsL w h cs)[y]? = some ((cs.drop (y * w)).take w) := by
  unfold rowsL
  rw [List.getElem?_map, List.getElem?_range hy]
  rfl
theorem row_len {w h y : Nat} {cs : List Nat} (hc : cs.length = w * h) (hy : y < h) : ((cs.drop (y * w)).take w).length = w := by
  have h2 : (y + 1) * w ≤ h * w := Nat.mul_le_mul_right _ hy
  rw [Nat.add_mul, Nat.one_mul, Nat.mul_comm h] at h2
  rw [List.length_take, List.length_drop, hc]
  omega
def padR (w h : Nat) (cs : List Nat) (r : Nat) : List (List Nat) := padL [] ((rowsL w h cs).map fun l => padL 0 l r) r
def cutW (rs : List (List Nat)) (x y r : Nat) : List Nat := ((rs.drop y).take (2 * r + 1)).flatMap fun l => (l.drop x).take (2 * r + 1)
def colAt (cs : List Nat) (p : Nat) : Nat := cs[p]?.getD 0
def winL (w h : Nat) (cs : List Nat) (p r : Nat) : List Nat := (arL (p / w) r h).flatMap fun y => (arL (p % w) r w).map fun x => colAt cs (y * w + x)
theorem fm_same {α β : Type} {f g : α → List β} : ∀ {l : List α}, (∀ a ∈ l, f a = g a) → l.flatMap f = l.flatMap g
  | [], _ => rfl
  | a :: l, h => by rw [List.flatMap_cons, List.flatMap_cons, h a (List.mem_cons_self ..), fm_same fun b hb => h b (List.mem_cons_of_mem _ hb)]
theorem cut_win {w h p r : Nat} {cs : List Nat} (hw : 1 ≤ w) (hh : 1 ≤ h) (hc : cs.length = w * h) (hp : p < w * h) : cutW (padR w h cs r) (p % w) (p / w) r = winL w h cs p r := by
  have hx : p % w < w := Nat.mod_lt _ hw
  have hy : p / w < h := Nat.div_lt_of_lt_mul hp
  unfold cutW padR winL
  rw [pad_cut (by rw [List.length_map, rows_len]; exact hy), List.length_map, rows_len, List.flatMap_map]
  refine fm_same fun y hm => ?_
  have hyh := arL_lt hh hm
  rw [List.getElem?_map, row_get cs hyh]
  show ((padL 0 ((cs.drop (y * w)).take w) r).drop (p % w)).take (2 * r + 1) = _
  have hlen := row_len hc hyh
  rw [pad_cut (by rw [hlen]; exact hx), hlen]
  refine List.map_congr_left fun x hm => ?_
  have hxw := arL_lt hw hm
  rw [List.getElem?_take_of_lt hxw, List.getElem?_drop]
  rfl
end LP
end
section
set_option maxHeartbeats 4100000
namespace L2
open PySem PySem.Spec PyProof.Rows
/-! R0: any(xs), xs a list of ints; xs.extend(t), t a tuple -/
/-- is the int at this place another than 0 -/
def nz (ns : List Int) (i : Nat) : Bool := (ns[i]?.map fun n => n != 0).getD false
theorem nz_any (ns : List Int) : (List.range ns.length).any (nz ns) = ns.any fun n => n != 0 := by
  rw [Bool.eq_iff_iff, List.any_eq_true, List.any_eq_true]  -- own
  constructor
  · rintro ⟨i, hi, h⟩
    have hi := List.mem_range.mp hi
    unfold nz at h
    rw [List.getElem?_eq_getElem hi] at h
    exact ⟨_, List.getElem_mem hi, h⟩
  · rintro ⟨n, hn, h⟩
    obtain ⟨i, hi, rfl⟩ := List.getElem_of_mem hn
    refine ⟨i, List.mem_range.mpr hi, ?_⟩
    unfold nz
    rw [List.getElem?_eq_getElem hi]
    exact h
theorem rel_int {n : Int} {u : Value} (r : RelV (.int n) u) : ∃ t, u = .int n t := r
/-- the truth of each item -/
theorem nz_truth {prog : Program} {w : World} {A : Around} {ns : List Int} {us : List Value} (r : Vals (ns.map V.int) us) : TruthOf prog w A (fun i v => us.toArray[i]? = some v) (nz ns) := by
  intro i v s Q E hv q
  rw [List.getElem?_toArray] at hv
  have hi : i < ns.length := by
    have h1 := (List.getElem?_eq_some_iff.mp hv).1
    have h2 := Vals.length r
    rw [List.length_map] at h2
    omega
  obtain ⟨u, hu, ru⟩ := Vals.get (i := i) (x := V.int ns[i]) r (by rw [List.getElem?_map, List.getElem?_eq_getElem hi]; rfl)
  rw [hv] at hu
  cases hu
  obtain ⟨t, rfl⟩ := rel_int ru
  have e : nz ns i = (ns[i] != 0) := by unfold nz; rw [List.getElem?_eq_getElem hi]; rfl
  rw [e] at q
  exact truthy_int q
section
variable {X : Cx}
def rAnyI (K : PySem.W.Frag) : List V → Hp → VK → Prop := fun vs H Q => ∃ (a : Addr) (ns : List Int), vs = [.ref a] ∧ SqL K H a (ns.map V.int) ∧ Q (.bl (ns.any fun n => n != 0)) H
theorem cr_anyI (hc : X.calm = true) : CallR X (.builtin "any") (rAnyI X.K) := by
  rintro pins s σ H vs us Q I r ⟨a, ns, rfl, hs, q⟩
  obtain ⟨its, rv, pl, _⟩ := I.list hs
  have hn : its.toArray.size = ns.length := by rw [List.size_toArray, ← Vals.length rv, List.length_map]
  obtain rfl := Vals.ref1 r
  refine call_any_walk (iter_any pl.isList ?_)
  rintro s₂ rfl st ne
  refine ⟨_, _, _, _, _, _, _, rfl, Walks.list (A := X.A.in1) (I.ok.hd hc) _ a ne its.toArray, st, nz_truth rv, fun h' tk kp => ⟨_, H, I.kept (h' := h') (t' := tk) fun b o e => kp b o ?_ (Heap.get?_push_of_some _ e), ?_, q⟩⟩
  · intro m
    have hb : b = s.heap.objs.size := by simpa using m
    have hlt := Heap.lt_size e
    rw [hb] at hlt
    exact Nat.lt_irrefl _ hlt
  · rw [hn, nz_any]
    rfl
def rExtT : V → List V → Hp → VK → Prop := fun x vs H Q => ∃ l b xs zs, x = .ref l ∧ vs = [.ref b] ∧ H l = some (.lst xs) ∧ H b = some (.tup zs) ∧ xs.length + zs.length ≤ sizeLine ∧ Q .non (upd H l (.lst (xs ++ zs)))
/-- whatever else the tuple's object bears -/
theorem ext_tup {l b : Addr} {us ws : Array Value} {n m : Nat} {dd : Option Addr} {sl : Array (Option Value)} (h0 : us.size + ws.size ≤ sizeLine) (h1 : us.size ≤ sizeLine) :
    Meets (Builtin.«list.extend» ⟨[.ref l, .ref b], []⟩) fun _ R s => s.heap.get? l = some ⟨.type "list", none, .seq us n, #[]⟩ ∧ s.heap.get? b = some ⟨.type "tuple", dd, .seq ws m, sl⟩ ∧ R (.ok (.ret .none)) { s with heap := s.heap.update l (Obj.mapSeq (· ++ ws)), toks := s.toks } := by
  refine .of_wp fun prog w A R s h => ?_  -- own
  obtain ⟨hp, g, d, tk, os⟩ := s  -- own
  obtain ⟨e1, e2, hR⟩ := h
  have t1 := PySem.AutoSeq1.idx_int
  have hlong : ¬ ((!us.isEmpty && Builtin.List.listTooLong (us.size + ws.size)) = true) := by rw [notLongL h0, Bool.and_false]; exact Bool.false_ne_true
  have room : (us ++ ws).size ≤ sizeLine + 1 := by rw [Array.size_append]; omega
  wp_walk using (wpAny_updateSeq e1 rfl (hz := h1) (_hz' := room)), wpAny_loadPart' e1, wpAny_loadPart' e2
  exact ⟨_, rfl, hR⟩
theorem mt_extendT : MtM X "list.extend" rExtT := by
  rintro pins s σ H x vs v us Q I rx rv ⟨l, b, xs, zs, rfl, rfl, hl, hb, hz, q⟩
  cases rx
  obtain ⟨u, rfl, ru⟩ := rv.one
  cases ru
  obtain ⟨_, its, n, r, el, e⟩ := I.lstM hl
  obtain ⟨_, its2, r2, o2, e2, c2, n2, d2⟩ := I.hok b _ hb
  obtain ⟨c, dd, dt, sl⟩ := o2
  cases c2
  cases d2
  have l2 := Vals.length r2
  have few : its.toArray.size + its2.toArray.size ≤ sizeLine := by simp only [List.size_toArray]; omega
  have sum : (its ++ its2).length = (xs ++ zs).length := by simp only [List.length_append]; omega
  refine call_meets F.slot_list_extend ⟨_, e, rfl⟩ F.entry_list_extend (F.args_list_extend_2 _ _) (ext_tup few (by omega)) ⟨e, e2, .non, _, ?_, rfl, q⟩
  exact I.lset (its' := its ++ its2) hl e (List.append_toArray _ _) (Vals.append r r2) (by rw [← sum, List.length_append]; simpa using few)
end
/-! a dict that the top has written, keys and values ints -/
structure IntD (K : PySem.W.Frag) (a : Addr) (f : Int → Option V) : Prop where
  ex : ∃ es n, K.lookup a = some ⟨.type "dict", none, .dict es n, #[]⟩ ∧ IntKeys es ∧ ∀ k v, f k = some v → ∃ u, findBy Value.isInt es k = some u ∧ RelV v u
def rIxI (K : PySem.W.Frag) : R2 := fun x y H Q => ∃ (p : Addr) (f : Int → Option V) (k : Int) (v : V), x = .ref p ∧ y = .int k ∧ IntD K p f ∧ f k = some v ∧ Q v H
theorem ix_intd {X : Cx} : IxR X (rIxI X.K) := by
  intro value slice pins s σ H x y ux uy Q I rx ry h hs
  obtain ⟨p, f, k, v, ex, ey, ⟨es, n, hl, hk, hf⟩, hv, q⟩ := h
  subst ex; subst ey
  obtain ⟨t, et⟩ := rel_int ry
  subst et
  have e : ux = Value.ref p := rx
  subst e
  obtain ⟨u, hu, ru⟩ := hf k v hv
  have im : s.heap.IntMap p (fun j => findBy Value.isInt es j) := ⟨_, es, n, I.kIn _ _ hl, rfl, rfl, hk, fun _ => rfl⟩
  have mo := im.mapOf (prog := X.prog) (w := X.w) (fun o ho => by rw [I.kIn _ _ hl] at ho; cases ho; exact ⟨rfl, rfl⟩)
  have key : (intKind X.prog X.w).is k (Value.int k t) = true := by simp [intKind, Value.isInt]
  exact tail_any mo.typeIs slot_dict_getitem.lookup (wpAny_getItem_of key mo hu ⟨v, H, I.tok _, ru, q⟩) hs
end L2
end
section
set_option maxHeartbeats 4100000
/-! R1: the program's refusals. Refusal(Exception) keeps its answer; a class over it hands a written number on to Refusal.__init__. -/
namespace PySem.Rf
open PySem.W PySem.Calls PyProof.Rows PySem.HandSPX Builtin Builtin.ObjectAttr
abbrev exT : List Value := [.type "Exception", .type "BaseException", .type "object"]
def noMore (l : List Arg) : Arguments := { posonlyargs := [], args := l, vararg := none, kwonlyargs := [], kw_defaults := [], kwarg := none, defaults := [] }
def selfP (p : Pos) : Arg := { arg := "self", annotation := none, pos := p }
/-- def __init__(self, answer): self.answer = answer -/
def rA (p q : Pos) : Arguments := noMore [selfP p, { arg := "answer", annotation := none, pos := q }]
def rB (p1 p2 p3 p4 : Pos) : List Stmt := [.Assign [.Attribute (.Name "self" p1) "answer" p2] (.Name "answer" p3) p4]
def rS : Scope := { kind := .function, names := [(PySem.Str.ofString "self", .local), (PySem.Str.ofString "answer", .local)], isGenerator := false, isCoroutine := false, more := [] }
/-- def __init__(self): Refusal.__init__(self, -n) -/
def cA (p : Pos) : Arguments := noMore [selfP p]
def cB (n : Int) (p1 p2 p3 p4 p5 p6 p7 : Pos) : List Stmt := [.Expr (.Call (.Attribute (.Name "Refusal" p1) "__init__" p2) [.Name "self" p3, .UnaryOp .USub (.Constant (.int n) 0 p4) p5] [] p6) p7]
def cS : Scope := { kind := .function, names := [(PySem.Str.ofString "self", .local), (PySem.Str.ofString "Refusal", .globalImplicit)], isGenerator := false, isCoroutine := false, more := [] }
/-- what the written part says of the class x at C (its __init__ at f) and of Refusal at R (its __init__ at g) -/
structure RefTxt (K : Frag) (mg : Str → Option Value) (x qual : Str) (n : Int) (C f R g : Addr) : Prop where
  gC : mg x = some (.ref C)
  gR : mg "Refusal" = some (.ref R)
  nw : excInitIn K C exT "Exception.__new__" = true
  ov : excOver K C exT = true
  hd : hasDictIn K C = true
  sa : findIn K (.ref C) "__setattr__" = some (some (.builtin "object.__setattr__"))
  ga : findIn K (.ref C) "__getattribute__" = some (some (.builtin "BaseException.__getattribute__"))
  gg : findIn K (.ref C) "__getattr__" = some none
  no : findIn K (.ref C) "answer" = some none
  iC : findIn K (.ref C) "__init__" = some (some (.ref f))
  tC : typeIn K (.ref f) = some (.type "function")
  kC : keepIn K (.ref C) = true
  ex : subIn K (.ref C) (.type "BaseException") = some true
  ty : typeIn K (.ref C) = some (.type "type")
  te : exmOne K (.ref C) (.ref R) = some true
  rd : readsIn K R (.type "type") = true
  rg : specialIn K (.ref R) "__getattribute__" = some (some (.builtin "type.__getattribute__"))
  rf : findCls K (.ref R) (.type "type") "__init__" = some (.val (.ref g))
  kg : keepIn K (.ref g) = true
  fn : ∃ (oc : Value) (od : Option Addr) (doc pm : Value) (an : Option Addr) (cdv ct : Value) (sl : Array (Option Value)) (q p1 p2 p3 p4 p5 p6 p7 : Pos),
    K.lookup f = some ⟨oc, od, .func (fnOf "__init__" qual (cA q) (cB n p1 p2 p3 p4 p5 p6 p7) cS .none .none doc pm an cdv ct), sl⟩ ∧ codeIn K cdv qual = true ∧ (p2.endLine == p6.line) = true
  fR : ∃ (oc : Value) (od : Option Addr) (doc pm : Value) (an : Option Addr) (cdv ct : Value) (sl : Array (Option Value)) (q q2 p1 p2 p3 p4 : Pos),
    K.lookup g = some ⟨oc, od, .func (fnOf "__init__" "Refusal.__init__" (rA q q2) (rB p1 p2 p3 p4) rS .none .none doc pm an cdv ct), sl⟩ ∧ codeIn K cdv "Refusal.__init__" = true
/-- the exception at x, made of the heap h, bears its answer v in its own dict at d; all else is kept -/
structure Bears (h h' : Heap) (x C d t : Addr) (v : Value) : Prop where
  keep : ∀ b o, b ≠ x → h.get? b = some o → h'.get? b = some o
  obj : h'.get? x = some { cls := .ref C, dict := some d, data := .fields #[.ref t, .none, .none, .none, .bool false, .none] }
  big : h.objs.size ≤ d
  ne : d ≠ x
  ns : h'.Ns1 d fun y => if y = "answer" then some v else none
theorem Bears.from {h0 h h' : Heap} {x C d t : Addr} {v : Value} (b : Bears h h' x C d t v) (k : ∀ a o, h0.get? a = some o → h.get? a = some o) (z : h0.objs.size ≤ h.objs.size) : Bears h0 h' x C d t v :=
  ⟨fun a o n e => b.keep a o n (k a o e), b.obj, Nat.le_trans z b.big, b.ne, b.ns⟩
section
variable {prog : Program} {w : World} {A : Around} {R : Result → Shared → Prop} {s : Shared} {K : Frag} {C x t : Addr} {v : Value}
/-- x.answer = v, the first field of all -/
theorem first_field {tk : Tok} (X : K.In s.heap) (hx : s.heap.get? x = some (excO C t)) (ov : excOver K C exT = true) (hd : hasDictIn K C = true) (no : findIn K (.ref C) "answer" = some none)
    (hq : ∀ h' tk' d, Bears s.heap h' x C d t v → R (.ok (.ret .none)) { s with heap := h', toks := tk' }) :
    codeAny (model prog w) A (.call (.builtin "object.__setattr__") ⟨[.ref x, .str "answer" tk, v], []⟩) R s := by
  have tn : takerIn K C "answer" = some none := by unfold takerIn; rw [no]; rfl
  refine osa_openX (od := none) F.store_Exception X ⟨hx, rfl, rfl, trivial⟩ ov tn fun _ => ?_
  obtain ⟨cd, hc, hdc⟩ := any_some hd
  have nx : x ≠ s.heap.objs.size := Nat.ne_of_lt (Heap.lt_size hx)
  refine wpAny_bind (wpAny_pure (wpAny_bind (instanceDict_exc hx (looks_clsIn X hc) hdc ?_)))
  show wpAny _ _ (storeInDict s.heap.objs.size (.str "answer" tk) "answer" v) _ _ _
  have atD : ((s.heap.push (dictOf [] 0)).update x fun o => { o with dict := some s.heap.objs.size }).get? s.heap.objs.size = some (dictOf [] 0) :=
    (Heap.get?_update_other _ _ nx).trans (Heap.get?_push_size _ rfl)
  refine store_in_new ⟨_, #[], _, atD, rfl, fun _ z => absurd z (by simp), fun _ => rfl⟩ fun h' tk' hn sb => ?_
  have up : ∀ b o, b ≠ s.heap.objs.size → ((s.heap.push (dictOf [] 0)).update x fun o => { o with dict := some s.heap.objs.size }).get? b = some o → h'.get? b = some o := fun b o nb e => (sb.2 b nb).trans e
  refine hq h' tk' s.heap.objs.size ⟨fun b o nb e => up b o (Nat.ne_of_lt (Heap.lt_size e)) ?_, up x _ nx ?_, Nat.le_refl _, nx.symm, hn⟩
  · exact (Heap.get?_update_other _ _ nb.symm).trans (Heap.get?_push_of_some _ e)
  · exact Heap.get?_update_self _ (Heap.get?_push_of_some _ hx) rfl
/-- a local name of a def's frame -/
theorem local_name {M : Model} {E : Value → Shared → Prop} {q : Str} {sc : Scope} {L a : Addr} {cd : Value} {m : Str → Option Value} {y : Str} {p : Pos} {u : Value} {Q : Value → Shared → Prop} (hn : s.heap.Ns L m) (hm : m y = some u) (h : Q u s)
    (hk : sc.kind = .function := by rfl) (hl : (envOfC q sc L a cd).kindOf y = some .local := by rfl) (hd : (y == ("__debug__" : Str)) = false := by decide) : wpAny M A (eval (.Name y p) (envOfC q sc L a cd)) Q E s :=
  wpAny_Name (wpAny_loadName_local hk hl hn hm h) hd  -- own
variable {mg : Str → Option Value} {y qual : Str} {n : Int} {f S g : Addr}
/-- Refusal.__init__(x, v) -/
theorem base_init (T : RefTxt K mg y qual n C f S g) (X : K.In s.heap) (lim : s.heap.NoLimit) (hx : s.heap.get? x = some (excO C t)) (room : A.depth < recursionLimit)
    (hq : ∀ h' tk d, Bears s.heap h' x C d t v → R (.ok (.ret .none)) { s with heap := h', toks := tk }) : codeAny (model prog w) A (.call (.ref g) ⟨[.ref x, v], []⟩) R s := by
  obtain ⟨oc, od, doc, pm, an, cdv, ct, sl, q, q2, p1, p2, p3, p4, lk, hcd⟩ := T.fR
  refine Att.call_fn (binds := [("self", .ref x), ("answer", v)]) X lim lk hcd room (.of_eq rfl) rfl (fun s₁ F => ?_) rfl rfl rfl
  obtain ⟨h1, k1, rfl⟩ := F.toInCall.same
  have kp : ∀ b o, s.heap.get? b = some o → h1.get? b = some o := F.toInCall.keep
  have ns := F.toInCall.ns
  show wpAny _ _ (execs _ _) _ _ _
  refine wpAny_execs_cons (plainObj_wpAny_Assign_Attribute (local_name (u := v) ns rfl (local_name (u := .ref x) ns rfl ?_)))
  refine set_plain (X.keeps kp) (od := none) ⟨kp _ _ hx, rfl, rfl, trivial⟩ T.sa (first_field (X.keeps kp) (kp _ _ hx) T.ov T.hd T.no fun h2 k2 d B => ?_)
  show wpAny _ _ (execs _ _) _ _ _
  exact wpAny_execs_nil (hq h2 k2 d (B.from kp (Nat.le_of_lt (Nat.lt_of_le_of_lt (Nat.le_refl _) ns.lt))))
/-- a method's call on one row -/
theorem one_row {o : Expr} {env : Env} {p q : Pos} (h : (p.endLine == q.line) = true) : methodCallPos true o env p q = pure q := by
  unfold methodCallPos
  rw [if_pos (by rw [h, Bool.or_true])]
theorem call_row {o : Expr} {y : Str} {env : Env} {p q : Pos} {es : List Expr} (hb : attributeBase o y env (eval o env) = eval o env) (hf : methodCallForm (es.length + 0) (backTo q (starEach es env)) (backToKw q (keywordEach [] env)) = true) (h : (p.endLine == q.line) = true) :
    eval (.Call (.Attribute o y p) es [] q) env = (do
      let ov ← eval o env
      standAt p.atName
      let (f, first) ← holding [ov] (getMethod ov y (do return (← importBound o env).getD true))
      callWith q f first (backTo q (starEach es env)) (backToKw q (keywordEach [] env))) := by
  rw [arm_eval_Call, hb]
  have hm : ∀ ov, methodCall o y p q env ov (es.length + ([] : List Keyword).length) (backTo q (starEach es env)) (backToKw q (keywordEach [] env)) = (do
      let (f, first) ← holding [ov] (getMethod ov y (do return (← importBound o env).getD true))
      callWith q f first (backTo q (starEach es env)) (backToKw q (keywordEach [] env))) := fun ov => by
    unfold methodCall
    have hf' : methodCallForm (es.length + ([] : List Keyword).length) (backTo q (starEach es env)) (backToKw q (keywordEach [] env)) = true := hf
    rw [hf', one_row h]
    rfl
  simp only [hm]
/-- C.__init__(x) -/
theorem own_init (T : RefTxt K mg y qual n C f S g) (X : K.In s.heap) (gl : s.heap.Ns mainGlobals mg) (lim : s.heap.NoLimit) (hx : s.heap.get? x = some (excO C t)) (room : A.depth + 1 < recursionLimit)
    (hq : ∀ h' tk d tn, Bears s.heap h' x C d t (.int (-n) tn) → R (.ok (.ret .none)) { s with heap := h', toks := tk }) : codeAny (model prog w) A (.call (.ref f) ⟨[.ref x], []⟩) R s := by
  obtain ⟨oc, od, doc, pm, an, cdv, ct, sl, q, p1, p2, p3, p4, p5, p6, p7, lk, hcd, hrow⟩ := T.fn
  refine Att.call_fn (binds := [("self", .ref x)]) X lim lk hcd (by omega) (.of_eq rfl) rfl (fun s₁ F => ?_) rfl rfl rfl
  obtain ⟨h1, k1, rfl⟩ := F.toInCall.same
  have kp : ∀ b o, s.heap.get? b = some o → h1.get? b = some o := F.toInCall.keep
  have ns := F.toInCall.ns
  have sz : s.heap.objs.size ≤ h1.objs.size := Nat.le_of_lt ns.lt
  have X1 : K.In h1 := X.keeps kp
  show wpAny _ _ (execs _ _) _ _ _
  refine wpAny_execs_cons (wpAny_Expr (methodCall_KW ?_ (call_row rfl rfl hrow)) rfl)
  refine Name_function_global rfl rfl (loadGlobal_global (gl.keeps kp) T.gR ?_) (by decide)
  refine method_cls X1 T.rg (cls_value X1 T.rd T.rf rfl ?_)
  refine callWith_K X1 T.kg (spliced_cons (local_name (u := .ref x) ns rfl ?_))
  refine spliced_cons (UnaryOp_ (wpAny_Constant_int (neg_int (spliced_nil ⟨X1, ?_⟩))))
  refine wpAny_call (base_init T X1 (lim.keeps kp) (kp _ _ hx) room fun h2 k2 d B => ?_)
  show wpAny _ _ (execs _ _) _ _ _
  exact wpAny_execs_nil (hq h2 k2 d _ (B.from kp sz))
/-- C() -/
theorem made (T : RefTxt K mg y qual n C f S g) (X : K.In s.heap) (gl : s.heap.Ns mainGlobals mg) (lim : s.heap.NoLimit) (room : A.depth + 2 < recursionLimit)
    (hq : ∀ h' tk e d t tn, s.heap.objs.size ≤ e → s.heap.objs.size ≤ d → (∀ b o, s.heap.get? b = some o → h'.get? b = some o) → Bears s.heap h' e C d t (.int (-n) tn) → R (.ok (.ret (.ref e))) { s with heap := h', toks := tk }) :
    codeAny (model prog w) A (.call (.ref C) ⟨[], []⟩) R s := by  -- own
  obtain ⟨nm, N, qn, bs, bm, hdc, sn, sub, ab, col, dd, k0, k1, k2, k3, k5, hC, hT⟩ := excInit_of X T.nw
  obtain ⟨hp, gs, dr, tk, os⟩ := s
  refine call_own F.excBase_Exception hT hC (looks_findIn X T.iC) (fun self => bind_fn X self T.tC) (Nat.zero_le _) ?_
  have kp : ∀ b o, hp.get? b = some o → ((hp.push (kdv_tup [])).push (excO C hp.objs.size)).get? b = some o := fun b o e => Heap.get?_push_of_some _ (Heap.get?_push_of_some _ e)
  have sz : hp.objs.size + 2 = ((hp.push (kdv_tup [])).push (excO C hp.objs.size)).objs.size := by rw [Heap.size_push, Heap.size_push]
  refine own_init (s := ⟨_, gs, dr, tk, os⟩) (x := hp.objs.size + 1) T (X.keeps kp) (gl.keeps kp) (lim.keeps kp) (by heap_get) ?_ fun h' tk' d tn B => ⟨rfl, hq h' tk' _ d _ tn (Nat.le_succ _) ?_ (fun b o e => B.keep b o ?_ (kp b o e)) (B.from kp ?_)⟩
  · show A.depth + 1 + 1 < recursionLimit
    exact room
  · have hb : _ ≤ d := B.big
    rw [← sz] at hb
    exact Nat.le_trans (Nat.le_add_right _ 2) hb
  · exact Nat.ne_of_lt (Nat.lt_succ_of_lt (Heap.lt_size e))
  · rw [← sz]
    exact Nat.le_add_right _ 2
end
end PySem.Rf
namespace L2
open PySem PySem.Spec PyProof.Rows PySem.Rf
theorem rel_answer {v : V} {u : Value} (r : RelV v u) (f : Str) : RelO (List.lookup f [(("answer" : Str), v)]) (if f = "answer" then some u else none) := by
  by_cases h : f = "answer"
  · rw [h, if_pos rfl]
    have e : List.lookup ("answer" : Str) [(("answer" : Str), v)] = some v := by simp [List.lookup]
    rw [e]
    exact r
  · have e : (f == ("answer" : Str)) = false := by simpa using h
    rw [if_neg h]
    simp [List.lookup, e, RelO]
section
variable {X : Cx} {C f R g : Addr} {x qual : Str} {n : Int}
/-- the making of a refusal: d is its own dict, new -/
def tMkR (C : Addr) (n : Int) : L2.St → Hp → XK → Prop := fun _ H Q => ∀ d, H d = none → Q (.ref C) (some d) (upd H d (.xd [(("answer" : Str), .int (-n))]))
theorem pmk_R {p pos : Pos} {k : Nat} (T : RefTxt X.K X.mg x qual n C f R g) (hr : Room k X.A) (hg : Gl X x) (hd : (x == ("__debug__" : Str)) = false) : PMk X (.Call (.Name x p) [] [] pos) (tMkR C n) := by
  intro pins s σ H Q I q
  refine wpAny_Call_Name_kw (ld_glob I hg T.gC ?_ hd)
  refine PySem.W.callWith_K0 I.kIn T.kC ?_
  show wpAny _ _ (call (.ref C) []) _ _ _
  have dp := hr.dp
  refine wpAny_call (made T I.kIn (I.mod.glob.keeps I.bk) I.nolimit (by omega) fun h' tk e d t tn he hd kp B => ?_)
  show MkP X pins σ Q (.ref e) { s with heap := h', toks := tk }
  have nd : H d = none := I.hok.fresh hd
  have ne : H e = none := I.hok.fresh he
  obtain ⟨G, g1, g2⟩ := restrict h' fun b => decide (b ≠ e)
  have g1 : ∀ b, b ≠ e → G.get? b = h'.get? b := fun b hb => g1 b (decide_eq_true hb)
  have g2 : G.get? e = none := g2 e (by simp)
  have J : Inv X pins σ (upd H d (.xd [(("answer" : Str), .int (-n))])) { s with heap := G, toks := tk } := by
    refine I.laid (fun b u hu => ?_) hd ⟨_, B.ns.at (fun o z => (g1 d B.ne).trans z), fun y => rel_answer (v := .int (-n)) (u := .int (-n) tn) ⟨tn, rfl⟩ y⟩
    rw [g1 b (Nat.ne_of_lt (Nat.lt_of_lt_of_le (Heap.lt_size hu) he))]
    exact kp b u hu
  refine ⟨e, _, _, { s with heap := G, toks := tk }, _, .ref C, some d, rfl, J, fun b o z => ?_, g2, B.obj, ⟨rfl, rfl⟩, rfl, rfl, ?_, rfl, I.bare, raises_own T.ex T.ty, q d nd⟩
  · have hb : b ≠ e := fun y => by
      have z : G.get? b = some o := z
      rw [y, g2] at z
      cases z
    exact (g1 b hb).symm.trans z
  · rw [upd_ne B.ne.symm]
    exact ne
/-- raise x() -/
def tRaiseR (C : Addr) (n : Int) (W : WX) : TS := fun _ σ H => tMkR C n σ H fun cls d H' => W cls d σ H'
theorem ps_raiseR {W : WX} {p pos pos2 : Pos} {k : Nat} (hc : X.calm = true) (T : RefTxt X.K X.mg x qual n C f R g) (hr : Room k X.A) (tk : Takes X W) (hg : Gl X x := by rfl) (hd : (x == ("__debug__" : Str)) = false := by decide) :
    PS X (.Raise (some (.Call (.Name x p) [] [] pos)) none pos2) (tRaiseR C n W) := ps_raise hc tk (pmk_R T hr hg hd)
/-- what a class over Refusal must say for e.answer -/
structure AnsC (K : PySem.W.Frag) (C : Addr) : Prop where
  ga : PySem.W.findIn K (.ref C) "__getattribute__" = some (some (.builtin "BaseException.__getattribute__"))  -- own
  gg : PySem.W.findIn K (.ref C) "__getattr__" = some none  -- own
  no : PySem.W.findIn K (.ref C) "answer" = some none
  ex : PySem.W.subIn K (.ref C) (.type "BaseException") = some true
  hd : PySem.W.hasDictIn K C = true  -- own
theorem ansC_of {K : PySem.W.Frag} {mg : Str → Option Value} (T : RefTxt K mg x qual n C f R g) : AnsC K C := ⟨T.ga, T.gg, T.no, T.ex, T.hd⟩
/-- e.answer, e what the suite holds at a (its class cls, its dict d) -/
def tAns (K : PySem.W.Frag) (a : Addr) (cls : Value) (d : Option Addr) (te : TE) : TE := fun σ H Q => te σ H fun y H1 => y = .ref a ∧ ∃ (C dd : Addr) (v : V), cls = .ref C ∧ AnsC K C ∧ d = some dd ∧ H1 dd = some (.xd [(("answer" : Str), v)]) ∧ Q v H1
theorem pe_answer {a : Addr} {oe : Obj} {cls : Value} {d : Option Addr} {pn : List (Addr × Obj)} {e : Expr} {te : TE} {pos : Pos} (hz : Zc cls d oe) (hf : ∃ vs, oe.data = .fields vs) (he : PE (X.suite a ((a, oe) :: pn)) e te)
    (hb : attributeBase e "answer" X.env (eval e X.env) = eval e X.env := by rfl) : PE (X.suite a ((a, oe) :: pn)) (.Attribute e "answer" pos) (tAns X.K a cls d te) := by
  refine ⟨fun pins s σ H Q I q => attr_of hb (thn (he.run pins s σ H _ I q) fun u s1 ⟨y, H1, I1, ry, ey, C, dd, v, ec, A, ed, hx, k⟩ => ?_)⟩
  subst ey ec ed
  obtain rfl : u = Value.ref a := ry  -- own
  obtain ⟨ha, _⟩ := I1.pin (a, oe) (List.mem_append_left _ List.mem_cons_self)
  obtain ⟨m, ns, rl⟩ := I1.hok dd _ hx
  obtain ⟨od, ho, hl⟩ := lookIn_ns ns
  have lk : List.lookup ("answer" : Str) [(("answer" : Str), v)] = some v := by simp [List.lookup]
  obtain ⟨u, hu, ru⟩ := RelO.some_of (v := v) (o := m "answer") (by rw [← lk]; exact rl "answer")
  obtain ⟨vs, hd⟩ := hf
  have J : PySem.W.InstAt s1.heap a oe C (some od) := ⟨ha, hz.1, by unfold PySem.W.notCls; rw [hd] <;> rfl, by rw [hz.2]; exact ho⟩
  refine HandSPX.exc_get I1.kIn J A.ga A.gg A.ex (PySem.W.findObj_own A.hd A.no rfl (by rw [hl, hu])) (handed_of ru) ⟨v, H1, I1.tok _, ru, k⟩
end
end L2
end
section
set_option maxHeartbeats 4100000
namespace LP
open PySem PySem.Spec PyProof.Rows L2 Evl
open Sq50 (State Layer Dot)
/-! what the top has written of a def, a class, a method, a constant -/
structure DefAt (K : PySem.W.Frag) (mg : Str → Option Value) (x : Str) (st : Stmt) (ps : List Str) where
  a : Addr
  fd : FuncData
  F : Fun K x x st a fd
  g : mg x = some (.ref a)
  b : Binds K fd ps []
structure ClsAt (K : PySem.W.Frag) (mg : Str → Option Value) (x : Str) (fields : List Str) (st : Stmt) (qual : Str) (ps : List Str) where
  a : Addr
  i : Addr
  fd : FuncData
  cl : Cls K a
  no : ∀ f ∈ fields, NoAttr K a f
  g : mg x = some (.ref a)
  mks : Mk K a i
  F : Fun K "__init__" qual st i fd
  b : Binds K fd ps []
structure MethAt (K : PySem.W.Frag) (C : Addr) (x qual : Str) (st : Stmt) (ps : List Str) where
  a : Addr
  fd : FuncData
  F : Fun K x qual st a fd
  m : Meth K C x a
  b : Binds K fd ps []
structure ConstI (mg : Str → Option Value) (x : Str) (n : Int) where
  u : Value
  g : mg x = some u
  r : RelV (.int n) u
structure ConstT (K : PySem.W.Frag) (mg : Str → Option Value) (x : Str) (ns : List Int) where
  a : Addr
  g : mg x = some (.ref a)
  r : RelV (.ref a) (.ref a)
  t : ∀ H : Hp, SqT K H a (ns.map V.int)
def plain (kvs : List (Int × Int)) (k : Int) : Option V := (kvs.lookup k).map V.int
structure ConstD (K : PySem.W.Frag) (mg : Str → Option Value) (x : Str) (kvs : List (Int × Int)) where
  a : Addr
  g : mg x = some (.ref a)
  r : RelV (.ref a) (.ref a)
  d : IntD K a (plain kvs)
/-! heaps that grow -/
theorem _root_.Evl.Ex.back {H H' : Hp} (e : Ex H H') {p : Addr} (h : H' p = none) : H p = none := by
  cases q : H p with
  | none => rfl
  | some o => rw [e p o q] at h; cases h
/-- Z: addresses at which nothing changes. All that is free is among them. -/
def Free (Z : Addr → Prop) (H : Hp) : Prop := ∀ b, H b = none → Z b
theorem Free.ex {Z : Addr → Prop} {H H' : Hp} (f : Free Z H) (e : Ex H H') : Free Z H' := fun b h => f b (e.back h)
def Keep (Z : Addr → Prop) (H H' : Hp) : Prop := ∀ a o, Z a → H a = some o → H' a = some o
theorem _root_.Evl.Ex.keep {H H' : Hp} (e : Ex H H') (Z : Addr → Prop) : Keep Z H H' := fun a o _ h => e a o h
theorem Keep.trans {Z : Addr → Prop} {H H1 H2 : Hp} (a : Keep Z H H1) (b : Keep Z H1 H2) : Keep Z H H2 := fun x o z h => b x o z (a x o z h)
theorem Keep.upd {Z : Addr → Prop} {H H' : Hp} {m : Addr} {o : HO} (k : Keep Z H H') (hm : ¬ Z m) : Keep Z H (L2.upd H' m o) := fun a u z h => by
  have ne : a ≠ m := fun e => hm (e ▸ z)
  rw [upd_ne ne]; exact k a u z h
/-- all but D -/
def But (Z : Addr → Prop) (D : Addr) : Addr → Prop := fun b => Z b ∧ b ≠ D
theorem Free.but {Z : Addr → Prop} {H : Hp} {D : Addr} {o : HO} (f : Free Z H) : Free (But Z D) (upd H D o) := fun b h => by
  by_cases e : b = D
  · subst e; rw [upd_same] at h; cases h
  · rw [upd_ne e] at h; exact ⟨f b h, e⟩
structure At (Z : Addr → Prop) (H : Hp) (a : Addr) (o : HO) : Prop where
  z : Z a
  h : H a = some o
theorem At.keep {Z : Addr → Prop} {H H' : Hp} {a : Addr} {o : HO} (x : At Z H a o) (k : Keep Z H H') : At Z H' a o := ⟨x.z, k a o x.z x.h⟩
theorem At.imp {Z Z' : Addr → Prop} {H : Hp} {a : Addr} {o : HO} (x : At Z H a o) (k : ∀ b, Z b → H b ≠ none → Z' b) : At Z' H a o := ⟨k a x.z (by rw [x.h]; intro z; cases z), x.h⟩
/-! lists side by side -/
theorem Paired.imp {α β : Type} {F G : α → β → Prop} (f : ∀ a b, F a b → G a b) : ∀ {l : List α} {m : List β}, Paired F l m → Paired G l m
  | _, _, .nil => .nil
  | _, _, .cons r t => .cons (f _ _ r) (Paired.imp f t)
theorem Paired.len {α β : Type} {F : α → β → Prop} : ∀ {l : List α} {m : List β}, Paired F l m → l.length = m.length
  | _, _, .nil => rfl
  | _, _, .cons _ t => by rw [List.length_cons, List.length_cons, Paired.len t]
theorem Paired.get {α β : Type} {F : α → β → Prop} : ∀ {l : List α} {m : List β} {i : Nat} {b : β}, Paired F l m → m[i]? = some b → ∃ a, l[i]? = some a ∧ F a b
  | _, _, _, _, .nil, h => by simp at h
  | _, _, 0, _, .cons r _, h => by simp at h; subst h; exact ⟨_, rfl, r⟩
  | _, _, i + 1, b, .cons _ t, h => by
    obtain ⟨a, h1, h2⟩ := Paired.get (i := i) (b := b) t (by simpa using h)
    exact ⟨a, by simpa using h1, h2⟩
theorem Paired.get' {α β : Type} {F : α → β → Prop} {l : List α} {m : List β} {i : Nat} {a : α} (p : Paired F l m) (h : l[i]? = some a) : ∃ b, m[i]? = some b ∧ F a b := by
  have hl := (List.getElem?_eq_some_iff.mp h).1
  rw [Paired.len p] at hl
  obtain ⟨a', h1, h2⟩ := Paired.get p (List.getElem?_eq_getElem hl)
  rw [h] at h1; cases h1
  exact ⟨_, List.getElem?_eq_getElem hl, h2⟩
theorem Paired.of_get {α β : Type} {F : α → β → Prop} : ∀ {l : List α} {m : List β}, l.length = m.length → (∀ (i : Nat) (a : α) (b : β), l[i]? = some a → m[i]? = some b → F a b) → Paired F l m
  | [], [], _, _ => .nil
  | a :: l, b :: m, hl, h => .cons (h 0 a b rfl rfl) (Paired.of_get (by simpa using hl) fun i x y hx hy => h (i + 1) x y (by simpa using hx) (by simpa using hy))
  | [], _ :: _, hl, _ => by simp at hl  -- own
  | _ :: _, [], hl, _ => by simp at hl  -- own
/-! numbers, dots, layers, pictures -/
abbrev nV (n : Nat) : V := .int (n : Int)
abbrev bV (b : Bool) : V := .int (b.toNat : Int)
def nVs (l : List Nat) : List V := l.map nV
def bVs (l : List Bool) : List V := l.map bV
def DotAt (Z : Addr → Prop) (H : Hp) (v : V) (d : Dot) : Prop := ∃ a, v = .ref a ∧ At Z H a (.tup [nV d.1, nV d.2])
def DotsAt (Z : Addr → Prop) (H : Hp) (a : Addr) (ds : List Dot) : Prop := ∃ vs, At Z H a (.lst vs) ∧ Paired (DotAt Z H) vs ds
def layF (l : Layer) (q : Addr) : List (Str × V) := [("number", nV l.id), ("seen", bV l.seen), ("strong", nV l.strong), ("way", nV l.way), ("dots", .ref q)]
def LayAt (CL : Addr) (Z : Addr → Prop) (H : Hp) (v : V) (l : Layer) : Prop := ∃ a dx q, v = .ref a ∧ At Z H a (.ins CL dx (layF l q)) ∧ DotsAt Z H q l.dots
def LaysAt (CL : Addr) (Z : Addr → Prop) (H : Hp) (a : Addr) (ls : List Layer) : Prop := ∃ vs, At Z H a (.lst vs) ∧ Paired (LayAt CL Z H) vs ls
def picF (s : State) (q c : Addr) : List (Str × V) := [("w", nV s.w), ("h", nV s.h), ("layers", .ref q), ("worked", nV s.on), ("chosen", .ref c), ("made", nV s.next)]
def BitsAt (Z : Addr → Prop) (H : Hp) (a : Addr) (bs : List Bool) : Prop := At Z H a (.lst (bVs bs))
def NatsAt (Z : Addr → Prop) (H : Hp) (a : Addr) (ns : List Nat) : Prop := At Z H a (.lst (nVs ns))
def PicAt (CP CL : Addr) (Z : Addr → Prop) (H : Hp) (a : Addr) (s : State) : Prop := ∃ dx q c, At Z H a (.ins CP dx (picF s q c)) ∧ LaysAt CL Z H q s.layers ∧ BitsAt Z H c s.chosen
section
variable {Z Z' : Addr → Prop} {H H' : Hp} {CL CP a : Addr} {v : V}
theorem DotAt.keep {d : Dot} (k : Keep Z H H') (x : DotAt Z H v d) : DotAt Z H' v d := by obtain ⟨a, e, x⟩ := x; exact ⟨a, e, x.keep k⟩
theorem DotAt.imp {d : Dot} (k : ∀ b, Z b → H b ≠ none → Z' b) (x : DotAt Z H v d) : DotAt Z' H v d := by obtain ⟨a, e, x⟩ := x; exact ⟨a, e, x.imp k⟩
theorem DotsAt.keep {ds : List Dot} (k : Keep Z H H') (x : DotsAt Z H a ds) : DotsAt Z H' a ds := by obtain ⟨vs, e, x⟩ := x; exact ⟨vs, e.keep k, Paired.imp (fun _ _ => DotAt.keep k) x⟩
theorem DotsAt.imp {ds : List Dot} (k : ∀ b, Z b → H b ≠ none → Z' b) (x : DotsAt Z H a ds) : DotsAt Z' H a ds := by obtain ⟨vs, e, x⟩ := x; exact ⟨vs, e.imp k, Paired.imp (fun _ _ => DotAt.imp k) x⟩
theorem LayAt.keep {l : Layer} (k : Keep Z H H') (x : LayAt CL Z H v l) : LayAt CL Z H' v l := by obtain ⟨a, dx, q, e, x, y⟩ := x; exact ⟨a, dx, q, e, x.keep k, y.keep k⟩
theorem LayAt.imp {l : Layer} (k : ∀ b, Z b → H b ≠ none → Z' b) (x : LayAt CL Z H v l) : LayAt CL Z' H v l := by obtain ⟨a, dx, q, e, x, y⟩ := x; exact ⟨a, dx, q, e, x.imp k, y.imp k⟩
theorem LaysAt.keep {ls : List Layer} (k : Keep Z H H') (x : LaysAt CL Z H a ls) : LaysAt CL Z H' a ls := by obtain ⟨vs, e, x⟩ := x; exact ⟨vs, e.keep k, Paired.imp (fun _ _ => LayAt.keep k) x⟩
theorem LaysAt.imp {ls : List Layer} (k : ∀ b, Z b → H b ≠ none → Z' b) (x : LaysAt CL Z H a ls) : LaysAt CL Z' H a ls := by obtain ⟨vs, e, x⟩ := x; exact ⟨vs, e.imp k, Paired.imp (fun _ _ => LayAt.imp k) x⟩
theorem BitsAt.keep {bs : List Bool} (k : Keep Z H H') (x : BitsAt Z H a bs) : BitsAt Z H' a bs := At.keep x k
theorem BitsAt.imp {bs : List Bool} (k : ∀ b, Z b → H b ≠ none → Z' b) (x : BitsAt Z H a bs) : BitsAt Z' H a bs := At.imp x k
theorem NatsAt.keep {ns : List Nat} (k : Keep Z H H') (x : NatsAt Z H a ns) : NatsAt Z H' a ns := At.keep x k
theorem NatsAt.imp {ns : List Nat} (k : ∀ b, Z b → H b ≠ none → Z' b) (x : NatsAt Z H a ns) : NatsAt Z' H a ns := At.imp x k
theorem PicAt.keep {s : State} (k : Keep Z H H') (x : PicAt CP CL Z H a s) : PicAt CP CL Z H' a s := by obtain ⟨dx, q, c, x, y, z⟩ := x; exact ⟨dx, q, c, x.keep k, y.keep k, z.keep k⟩
theorem PicAt.imp {s : State} (k : ∀ b, Z b → H b ≠ none → Z' b) (x : PicAt CP CL Z H a s) : PicAt CP CL Z' H a s := by obtain ⟨dx, q, c, x, y, z⟩ := x; exact ⟨dx, q, c, x.imp k, y.imp k, z.imp k⟩
end
theorem but_out {Z : Addr → Prop} {H : Hp} {D : Addr} (h : H D = none) : ∀ b, Z b → H b ≠ none → But Z D b := fun b z n => ⟨z, fun e => n (e ▸ h)⟩
theorem but_in {Z : Addr → Prop} {H : Hp} {D : Addr} : ∀ b, But Z D b → H b ≠ none → Z b := fun _ z _ => z.1
/-! lookups -/
theorem lkH {k : Str} {v : V} {r : List (Str × V)} : List.lookup k ((k, v) :: r) = some v := by
  have e : (k == k) = true := beq_self_eq_true k
  simp only [List.lookup, e]
theorem lkP {k g : Str} {v : V} {r : List (Str × V)} (h : (k == g) = false) : List.lookup k ((g, v) :: r) = List.lookup k r := by
  simp only [List.lookup, h]
section
variable (l : Layer) (q c : Addr) (s : State)
theorem lf_number : (layF l q).lookup ("number" : Str) = some (nV l.id) := lkH
theorem lf_seen : (layF l q).lookup ("seen" : Str) = some (bV l.seen) := (lkP (by decide +kernel)).trans lkH
theorem lf_strong : (layF l q).lookup ("strong" : Str) = some (nV l.strong) := (lkP (by decide +kernel)).trans ((lkP (by decide +kernel)).trans lkH)
theorem lf_way : (layF l q).lookup ("way" : Str) = some (nV l.way) := (lkP (by decide +kernel)).trans ((lkP (by decide +kernel)).trans ((lkP (by decide +kernel)).trans lkH))
theorem lf_dots : (layF l q).lookup ("dots" : Str) = some (.ref q) := (lkP (by decide +kernel)).trans ((lkP (by decide +kernel)).trans ((lkP (by decide +kernel)).trans ((lkP (by decide +kernel)).trans lkH)))
theorem pf_w : (picF s q c).lookup ("w" : Str) = some (nV s.w) := lkH
theorem pf_h : (picF s q c).lookup ("h" : Str) = some (nV s.h) := (lkP (by decide +kernel)).trans lkH
theorem pf_layers : (picF s q c).lookup ("layers" : Str) = some (.ref q) := (lkP (by decide +kernel)).trans ((lkP (by decide +kernel)).trans lkH)
theorem pf_worked : (picF s q c).lookup ("worked" : Str) = some (nV s.on) := (lkP (by decide +kernel)).trans ((lkP (by decide +kernel)).trans ((lkP (by decide +kernel)).trans lkH))
theorem pf_chosen : (picF s q c).lookup ("chosen" : Str) = some (.ref c) := (lkP (by decide +kernel)).trans ((lkP (by decide +kernel)).trans ((lkP (by decide +kernel)).trans ((lkP (by decide +kernel)).trans lkH)))
theorem pf_made : (picF s q c).lookup ("made" : Str) = some (nV s.next) := (lkP (by decide +kernel)).trans ((lkP (by decide +kernel)).trans ((lkP (by decide +kernel)).trans ((lkP (by decide +kernel)).trans ((lkP (by decide +kernel)).trans lkH))))
end
/-! tests, sizes -/
theorem ifT {c : Bool} {A B : Prop} (hc : c = true) (h : A) : if c = true then A else B := by rw [if_pos hc]; exact h
theorem ifF {c : Bool} {A B : Prop} (hc : c = false) (h : B) : if c = true then A else B := by rw [hc, if_neg Bool.false_ne_true]; exact h
theorem ifB {c : Prop} [Decidable c] {A B : Prop} (h1 : c → A) (h2 : ¬ c → B) : if decide c = true then A else B := by
  by_cases h : c
  · exact ifT (decide_eq_true h) (h1 h)
  · exact ifF (decide_eq_false h) (h2 h)
theorem szl {n : Nat} (h : n ≤ 100000) : n ≤ sizeLine := Nat.le_trans h (by decide)
theorem szt {n : Nat} (h : n < 100000) : n < sizeLine := Nat.lt_of_lt_of_le h (by decide)
theorem At.sq {K : PySem.W.Frag} {Z : Addr → Prop} {H : Hp} {a : Addr} {xs : List V} (x : At Z H a (.lst xs)) : SqL K H a xs := SqL.of x.h
theorem At.st {K : PySem.W.Frag} {Z : Addr → Prop} {H : Hp} {a : Addr} {xs : List V} (x : At Z H a (.tup xs)) : SqT K H a xs := SqT.of x.h
/-- a field read -/
theorem rdF {K : PySem.W.Frag} {ta : TE} {σ : L2.St} {H : Hp} {Q : VK} {a C dx : Addr} {fs : List (Str × V)} {f : Str} {v : V} {i : Nat} (hs : σ[i]? = some (some (.ref a))) (h : H a = some (.ins C dx fs)) (c : Cls K C) (n : NoAttr K C f) (l : fs.lookup f = some v) (q : Q v H) :
    tFld K (tVar i) f σ H Q := ⟨.ref a, hs, a, C, dx, fs, v, rfl, h, c, n, l, q⟩
end LP
end
section
set_option maxHeartbeats 4100000
namespace LP
open PySem PySem.Spec PyProof.Rows L2
def topS (i : Nat) : Stmt := PySem.Challenge.pw_layerpaint_s01_answers.main.body.getD i (.Pass ⟨0, 0, 0, 0⟩)
/-- plain_layer -/
abbrev s_plain_layer : Stmt := topS 10
abbrev N_plain_layer : List Str := ["number", "dots"]
theorem sc_plain_layer : FnScope N_plain_layer ["number", "dots"] (defScope s_plain_layer) := ⟨rfl, rfl, rfl, by decide +kernel, rfl, by decide +kernel, by decide +kernel⟩

/-- first_picture -/
abbrev s_first_picture : Stmt := topS 11
abbrev N_first_picture : List Str := ["w", "h", "colours", "dots", "colour"]
theorem sc_first_picture : FnScope N_first_picture ["w", "h", "colours"] (defScope s_first_picture) := ⟨rfl, rfl, rfl, by decide +kernel, rfl, by decide +kernel, by decide +kernel⟩

/-- layer_place -/
abbrev s_layer_place : Stmt := topS 12
abbrev N_layer_place : List Str := ["picture", "number", "place", "layer"]
theorem sc_layer_place : FnScope N_layer_place ["picture", "number"] (defScope s_layer_place) := ⟨rfl, rfl, rfl, by decide +kernel, rfl, by decide +kernel, by decide +kernel⟩

/-- worked_place -/
abbrev s_worked_place : Stmt := topS 13
abbrev N_worked_place : List Str := ["picture"]
theorem sc_worked_place : FnScope N_worked_place ["picture"] (defScope s_worked_place) := ⟨rfl, rfl, rfl, by decide +kernel, rfl, by decide +kernel, by decide +kernel⟩

/-- worked_dots -/
abbrev s_worked_dots : Stmt := topS 14
abbrev N_worked_dots : List Str := ["picture"]
theorem sc_worked_dots : FnScope N_worked_dots ["picture"] (defScope s_worked_dots) := ⟨rfl, rfl, rfl, by decide +kernel, rfl, by decide +kernel, by decide +kernel⟩

/-- worked_colours -/
abbrev s_worked_colours : Stmt := topS 15
abbrev N_worked_colours : List Str := ["picture", "dot"]
theorem sc_worked_colours : FnScope N_worked_colours ["picture"] (defScope s_worked_colours) := ⟨rfl, rfl, rfl, by decide +kernel, rfl, by decide +kernel, by decide +kernel⟩

/-- may_change -/
abbrev s_may_change : Stmt := topS 16
abbrev N_may_change : List Str := ["picture"]
theorem sc_may_change : FnScope N_may_change ["picture"] (defScope s_may_change) := ⟨rfl, rfl, rfl, by decide +kernel, rfl, by decide +kernel, by decide +kernel⟩

/-- with_chosen -/
abbrev s_with_chosen : Stmt := topS 17
abbrev N_with_chosen : List Str := ["picture", "chosen"]
theorem sc_with_chosen : FnScope N_with_chosen ["picture", "chosen"] (defScope s_with_chosen) := ⟨rfl, rfl, rfl, by decide +kernel, rfl, by decide +kernel, by decide +kernel⟩

/-- with_layers -/
abbrev s_with_layers : Stmt := topS 18
abbrev N_with_layers : List Str := ["picture", "layers", "worked"]
theorem sc_with_layers : FnScope N_with_layers ["picture", "layers", "worked"] (defScope s_with_layers) := ⟨rfl, rfl, rfl, by decide +kernel, rfl, by decide +kernel, by decide +kernel⟩

/-- layer_with_dots -/
abbrev s_layer_with_dots : Stmt := topS 19
abbrev N_layer_with_dots : List Str := ["layer", "dots"]
theorem sc_layer_with_dots : FnScope N_layer_with_dots ["layer", "dots"] (defScope s_layer_with_dots) := ⟨rfl, rfl, rfl, by decide +kernel, rfl, by decide +kernel, by decide +kernel⟩

/-- with_worked_dots -/
abbrev s_with_worked_dots : Stmt := topS 20
abbrev N_with_worked_dots : List Str := ["picture", "dots", "place", "layers"]
theorem sc_with_worked_dots : FnScope N_with_worked_dots ["picture", "dots"] (defScope s_with_worked_dots) := ⟨rfl, rfl, rfl, by decide +kernel, rfl, by decide +kernel, by decide +kernel⟩

/-- joined_one -/
abbrev s_joined_one : Stmt := topS 22
abbrev N_joined_one : List Str := ["how", "chosen", "told"]
theorem sc_joined_one : FnScope N_joined_one ["how", "chosen", "told"] (defScope s_joined_one) := ⟨rfl, rfl, rfl, by decide +kernel, rfl, by decide +kernel, by decide +kernel⟩

/-- joined -/
abbrev s_joined : Stmt := topS 23
abbrev N_joined : List Str := ["how", "chosen", "told", "old", "new"]
theorem sc_joined : FnScope N_joined ["how", "chosen", "told"] (defScope s_joined) := ⟨rfl, rfl, rfl, by decide +kernel, rfl, by decide +kernel, by decide +kernel⟩

/-- rectangle -/
abbrev s_rectangle : Stmt := topS 24
abbrev N_rectangle : List Str := ["picture", "left", "top", "wide", "high", "right", "bottom", "told", "y", "x"]
theorem sc_rectangle : FnScope N_rectangle ["picture", "left", "top", "wide", "high"] (defScope s_rectangle) := ⟨rfl, rfl, rfl, by decide +kernel, rfl, by decide +kernel, by decide +kernel⟩

/-- steps -/
abbrev s_steps : Stmt := topS 25
abbrev N_steps : List Str := ["corners", "straight"]
theorem sc_steps : FnScope N_steps ["corners"] (defScope s_steps) := ⟨rfl, rfl, rfl, by decide +kernel, rfl, by decide +kernel, by decide +kernel⟩

/-- beside -/
abbrev s_beside : Stmt := topS 26
abbrev N_beside : List Str := ["picture", "place", "corners", "found", "step", "x", "y"]
theorem sc_beside : FnScope N_beside ["picture", "place", "corners"] (defScope s_beside) := ⟨rfl, rfl, rfl, by decide +kernel, rfl, by decide +kernel, by decide +kernel⟩

/-- flood -/
abbrev s_flood : Stmt := topS 27
abbrev N_flood : List Str := ["picture", "start", "tolerance", "kind", "corners", "colours", "reached", "waiting", "place", "measure", "other"]
theorem sc_flood : FnScope N_flood ["picture", "start", "tolerance", "kind", "corners"] (defScope s_flood) := ⟨rfl, rfl, rfl, by decide +kernel, rfl, by decide +kernel, by decide +kernel⟩

/-- is_near -/
abbrev s_is_near : Stmt := topS 28
abbrev N_is_near : List Str := ["w", "place", "marked", "r", "other", "across", "down"]
theorem sc_is_near : FnScope N_is_near ["w", "place", "marked", "r"] (defScope s_is_near) := ⟨rfl, rfl, rfl, by decide +kernel, rfl, by decide +kernel, by decide +kernel⟩

/-- grown -/
abbrev s_grown : Stmt := topS 29
abbrev N_grown : List Str := ["w", "chosen", "r", "marked", "place", "mark"]
theorem sc_grown : FnScope N_grown ["w", "chosen", "r"] (defScope s_grown) := ⟨rfl, rfl, rfl, by decide +kernel, rfl, by decide +kernel, by decide +kernel⟩

/-- shrunk -/
abbrev s_shrunk : Stmt := topS 30
abbrev N_shrunk : List Str := ["w", "chosen", "r"]
theorem sc_shrunk : FnScope N_shrunk ["w", "chosen", "r"] (defScope s_shrunk) := ⟨rfl, rfl, rfl, by decide +kernel, rfl, by decide +kernel, by decide +kernel⟩

/-- reversed_choice -/
abbrev s_reversed_choice : Stmt := topS 31
abbrev N_reversed_choice : List Str := ["chosen", "mark"]
theorem sc_reversed_choice : FnScope N_reversed_choice ["chosen"] (defScope s_reversed_choice) := ⟨rfl, rfl, rfl, by decide +kernel, rfl, by decide +kernel, by decide +kernel⟩

/-- with_joined -/
abbrev s_with_joined : Stmt := topS 35
abbrev N_with_joined : List Str := ["picture", "how", "told"]
theorem sc_with_joined : FnScope N_with_joined ["picture", "how", "told"] (defScope s_with_joined) := ⟨rfl, rfl, rfl, by decide +kernel, rfl, by decide +kernel, by decide +kernel⟩

/-- choose_rectangle -/
abbrev s_choose_rectangle : Stmt := topS 36
abbrev N_choose_rectangle : List Str := ["picture", "more"]
theorem sc_choose_rectangle : FnScope N_choose_rectangle ["picture", "more"] (defScope s_choose_rectangle) := ⟨rfl, rfl, rfl, by decide +kernel, rfl, by decide +kernel, by decide +kernel⟩

/-- choose_flood -/
abbrev s_choose_flood : Stmt := topS 37
abbrev N_choose_flood : List Str := ["picture", "more", "x", "y", "kind", "corners"]
theorem sc_choose_flood : FnScope N_choose_flood ["picture", "more"] (defScope s_choose_flood) := ⟨rfl, rfl, rfl, by decide +kernel, rfl, by decide +kernel, by decide +kernel⟩

/-- choose_all -/
abbrev s_choose_all : Stmt := topS 38
abbrev N_choose_all : List Str := ["picture", "more"]
theorem sc_choose_all : FnScope N_choose_all ["picture", "more"] (defScope s_choose_all) := ⟨rfl, rfl, rfl, by decide +kernel, rfl, by decide +kernel, by decide +kernel⟩

/-- grow_choice -/
abbrev s_grow_choice : Stmt := topS 39
abbrev N_grow_choice : List Str := ["picture", "more"]
theorem sc_grow_choice : FnScope N_grow_choice ["picture", "more"] (defScope s_grow_choice) := ⟨rfl, rfl, rfl, by decide +kernel, rfl, by decide +kernel, by decide +kernel⟩

/-- shrink_choice -/
abbrev s_shrink_choice : Stmt := topS 40
abbrev N_shrink_choice : List Str := ["picture", "more"]
theorem sc_shrink_choice : FnScope N_shrink_choice ["picture", "more"] (defScope s_shrink_choice) := ⟨rfl, rfl, rfl, by decide +kernel, rfl, by decide +kernel, by decide +kernel⟩

/-- nearest -/
abbrev s_nearest : Stmt := topS 42
abbrev N_nearest : List Str := ["part", "whole"]
theorem sc_nearest : FnScope N_nearest ["part", "whole"] (defScope s_nearest) := ⟨rfl, rfl, rfl, by decide +kernel, rfl, by decide +kernel, by decide +kernel⟩

/-- with_all_become -/
abbrev s_with_all_become : Stmt := topS 47
abbrev N_with_all_become : List Str := ["picture", "dot", "dots", "old", "free"]
theorem sc_with_all_become : FnScope N_with_all_become ["picture", "dot"] (defScope s_with_all_become) := ⟨rfl, rfl, rfl, by decide +kernel, rfl, by decide +kernel, by decide +kernel⟩

/-- fill -/
abbrev s_fill : Stmt := topS 48
abbrev N_fill : List Str := ["picture", "more"]
theorem sc_fill : FnScope N_fill ["picture", "more"] (defScope s_fill) := ⟨rfl, rfl, rfl, by decide +kernel, rfl, by decide +kernel, by decide +kernel⟩

/-- padded -/
abbrev s_padded : Stmt := topS 49
abbrev N_padded : List Str := ["line", "reach"]
theorem sc_padded : FnScope N_padded ["line", "reach"] (defScope s_padded) := ⟨rfl, rfl, rfl, by decide +kernel, rfl, by decide +kernel, by decide +kernel⟩

/-- padded_rows -/
abbrev s_padded_rows : Stmt := topS 50
abbrev N_padded_rows : List Str := ["picture", "reach", "colours", "rows", "start"]
theorem sc_padded_rows : FnScope N_padded_rows ["picture", "reach"] (defScope s_padded_rows) := ⟨rfl, rfl, rfl, by decide +kernel, rfl, by decide +kernel, by decide +kernel⟩

/-- window -/
abbrev s_window : Stmt := topS 51
abbrev N_window : List Str := ["rows", "x", "y", "reach", "wide", "found", "line"]
theorem sc_window : FnScope N_window ["rows", "x", "y", "reach"] (defScope s_window) := ⟨rfl, rfl, rfl, by decide +kernel, rfl, by decide +kernel, by decide +kernel⟩

/-- recoloured -/
abbrev s_recoloured : Stmt := topS 52
abbrev N_recoloured : List Str := ["picture", "reach", "taken", "rows", "free", "dots", "place", "dot"]
theorem sc_recoloured : FnScope N_recoloured ["picture", "reach", "taken"] (defScope s_recoloured) := ⟨rfl, rfl, rfl, by decide +kernel, rfl, by decide +kernel, by decide +kernel⟩

/-- mean -/
abbrev s_mean : Stmt := topS 53
abbrev N_mean : List Str := ["colours"]
theorem sc_mean : FnScope N_mean ["colours"] (defScope s_mean) := ⟨rfl, rfl, rfl, by decide +kernel, rfl, by decide +kernel, by decide +kernel⟩

/-- smooth -/
abbrev s_smooth : Stmt := topS 54
abbrev N_smooth : List Str := ["picture", "more"]
theorem sc_smooth : FnScope N_smooth ["picture", "more"] (defScope s_smooth) := ⟨rfl, rfl, rfl, by decide +kernel, rfl, by decide +kernel, by decide +kernel⟩

/-- rank -/
abbrev s_rank : Stmt := topS 55
abbrev N_rank : List Str := ["picture", "more", "part", "whole"]
theorem sc_rank : FnScope N_rank ["picture", "more"] (defScope s_rank) := ⟨rfl, rfl, rfl, by decide +kernel, rfl, by decide +kernel, by decide +kernel⟩

/-- place_moved -/
abbrev s_place_moved : Stmt := topS 56
abbrev N_place_moved : List Str := ["picture", "place", "across", "down", "x", "y"]
theorem sc_place_moved : FnScope N_place_moved ["picture", "place", "across", "down"] (defScope s_place_moved) := ⟨rfl, rfl, rfl, by decide +kernel, rfl, by decide +kernel, by decide +kernel⟩

/-- move -/
abbrev s_move : Stmt := topS 57
abbrev N_move : List Str := ["picture", "more", "before", "dots", "reached", "place", "free", "target", "moved"]
theorem sc_move : FnScope N_move ["picture", "more"] (defScope s_move) := ⟨rfl, rfl, rfl, by decide +kernel, rfl, by decide +kernel, by decide +kernel⟩

/-- cut -/
abbrev s_cut : Stmt := topS 58
abbrev N_cut : List Str := ["picture", "more"]
theorem sc_cut : FnScope N_cut ["picture", "more"] (defScope s_cut) := ⟨rfl, rfl, rfl, by decide +kernel, rfl, by decide +kernel, by decide +kernel⟩

/-- lifted -/
abbrev s_lifted : Stmt := topS 59
abbrev N_lifted : List Str := ["picture", "dots", "free", "place", "dot"]
theorem sc_lifted : FnScope N_lifted ["picture"] (defScope s_lifted) := ⟨rfl, rfl, rfl, by decide +kernel, rfl, by decide +kernel, by decide +kernel⟩

/-- met -/
abbrev s_met : Stmt := topS 61
abbrev N_met : List Str := ["way", "product", "cover", "colour", "below", "above"]
theorem sc_met : FnScope N_met ["way", "product", "cover", "colour"] (defScope s_met) := ⟨rfl, rfl, rfl, by decide +kernel, rfl, by decide +kernel, by decide +kernel⟩

/-- put_over -/
abbrev s_put_over : Stmt := topS 62
abbrev N_put_over : List Str := ["so_far", "layer", "place", "product", "cover", "whole", "colour", "upper", "bare", "upper_alone", "lower_alone", "both", "covered"]
theorem sc_put_over : FnScope N_put_over ["so_far", "layer", "place"] (defScope s_put_over) := ⟨rfl, rfl, rfl, by decide +kernel, rfl, by decide +kernel, by decide +kernel⟩

/-- rounded_dot -/
abbrev s_rounded_dot : Stmt := topS 63
abbrev N_rounded_dot : List Str := ["so_far", "cover"]
theorem sc_rounded_dot : FnScope N_rounded_dot ["so_far"] (defScope s_rounded_dot) := ⟨rfl, rfl, rfl, by decide +kernel, rfl, by decide +kernel, by decide +kernel⟩

/-- shown_dot -/
abbrev s_shown_dot : Stmt := topS 64
abbrev N_shown_dot : List Str := ["layers", "place", "so_far", "layer"]
theorem sc_shown_dot : FnScope N_shown_dot ["layers", "place"] (defScope s_shown_dot) := ⟨rfl, rfl, rfl, by decide +kernel, rfl, by decide +kernel, by decide +kernel⟩

/-- with_new_layer -/
abbrev s_with_new_layer : Stmt := topS 67
abbrev N_with_new_layer : List Str := ["picture", "dots", "number", "layers"]
theorem sc_with_new_layer : FnScope N_with_new_layer ["picture", "dots"] (defScope s_with_new_layer) := ⟨rfl, rfl, rfl, by decide +kernel, rfl, by decide +kernel, by decide +kernel⟩

/-- make_layer -/
abbrev s_make_layer : Stmt := topS 68
abbrev N_make_layer : List Str := ["picture", "more"]
theorem sc_make_layer : FnScope N_make_layer ["picture", "more"] (defScope s_make_layer) := ⟨rfl, rfl, rfl, by decide +kernel, rfl, by decide +kernel, by decide +kernel⟩

/-- drop_layer -/
abbrev s_drop_layer : Stmt := topS 69
abbrev N_drop_layer : List Str := ["picture", "more", "place", "layers", "worked"]
theorem sc_drop_layer : FnScope N_drop_layer ["picture", "more"] (defScope s_drop_layer) := ⟨rfl, rfl, rfl, by decide +kernel, rfl, by decide +kernel, by decide +kernel⟩

/-- raise_layer -/
abbrev s_raise_layer : Stmt := topS 70
abbrev N_raise_layer : List Str := ["picture", "more", "place", "layers", "layer"]
theorem sc_raise_layer : FnScope N_raise_layer ["picture", "more"] (defScope s_raise_layer) := ⟨rfl, rfl, rfl, by decide +kernel, rfl, by decide +kernel, by decide +kernel⟩

/-- set_layer -/
abbrev s_set_layer : Stmt := topS 71
abbrev N_set_layer : List Str := ["picture", "more", "seen", "strong", "way", "place", "layers"]
theorem sc_set_layer : FnScope N_set_layer ["picture", "more"] (defScope s_set_layer) := ⟨rfl, rfl, rfl, by decide +kernel, rfl, by decide +kernel, by decide +kernel⟩

/-- work_on_layer -/
abbrev s_work_on_layer : Stmt := topS 72
abbrev N_work_on_layer : List Str := ["picture", "more"]
theorem sc_work_on_layer : FnScope N_work_on_layer ["picture", "more"] (defScope s_work_on_layer) := ⟨rfl, rfl, rfl, by decide +kernel, rfl, by decide +kernel, by decide +kernel⟩

/-- paste_layer -/
abbrev s_paste_layer : Stmt := topS 73
abbrev N_paste_layer : List Str := ["picture", "aside", "dots", "x", "y", "dot"]
theorem sc_paste_layer : FnScope N_paste_layer ["picture", "aside"] (defScope s_paste_layer) := ⟨rfl, rfl, rfl, by decide +kernel, rfl, by decide +kernel, by decide +kernel⟩

/-- put_together -/
abbrev s_put_together : Stmt := topS 74
abbrev N_put_together : List Str := ["picture", "more", "place", "both", "dots", "lower", "layers", "pixel"]
theorem sc_put_together : FnScope N_put_together ["picture", "more"] (defScope s_put_together) := ⟨rfl, rfl, rfl, by decide +kernel, rfl, by decide +kernel, by decide +kernel⟩

/-- rearranged -/
abbrev s_rearranged : Stmt := topS 76
abbrev N_rearranged : List Str := ["picture", "w", "h", "sources", "layers", "layer", "chosen", "place"]
theorem sc_rearranged : FnScope N_rearranged ["picture", "w", "h", "sources"] (defScope s_rearranged) := ⟨rfl, rfl, rfl, by decide +kernel, rfl, by decide +kernel, by decide +kernel⟩

/-- crop -/
abbrev s_crop : Stmt := topS 77
abbrev N_crop : List Str := ["picture", "more", "marked", "columns", "left", "right", "top", "bottom", "sources", "y", "place", "mark", "x"]
theorem sc_crop : FnScope N_crop ["picture", "more"] (defScope s_crop) := ⟨rfl, rfl, rfl, by decide +kernel, rfl, by decide +kernel, by decide +kernel⟩

/-- source -/
abbrev s_source : Stmt := topS 78
abbrev N_source : List Str := ["picture", "k", "x", "y"]
theorem sc_source : FnScope N_source ["picture", "k", "x", "y"] (defScope s_source) := ⟨rfl, rfl, rfl, by decide +kernel, rfl, by decide +kernel, by decide +kernel⟩

/-- turn -/
abbrev s_turn : Stmt := topS 79
abbrev N_turn : List Str := ["picture", "more", "k", "w", "h", "sources", "y", "x"]
theorem sc_turn : FnScope N_turn ["picture", "more"] (defScope s_turn) := ⟨rfl, rfl, rfl, by decide +kernel, rfl, by decide +kernel, by decide +kernel⟩

/-- is_told_so -/
abbrev s_is_told_so : Stmt := topS 84
abbrev N_is_told_so : List Str := ["deed", "more"]
theorem sc_is_told_so : FnScope N_is_told_so ["deed", "more"] (defScope s_is_told_so) := ⟨rfl, rfl, rfl, by decide +kernel, rfl, by decide +kernel, by decide +kernel⟩

/-- deeds_on_picture -/
abbrev s_deeds_on_picture : Stmt := topS 85
abbrev N_deeds_on_picture : List Str := []
theorem sc_deeds_on_picture : FnScope N_deeds_on_picture [] (defScope s_deeds_on_picture) := ⟨rfl, rfl, rfl, by decide +kernel, rfl, by decide +kernel, by decide +kernel⟩

/-- picture_after -/
abbrev s_picture_after : Stmt := topS 86
abbrev N_picture_after : List Str := ["picture", "aside", "deed", "more", "doing"]
theorem sc_picture_after : FnScope N_picture_after ["picture", "aside", "deed", "more"] (defScope s_picture_after) := ⟨rfl, rfl, rfl, by decide +kernel, rfl, by decide +kernel, by decide +kernel⟩

/-- whole_size -/
abbrev s_whole_size : Stmt := topS 87
abbrev N_whole_size : List Str := ["picture"]
theorem sc_whole_size : FnScope N_whole_size ["picture"] (defScope s_whole_size) := ⟨rfl, rfl, rfl, by decide +kernel, rfl, by decide +kernel, by decide +kernel⟩

/-- differing -/
abbrev s_differing : Stmt := topS 88
abbrev N_differing : List Str := ["before", "after", "old", "new"]
theorem sc_differing : FnScope N_differing ["before", "after"] (defScope s_differing) := ⟨rfl, rfl, rfl, by decide +kernel, rfl, by decide +kernel, by decide +kernel⟩

/-- dots_by_number -/
abbrev s_dots_by_number : Stmt := topS 89
abbrev N_dots_by_number : List Str := ["picture", "layer"]
theorem sc_dots_by_number : FnScope N_dots_by_number ["picture"] (defScope s_dots_by_number) := ⟨rfl, rfl, rfl, by decide +kernel, rfl, by decide +kernel, by decide +kernel⟩

/-- dots_changed -/
abbrev s_dots_changed : Stmt := topS 90
abbrev N_dots_changed : List Str := ["before", "after", "old", "new", "changed", "number"]
theorem sc_dots_changed : FnScope N_dots_changed ["before", "after"] (defScope s_dots_changed) := ⟨rfl, rfl, rfl, by decide +kernel, rfl, by decide +kernel, by decide +kernel⟩

/-- cost -/
abbrev s_cost : Stmt := topS 91
abbrev N_cost : List Str := ["before", "after"]
theorem sc_cost : FnScope N_cost ["before", "after"] (defScope s_cost) := ⟨rfl, rfl, rfl, by decide +kernel, rfl, by decide +kernel, by decide +kernel⟩

/-- answers -/
abbrev s_answers : Stmt := topS 102
abbrev N_answers : List Str := ["calls", "desk", "told", "place", "end", "answered"]
theorem sc_answers : FnScope N_answers ["calls"] (defScope s_answers) := ⟨rfl, rfl, rfl, by decide +kernel, rfl, by decide +kernel, by decide +kernel⟩

/-- call_end -/
abbrev s_call_end : Stmt := topS 103
abbrev N_call_end : List Str := ["calls", "place", "end"]
theorem sc_call_end : FnScope N_call_end ["calls", "place"] (defScope s_call_end) := ⟨rfl, rfl, rfl, by decide +kernel, rfl, by decide +kernel, by decide +kernel⟩

/-- answer_to -/
abbrev s_answer_to : Stmt := topS 104
abbrev N_answer_to : List Str := ["desk", "call", "e"]
theorem sc_answer_to : FnScope N_answer_to ["desk", "call"] (defScope s_answer_to) := ⟨rfl, rfl, rfl, by decide +kernel, rfl, by decide +kernel, by decide +kernel⟩

/-- call_on -/
abbrev s_call_on : Stmt := topS 105
abbrev N_call_on : List Str := ["desk", "call", "number"]
theorem sc_call_on : FnScope N_call_on ["desk", "call"] (defScope s_call_on) := ⟨rfl, rfl, rfl, by decide +kernel, rfl, by decide +kernel, by decide +kernel⟩

/-- row_call -/
abbrev s_row_call : Stmt := topS 106
abbrev N_row_call : List Str := ["desk", "number", "y"]
theorem sc_row_call : FnScope N_row_call ["desk", "number", "y"] (defScope s_row_call) := ⟨rfl, rfl, rfl, by decide +kernel, rfl, by decide +kernel, by decide +kernel⟩

/-- bare_call -/
abbrev s_bare_call : Stmt := topS 107
abbrev N_bare_call : List Str := ["desk", "number"]
theorem sc_bare_call : FnScope N_bare_call ["desk", "number"] (defScope s_bare_call) := ⟨rfl, rfl, rfl, by decide +kernel, rfl, by decide +kernel, by decide +kernel⟩

/-- Layer.__init__ -/
abbrev s_Layer_init : Stmt := inClass (topS 8) 0
abbrev N_Layer_init : List Str := ["self", "number", "seen", "strong", "way", "dots"]
theorem sc_Layer_init : FnScope N_Layer_init ["self", "number", "seen", "strong", "way", "dots"] (defScope s_Layer_init) := ⟨rfl, rfl, rfl, by decide +kernel, rfl, by decide +kernel, by decide +kernel⟩

/-- Picture.__init__ -/
abbrev s_Picture_init : Stmt := inClass (topS 9) 0
abbrev N_Picture_init : List Str := ["self", "w", "h", "layers", "worked", "chosen", "made"]
theorem sc_Picture_init : FnScope N_Picture_init ["self", "w", "h", "layers", "worked", "chosen", "made"] (defScope s_Picture_init) := ⟨rfl, rfl, rfl, by decide +kernel, rfl, by decide +kernel, by decide +kernel⟩

/-- History.__init__ -/
abbrev s_History_init : Stmt := inClass (topS 93) 0
abbrev N_History_init : List Str := ["self", "budget"]
theorem sc_History_init : FnScope N_History_init ["self", "budget"] (defScope s_History_init) := ⟨rfl, rfl, rfl, by decide +kernel, rfl, by decide +kernel, by decide +kernel⟩

/-- History.deed_done -/
abbrev s_History_deed_done : Stmt := inClass (topS 93) 1
abbrev N_History_deed_done : List Str := ["self", "picture", "price"]
theorem sc_History_deed_done : FnScope N_History_deed_done ["self", "picture", "price"] (defScope s_History_deed_done) := ⟨rfl, rfl, rfl, by decide +kernel, rfl, by decide +kernel, by decide +kernel⟩

/-- History.keep -/
abbrev s_History_keep : Stmt := inClass (topS 93) 2
abbrev N_History_keep : List Str := ["self", "picture", "price", "first"]
theorem sc_History_keep : FnScope N_History_keep ["self", "picture", "price"] (defScope s_History_keep) := ⟨rfl, rfl, rfl, by decide +kernel, rfl, by decide +kernel, by decide +kernel⟩

/-- History.step_back -/
abbrev s_History_step_back : Stmt := inClass (topS 93) 3
abbrev N_History_step_back : List Str := ["self", "picture", "state"]
theorem sc_History_step_back : FnScope N_History_step_back ["self", "picture"] (defScope s_History_step_back) := ⟨rfl, rfl, rfl, by decide +kernel, rfl, by decide +kernel, by decide +kernel⟩

/-- History.step_on -/
abbrev s_History_step_on : Stmt := inClass (topS 93) 4
abbrev N_History_step_on : List Str := ["self", "picture", "state"]
theorem sc_History_step_on : FnScope N_History_step_on ["self", "picture"] (defScope s_History_step_on) := ⟨rfl, rfl, rfl, by decide +kernel, rfl, by decide +kernel, by decide +kernel⟩

/-- History.counts -/
abbrev s_History_counts : Stmt := inClass (topS 93) 5
abbrev N_History_counts : List Str := ["self"]
theorem sc_History_counts : FnScope N_History_counts ["self"] (defScope s_History_counts) := ⟨rfl, rfl, rfl, by decide +kernel, rfl, by decide +kernel, by decide +kernel⟩

/-- Desk.__init__ -/
abbrev s_Desk_init : Stmt := inClass (topS 98) 0
abbrev N_Desk_init : List Str := ["self"]
theorem sc_Desk_init : FnScope N_Desk_init ["self"] (defScope s_Desk_init) := ⟨rfl, rfl, rfl, by decide +kernel, rfl, by decide +kernel, by decide +kernel⟩

/-- Desk.begin -/
abbrev s_Desk_begin : Stmt := inClass (topS 98) 1
abbrev N_Desk_begin : List Str := ["self", "w", "h", "budget", "colours"]
theorem sc_Desk_begin : FnScope N_Desk_begin ["self", "w", "h", "budget", "colours"] (defScope s_Desk_begin) := ⟨rfl, rfl, rfl, by decide +kernel, rfl, by decide +kernel, by decide +kernel⟩

/-- Desk.act -/
abbrev s_Desk_act : Stmt := inClass (topS 98) 2
abbrev N_Desk_act : List Str := ["self", "deed", "more", "price"]
theorem sc_Desk_act : FnScope N_Desk_act ["self", "deed", "more"] (defScope s_Desk_act) := ⟨rfl, rfl, rfl, by decide +kernel, rfl, by decide +kernel, by decide +kernel⟩

/-- Desk.do_deed -/
abbrev s_Desk_do_deed : Stmt := inClass (topS 98) 3
abbrev N_Desk_do_deed : List Str := ["self", "deed", "more", "before", "after", "price"]
theorem sc_Desk_do_deed : FnScope N_Desk_do_deed ["self", "deed", "more"] (defScope s_Desk_do_deed) := ⟨rfl, rfl, rfl, by decide +kernel, rfl, by decide +kernel, by decide +kernel⟩

/-- Desk.undo -/
abbrev s_Desk_undo : Stmt := inClass (topS 98) 4
abbrev N_Desk_undo : List Str := ["self"]
theorem sc_Desk_undo : FnScope N_Desk_undo ["self"] (defScope s_Desk_undo) := ⟨rfl, rfl, rfl, by decide +kernel, rfl, by decide +kernel, by decide +kernel⟩

/-- Desk.redo -/
abbrev s_Desk_redo : Stmt := inClass (topS 98) 5
abbrev N_Desk_redo : List Str := ["self"]
theorem sc_Desk_redo : FnScope N_Desk_redo ["self"] (defScope s_Desk_redo) := ⟨rfl, rfl, rfl, by decide +kernel, rfl, by decide +kernel, by decide +kernel⟩

/-- Desk.places -/
abbrev s_Desk_places : Stmt := inClass (topS 98) 6
abbrev N_Desk_places : List Str := ["self", "y"]
theorem sc_Desk_places : FnScope N_Desk_places ["self", "y"] (defScope s_Desk_places) := ⟨rfl, rfl, rfl, by decide +kernel, rfl, by decide +kernel, by decide +kernel⟩

/-- Desk.row -/
abbrev s_Desk_row : Stmt := inClass (topS 98) 7
abbrev N_Desk_row : List Str := ["self", "y", "answer", "place"]
theorem sc_Desk_row : FnScope N_Desk_row ["self", "y"] (defScope s_Desk_row) := ⟨rfl, rfl, rfl, by decide +kernel, rfl, by decide +kernel, by decide +kernel⟩

/-- Desk.own -/
abbrev s_Desk_own : Stmt := inClass (topS 98) 8
abbrev N_Desk_own : List Str := ["self", "y", "dots", "answer", "place"]
theorem sc_Desk_own : FnScope N_Desk_own ["self", "y"] (defScope s_Desk_own) := ⟨rfl, rfl, rfl, by decide +kernel, rfl, by decide +kernel, by decide +kernel⟩

/-- Desk.chosen_row -/
abbrev s_Desk_chosen_row : Stmt := inClass (topS 98) 9
abbrev N_Desk_chosen_row : List Str := ["self", "y", "place"]
theorem sc_Desk_chosen_row : FnScope N_Desk_chosen_row ["self", "y"] (defScope s_Desk_chosen_row) := ⟨rfl, rfl, rfl, by decide +kernel, rfl, by decide +kernel, by decide +kernel⟩

/-- Desk.listed -/
abbrev s_Desk_listed : Stmt := inClass (topS 98) 10
abbrev N_Desk_listed : List Str := ["self", "picture", "answer", "layer"]
theorem sc_Desk_listed : FnScope N_Desk_listed ["self"] (defScope s_Desk_listed) := ⟨rfl, rfl, rfl, by decide +kernel, rfl, by decide +kernel, by decide +kernel⟩

/-- Desk.history_told -/
abbrev s_Desk_history_told : Stmt := inClass (topS 98) 11
abbrev N_Desk_history_told : List Str := ["self", "past"]
theorem sc_Desk_history_told : FnScope N_Desk_history_told ["self"] (defScope s_Desk_history_told) := ⟨rfl, rfl, rfl, by decide +kernel, rfl, by decide +kernel, by decide +kernel⟩

/-- Desk.copy_dots -/
abbrev s_Desk_copy_dots : Stmt := inClass (topS 98) 12
abbrev N_Desk_copy_dots : List Str := ["self"]
theorem sc_Desk_copy_dots : FnScope N_Desk_copy_dots ["self"] (defScope s_Desk_copy_dots) := ⟨rfl, rfl, rfl, by decide +kernel, rfl, by decide +kernel, by decide +kernel⟩

/-- Desk.start_recording -/
abbrev s_Desk_start_recording : Stmt := inClass (topS 98) 13
abbrev N_Desk_start_recording : List Str := ["self"]
theorem sc_Desk_start_recording : FnScope N_Desk_start_recording ["self"] (defScope s_Desk_start_recording) := ⟨rfl, rfl, rfl, by decide +kernel, rfl, by decide +kernel, by decide +kernel⟩

/-- Desk.stop_recording -/
abbrev s_Desk_stop_recording : Stmt := inClass (topS 98) 14
abbrev N_Desk_stop_recording : List Str := ["self"]
theorem sc_Desk_stop_recording : FnScope N_Desk_stop_recording ["self"] (defScope s_Desk_stop_recording) := ⟨rfl, rfl, rfl, by decide +kernel, rfl, by decide +kernel, by decide +kernel⟩

/-- Desk.play_recorded -/
abbrev s_Desk_play_recorded : Stmt := inClass (topS 98) 15
abbrev N_Desk_play_recorded : List Str := ["self", "many", "deed", "more"]
theorem sc_Desk_play_recorded : FnScope N_Desk_play_recorded ["self"] (defScope s_Desk_play_recorded) := ⟨rfl, rfl, rfl, by decide +kernel, rfl, by decide +kernel, by decide +kernel⟩

/-- Desk.try_deed -/
abbrev s_Desk_try_deed : Stmt := inClass (topS 98) 16
abbrev N_Desk_try_deed : List Str := ["self", "deed", "more"]
theorem sc_Desk_try_deed : FnScope N_Desk_try_deed ["self", "deed", "more"] (defScope s_Desk_try_deed) := ⟨rfl, rfl, rfl, by decide +kernel, rfl, by decide +kernel, by decide +kernel⟩

/-- what the top has written -/
structure Txt (K : PySem.W.Frag) (mg : Str → Option Value) where
  nb : ∀ x : Str, x ∈ ([("len" : Str), ("range" : Str), ("min" : Str), ("max" : Str), ("abs" : Str), ("sum" : Str), ("any" : Str), ("sorted" : Str), ("list" : Str), ("dict" : Str), ("zip" : Str), ("enumerate" : Str)] : List Str) → mg x = none
  Layer : ClsAt K mg "Layer" ([("number" : Str), ("seen" : Str), ("strong" : Str), ("way" : Str), ("dots" : Str)] : List Str) s_Layer_init "Layer.__init__" ["self", "number", "seen", "strong", "way", "dots"]
  Picture : ClsAt K mg "Picture" ([("w" : Str), ("h" : Str), ("layers" : Str), ("worked" : Str), ("chosen" : Str), ("made" : Str)] : List Str) s_Picture_init "Picture.__init__" ["self", "w", "h", "layers", "worked", "chosen", "made"]
  History : ClsAt K mg "History" ([("budget" : Str), ("kept" : Str), ("spent" : Str), ("undone" : Str)] : List Str) s_History_init "History.__init__" ["self", "budget"]
  Desk : ClsAt K mg "Desk" ([("picture" : Str), ("history" : Str), ("aside" : Str), ("recording" : Str), ("recorded" : Str)] : List Str) s_Desk_init "Desk.__init__" ["self"]
  R : Addr
  fR : Addr
  C_CannotBe : Addr
  i_CannotBe : Addr
  CannotBe : PySem.Rf.RefTxt K mg "CannotBe" "CannotBe.__init__" 1 C_CannotBe i_CannotBe R fR
  C_NoSuchLayer : Addr
  i_NoSuchLayer : Addr
  NoSuchLayer : PySem.Rf.RefTxt K mg "NoSuchLayer" "NoSuchLayer.__init__" 2 C_NoSuchLayer i_NoSuchLayer R fR
  C_NotNow : Addr
  i_NotNow : Addr
  NotNow : PySem.Rf.RefTxt K mg "NotNow" "NotNow.__init__" 6 C_NotNow i_NotNow R fR
  C_NotSoTold : Addr
  i_NotSoTold : Addr
  NotSoTold : PySem.Rf.RefTxt K mg "NotSoTold" "NotSoTold.__init__" 3 C_NotSoTold i_NotSoTold R fR
  C_TooMany : Addr
  i_TooMany : Addr
  TooMany : PySem.Rf.RefTxt K mg "TooMany" "TooMany.__init__" 5 C_TooMany i_TooMany R fR
  plain_layer : DefAt K mg "plain_layer" s_plain_layer ["number", "dots"]
  first_picture : DefAt K mg "first_picture" s_first_picture ["w", "h", "colours"]
  layer_place : DefAt K mg "layer_place" s_layer_place ["picture", "number"]
  worked_place : DefAt K mg "worked_place" s_worked_place ["picture"]
  worked_dots : DefAt K mg "worked_dots" s_worked_dots ["picture"]
  worked_colours : DefAt K mg "worked_colours" s_worked_colours ["picture"]
  may_change : DefAt K mg "may_change" s_may_change ["picture"]
  with_chosen : DefAt K mg "with_chosen" s_with_chosen ["picture", "chosen"]
  with_layers : DefAt K mg "with_layers" s_with_layers ["picture", "layers", "worked"]
  layer_with_dots : DefAt K mg "layer_with_dots" s_layer_with_dots ["layer", "dots"]
  with_worked_dots : DefAt K mg "with_worked_dots" s_with_worked_dots ["picture", "dots"]
  joined_one : DefAt K mg "joined_one" s_joined_one ["how", "chosen", "told"]
  joined : DefAt K mg "joined" s_joined ["how", "chosen", "told"]
  rectangle : DefAt K mg "rectangle" s_rectangle ["picture", "left", "top", "wide", "high"]
  steps : DefAt K mg "steps" s_steps ["corners"]
  beside : DefAt K mg "beside" s_beside ["picture", "place", "corners"]
  flood : DefAt K mg "flood" s_flood ["picture", "start", "tolerance", "kind", "corners"]
  is_near : DefAt K mg "is_near" s_is_near ["w", "place", "marked", "r"]
  grown : DefAt K mg "grown" s_grown ["w", "chosen", "r"]
  shrunk : DefAt K mg "shrunk" s_shrunk ["w", "chosen", "r"]
  reversed_choice : DefAt K mg "reversed_choice" s_reversed_choice ["chosen"]
  with_joined : DefAt K mg "with_joined" s_with_joined ["picture", "how", "told"]
  choose_rectangle : DefAt K mg "choose_rectangle" s_choose_rectangle ["picture", "more"]
  choose_flood : DefAt K mg "choose_flood" s_choose_flood ["picture", "more"]
  choose_all : DefAt K mg "choose_all" s_choose_all ["picture", "more"]
  grow_choice : DefAt K mg "grow_choice" s_grow_choice ["picture", "more"]
  shrink_choice : DefAt K mg "shrink_choice" s_shrink_choice ["picture", "more"]
  nearest : DefAt K mg "nearest" s_nearest ["part", "whole"]
  with_all_become : DefAt K mg "with_all_become" s_with_all_become ["picture", "dot"]
  fill : DefAt K mg "fill" s_fill ["picture", "more"]
  padded : DefAt K mg "padded" s_padded ["line", "reach"]
  padded_rows : DefAt K mg "padded_rows" s_padded_rows ["picture", "reach"]
  window : DefAt K mg "window" s_window ["rows", "x", "y", "reach"]
  recoloured : DefAt K mg "recoloured" s_recoloured ["picture", "reach", "taken"]
  mean : DefAt K mg "mean" s_mean ["colours"]
  smooth : DefAt K mg "smooth" s_smooth ["picture", "more"]
  rank : DefAt K mg "rank" s_rank ["picture", "more"]
  place_moved : DefAt K mg "place_moved" s_place_moved ["picture", "place", "across", "down"]
  move : DefAt K mg "move" s_move ["picture", "more"]
  cut : DefAt K mg "cut" s_cut ["picture", "more"]
  lifted : DefAt K mg "lifted" s_lifted ["picture"]
  met : DefAt K mg "met" s_met ["way", "product", "cover", "colour"]
  put_over : DefAt K mg "put_over" s_put_over ["so_far", "layer", "place"]
  rounded_dot : DefAt K mg "rounded_dot" s_rounded_dot ["so_far"]
  shown_dot : DefAt K mg "shown_dot" s_shown_dot ["layers", "place"]
  with_new_layer : DefAt K mg "with_new_layer" s_with_new_layer ["picture", "dots"]
  make_layer : DefAt K mg "make_layer" s_make_layer ["picture", "more"]
  drop_layer : DefAt K mg "drop_layer" s_drop_layer ["picture", "more"]
  raise_layer : DefAt K mg "raise_layer" s_raise_layer ["picture", "more"]
  set_layer : DefAt K mg "set_layer" s_set_layer ["picture", "more"]
  work_on_layer : DefAt K mg "work_on_layer" s_work_on_layer ["picture", "more"]
  paste_layer : DefAt K mg "paste_layer" s_paste_layer ["picture", "aside"]
  put_together : DefAt K mg "put_together" s_put_together ["picture", "more"]
  rearranged : DefAt K mg "rearranged" s_rearranged ["picture", "w", "h", "sources"]
  crop : DefAt K mg "crop" s_crop ["picture", "more"]
  source : DefAt K mg "source" s_source ["picture", "k", "x", "y"]
  turn : DefAt K mg "turn" s_turn ["picture", "more"]
  is_told_so : DefAt K mg "is_told_so" s_is_told_so ["deed", "more"]
  deeds_on_picture : DefAt K mg "deeds_on_picture" s_deeds_on_picture []
  picture_after : DefAt K mg "picture_after" s_picture_after ["picture", "aside", "deed", "more"]
  whole_size : DefAt K mg "whole_size" s_whole_size ["picture"]
  differing : DefAt K mg "differing" s_differing ["before", "after"]
  dots_by_number : DefAt K mg "dots_by_number" s_dots_by_number ["picture"]
  dots_changed : DefAt K mg "dots_changed" s_dots_changed ["before", "after"]
  cost : DefAt K mg "cost" s_cost ["before", "after"]
  answers : DefAt K mg "answers" s_answers ["calls"]
  call_end : DefAt K mg "call_end" s_call_end ["calls", "place"]
  answer_to : DefAt K mg "answer_to" s_answer_to ["desk", "call"]
  call_on : DefAt K mg "call_on" s_call_on ["desk", "call"]
  row_call : DefAt K mg "row_call" s_row_call ["desk", "number", "y"]
  bare_call : DefAt K mg "bare_call" s_bare_call ["desk", "number"]
  History_deed_done : MethAt K History.a "deed_done" "History.deed_done" s_History_deed_done ["self", "picture", "price"]
  History_keep : MethAt K History.a "keep" "History.keep" s_History_keep ["self", "picture", "price"]
  History_step_back : MethAt K History.a "step_back" "History.step_back" s_History_step_back ["self", "picture"]
  History_step_on : MethAt K History.a "step_on" "History.step_on" s_History_step_on ["self", "picture"]
  History_counts : MethAt K History.a "counts" "History.counts" s_History_counts ["self"]
  Desk_begin : MethAt K Desk.a "begin" "Desk.begin" s_Desk_begin ["self", "w", "h", "budget", "colours"]
  Desk_act : MethAt K Desk.a "act" "Desk.act" s_Desk_act ["self", "deed", "more"]
  Desk_do_deed : MethAt K Desk.a "do_deed" "Desk.do_deed" s_Desk_do_deed ["self", "deed", "more"]
  Desk_undo : MethAt K Desk.a "undo" "Desk.undo" s_Desk_undo ["self"]
  Desk_redo : MethAt K Desk.a "redo" "Desk.redo" s_Desk_redo ["self"]
  Desk_places : MethAt K Desk.a "places" "Desk.places" s_Desk_places ["self", "y"]
  Desk_row : MethAt K Desk.a "row" "Desk.row" s_Desk_row ["self", "y"]
  Desk_own : MethAt K Desk.a "own" "Desk.own" s_Desk_own ["self", "y"]
  Desk_chosen_row : MethAt K Desk.a "chosen_row" "Desk.chosen_row" s_Desk_chosen_row ["self", "y"]
  Desk_listed : MethAt K Desk.a "listed" "Desk.listed" s_Desk_listed ["self"]
  Desk_history_told : MethAt K Desk.a "history_told" "Desk.history_told" s_Desk_history_told ["self"]
  Desk_copy_dots : MethAt K Desk.a "copy_dots" "Desk.copy_dots" s_Desk_copy_dots ["self"]
  Desk_start_recording : MethAt K Desk.a "start_recording" "Desk.start_recording" s_Desk_start_recording ["self"]
  Desk_stop_recording : MethAt K Desk.a "stop_recording" "Desk.stop_recording" s_Desk_stop_recording ["self"]
  Desk_play_recorded : MethAt K Desk.a "play_recorded" "Desk.play_recorded" s_Desk_play_recorded ["self"]
  Desk_try_deed : MethAt K Desk.a "try_deed" "Desk.try_deed" s_Desk_try_deed ["self", "deed", "more"]
  LAST_HOW : ConstI mg "LAST_HOW" 4
  MOST_REACH : ConstI mg "MOST_REACH" 1000
  FURTHEST_WINDOW : ConstI mg "FURTHEST_WINDOW" 4
  NO_MOVE : ConstI mg "NO_MOVE" 16
  MOST_MOVE : ConstI mg "MOST_MOVE" 32
  MOST_LAYERS : ConstI mg "MOST_LAYERS" 5
  TOLD : ConstT K mg "TOLD" [0, 1, 1, 4, 1, 5, 6, 1, 1, 1, 2, 1, 3, 2, 0, 0, 0, 0, 1]
  CUT : ConstI mg "CUT" 14
  PASTE : ConstI mg "PASTE" 15
  LONGEST_SIDE : ConstI mg "LONGEST_SIDE" 12
  MOST_BUDGET : ConstI mg "MOST_BUDGET" 1000000
  MOST_RECORDED : ConstI mg "MOST_RECORDED" 40
  PLAIN : ConstD K mg "PLAIN" [(1, 3), (2, 1), (3, 0), (4, 0), (5, 1), (6, 1), (7, 1), (8, 0), (9, 0), (10, 0), (11, 0), (12, 0), (13, 0)]
  WITH_LIST : ConstT K mg "WITH_LIST" [1, 2]
end LP
end
section
set_option maxHeartbeats 4100000
namespace LP
open PySem PySem.Spec PyProof.Rows L2 Evl
open Sq50 (State Layer Dot)
theorem putN {f g : Str} {v x : V} {r : List (Str × V)} (h : ¬ g = f) : putF f v ((g, x) :: r) = (g, x) :: putF f v r := if_neg h
theorem putE {f : Str} {v : V} : putF f v [] = [(f, v)] := rfl
theorem putL (f : Str) (v : V) : ∀ fs : List (Str × V), (putF f v fs).length ≤ fs.length + 1
  | [] => Nat.le_refl _
  | (g, x) :: r => by
    unfold putF
    split
    · exact Nat.le_succ _
    · exact Nat.succ_le_succ (putL f v r)
theorem put0 {n : Nat} (h : n = 0) : n ≤ 0 := Nat.le_of_eq h
theorem lay_put (l : Layer) (q : Addr) : putF "dots" (.ref q) (putF "way" (nV l.way) (putF "strong" (nV l.strong) (putF "seen" (bV l.seen) (putF "number" (nV l.id) [])))) = layF l q := by
  repeat (first | rw [putE] | rw [putN (by decide +kernel)])
  rfl
theorem pic_put (s : State) (q c : Addr) : putF "made" (nV s.next) (putF "chosen" (.ref c) (putF "worked" (nV s.on) (putF "layers" (.ref q) (putF "h" (nV s.h) (putF "w" (nV s.w) []))))) = picF s q c := by
  repeat (first | rw [putE] | rw [putN (by decide +kernel)])
  rfl
theorem few1 {f1 : Str} {v1 : V} : (putF f1 v1 []).length < 1000 := Nat.lt_of_le_of_lt (putL ..) (by decide)
theorem fewS {n : Nat} {f : Str} {v : V} {fs : List (Str × V)} (h : fs.length ≤ n) : (putF f v fs).length ≤ n + 1 := Nat.le_trans (putL ..) (Nat.succ_le_succ h)
theorem few {n : Nat} {fs : List (Str × V)} (h : fs.length ≤ n) (hn : n < 1000 := by decide) : fs.length < 1000 := Nat.lt_of_le_of_lt h hn
theorem few0 : ([] : List (Str × V)).length ≤ 0 := Nat.le_refl _
section
variable {P : Program} {w : World} {K : PySem.W.Frag} {mg : Str → Option Value} {base : Heap}
def sp_Layer_init (T : Txt K mg) : Sp := fun vs H Q _ => ∃ (p dx q : Addr) (l : Layer), vs = [.ref p, nV l.id, bV l.seen, nV l.strong, nV l.way, .ref q] ∧ H p = some (.ins T.Layer.a dx []) ∧ Q .non (upd H p (.ins T.Layer.a dx (layF l q)))
theorem ok_Layer_init (T : Txt K mg) : FnOk P w K mg base CX0 1 T.Layer.i T.Layer.fd ["self", "number", "seen", "strong", "way", "dots"] (sp_Layer_init T) := by
  refine T.Layer.F.ok sc_Layer_init (fun vs H Q E h => ?_) (fun cdv A outer s H vs Q E hr h => ⟨_, (pss_cons (ps_fld (pv 0) (pv 1) rfl)
  (pss_cons (ps_fld (pv 0) (pv 2) rfl)
  (pss_cons (ps_fld (pv 0) (pv 3) rfl)
  (pss_cons (ps_fld (pv 0) (pv 4) rfl)
  (pss_one (ps_fld (pv 0) (pv 5) rfl)))))), ?_⟩)
  · obtain ⟨p, dx, q, l, rfl, _⟩ := h
    rfl
  · obtain ⟨p, dx, q, l, rfl, hp, k⟩ := h
    have c := T.Layer.cl
    refine ⟨_, rfl, _, rfl, p, _, dx, _, rfl, hp, c, T.Layer.no _ (by decide), by decide, ?_⟩
    refine ⟨_, rfl, _, rfl, p, _, dx, _, rfl, upd_same, c, T.Layer.no _ (by decide), few (fewS few0), ?_⟩
    refine ⟨_, rfl, _, rfl, p, _, dx, _, rfl, upd_same, c, T.Layer.no _ (by decide), few (fewS (fewS few0)), ?_⟩
    refine ⟨_, rfl, _, rfl, p, _, dx, _, rfl, upd_same, c, T.Layer.no _ (by decide), few (fewS (fewS (fewS few0))), ?_⟩
    refine ⟨_, rfl, _, rfl, p, _, dx, _, rfl, upd_same, c, T.Layer.no _ (by decide), few (fewS (fewS (fewS (fewS few0)))), ?_⟩
    rw [upd_upd, upd_upd, upd_upd, upd_upd]
    show Q .non (upd H p (.ins T.Layer.a dx (putF "dots" (.ref q) (putF "way" (nV l.way) (putF "strong" (nV l.strong) (putF "seen" (bV l.seen) (putF "number" (nV l.id) [])))))))
    rw [lay_put]
    exact k
def sp_Picture_init (T : Txt K mg) : Sp := fun vs H Q _ => ∃ (p dx q c : Addr) (s : State), vs = [.ref p, nV s.w, nV s.h, .ref q, nV s.on, .ref c, nV s.next] ∧ H p = some (.ins T.Picture.a dx []) ∧ Q .non (upd H p (.ins T.Picture.a dx (picF s q c)))
theorem ok_Picture_init (T : Txt K mg) : FnOk P w K mg base CX0 1 T.Picture.i T.Picture.fd ["self", "w", "h", "layers", "worked", "chosen", "made"] (sp_Picture_init T) := by
  refine T.Picture.F.ok sc_Picture_init (fun vs H Q E h => ?_) (fun cdv A outer s H vs Q E hr h => ⟨_, (pss_cons (ps_fld (pv 0) (pv 1) rfl)
  (pss_cons (ps_fld (pv 0) (pv 2) rfl)
  (pss_cons (ps_fld (pv 0) (pv 3) rfl)
  (pss_cons (ps_fld (pv 0) (pv 4) rfl)
  (pss_cons (ps_fld (pv 0) (pv 5) rfl)
  (pss_one (ps_fld (pv 0) (pv 6) rfl))))))), ?_⟩)
  · obtain ⟨p, dx, q, c, l, rfl, _⟩ := h
    rfl
  · obtain ⟨p, dx, q, ch, s, rfl, hp, k⟩ := h
    have c := T.Picture.cl
    refine ⟨_, rfl, _, rfl, p, _, dx, _, rfl, hp, c, T.Picture.no _ (by decide), by decide, ?_⟩
    refine ⟨_, rfl, _, rfl, p, _, dx, _, rfl, upd_same, c, T.Picture.no _ (by decide), few (fewS few0), ?_⟩
    refine ⟨_, rfl, _, rfl, p, _, dx, _, rfl, upd_same, c, T.Picture.no _ (by decide), few (fewS (fewS few0)), ?_⟩
    refine ⟨_, rfl, _, rfl, p, _, dx, _, rfl, upd_same, c, T.Picture.no _ (by decide), few (fewS (fewS (fewS few0))), ?_⟩
    refine ⟨_, rfl, _, rfl, p, _, dx, _, rfl, upd_same, c, T.Picture.no _ (by decide), few (fewS (fewS (fewS (fewS few0)))), ?_⟩
    refine ⟨_, rfl, _, rfl, p, _, dx, _, rfl, upd_same, c, T.Picture.no _ (by decide), few (fewS (fewS (fewS (fewS (fewS few0))))), ?_⟩
    rw [upd_upd, upd_upd, upd_upd, upd_upd, upd_upd]
    show Q .non (upd H p (.ins T.Picture.a dx (putF "made" (nV s.next) (putF "chosen" (.ref ch) (putF "worked" (nV s.on) (putF "layers" (.ref q) (putF "h" (nV s.h) (putF "w" (nV s.w) []))))))))
    rw [pic_put]
    exact k
/-- a new instance behind its __init__ -/
theorem ex_made {H : Hp} {x dx C : Addr} {fs : List (Str × V)} (nx : H x = none) (nd : H dx = none) : Ex H (upd (upd (upd H dx (.own x)) x (.ins C dx [])) x (.ins C dx fs)) := fun b o e => by
  rw [upd_upd, upd_ne (ne_of_none e nx), upd_ne (ne_of_none e nd)]
  exact e
/-- a layer is made -/
def LayNew (T : Txt K mg) (l : Layer) (q : Addr) (H : Hp) (Q : VK) : Prop := ∀ x dx H', H x = none → Ex H H' → H' x = some (.ins T.Layer.a dx (layF l q)) → Q (.ref x) H'
def PicNew (T : Txt K mg) (s : State) (q c : Addr) (H : Hp) (Q : VK) : Prop := ∀ x dx H', H x = none → Ex H H' → H' x = some (.ins T.Picture.a dx (picF s q c)) → Q (.ref x) H'
theorem mk_layer (T : Txt K mg) {l : Layer} {q : Addr} {H : Hp} {Q : VK} {vs : List V} (k : LayNew T l q H Q) (e : vs = [nV l.id, bV l.seen, nV l.strong, nV l.way, .ref q]) : ∀ x dx, H x = none → H dx = none → dx ≠ x → sp_Layer_init T (.ref x :: (vs ++ [])) (upd (upd H dx (.own x)) x (.ins T.Layer.a dx [])) (fun v H2 => v = .non ∧ Q (.ref x) H2) E0 := by
  intro x dx nx nd ne
  subst e
  exact ⟨x, dx, q, l, rfl, upd_same, rfl, k x dx _ nx (ex_made nx nd) upd_same⟩
theorem mk_pic (T : Txt K mg) {s : State} {q c : Addr} {H : Hp} {Q : VK} {vs : List V} (k : PicNew T s q c H Q) (e : vs = [nV s.w, nV s.h, .ref q, nV s.on, .ref c, nV s.next]) : ∀ x dx, H x = none → H dx = none → dx ≠ x → sp_Picture_init T (.ref x :: (vs ++ [])) (upd (upd H dx (.own x)) x (.ins T.Picture.a dx [])) (fun v H2 => v = .non ∧ Q (.ref x) H2) E0 := by
  intro x dx nx nd ne
  subst e
  exact ⟨x, dx, q, c, s, rfl, upd_same, rfl, k x dx _ nx (ex_made nx nd) upd_same⟩
/-- plain_layer(number, dots) -/
def sp_plain_layer (T : Txt K mg) : Sp := fun vs H Q _ => ∃ (n : Nat) (q : Addr) (ds : List Dot), vs = [nV n, .ref q] ∧ LayNew T ⟨n, true, 255, 0, ds⟩ q H Q
theorem ok_plain_layer (T : Txt K mg) : FnOk P w K mg base CX0 3 T.plain_layer.a T.plain_layer.fd ["number", "dots"] (sp_plain_layer T) := by
  refine T.plain_layer.F.ok sc_plain_layer (fun vs H Q E h => ?_) (fun cdv A outer s H vs Q E hr h => ⟨_, (pss_one (ps_ret (pe_make T.Layer.mks (ok_Layer_init T) (hr.mono (by decide)) (by rfl) T.Layer.g T.Layer.b .nil pass0 (pa_cons (pv 0) (pa_cons pe_int (pa_cons pe_int (pa_cons pe_int (pa_cons (pv 1) pa_nil)))))))), ?_⟩)
  · obtain ⟨n, q, ds, rfl, _⟩ := h
    rfl
  · obtain ⟨n, q, ds, rfl, k⟩ := h
    exact ⟨_, rfl, _, rfl, mk_layer T k rfl⟩
def sp_layer_with_dots (T : Txt K mg) : Sp := fun vs H Q _ => ∃ (a dx q0 q : Addr) (l : Layer) (ds : List Dot), vs = [.ref a, .ref q] ∧ H a = some (.ins T.Layer.a dx (layF l q0)) ∧ LayNew T { l with dots := ds } q H Q
theorem ok_layer_with_dots (T : Txt K mg) : FnOk P w K mg base CX0 3 T.layer_with_dots.a T.layer_with_dots.fd ["layer", "dots"] (sp_layer_with_dots T) := by
  refine T.layer_with_dots.F.ok sc_layer_with_dots (fun vs H Q E h => ?_) (fun cdv A outer s H vs Q E hr h => ⟨_, (pss_one (ps_ret (pe_make T.Layer.mks (ok_Layer_init T) (hr.mono (by decide)) (by rfl) T.Layer.g T.Layer.b .nil pass0 (pa_cons (pe_fld (pv 0) rfl) (pa_cons (pe_fld (pv 0) rfl) (pa_cons (pe_fld (pv 0) rfl) (pa_cons (pe_fld (pv 0) rfl) (pa_cons (pv 1) pa_nil)))))))), ?_⟩)
  · obtain ⟨a, dx, q0, q, l, ds, rfl, _⟩ := h
    rfl
  · obtain ⟨a, dx, q0, q, l, ds, rfl, ha, k⟩ := h
    have c := T.Layer.cl
    exact ⟨_, rfl, a, _, dx, _, _, rfl, ha, c, T.Layer.no _ (by decide), lf_number _ _, _, rfl, a, _, dx, _, _, rfl, ha, c, T.Layer.no _ (by decide), lf_seen _ _, _, rfl, a, _, dx, _, _, rfl, ha, c, T.Layer.no _ (by decide), lf_strong _ _,
      _, rfl, a, _, dx, _, _, rfl, ha, c, T.Layer.no _ (by decide), lf_way _ _, _, rfl, mk_layer T k rfl⟩
def sp_with_chosen (T : Txt K mg) : Sp := fun vs H Q _ => ∃ (a dx q c0 c : Addr) (s : State) (bs : List Bool), vs = [.ref a, .ref c] ∧ H a = some (.ins T.Picture.a dx (picF s q c0)) ∧ PicNew T { s with chosen := bs } q c H Q
theorem ok_with_chosen (T : Txt K mg) : FnOk P w K mg base CX0 3 T.with_chosen.a T.with_chosen.fd ["picture", "chosen"] (sp_with_chosen T) := by
  refine T.with_chosen.F.ok sc_with_chosen (fun vs H Q E h => ?_) (fun cdv A outer s H vs Q E hr h => ⟨_, (pss_one (ps_ret (pe_make T.Picture.mks (ok_Picture_init T) (hr.mono (by decide)) (by rfl) T.Picture.g T.Picture.b .nil pass0 (pa_cons (pe_fld (pv 0) rfl) (pa_cons (pe_fld (pv 0) rfl) (pa_cons (pe_fld (pv 0) rfl) (pa_cons (pe_fld (pv 0) rfl) (pa_cons (pv 1) (pa_cons (pe_fld (pv 0) rfl) pa_nil))))))))), ?_⟩)
  · obtain ⟨a, dx, q, c0, c, s, bs, rfl, _⟩ := h
    rfl
  · obtain ⟨a, dx, q, c0, c1, s, bs, rfl, ha, k⟩ := h
    have c := T.Picture.cl
    exact ⟨_, rfl, a, _, dx, _, _, rfl, ha, c, T.Picture.no _ (by decide), pf_w _ _ _, _, rfl, a, _, dx, _, _, rfl, ha, c, T.Picture.no _ (by decide), pf_h _ _ _, _, rfl, a, _, dx, _, _, rfl, ha, c, T.Picture.no _ (by decide), pf_layers _ _ _,
      _, rfl, a, _, dx, _, _, rfl, ha, c, T.Picture.no _ (by decide), pf_worked _ _ _, _, rfl, _, rfl, a, _, dx, _, _, rfl, ha, c, T.Picture.no _ (by decide), pf_made _ _ _, mk_pic T k rfl⟩
def sp_with_layers (T : Txt K mg) : Sp := fun vs H Q _ => ∃ (a dx q0 c q : Addr) (s : State) (n : Nat) (ls : List Layer), vs = [.ref a, .ref q, nV n] ∧ H a = some (.ins T.Picture.a dx (picF s q0 c)) ∧ PicNew T { s with layers := ls, on := n } q c H Q
theorem ok_with_layers (T : Txt K mg) : FnOk P w K mg base CX0 3 T.with_layers.a T.with_layers.fd ["picture", "layers", "worked"] (sp_with_layers T) := by
  refine T.with_layers.F.ok sc_with_layers (fun vs H Q E h => ?_) (fun cdv A outer s H vs Q E hr h => ⟨_, (pss_one (ps_ret (pe_make T.Picture.mks (ok_Picture_init T) (hr.mono (by decide)) (by rfl) T.Picture.g T.Picture.b .nil pass0 (pa_cons (pe_fld (pv 0) rfl) (pa_cons (pe_fld (pv 0) rfl) (pa_cons (pv 1) (pa_cons (pv 2) (pa_cons (pe_fld (pv 0) rfl) (pa_cons (pe_fld (pv 0) rfl) pa_nil))))))))), ?_⟩)
  · obtain ⟨a, dx, q0, c, q, s, n, ls, rfl, _⟩ := h
    rfl
  · obtain ⟨a, dx, q0, c1, q, s, n, ls, rfl, ha, k⟩ := h
    have c := T.Picture.cl
    exact ⟨_, rfl, a, _, dx, _, _, rfl, ha, c, T.Picture.no _ (by decide), pf_w _ _ _, _, rfl, a, _, dx, _, _, rfl, ha, c, T.Picture.no _ (by decide), pf_h _ _ _, _, rfl, _, rfl,
      _, rfl, a, _, dx, _, _, rfl, ha, c, T.Picture.no _ (by decide), pf_chosen _ _ _, _, rfl, a, _, dx, _, _, rfl, ha, c, T.Picture.no _ (by decide), pf_made _ _ _, mk_pic T k rfl⟩
end
end LP
end
section
set_option maxHeartbeats 4100000
namespace LP
open PySem PySem.Spec PyProof.Rows L2 Evl
open Sq50 (State Layer Dot)
section
variable {P : Program} {w : World} {K : PySem.W.Frag} {mg : Str → Option Value} {base : Heap}
def YEnum (xs : List V) : Nat → Hp → V → Hp → Prop := fun i H v H' => ∃ t y, v = .ref t ∧ H t = none ∧ H' = upd H t (.tup [nV i, y]) ∧ xs[i]? = some y
def YZip (xs ys : List V) : Nat → Hp → V → Hp → Prop := fun i H v H' => ∃ t x y, v = .ref t ∧ H t = none ∧ H' = upd H t (.tup [x, y]) ∧ xs[i]? = some x ∧ ys[i]? = some y
theorem wk_enum {a : Addr} {xs : List V} : Walk (Ite K a) xs.length (fun H => SqL K H a xs) (YEnum xs) := walk_enum.mono (fun _ h => h) fun i H x H' _ _ ⟨t, x1, y1, h1, h2, h3, h4, h5⟩ => by
  have e : V.int (i : Nat) = x1 := Option.some.inj h4
  subst e
  exact ⟨t, y1, h1, h2, h3, h5⟩
theorem wk_zip {a b : Addr} {xs ys : List V} (h : xs.length = ys.length) : Walk (Itz K a b) xs.length (fun H => SqL K H a xs ∧ SqL K H b ys) (YZip xs ys) := (walk_zip (by omega)).mono (fun _ h => h) fun i H x H' _ _ y => y
/-- a refusal leaves: n is answered -/
def Rz (C : Addr) (n : Int) (H : Hp) (E : XK) : Prop := ∀ d H', Ex H H' → H' d = some (.xd [(("answer" : Str), .int n)]) → E (.ref C) (some d) H'
theorem Rz.go {C : Addr} {m : Int} {H H' : Hp} {E : XK} (z : Rz C (-m) H E) (e : Ex H H') : ∀ d, H' d = none → E (.ref C) (some d) (upd H' d (.xd [(("answer" : Str), .int (-m))])) := fun d hd => z d _ (e.trans (Ex.new hd)) upd_same
def Rv (v : V) (H : Hp) (Q : VK) : Prop := ∀ H', Ex H H' → Q v H'
abbrev Pic (T : Txt K mg) (Z : Addr → Prop) (H : Hp) (a : Addr) (s : State) : Prop := PicAt T.Picture.a T.Layer.a Z H a s
def Found (ls : List Layer) (n i : Nat) : Prop := ∀ (j : Nat) (l : Layer), j < i → ls[j]? = some l → l.id ≠ n
theorem found_at {ls : List Layer} {n i : Nat} {l : Layer} (f : Found ls n i) (h : ls[i]? = some l) (e : l.id = n) : ls.findIdx? (fun l => l.id == n) = some i := by
  obtain ⟨hi, rfl⟩ := List.getElem?_eq_some_iff.mp h
  refine List.findIdx?_eq_some_iff_getElem.mpr ⟨hi, by simp [e], fun j hj => ?_⟩
  have := f j ls[j] hj (List.getElem?_eq_getElem (by omega))
  simp [this]
theorem found_no {ls : List Layer} {n : Nat} (f : Found ls n ls.length) : ls.findIdx? (fun l => l.id == n) = none := by
  refine List.findIdx?_eq_none_iff.mpr fun l hl => ?_
  obtain ⟨j, hj, rfl⟩ := List.getElem_of_mem hl
  have := f j ls[j] hj (List.getElem?_eq_getElem hj)
  simp [this]
theorem found_next {ls : List Layer} {n i : Nat} {l : Layer} (f : Found ls n i) (h : ls[i]? = some l) (e : l.id ≠ n) : Found ls n (i + 1) := fun j m hj hm => by
  by_cases c : j = i
  · subst c; rw [h] at hm; cases hm; exact e
  · exact f j m (by omega) hm
/-- layer_place(picture, number) -/
def sp_layer_place (T : Txt K mg) : Sp := fun vs H Q E => ∃ (a : Addr) (n : Nat) (Z : Addr → Prop) (s : State), vs = [.ref a, nV n] ∧ Pic T Z H a s ∧
  (∀ p : Nat, s.layers.findIdx? (fun l => l.id == n) = some p → Rv (nV p) H Q) ∧ (s.layers.findIdx? (fun l => l.id == n) = none → Rz T.C_NoSuchLayer (-2) H E)
theorem ok_layer_place (T : Txt K mg) : FnOk P w K mg base (L2.CX P w) 4 T.layer_place.a T.layer_place.fd ["picture", "number"] (sp_layer_place T) := by
  refine T.layer_place.F.okX sc_layer_place (fun vs H Q E h => ?_) (fun cdv A outer s H vs Q E hr h => ⟨_, (pss_cons (ps_for (passes_of rfl) rfl (pi_enum (by rfl) (T.nb "enumerate" (by decide)) (pa_cons (pe_fld (pv 0) rfl) pa_nil)) (pg_tup rfl (pgs_cons (pg_name (i := 2) sc_layer_place.nd rfl (by first | exact Or.inl rfl | exact Or.inr rfl)) (pgs_cons (pg_name (i := 3) sc_layer_place.nd rfl (by first | exact Or.inl rfl | exact Or.inr rfl)) pgs_nil)))
  (pss_one (ps_if (pt_cmpR op_eq (pe_fld (pv 3) rfl) (pv 1) (nomark _))
    (pss_one (ps_ret (pv 2)))
    pss_nil)))
  (pss_one (ps_raiseR rfl T.NoSuchLayer hr (takes_of rfl rfl rfl rfl)))), ?_⟩)
  · obtain ⟨a, n, Z, s, rfl, _⟩ := h
    rfl
  · obtain ⟨a, n, Z, s, rfl, hp, k1, k2⟩ := h
    obtain ⟨dx, q, c, ha, hl, hc⟩ := hp
    obtain ⟨ls, hq, pr⟩ := hl
    refine ⟨_, rfl, a, _, dx, _, _, rfl, ha.h, T.Picture.cl, T.Picture.no _ (by decide), pf_layers _ _ _, q, ls, rfl, hq.sq, ?_⟩
    refine for_it wk_enum (fun i σ H' => ∃ x y, σ = [some (.ref a), some (nV n), x, y] ∧ Ex H H' ∧ Found s.layers n i) ⟨none, none, rfl, Ex.refl H, fun j l hj => absurd hj (Nat.not_lt_zero _)⟩
      (fun i σ H' _ ⟨_, _, _, e, _⟩ => (hq.keep (e.keep Z)).sq) ?_ ?_
    · rintro i v σ H1 H2 hi ⟨x, y, rfl, e, f⟩ ⟨t, y1, rfl, ht, rfl, hy⟩
      have e2 : Ex H (upd H1 t (.tup [nV i, y1])) := e.trans (Ex.new ht)
      obtain ⟨l, hl, hla⟩ := Paired.get' pr hy
      obtain ⟨b, db, qb, rfl, hb, _⟩ := hla.keep (e2.keep Z)
      refine ⟨t, _, rfl, SqT.of upd_same, rfl, _, _, rfl, _, _, rfl, rfl, ?_⟩
      refine ⟨_, rfl, b, _, db, _, _, rfl, hb.h, T.Layer.cl, T.Layer.no _ (by decide), lf_number _ _, _, rfl, rfl, _, rfl, ifB (fun he => ?_) fun he => ?_⟩
      · have e3 : l.id = n := by injection he with he; omega
        exact ⟨_, rfl, k1 i (found_at f hl e3) _ e2⟩
      · exact ⟨_, _, rfl, e2, found_next f hl fun z => he (by rw [z])⟩
    · rintro σ H1 ⟨x, y, rfl, e, f⟩
      rw [Paired.len pr] at f
      exact (k2 (found_no f)).go e
/-- worked_place(picture) -/
def sp_worked_place (T : Txt K mg) : Sp := fun vs H Q _ => ∃ (a : Addr) (Z : Addr → Prop) (s : State), vs = [.ref a] ∧ Pic T Z H a s ∧ WF s ∧ Rv (nV s.place) H Q
theorem ok_worked_place (T : Txt K mg) : FnOk P w K mg base CX0 5 T.worked_place.a T.worked_place.fd ["picture"] (sp_worked_place T) := by
  refine T.worked_place.F.ok sc_worked_place (fun vs H Q E h => ?_) (fun cdv A outer s H vs Q E hr h => ⟨_, (pss_one (ps_ret (pe_call (ok_layer_place T) (hr.mono (by decide)) (by rfl) T.layer_place.g T.layer_place.F.kp T.layer_place.b .nil passL (pa_cons (pv 0) (pa_cons (pe_fld (pv 0) rfl) pa_nil))))), ?_⟩)
  · obtain ⟨a, Z, s, rfl, _⟩ := h
    rfl
  · obtain ⟨a, Z, s, rfl, hp, W, k⟩ := h
    obtain ⟨l, hl, hf, _⟩ := place_on W
    obtain ⟨dx, q, c, ha, _⟩ := id hp
    refine ⟨_, rfl, _, rfl, a, _, dx, _, _, rfl, ha.h, T.Picture.cl, T.Picture.no _ (by decide), pf_worked _ _ _, a, s.on, Z, s, rfl, hp, fun p e => ?_, fun e => ?_⟩
    · rw [hf] at e; cases e; exact k
    · rw [hf] at e; cases e
/-- worked_dots(picture): the list of the layer worked on -/
def sp_worked_dots (T : Txt K mg) : Sp := fun vs H Q _ => ∃ (a : Addr) (Z : Addr → Prop) (s : State), vs = [.ref a] ∧ Pic T Z H a s ∧ WF s ∧ ∀ q H', Ex H H' → DotsAt Z H' q s.layer.dots → Q (.ref q) H'
theorem ok_worked_dots (T : Txt K mg) : FnOk P w K mg base CX0 6 T.worked_dots.a T.worked_dots.fd ["picture"] (sp_worked_dots T) := by
  refine T.worked_dots.F.ok sc_worked_dots (fun vs H Q E h => ?_) (fun cdv A outer s H vs Q E hr h => ⟨_, (pss_one (ps_ret (pe_fld (pe_ix ix_list (pe_fld (pv 0) rfl) (pe_call (ok_worked_place T) (hr.mono (by decide)) (by rfl) T.worked_place.g T.worked_place.F.kp T.worked_place.b .nil pass0 (pa_cons (pv 0) pa_nil)) (fun _ _ => rfl)) rfl))), ?_⟩)
  · obtain ⟨a, Z, s, rfl, _⟩ := h
    rfl
  · obtain ⟨a, Z, s, rfl, hp, W, k⟩ := h
    obtain ⟨l, hl, hf, el⟩ := place_on W
    obtain ⟨dx, q, c, ha, ⟨ls, hq, pr⟩, _⟩ := id hp
    refine ⟨_, rfl, a, _, dx, _, _, rfl, ha.h, T.Picture.cl, T.Picture.no _ (by decide), pf_layers _ _ _, _, rfl, a, Z, s, rfl, hp, W, fun H1 e => ?_⟩
    obtain ⟨v, hv, hla⟩ := Paired.get pr hl
    obtain ⟨b, db, qb, rfl, hb, hd⟩ := hla.keep (e.keep Z)
    subst el
    exact ⟨q, ls, _, _, rfl, rfl, (hq.keep (e.keep Z)).sq, atI_nat hv, b, _, db, _, _, rfl, hb.h, T.Layer.cl, T.Layer.no _ (by decide), lf_dots _ _, k qb H1 e hd⟩
end
end LP
end
section
set_option maxHeartbeats 4100000
namespace LP
open PySem PySem.Spec PyProof.Rows L2 Evl
open Sq50 (State Layer Dot)
/-! rules with the written part told by name (for a comprehension's block) -/
section
variable {X : Cx} {K : PySem.W.Frag}
theorem pe_fldK (hK : X.K = K) {e : Expr} {ta : TE} {f : Str} {pos : Pos} (he : PE X e ta) (hb : attributeBase e f X.env (eval e X.env) = eval e X.env) : PE X (.Attribute e f pos) (tFld K ta f) := by subst hK; exact pe_fld he hb
theorem ix_listK (hK : X.K = K) : IxR X (rIxL K) := by subst hK; exact ix_list
theorem ix_tupK (hK : X.K = K) : IxR X (rIxT K) := by subst hK; exact ix_tup
def rLenK (K : PySem.W.Frag) : List V → Hp → VK → Prop := fun xs H Q => ∃ p ys, xs = [.ref p] ∧ (SqL K H p ys ∨ SqT K H p ys) ∧ Q (.int ys.length) H
theorem call_len_seqK (hK : X.K = K) : CallR X (.builtin "len") (rLenK K) := by subst hK; exact call_len_seq
theorem op_neDK (hK : X.K = K) (hu : X.A.units + 64 < cLine) : OpR X (compareOp .NotEq) (rNeD K) := by subst hK; exact op_neD hu
theorem pt_truthK (hK : X.K = K) {a : Expr} {ta : TE} (ha : PE X a ta) (he : ∀ whole, isTrue a X.env whole = (do let v ← whole; standAt a.pos; holding [v] (truthy v))) : PT X a (tTru K ta) := by subst hK; exact pt_truth ha he
end
/-! comprehensions -/
theorem filt_yes {n : Nat} {f : Nat → Bool} (h : f n = true) : (List.range (n + 1)).filter f = (List.range n).filter f ++ [n] := by
  rw [List.range_succ, List.filter_append]; simp [h]
theorem filt_no {n : Nat} {f : Nat → Bool} (h : f n = false) : (List.range (n + 1)).filter f = (List.range n).filter f := by
  rw [List.range_succ, List.filter_append]; simp [h]
theorem given_all (n : Nat) (v : Nat → V) : given n (fun _ => true) v = (List.range n).map v := by
  unfold given
  rw [List.filter_eq_self.mpr (fun _ _ => rfl)]  -- own
theorem Paired.snoc {α β : Type} {F : α → β → Prop} : ∀ {l : List α} {m : List β} {a : α} {b : β}, Paired F l m → F a b → Paired F (l ++ [a]) (m ++ [b])
  | _, _, _, _, .nil, h => .cons h .nil  -- own
  | _, _, _, _, .cons r t, h => .cons r (Paired.snoc t h)
/-- what the reading of a comprehension asks of the walk J: the list at D is filled turn by turn, then Qd -/
abbrev Gather (J : It) (g : TG) (tt : TT) (te : TE) (vs : List Nat) (σ : L2.St) (H1 : Hp) (D : Addr) (Qd : Hp → Prop) : Prop :=
  ∃ In : Nat → Nat → Hp → Prop,
    (∃ k, In 0 k (upd H1 D (.lst []))) ∧
    ∀ turn k H, In turn k H →
      (J.stop turn H ∧ Qd H) ∨
      (J.go turn H ∧ ∃ On : Hp → Prop,
        (∀ H', On H' → ∃ k', k' < k ∧ In (turn + 1) k' H') ∧
        ∀ x H', J.yld turn H x H' → g x (wipe σ vs) H' fun σa Ha =>
          wipe σa vs = wipe σ vs ∧
          tt σa Ha fun yes Hb =>
            if yes = true then te σa Hb fun y Hc => ∃ got, Hc D = some (.lst got) ∧ got.length < sizeLine ∧ On (upd Hc D (.lst (got ++ [y])))
            else On Hb)
section
variable {J : It} {n : Nat} {G : Hp → Prop} {Y : Nat → Hp → V → Hp → Prop} {g : TG} {tt : TT} {te : TE} {vs : List Nat} {σ : L2.St} {H1 : Hp} {D : Addr} {Qd : Hp → Prop}
/-- the values told by the turn -/
theorem lcV (w : Walk J n G Y) (f : Nat → Bool) (v : Nat → V) (hn : n ≤ 50000) (hD : H1 D = none) (hG : ∀ H, Ex H1 H → G H)
    (hs : ∀ i x H H' (R : V → Hp → Prop) (S : Hp → Prop), i < n → Ex H1 H → Y i H x H' → (f i = true → ∀ H4, Ex H H4 → R (v i) H4) → (f i = false → ∀ H4, Ex H H4 → S H4) →
      g x (wipe σ vs) H' fun σ2 H2 => wipe σ2 vs = wipe σ vs ∧ tt σ2 H2 fun b H3 => if b = true then te σ2 H3 R else S H3)
    (hd : ∀ H, Ex H1 H → H D = some (.lst (given n f v)) → Qd H) :
    Gather J g tt te vs σ H1 D Qd := by
  refine lc_it w (fun i H => Ex H1 H ∧ H D = some (.lst (given i f v))) ⟨Ex.new hD, upd_same⟩ (fun i H _ p => hG H p.1) ?_ (fun H p => hd H p.1 p.2)
  rintro i x H H' hi ⟨e, l⟩ y
  refine hs i x H H' _ _ hi e y (fun hf H4 e4 => ?_) (fun hf H4 e4 => ?_)
  · refine ⟨_, e4 D _ l, szt (by have := given_len i f v; omega), Ex.mut (e.trans e4) hD, ?_⟩
    rw [upd_same]
    unfold given
    rw [filt_yes hf, List.map_append]
    rfl
  · refine ⟨e.trans e4, ?_⟩
    rw [e4 D _ l]
    unfold given
    rw [filt_no hf]
/-- the values told by what they are -/
theorem lcP (w : Walk J n G Y) (f : Nat → Bool) (P : (Addr → Prop) → Nat → V → Hp → Prop) {Z : Addr → Prop} (hn : n ≤ 50000) (hD : H1 D = none) (hF : Free Z H1) (hG : ∀ H, Ex H1 H → G H)
    (mono : ∀ Z i y H H', Keep Z H H' → P Z i y H → P Z i y H') (weak : ∀ (Z Z' : Addr → Prop) i y H, (∀ b, Z b → H b ≠ none → Z' b) → P Z i y H → P Z' i y H)
    (hs : ∀ (Z' : Addr → Prop), (∀ b, Z b → H1 b ≠ none → Z' b) → ∀ i x H H' (R : V → Hp → Prop) (S : Hp → Prop), i < n → Ex H1 H → Free Z' H → Y i H x H' → (f i = true → ∀ y H4, Ex H H4 → P Z' i y H4 → R y H4) → (f i = false → ∀ H4, Ex H H4 → S H4) →
      g x (wipe σ vs) H' fun σ2 H2 => wipe σ2 vs = wipe σ vs ∧ tt σ2 H2 fun b H3 => if b = true then te σ2 H3 R else S H3)
    (hd : ∀ H ys, Ex H1 H → H D = some (.lst ys) → Paired (fun y i => P Z i y H) ys ((List.range n).filter f) → Qd H) :
    Gather J g tt te vs σ H1 D Qd := by
  refine lc_it w (fun i H => Ex H1 H ∧ Free (But Z D) H ∧ ∃ ys, H D = some (.lst ys) ∧ Paired (fun y j => P (But Z D) j y H) ys ((List.range i).filter f)) ⟨Ex.new hD, Free.but hF, [], upd_same, .nil⟩ (fun i H _ p => hG H p.1) ?_ ?_
  · rintro i x H H' hi ⟨e, fr, ys, l, pr⟩ y
    have nz : ¬ But Z D D := fun z => z.2 rfl
    have hl : ys.length ≤ i := by
      have h1 := Paired.len pr
      have h2 := List.length_filter_le f (List.range i)
      rw [List.length_range] at h2
      omega
    refine hs (But Z D) (but_out hD) i x H H' _ _ hi e fr y (fun hf z H4 e4 hz => ?_) (fun hf H4 e4 => ?_)
    · have kp : Keep (But Z D) H (upd H4 D (.lst (ys ++ [z]))) := (e4.keep _).upd nz
      refine ⟨ys, e4 D _ l, szt (by omega), Ex.mut (e.trans e4) hD, fun b hb => ?_, ys ++ [z], upd_same, ?_⟩
      · have ne : b ≠ D := fun q => by rw [q, upd_same] at hb; cases hb
        rw [upd_ne ne] at hb
        exact fr b (e4.back hb)
      · rw [filt_yes hf]
        refine Paired.snoc (Paired.imp (fun a j => mono _ j a _ _ kp) pr) (mono _ i z H4 _ ?_ hz)
        exact fun a o za ha => by rw [upd_ne za.2]; exact ha
    · refine ⟨e.trans e4, fr.ex e4, ys, e4 D _ l, ?_⟩
      rw [filt_no hf]
      exact Paired.imp (fun a j => mono _ j a _ _ (e4.keep _)) pr
  · rintro H ⟨e, fr, ys, l, pr⟩
    exact hd H ys e l (Paired.imp (fun a j => weak _ _ j a H but_in) pr)
end
theorem wipe_ok {σ τ : L2.St} {vs : List Nat} (h : wipe τ vs = wipe σ vs) : wipe τ vs = wipe σ vs := h
theorem bVs_get {bs : List Bool} {i : Nat} {v : V} (h : (bVs bs)[i]? = some v) : ∃ b, bs[i]? = some b ∧ v = bV b := by
  unfold bVs at h
  rw [List.getElem?_map] at h
  obtain ⟨b, h1, h2⟩ := Option.map_eq_some_iff.mp h
  exact ⟨b, h1, h2.symm⟩
theorem nVs_get {ns : List Nat} {i : Nat} {v : V} (h : (nVs ns)[i]? = some v) : ∃ b, ns[i]? = some b ∧ v = nV b := by
  unfold nVs at h
  rw [List.getElem?_map] at h
  obtain ⟨b, h1, h2⟩ := Option.map_eq_some_iff.mp h
  exact ⟨b, h1, h2.symm⟩
theorem bVs_len (bs : List Bool) : (bVs bs).length = bs.length := List.length_map ..
theorem nVs_len (ns : List Nat) : (nVs ns).length = ns.length := List.length_map ..
theorem bVs_ints (bs : List Bool) : bVs bs = (bs.map fun b => (b.toNat : Int)).map V.int := by unfold bVs; rw [List.map_map]; rfl
theorem nVs_ints (ns : List Nat) : nVs ns = (ns.map fun (b : Nat) => (b : Int)).map V.int := by unfold nVs; rw [List.map_map]; rfl
theorem range_nVs {ns : List Nat} {v : Nat → V} {n : Nat} (hn : n = ns.length) (h : ∀ (i : Nat) (a : Nat), ns[i]? = some a → v i = nV a) : (List.range n).map v = nVs ns := by
  subst hn
  refine List.ext_getElem? fun i => ?_
  unfold nVs
  rw [List.getElem?_map, List.getElem?_map]  -- own
  by_cases c : i < ns.length
  · rw [List.getElem?_range c, List.getElem?_eq_getElem c]
    show some (v i) = some _
    rw [h i _ (List.getElem?_eq_getElem c)]
  · rw [List.getElem?_eq_none (by simpa using c), List.getElem?_eq_none (by simpa using c)] <;> rfl
theorem range_bVs {ns : List Bool} {v : Nat → V} {n : Nat} (hn : n = ns.length) (h : ∀ (i : Nat) (a : Bool), ns[i]? = some a → v i = bV a) : (List.range n).map v = bVs ns := by
  subst hn
  refine List.ext_getElem? fun i => ?_
  unfold bVs
  rw [List.getElem?_map, List.getElem?_map]  -- own
  by_cases c : i < ns.length
  · rw [List.getElem?_range c, List.getElem?_eq_getElem c]
    show some (v i) = some _
    rw [h i _ (List.getElem?_eq_getElem c)]
  · rw [List.getElem?_eq_none (by simpa using c), List.getElem?_eq_none (by simpa using c)] <;> rfl
end LP
end
section
set_option maxHeartbeats 4100000
namespace LP
open PySem PySem.Spec PyProof.Rows L2 Evl
open Sq50 (State Layer Dot)
section
variable {P : Program} {w : World} {K : PySem.W.Frag} {mg : Str → Option Value} {base : Heap}
/-- a new list of numbers, of bits -/
def RNats (ns : List Nat) (H : Hp) (Q : VK) : Prop := ∀ p H', H p = none → Ex H H' → H' p = some (.lst (nVs ns)) → Q (.ref p) H'
def RBits (bs : List Bool) (H : Hp) (Q : VK) : Prop := ∀ p H', H p = none → Ex H H' → H' p = some (.lst (bVs bs)) → Q (.ref p) H'
/-- worked_colours(picture) -/
def sp_worked_colours (T : Txt K mg) : Sp := fun vs H Q _ => ∃ (a : Addr) (Z : Addr → Prop) (s : State), vs = [.ref a] ∧ Pic T Z H a s ∧ WF s ∧ RNats (s.layer.dots.map (·.1)) H Q
theorem ok_worked_colours (T : Txt K mg) : FnOk P w K mg base CX0 7 T.worked_colours.a T.worked_colours.fd ["picture"] (sp_worked_colours T) := by
  refine T.worked_colours.F.ok sc_worked_colours (fun vs H Q E h => ?_) (fun cdv A outer s H vs Q E hr h => ⟨_, (pss_one (ps_ret (pe_lc (own := [("dot", 1)]) (g := (gName 1)) rfl sc_worked_colours.nd (pi_list (pe_call (ok_worked_dots T) (hr.mono (by decide)) (by rfl) T.worked_dots.g T.worked_dots.F.kp T.worked_dots.b .nil pass0 (pa_cons (pv 0) pa_nil))) (blkOk_by (own := [("dot", 1)]) (N := N_worked_colours) (sc := defScope s_worked_colours) (by decide +kernel)) (fun _ _ _ _ _ => (pg_name (i := 1) sc_worked_colours.nd rfl (by first | exact Or.inl rfl | exact Or.inr rfl))) (fun _ _ _ _ _ => pts_nil) (fun _ _ _ _ _ => (pe_ix (ix_tupK (K := K) rfl) (pv 1) pe_int (fun _ _ => rfl)))))), ?_⟩)
  · obtain ⟨a, Z, s, rfl, _⟩ := h
    rfl
  · obtain ⟨a, Z, s, rfl, hp, W, k⟩ := h
    refine ⟨_, rfl, a, Z, s, rfl, hp, W, fun q H1 e1 hd => ?_⟩
    obtain ⟨vs, hq, pr⟩ := hd
    have hl := Paired.len pr
    have hl2 := W.len _ (layer_mem W)
    have hn := W.n
    refine ⟨q, rfl, ⟨vs, hq.sq⟩, fun D hD => ?_⟩
    refine lcV walk_list (fun _ => true) (fun i => nV ((s.layer.dots[i]?.getD (0, 0)).1)) (by omega) hD (fun H e => (hq.keep (e.keep Z)).sq) ?_ ?_
    · rintro i x H2 H3 R S hi e2 ⟨rfl, hx⟩ hR _
      obtain ⟨d, hd, hda⟩ := Paired.get' pr hx
      obtain ⟨b, rfl, hb⟩ := hda.keep (e2.keep Z)
      refine ⟨rfl, _, rfl, b, _, _, _, rfl, rfl, hb.st, rfl, ?_⟩
      have := hR rfl H3 (Ex.refl _)
      rw [hd] at this
      exact this
    · intro H2 e2 h2
      rw [given_all, hl] at h2
      refine k D H2 (e1.back hD) (e1.trans e2) ?_
      rw [h2, range_nVs (ns := s.layer.dots.map (·.1)) (by rw [List.length_map])]
      intro i c hc
      rw [List.getElem?_map] at hc
      obtain ⟨d, h1, h2⟩ := Option.map_eq_some_iff.mp hc
      rw [h1]
      show nV d.1 = nV c
      rw [h2]
/-- may_change(picture) -/
def sp_may_change (T : Txt K mg) : Sp := fun vs H Q _ => ∃ (a : Addr) (Z : Addr → Prop) (s : State), vs = [.ref a] ∧ Pic T Z H a s ∧ WF s ∧ Free Z H ∧ ∀ p H', Ex H H' → BitsAt Z H' p (mayL s) → Q (.ref p) H'
theorem any_bits (bs : List Bool) : ((bs.map fun b => (b.toNat : Int)).any fun n => n != 0) = bs.any (fun b => b) := by
  rw [List.any_map]
  congr 1
  funext b
  cases b <;> rfl
theorem flat_ones (n : Nat) : (List.replicate n [V.int 1]).flatten = bVs (List.replicate n true) := by
  unfold bVs
  rw [List.map_replicate]
  induction n with
  | zero => rfl
  | succ n ih => rw [List.replicate_succ, List.flatten_cons, ih]; rfl
theorem ok_may_change (T : Txt K mg) : FnOk P w K mg base CX0 1 T.may_change.a T.may_change.fd ["picture"] (sp_may_change T) := by
  refine T.may_change.F.ok sc_may_change (fun vs H Q E h => ?_) (fun cdv A outer s H vs Q E hr h => ⟨_, (pss_cons (ps_if (pt_val (pe_callB (cr_anyI rfl) (by rfl) (T.nb "any" (by decide)) (by decide +kernel) (pa_cons (pe_fld (pv 0) rfl) pa_nil)))
  (pss_one (ps_ret (pe_fld (pv 0) rfl)))
  pss_nil)
  (pss_one (ps_ret (pe_op op_rep (pe_lst (pa_cons pe_int pa_nil)) (pe_callB call_len_seq (by rfl) (T.nb "len" (by decide)) (by decide +kernel) (pa_cons (pe_fld (pv 0) rfl) pa_nil)))))), ?_⟩)
  · obtain ⟨a, Z, s, rfl, _⟩ := h
    rfl
  · obtain ⟨a, Z, s, rfl, hp, W, hF, k⟩ := h
    obtain ⟨dx, q, c, ha, hl, hc⟩ := hp
    have hch : SqL K H c ((s.chosen.map fun b => (b.toNat : Int)).map V.int) := by rw [← bVs_ints]; exact hc.sq
    refine ⟨_, rfl, a, _, dx, _, _, rfl, ha.h, T.Picture.cl, T.Picture.no _ (by decide), pf_chosen _ _ _, c, _, rfl, hch, _, rfl, ?_⟩
    rw [any_bits]
    cases hb : s.chosen.any (fun b => b) with
    | true =>
      refine ifT rfl ⟨_, rfl, a, _, dx, _, _, rfl, ha.h, T.Picture.cl, T.Picture.no _ (by decide), pf_chosen _ _ _, k c H (Ex.refl H) ?_⟩
      have e : mayL s = s.chosen := by
        unfold mayL
        rw [hb]
        simp
      rw [e]
      exact hc
    | false =>
      refine ifF rfl ⟨by show 1 ≤ sizeLine; decide, fun p hp => ?_⟩
      have e1 : Ex H (upd H p (.lst [.int 1])) := Ex.new hp
      have hn := W.n
      have hlen : (bVs s.chosen).length = s.w * s.h := by rw [bVs_len, W.ch]
      refine ⟨_, rfl, a, _, dx, _, _, rfl, e1 _ _ ha.h, T.Picture.cl, T.Picture.no _ (by decide), pf_chosen _ _ _, c, _, rfl, .inl (hc.keep (e1.keep Z)).sq, p, _, _, rfl, rfl, upd_same, ?_, ?_, ?_, fun p2 hp2 => ?_⟩
      · omega
      · rw [hlen]; omega
      · rw [hlen]; exact szl (by simp; omega)
      · refine k p2 _ (e1.trans (Ex.new hp2)) ⟨hF _ (e1.back hp2), ?_⟩
        rw [upd_same, Int.toNat_natCast, hlen, flat_ones]
        have e : mayL s = List.replicate (s.w * s.h) true := by
          unfold mayL
          rw [hb, ← W.ch, ← List.map_const']
          refine List.map_congr_left fun b _ => ?_
          simp
        rw [e]
/-- with_worked_dots(picture, dots) -/
def PicR (T : Txt K mg) (Z : Addr → Prop) (t : State) (H : Hp) (Q : VK) : Prop := ∀ p H', Ex H H' → Pic T Z H' p t → Q (.ref p) H'
theorem Paired.set {α β : Type} {F : α → β → Prop} {a : α} {b : β} (h : F a b) : ∀ {l : List α} {m : List β} (i : Nat), Paired F l m → Paired F (l.set i a) (m.set i b)
  | _, _, _, .nil => .nil
  | _, _, 0, .cons _ t => .cons h t
  | _, _, i + 1, .cons r t => .cons r (Paired.set h i t)
def sp_with_worked_dots (T : Txt K mg) : Sp := fun vs H Q _ => ∃ (a q : Addr) (Z : Addr → Prop) (s : State) (ds : List Dot), vs = [.ref a, .ref q] ∧ Pic T Z H a s ∧ WF s ∧ Free Z H ∧ DotsAt Z H q ds ∧ PicR T Z (setDots s ds) H Q
theorem ok_with_worked_dots (T : Txt K mg) : FnOk P w K mg base CX0 6 T.with_worked_dots.a T.with_worked_dots.fd ["picture", "dots"] (sp_with_worked_dots T) := by
  refine T.with_worked_dots.F.ok sc_with_worked_dots (fun vs H Q E h => ?_) (fun cdv A outer s H vs Q E hr h => ⟨_, (pss_cons (ps_set (i := 2) sc_with_worked_dots.nd rfl (by first | exact Or.inl rfl | exact Or.inr rfl) (pe_call (ok_worked_place T) (hr.mono (by decide)) (by rfl) T.worked_place.g T.worked_place.F.kp T.worked_place.b .nil pass0 (pa_cons (pv 0) pa_nil)))
  (pss_cons (ps_set (i := 3) sc_with_worked_dots.nd rfl (by first | exact Or.inl rfl | exact Or.inr rfl) (pe_callTy call_list_of (by rfl) (T.nb "list" (by decide)) (by decide +kernel) (pa_cons (pe_fld (pv 0) rfl) pa_nil)))
  (pss_cons (ps_asg (pe_call (ok_layer_with_dots T) (hr.mono (by decide)) (by rfl) T.layer_with_dots.g T.layer_with_dots.F.kp T.layer_with_dots.b .nil pass0 (pa_cons (pe_ix ix_list (pv 3) (pv 2) (fun _ _ => rfl)) (pa_cons (pv 1) pa_nil))) (pg_sub (pv 3) (pv 2) set_list))
  (pss_one (ps_ret (pe_call (ok_with_layers T) (hr.mono (by decide)) (by rfl) T.with_layers.g T.with_layers.F.kp T.with_layers.b .nil pass0 (pa_cons (pv 0) (pa_cons (pv 3) (pa_cons (pe_fld (pv 0) rfl) pa_nil))))))))), ?_⟩)
  · obtain ⟨a, q, Z, s, ds, rfl, _⟩ := h
    rfl
  · obtain ⟨a, q, Z, s, ds, rfl, hp, W, hF, hd, k⟩ := h
    obtain ⟨l, hl, hf, el⟩ := place_on W
    -- place
    refine ⟨_, rfl, a, Z, s, rfl, hp, W, fun H1 e1 => ?_⟩
    obtain ⟨dx, q0, c, ha, ⟨ls, hq, pr⟩, hc⟩ := hp.keep (e1.keep Z)
    have hn5 := W.n5
    have hlen := Paired.len pr
    -- layers
    refine ⟨_, rfl, a, _, dx, _, _, rfl, ha.h, T.Picture.cl, T.Picture.no _ (by decide), pf_layers _ _ _, q0, ls, rfl, .inl hq.sq, fun y hy => ?_⟩
    have e2 : Ex H1 (upd H1 y (.lst ls)) := Ex.new hy
    obtain ⟨v, hv, hla⟩ := Paired.get pr hl
    obtain ⟨b, db, qb, rfl, hb, hdb⟩ := hla.keep (e2.keep Z)
    have hpl : s.place < ls.length := (List.getElem?_eq_some_iff.mp hv).1
    refine ⟨_, rfl, _, rfl, y, ls, _, _, rfl, rfl, SqL.of upd_same, atI_nat hv, _, rfl, b, db, qb, q, l, ds, rfl, hb.h, fun x dx1 H3 hx e3 h3 => ?_⟩
    have hyl : H3 y = some (.lst ls) := e3 _ _ upd_same
    refine ⟨_, rfl, _, rfl, y, ls, _, s.place, rfl, rfl, hyl, by unfold ixN; rw [if_pos (by omega), if_pos (by omega)]; simp, ?_⟩
    -- the rest
    have fr : H1 x = none := e2.back hx
    have nyx : x ≠ y := fun z => by rw [z, upd_same] at hx; cases hx
    have e4 : Ex H1 (upd H3 y (.lst (ls.set s.place (.ref x)))) := Ex.mut (e2.trans e3) hy
    have zx : Z x := hF x (e1.back fr)
    have zy : Z y := hF y (e1.back hy)
    have ha4 := ha.keep (e4.keep Z)
    refine ⟨_, rfl, _, rfl, _, rfl, a, _, dx, _, _, rfl, ha4.h, T.Picture.cl, T.Picture.no _ (by decide), pf_worked _ _ _, ?_⟩
    refine ⟨a, dx, q0, c, y, s, s.on, (setDots s ds).layers, rfl, ha4.h, fun p dp H5 hp5 e5 h5 => ?_⟩
    refine k p H5 (e1.trans (e4.trans e5)) ⟨dp, y, c, ⟨hF p (e1.back (e4.back hp5)), h5⟩, ⟨_, ⟨zy, e5 _ _ upd_same⟩, ?_⟩, hc.keep ((e4.trans e5).keep Z)⟩
    have es := setDots_set W ds
    rw [es]
    refine Paired.set ?_ _ (Paired.imp (fun _ _ z => z.keep ((e4.trans e5).keep Z)) pr)
    subst el
    refine ⟨x, dx1, q, rfl, ⟨zx, e5 _ _ ?_⟩, hd.keep ((e1.trans (e4.trans e5)).keep Z)⟩
    rw [upd_ne nyx]
    exact h3
end
end LP
end
section
set_option maxHeartbeats 4100000
namespace LP
open PySem PySem.Spec PyProof.Rows L2 Evl
open Sq50 (State Layer Dot)
/-! expressions that change nothing -/
def Pu (te : TE) (σ : L2.St) (H : Hp) (v : V) : Prop := ∀ Q : VK, Q v H → te σ H Q
def PuT (tt : TT) (σ : L2.St) (H : Hp) (b : Bool) : Prop := ∀ Q : Bool → Hp → Prop, Q b H → tt σ H Q
section
variable {K : PySem.W.Frag} {σ : L2.St} {H : Hp} {ta tb tc td te tf : TE} {t u : TT} {v x y z : V} {i j k : Int} {b c : Bool} {g : Int → Int → V} {C : Int → Int → Prop}
theorem pu_var {n : Nat} (h : σ[n]? = some (some v)) : Pu (tVar n) σ H v := fun _ q => ⟨v, h, q⟩
theorem pu_v {n : Nat} (h : σ[n]? = some (some v) := by rfl) : Pu (tVar n) σ H v := fun _ q => ⟨v, h, q⟩
theorem pu_c : Pu (tC v) σ H v := fun _ q => q
theorem pu_I0 (ha : Pu ta σ H (.int i)) (hb : Pu tb σ H (.int j)) : Pu (tOp (rI0 g) ta tb) σ H (g i j) := fun _ q => ha _ (hb _ ⟨i, j, rfl, rfl, q⟩)
theorem pu_I (ha : Pu ta σ H (.int i)) (hb : Pu tb σ H (.int j)) (hc : C i j) : Pu (tOp (rI C g) ta tb) σ H (g i j) := fun _ q => ha _ (hb _ ⟨i, j, rfl, rfl, hc, q⟩)
theorem pu_add (ha : Pu ta σ H (.int i)) (hb : Pu tb σ H (.int j)) : Pu (tOp (rI0 fun i j => .int (i + j)) ta tb) σ H (.int (i + j)) := pu_I0 ha hb
theorem pu_sub (ha : Pu ta σ H (.int i)) (hb : Pu tb σ H (.int j)) : Pu (tOp (rI0 fun i j => .int (i - j)) ta tb) σ H (.int (i - j)) := pu_I0 ha hb
theorem pu_mul (ha : Pu ta σ H (.int i)) (hb : Pu tb σ H (.int j)) (hc : CMul i j) : Pu (tOp (rI CMul fun i j => .int (i * j)) ta tb) σ H (.int (i * j)) := pu_I ha hb hc
theorem pu_neg (ha : Pu ta σ H (.int i)) : Pu (tUn (rU fun i => .int (-i)) ta) σ H (.int (-i)) := fun _ q => ha _ ⟨i, rfl, q⟩
theorem pu_U {f : Int → V} (ha : Pu ta σ H (.int i)) : Pu (tUn (rU f) ta) σ H (f i) := fun _ q => ha _ ⟨i, rfl, q⟩
theorem pu_eq (ha : Pu ta σ H (.int i)) (hb : Pu tb σ H (.int j)) : Pu (tOp rEq ta tb) σ H (.bl (decide (i = j))) := fun Q q => ha _ (hb _ ⟨rfl, by
  have e : decide (V.int i = V.int j) = decide (i = j) := by
    by_cases h : i = j
    · rw [h]; simp
    · rw [decide_eq_false h, decide_eq_false (fun z => h (by injection z))]
  show Q (.bl (decide (V.int i = V.int j))) H
  rw [e]; exact q⟩)
theorem pu_ne (ha : Pu ta σ H (.int i)) (hb : Pu tb σ H (.int j)) : Pu (tOp rNe ta tb) σ H (.bl (!decide (i = j))) := fun Q q => ha _ (hb _ ⟨rfl, by
  have e : decide (V.int i = V.int j) = decide (i = j) := by
    by_cases h : i = j
    · rw [h]; simp
    · rw [decide_eq_false h, decide_eq_false (fun z => h (by injection z))]
  show Q (.bl (!decide (V.int i = V.int j))) H
  rw [e]; exact q⟩)
theorem pu_fld {a Cl dx : Addr} {fs : List (Str × V)} {f : Str} (ha : Pu ta σ H (.ref a)) (h : H a = some (.ins Cl dx fs)) (cl : Cls K Cl) (n : NoAttr K Cl f) (l : fs.lookup f = some v) : Pu (tFld K ta f) σ H v := fun _ q => ha _ ⟨a, Cl, dx, fs, v, rfl, h, cl, n, l, q⟩
theorem pu_ixL {a : Addr} {xs : List V} {n : Nat} (ha : Pu ta σ H (.ref a)) (hb : Pu tb σ H (.int j)) (hl : SqL K H a xs) (e : j = (n : Int)) (hx : xs[n]? = some v) : Pu (tOp (rIxL K) ta tb) σ H v := fun _ q => ha _ (hb _ ⟨a, xs, j, v, rfl, rfl, hl, by subst e; exact atI_nat hx, q⟩)
theorem pu_ixT {a : Addr} {xs : List V} {n : Nat} (ha : Pu ta σ H (.ref a)) (hb : Pu tb σ H (.int j)) (hl : SqT K H a xs) (e : j = (n : Int)) (hx : xs[n]? = some v) : Pu (tOp (rIxT K) ta tb) σ H v := fun _ q => ha _ (hb _ ⟨a, xs, j, v, rfl, rfl, hl, by subst e; exact atI_nat hx, q⟩)
theorem pu_min2 (ha : Pu ta σ H (.int i)) (hb : Pu tb σ H (.int j)) : Pu (tCB (fun xs H Q => ∃ i j, xs = [.int i, .int j] ∧ Q (.int (if j < i then j else i)) H) (tCons ta (tCons tb tNil))) σ H (.int (min i j)) := fun Q q => ha _ (hb _ ⟨i, j, rfl, by
  have e : min i j = if j < i then j else i := by split <;> omega
  rw [← e]; exact q⟩)
theorem pu_max2 (ha : Pu ta σ H (.int i)) (hb : Pu tb σ H (.int j)) : Pu (tCB (fun xs H Q => ∃ i j, xs = [.int i, .int j] ∧ Q (.int (if j > i then j else i)) H) (tCons ta (tCons tb tNil))) σ H (.int (max i j)) := fun Q q => ha _ (hb _ ⟨i, j, rfl, by
  have e : max i j = if j > i then j else i := by split <;> omega
  rw [← e]; exact q⟩)
theorem pu_abs (ha : Pu ta σ H (.int i)) : Pu (tCB (fun xs H Q => ∃ i, xs = [.int i] ∧ Q (.int (if i < 0 then -i else i)) H) (tCons ta tNil)) σ H (.int (i.natAbs : Int)) := fun Q q => ha _ ⟨i, rfl, by
  have e : ((i.natAbs : Nat) : Int) = if i < 0 then -i else i := by split <;> omega
  rw [← e]; exact q⟩
theorem pu_lenL {a : Addr} {xs : List V} (ha : Pu ta σ H (.ref a)) (hl : SqL K H a xs) : Pu (tCB (fun xs H Q => ∃ p ys, xs = [.ref p] ∧ (SqL K H p ys ∨ SqT K H p ys) ∧ Q (.int ys.length) H) (tCons ta tNil)) σ H (.int (xs.length : Int)) := fun _ q => ha _ ⟨a, xs, rfl, .inl hl, q⟩
theorem pu_is {v' : V} (h : Pu te σ H v) (e : v = v') : Pu te σ H v' := e ▸ h
theorem pu_if (h : PuT t σ H b) (h1 : b = true → Pu ta σ H v) (h2 : b = false → Pu tb σ H v) : Pu (tIf t ta tb) σ H v := fun Q q => h _ (by
  cases b with
  | true => exact ifT rfl (h1 rfl Q q)
  | false => exact ifF rfl (h2 rfl Q q))
theorem pt_test (h : Pu te σ H (.bl b)) : PuT (tTest te) σ H b := fun _ q => h _ ⟨b, rfl, q⟩
theorem pt_cmp {p : Int → Int → Bool} (ha : Pu ta σ H (.int i)) (hb : Pu tb σ H (.int j)) : PuT (tTest (tOp (rI0 fun i j => .bl (p i j)) ta tb)) σ H (p i j) := fun _ q => ha _ (hb _ ⟨i, j, rfl, rfl, p i j, rfl, q⟩)
theorem pt_B (h : Pu te σ H (.bl b)) : PuT (tB te) σ H b := fun _ q => h _ ⟨b, rfl, q⟩
theorem pt_and (h1 : PuT t σ H b) (h2 : b = true → PuT u σ H c) : PuT (tAnd t u) σ H (b && c) := fun Q q => h1 _ (by
  cases b with
  | true => exact ifT rfl (h2 rfl Q q)
  | false => exact ifF rfl q)
theorem pt_or (h1 : PuT t σ H b) (h2 : b = false → PuT u σ H c) : PuT (tOr t u) σ H (b || c) := fun Q q => h1 _ (by
  cases b with
  | true => exact ifT rfl q
  | false => exact ifF rfl (h2 rfl Q q))
theorem pt_not' (h1 : PuT t σ H b) : PuT (tNot t) σ H (!b) := fun Q q => h1 _ q
theorem pt_is {b' : Bool} (h : PuT t σ H b) (e : b = b') : PuT t σ H b' := e ▸ h
theorem pt_tru0 (ha : Pu ta σ H (.int i)) : PuT (fun σ H Q => ta σ H fun x H' => ∃ k, TruV K x H' k ∧ Q k H') σ H (i != 0) := fun _ q => ha _ ⟨_, rfl, q⟩
theorem pt_truI (ha : Pu ta σ H (.int i)) : PuT (tTru K ta) σ H (i != 0) := fun _ q => ha _ ⟨_, rfl, q⟩
/-- a chain of two comparisons of ints -/
theorem pu_chain {p p' : Int → Int → Bool} (ha : Pu ta σ H (.int i)) (hb : Pu tb σ H (.int j)) (hc : Pu tc σ H (.int k)) : Pu (tChain (rI0 fun i j => .bl (p i j)) (rI0 fun i j => .bl (p' i j)) ta tb tc) σ H (.bl (p i j && p' j k)) := fun Q q => ha _ (hb _ ⟨i, j, rfl, rfl, p i j, rfl, by
  cases e : p i j with
  | true => exact ifT rfl (hc _ ⟨j, k, rfl, rfl, by rw [e] at q; exact q⟩)
  | false => exact ifF rfl (by rw [e] at q; exact q)⟩)
def PuA (ta : TA) (σ : L2.St) (H : Hp) (vs : List V) : Prop := ∀ Q : List V → Hp → Prop, Q vs H → ta σ H Q
theorem pa0 : PuA tNil σ H [] := fun _ q => q
theorem paC {tr : TA} {vs : List V} (h : Pu te σ H v) (hr : PuA tr σ H vs) : PuA (tCons te tr) σ H (v :: vs) := fun _ q => h _ (hr _ q)
theorem c_call {sp : Sp} {dvs vs : List V} {E : XK} {tr : TA} {Q : VK} (h : PuA tr σ H vs) (q : sp (vs ++ dvs) H Q E) : tCall sp dvs E tr σ H Q := h _ q
theorem c_tup {tr : TA} {vs : List V} {Q : VK} (h : PuA tr σ H vs) (hl : vs.length ≤ 1000) (q : ∀ p, H p = none → Q (.ref p) (upd H p (.tup vs))) : tTup tr σ H Q := h _ ⟨szl (by omega), q⟩
theorem c_lst {tr : TA} {vs : List V} {Q : VK} (h : PuA tr σ H vs) (hl : vs.length ≤ 1000) (q : ∀ p, H p = none → Q (.ref p) (upd H p (.lst vs))) : tLst tr σ H Q := h _ ⟨szl (by omega), q⟩
/-! statements -/
variable {D : Ends} {tu tw : TS}
theorem s_if (h : PuT t σ H b) (h1 : b = true → tu D σ H) (h2 : b = false → tw D σ H) : tIfS t tu tw D σ H := h _ (by
  cases b with
  | true => exact ifT rfl (h1 rfl)
  | false => exact ifF rfl (h2 rfl))
theorem s_ret (h : Pu te σ H v) (q : D.rt v H) : tRet te D σ H := h _ q
theorem s_set {n : Nat} (h : Pu te σ H v) (q : D.nx (σ.set n (some v)) H) : tAsg te (gName n) D σ H := h _ q
end
theorem mulOk {i j : Int} (h : -(2 ^ 64) < i) (h' : i < 2 ^ 64) : CMul i j := .inl ⟨h, h'⟩
theorem mulOkR {i j : Int} (h : -(2 ^ 64) < j) (h' : j < 2 ^ 64) : CMul i j := .inr ⟨h, h'⟩
end LP
end
section
set_option maxHeartbeats 4100000
set_option exponentiation.threshold 2000  -- own
namespace LP
open PySem PySem.Spec PyProof.Rows L2 Evl
open Sq50 (State Layer Dot)
theorem bg {n k : Nat} (h : n < 2 ^ k) : (n : Int).natAbs < 2 ^ k := by rw [Int.natAbs_natCast]; exact h
theorem bgM {n k : Nat} (h : n < 2 ^ k) (m : Nat) (hm : k ≤ m) : n < 2 ^ m := Nat.lt_of_lt_of_le h (Nat.pow_le_pow_right (by decide) hm)
theorem bgX {a b n m : Nat} (ha : a < 2 ^ n) (hb : b < 2 ^ m) : a * b < 2 ^ (n + m) := by rw [Nat.pow_add]; exact Nat.mul_lt_mul'' ha hb
theorem bgA {a b n : Nat} (ha : a < 2 ^ n) (hb : b < 2 ^ n) : a + b < 2 ^ (n + 1) := by rw [Nat.pow_succ]; omega
theorem cm {a b n m : Nat} (ha : a < 2 ^ n) (hb : b < 2 ^ m) (h0 : 0 < n := by decide) (h1 : 0 < m := by decide) (h : n + m ≤ 1000000 := by decide) : CMulW (a : Int) (b : Int) := wide_mul (bg ha) (bg hb) h0 h1 h
/-- values as natural numbers -/
theorem pu_nmul {σ : L2.St} {H : Hp} {ta tb : TE} {a b n m : Nat} (ha : Pu ta σ H (nV a)) (hb : Pu tb σ H (nV b)) (h1 : a < 2 ^ n) (h2 : b < 2 ^ m) (h3 : 0 < n := by decide) (h4 : 0 < m := by decide) (h : n + m ≤ 1000000 := by decide) :
    Pu (tOp (rI CMulW fun i j => .int (i * j)) ta tb) σ H (nV (a * b)) := pu_is (pu_I ha hb (cm h1 h2 h3 h4 h)) (by show V.int _ = V.int _; rw [Int.natCast_mul])
theorem pu_nadd {σ : L2.St} {H : Hp} {ta tb : TE} {a b : Nat} (ha : Pu ta σ H (nV a)) (hb : Pu tb σ H (nV b)) : Pu (tOp (rI0 fun i j => .int (i + j)) ta tb) σ H (nV (a + b)) := pu_is (pu_I0 ha hb) (by show V.int _ = V.int _; rw [Int.natCast_add])
theorem pu_nsub {σ : L2.St} {H : Hp} {ta tb : TE} {a b : Nat} (ha : Pu ta σ H (nV a)) (hb : Pu tb σ H (nV b)) (h : b ≤ a) : Pu (tOp (rI0 fun i j => .int (i - j)) ta tb) σ H (nV (a - b)) := pu_is (pu_I0 ha hb) (by show V.int _ = V.int _; rw [Int.natCast_sub h])
theorem op_nmul {H : Hp} {Q : VK} {a b n m : Nat} (h1 : a < 2 ^ n) (h2 : b < 2 ^ m) (h3 : 0 < n) (h4 : 0 < m) (h : n + m ≤ 1000000) (q : Q (nV (a * b)) H) : rI CMulW (fun i j => .int (i * j)) (nV a) (nV b) H Q := ⟨_, _, rfl, rfl, cm h1 h2 h3 h4 h, by
  have e : V.int ((a : Int) * (b : Int)) = nV (a * b) := congrArg V.int (Int.natCast_mul a b).symm
  show Q (V.int ((a : Int) * (b : Int))) H
  rw [e]; exact q⟩
theorem pu_nc {σ : L2.St} {H : Hp} (n : Nat) : Pu (tC (.int (n : Int))) σ H (nV n) := pu_c
theorem pu_nmin {σ : L2.St} {H : Hp} {ta tb : TE} {a b : Nat} (ha : Pu ta σ H (nV a)) (hb : Pu tb σ H (nV b)) : Pu (tCB (fun xs H Q => ∃ i j, xs = [.int i, .int j] ∧ Q (.int (if j < i then j else i)) H) (tCons ta (tCons tb tNil))) σ H (nV (min a b)) := pu_is (pu_min2 ha hb) (by show V.int _ = V.int _; congr 1; omega)
theorem pu_nmax {σ : L2.St} {H : Hp} {ta tb : TE} {a b : Nat} (ha : Pu ta σ H (nV a)) (hb : Pu tb σ H (nV b)) : Pu (tCB (fun xs H Q => ∃ i j, xs = [.int i, .int j] ∧ Q (.int (if j > i then j else i)) H) (tCons ta (tCons tb tNil))) σ H (nV (max a b)) := pu_is (pu_max2 ha hb) (by show V.int _ = V.int _; congr 1; omega)
theorem pt_neq {σ : L2.St} {H : Hp} {ta : TE} {a : Nat} {k : Nat} (ha : Pu ta σ H (nV a)) : PuT (tTest (tOp rEq ta (tC (.int (k : Int))))) σ H (decide (a = k)) := pt_is (pt_test (pu_eq ha pu_c)) (by
  by_cases h : a = k
  · subst h; simp
  · rw [decide_eq_false h, decide_eq_false (by omega)])
section
variable {P : Program} {w : World} {K : PySem.W.Frag} {mg : Str → Option Value} {base : Heap}
/-- nearest(part, whole) -/
def near (p q : Nat) : Nat := (2 * p + q) / (2 * q)
def sp_nearest (T : Txt K mg) : Sp := fun vs H Q _ => ∃ p q : Nat, vs = [nV p, nV q] ∧ 0 < q ∧ p < 2 ^ 800 ∧ q < 2 ^ 800 ∧ Q (nV (near p q)) H
theorem ok_nearest (T : Txt K mg) : FnOk P w K mg base CX0 1 T.nearest.a T.nearest.fd ["part", "whole"] (sp_nearest T) := by
  refine T.nearest.F.ok sc_nearest (fun vs H Q E h => ?_) (fun cdv A outer s H vs Q E hr h => ⟨_, (pss_one (ps_ret (pe_op op_fdivW (pe_op op_add (pe_op op_mulW pe_int (pv 0)) (pv 1)) (pe_op op_mulW pe_int (pv 1))))), ?_⟩)
  · obtain ⟨p, q, rfl, _⟩ := h
    rfl
  · obtain ⟨p, q, rfl, q0, hp, hq, k⟩ := h
    have c2 : (2 : Nat) < 2 ^ 2 := by decide
    have hb := bgX c2 hq
    refine s_ret (pu_is (pu_I (pu_nadd (pu_nmul (pu_nc 2) (pu_var rfl) c2 hp) (pu_var rfl)) (pu_nmul (pu_nc 2) (pu_var rfl) c2 hq) (wide_div (by omega) (bg hb) (by decide) (by decide))) ?_) k
    show V.int _ = V.int _
    unfold near
    rw [Int.natCast_ediv]
/-- met(way, product, cover, colour) -/
def sp_met (T : Txt K mg) : Sp := fun vs H Q _ => ∃ way p c v : Nat, vs = [nV way, nV p, nV c, nV v] ∧ p ≤ c ∧ v ≤ 255 ∧ c < 2 ^ 400 ∧ way ≤ 6 ∧ Q (nV (nMet way p c v)) H
theorem ok_met (T : Txt K mg) : FnOk P w K mg base CX0 1 T.met.a T.met.fd ["way", "product", "cover", "colour"] (sp_met T) := by
  refine T.met.F.ok sc_met (fun vs H Q E h => ?_) (fun cdv A outer s H vs Q E hr h => ⟨_, (pss_cons (ps_set (i := 4) sc_met.nd rfl (by first | exact Or.inl rfl | exact Or.inr rfl) (pe_op op_mulW (pv 1) pe_int))
  (pss_cons (ps_set (i := 5) sc_met.nd rfl (by first | exact Or.inl rfl | exact Or.inr rfl) (pe_op op_mulW (pv 2) (pv 3)))
  (pss_cons (ps_if (pt_cmpR op_eq (pv 0) pe_int (nomark _))
  (pss_one (ps_ret (pv 5)))
  pss_nil)
  (pss_cons (ps_if (pt_cmpR op_eq (pv 0) pe_int (nomark _))
  (pss_one (ps_ret (pe_op op_mulW (pv 1) (pv 3))))
  pss_nil)
  (pss_cons (ps_if (pt_cmpR op_eq (pv 0) pe_int (nomark _))
  (pss_one (ps_ret (pe_op op_sub (pe_op op_add (pv 4) (pv 5)) (pe_op op_mulW (pv 1) (pv 3)))))
  pss_nil)
  (pss_cons (ps_if (pt_cmpR op_eq (pv 0) pe_int (nomark _))
  (pss_one (ps_ret (pe_callB (call_min2 rfl) (by rfl) (T.nb "min" (by decide)) (by decide +kernel) (pa_cons (pv 4) (pa_cons (pv 5) pa_nil)))))
  pss_nil)
  (pss_cons (ps_if (pt_cmpR op_eq (pv 0) pe_int (nomark _))
  (pss_one (ps_ret (pe_callB (call_max2 rfl) (by rfl) (T.nb "max" (by decide)) (by decide +kernel) (pa_cons (pv 4) (pa_cons (pv 5) pa_nil)))))
  pss_nil)
  (pss_cons (ps_if (pt_cmpR op_eq (pv 0) pe_int (nomark _))
  (pss_one (ps_ret (pe_callB call_abs (by rfl) (T.nb "abs" (by decide)) (by decide +kernel) (pa_cons (pe_op op_sub (pv 4) (pv 5)) pa_nil))))
  pss_nil)
  (pss_one (ps_ret (pe_callB (call_min2 rfl) (by rfl) (T.nb "min" (by decide)) (by decide +kernel) (pa_cons (pe_op op_add (pv 4) (pv 5)) (pa_cons (pe_op op_mulW (pv 2) pe_int) pa_nil))))))))))))), ?_⟩)
  · obtain ⟨way, p, c, v, rfl, _⟩ := h
    rfl
  · obtain ⟨way, p, c, v, rfl, hpc, hv, hc, hw, k⟩ := h
    have hp : p < 2 ^ 400 := Nat.lt_of_le_of_lt hpc hc
    have hv8 : v < 2 ^ 8 := by omega
    have h255 : (255 : Nat) < 2 ^ 8 := by decide
    refine s_set (pu_nmul (pu_var rfl) (pu_nc 255) hp h255) ?_
    refine s_set (pu_nmul (pu_var rfl) (pu_var rfl) hc hv8) ?_
    have h4 : p * v ≤ p * 255 := Nat.mul_le_mul_left _ hv
    refine s_if (pt_neq (k := 0) (pu_var rfl)) (fun e => s_ret (pu_is (pu_var rfl) ?_) k) fun n0 => ?_
    · have e := of_decide_eq_true e; subst e; rfl
    refine s_if (pt_neq (k := 1) (pu_var rfl)) (fun e => s_ret (pu_is (pu_nmul (pu_var rfl) (pu_var rfl) hp hv8) ?_) k) fun n1 => ?_
    · have e := of_decide_eq_true e; subst e; rfl
    refine s_if (pt_neq (k := 2) (pu_var rfl)) (fun e => s_ret (pu_is (pu_nsub (pu_nadd (pu_var rfl) (pu_var rfl)) (pu_nmul (pu_var rfl) (pu_var rfl) hp hv8) (by omega)) ?_) k) fun n2 => ?_
    · have e := of_decide_eq_true e; subst e; rfl
    refine s_if (pt_neq (k := 3) (pu_var rfl)) (fun e => s_ret (pu_is (pu_nmin (pu_var rfl) (pu_var rfl)) ?_) k) fun n3 => ?_
    · have e := of_decide_eq_true e; subst e; rfl
    refine s_if (pt_neq (k := 4) (pu_var rfl)) (fun e => s_ret (pu_is (pu_nmax (pu_var rfl) (pu_var rfl)) ?_) k) fun n4 => ?_
    · have e := of_decide_eq_true e; subst e; rfl
    refine s_if (pt_neq (k := 5) (pu_var rfl)) (fun e => s_ret (pu_is (pu_abs (pu_I0 (pu_var rfl) (pu_var rfl))) ?_) k) fun n5 => ?_
    · have e := of_decide_eq_true e
      subst e
      show V.int _ = V.int _
      congr 1
      show (((((p * 255 : Nat) : Int) - ((c * v : Nat) : Int)).natAbs : Nat) : Int) = (((p * 255 - c * v) + (c * v - p * 255) : Nat) : Int)
      omega
    refine s_ret (pu_is (pu_nmin (pu_nadd (pu_var rfl) (pu_var rfl)) (pu_nmul (pu_var rfl) (pu_nc 255) hc h255)) ?_) k
    have e0 := of_decide_eq_false n0
    have e1 := of_decide_eq_false n1
    have e2 := of_decide_eq_false n2
    have e3 := of_decide_eq_false n3
    have e4 := of_decide_eq_false n4
    have e5 := of_decide_eq_false n5
    unfold nMet
    rw [if_neg e0, if_neg e1, if_neg e2, if_neg e3, if_neg e4, if_neg e5]
abbrev N3 := Nat × Nat × Nat
def n3V (x : N3) : List V := [nV x.1, nV x.2.1, nV x.2.2]
def nStep (x : N3) (l : Layer) (d : Dot) : N3 := if l.seen = true then nOver l.way x.1 x.2.1 x.2.2 d.1 (d.2 * l.strong) else x
structure Ok3 (x : N3) (k : Nat) : Prop where
  pc : x.1 ≤ x.2.1
  cw : x.2.1 ≤ x.2.2
  w0 : 0 < x.2.2
  w : x.2.2 < 2 ^ k
/-- put_over(so_far, layer, place) -/
def sp_put_over (T : Txt K mg) : Sp := fun vs H Q _ => ∃ (t : Addr) (v : V) (pl : Nat) (x : N3) (Z : Addr → Prop) (l : Layer) (d : Dot), vs = [.ref t, v, nV pl] ∧ H t = some (.tup (n3V x)) ∧ LayAt T.Layer.a Z H v l ∧ l.dots[pl]? = some d ∧
  d.1 ≤ 255 ∧ d.2 ≤ 255 ∧ l.strong ≤ 255 ∧ l.way ≤ 6 ∧ Ok3 x 300 ∧ ∀ t' H', Ex H H' → H' t' = some (.tup (n3V (nStep x l d))) → Q (.ref t') H'
theorem ok_put_over (T : Txt K mg) : FnOk P w K mg base CX0 2 T.put_over.a T.put_over.fd ["so_far", "layer", "place"] (sp_put_over T) := by
  refine T.put_over.F.ok sc_put_over (fun vs H Q E h => ?_) (fun cdv A outer s H vs Q E hr h => ⟨_, (pss_cons (ps_if (pt_not (pt_truth (pe_fld (pv 1) rfl) (by intro _; rfl)))
  (pss_one (ps_ret (pv 0)))
  pss_nil)
  (pss_cons (ps_set (i := 3) sc_put_over.nd rfl (by first | exact Or.inl rfl | exact Or.inr rfl) (pe_ix ix_tup (pv 0) pe_int (fun _ _ => rfl)))
  (pss_cons (ps_set (i := 4) sc_put_over.nd rfl (by first | exact Or.inl rfl | exact Or.inr rfl) (pe_ix ix_tup (pv 0) pe_int (fun _ _ => rfl)))
  (pss_cons (ps_set (i := 5) sc_put_over.nd rfl (by first | exact Or.inl rfl | exact Or.inr rfl) (pe_ix ix_tup (pv 0) pe_int (fun _ _ => rfl)))
  (pss_cons (ps_set (i := 6) sc_put_over.nd rfl (by first | exact Or.inl rfl | exact Or.inr rfl) (pe_ix ix_tup (pe_ix ix_list (pe_fld (pv 1) rfl) (pv 2) (fun _ _ => rfl)) pe_int (fun _ _ => rfl)))
  (pss_cons (ps_set (i := 7) sc_put_over.nd rfl (by first | exact Or.inl rfl | exact Or.inr rfl) (pe_op op_mulW (pe_ix ix_tup (pe_ix ix_list (pe_fld (pv 1) rfl) (pv 2) (fun _ _ => rfl)) pe_int (fun _ _ => rfl)) (pe_fld (pv 1) rfl)))
  (pss_cons (ps_set (i := 8) sc_put_over.nd rfl (by first | exact Or.inl rfl | exact Or.inr rfl) (pe_op op_sub pe_int (pv 7)))
  (pss_cons (ps_set (i := 9) sc_put_over.nd rfl (by first | exact Or.inl rfl | exact Or.inr rfl) (pe_op op_mulW (pe_op op_mulW (pv 6) (pv 7)) (pe_op op_sub (pv 5) (pv 4))))
  (pss_cons (ps_set (i := 10) sc_put_over.nd rfl (by first | exact Or.inl rfl | exact Or.inr rfl) (pe_op op_mulW (pe_op op_mulW (pv 3) (pv 8)) pe_int))
  (pss_cons (ps_set (i := 11) sc_put_over.nd rfl (by first | exact Or.inl rfl | exact Or.inr rfl) (pe_op op_mulW (pv 7) (pe_call (ok_met T) (hr.mono (by decide)) (by rfl) T.met.g T.met.F.kp T.met.b .nil pass0 (pa_cons (pe_fld (pv 1) rfl) (pa_cons (pv 3) (pa_cons (pv 4) (pa_cons (pv 6) pa_nil)))))))
  (pss_cons (ps_set (i := 12) sc_put_over.nd rfl (by first | exact Or.inl rfl | exact Or.inr rfl) (pe_op op_add (pe_op op_mulW (pv 7) (pv 5)) (pe_op op_mulW (pv 4) (pv 8))))
  (pss_one (ps_ret (pe_tup (pa_cons (pe_op op_add (pe_op op_add (pv 9) (pv 10)) (pv 11)) (pa_cons (pe_op op_mulW (pv 12) pe_int) (pa_cons (pe_op op_mulW (pe_op op_mulW (pv 5) pe_int) pe_int) pa_nil))))))))))))))))), ?_⟩)
  · obtain ⟨t, v, pl, x, Z, l, d, rfl, _⟩ := h
    rfl
  · obtain ⟨t, v, pl, ⟨p, c, wh⟩, Z, l, d, rfl, ht, hl, hd, d1, d2, st, wy, ok, k⟩ := h
    obtain ⟨a, dx, q, rfl, ha, vs, hq, pr⟩ := hl
    obtain ⟨y, hy, b, rfl, hb⟩ := Paired.get pr hd
    have fld : ∀ (i : Nat) (σ : L2.St) (f : Str) (u : V), σ[i]? = some (some (.ref a)) → f ∈ (["number", "seen", "strong", "way", "dots"] : List Str) → (layF l q).lookup f = some u → Pu (tFld K (tVar i) f) σ H u :=
      fun i σ f u hs hf hu => pu_fld (pu_var hs) ha.h T.Layer.cl (T.Layer.no f hf) hu
    have fS : Pu (tFld K (tVar 1) "seen") (L2.start N_put_over [.ref t, .ref a, nV pl]) H (bV l.seen) := fld 1 _ "seen" _ rfl (by decide) (lf_seen _ _)
    refine s_if (pt_not' (pt_tru0 fS)) (fun e => ?_) (fun e => ?_)
    · refine s_ret (pu_var rfl) (k t H (Ex.refl H) ?_)
      have es : l.seen = false := by cases h : l.seen <;> simp_all
      unfold nStep
      rw [es]
      exact ht
    · have es : l.seen = true := by cases h : l.seen <;> simp_all
      have hp : p ≤ c := ok.pc
      have hc : c ≤ wh := ok.cw
      have hw : wh < 2 ^ 300 := ok.w
      have hc3 : c < 2 ^ 300 := Nat.lt_of_le_of_lt hc hw
      have hp3 : p < 2 ^ 300 := Nat.lt_of_le_of_lt hp hc3
      have hu : d.2 * l.strong ≤ 65025 := Nat.mul_le_mul d2 st
      have hu16 : d.2 * l.strong < 2 ^ 16 := by omega
      have hv8 : d.1 < 2 ^ 8 := by omega
      refine s_set (pu_ixT (n := 0) (pu_var rfl) pu_c (SqT.of ht) rfl rfl) ?_
      refine s_set (pu_ixT (n := 1) (pu_var rfl) pu_c (SqT.of ht) rfl rfl) ?_
      refine s_set (pu_ixT (n := 2) (pu_var rfl) pu_c (SqT.of ht) rfl rfl) ?_
      refine s_set (pu_ixT (n := 0) (pu_ixL (fld 1 _ "dots" _ rfl (by decide) (lf_dots _ _)) (pu_var rfl) hq.sq rfl hy) pu_c hb.st rfl rfl) ?_
      refine s_set (pu_nmul (pu_ixT (n := 1) (pu_ixL (fld 1 _ "dots" _ rfl (by decide) (lf_dots _ _)) (pu_var rfl) hq.sq rfl hy) pu_c hb.st rfl rfl) (fld 1 _ "strong" _ rfl (by decide) (lf_strong _ _)) (n := 8) (m := 8) (by omega) (by omega)) ?_
      refine s_set (pu_nsub (pu_nc 65025) (pu_var rfl) hu) ?_
      have hb16 : 65025 - d.2 * l.strong < 2 ^ 16 := by omega
      refine s_set (pu_nmul (pu_nmul (pu_var rfl) (pu_var rfl) hv8 hu16) (pu_nsub (pu_var rfl) (pu_var rfl) hc) (bgX hv8 hu16) (Nat.lt_of_le_of_lt (Nat.sub_le _ _) hw)) ?_
      refine s_set (pu_nmul (pu_nmul (pu_var rfl) (pu_var rfl) hp3 hb16) (pu_nc 255) (bgX hp3 hb16) (m := 8) (by decide)) ?_
      -- both
      refine ⟨_, rfl, c_call (paC (fld 1 _ "way" _ rfl (by decide) (lf_way _ _)) (paC (pu_var rfl) (paC (pu_var rfl) (paC (pu_var rfl) pa0)))) ⟨l.way, p, c, d.1, rfl, hp, d1, bgM hc3 400 (by decide), wy, ?_⟩⟩
      have hm : nMet l.way p c d.1 < 2 ^ 308 := Nat.lt_of_le_of_lt (nMet_le hp d1) (bgX hc3 (by decide : (255 : Nat) < 2 ^ 8))
      refine op_nmul hu16 hm (by decide) (by decide) (by decide) ?_
      refine s_set (pu_nadd (pu_nmul (pu_var rfl) (pu_var rfl) hu16 hw) (pu_nmul (pu_var rfl) (pu_var rfl) hc3 hb16)) ?_
      have hcv : d.2 * l.strong * wh + c * (65025 - d.2 * l.strong) < 2 ^ 317 := by
        have h1 := bgX hu16 hw
        have h2 := bgX hc3 hb16
        exact bgA (n := 316) h1 h2
      refine c_tup (paC (pu_nadd (pu_nadd (pu_var rfl) (pu_var rfl)) (pu_var rfl)) (paC (pu_nmul (pu_var rfl) (pu_nc 255) hcv (m := 8) (by decide)) (paC (pu_nmul (pu_nmul (pu_var rfl) (pu_nc 65025) hw (m := 16) (by decide)) (pu_nc 255) (bgX hw (by decide : (65025 : Nat) < 2 ^ 16)) (m := 8) (by decide)) pa0))) (Nat.le_of_ble_eq_true rfl) fun t' ht' => k t' _ (Ex.new ht') ?_
      rw [upd_same]
      unfold nStep
      rw [if_pos es]
      rfl
/-- rounded_dot(so_far) -/
def nShow (x : N3) : Dot := if near (x.2.1 * 255) x.2.2 = 0 then (0, 0) else (near (x.1 * 255) x.2.1, near (x.2.1 * 255) x.2.2)
def RDot (d : Dot) (H : Hp) (Q : VK) : Prop := ∀ t H', H t = none → Ex H H' → H' t = some (.tup [nV d.1, nV d.2]) → Q (.ref t) H'
def sp_rounded_dot (T : Txt K mg) : Sp := fun vs H Q _ => ∃ (t : Addr) (x : N3), vs = [.ref t] ∧ H t = some (.tup (n3V x)) ∧ Ok3 x 300 ∧ RDot (nShow x) H Q
theorem ok_rounded_dot (T : Txt K mg) : FnOk P w K mg base CX0 2 T.rounded_dot.a T.rounded_dot.fd ["so_far"] (sp_rounded_dot T) := by
  refine T.rounded_dot.F.ok sc_rounded_dot (fun vs H Q E h => ?_) (fun cdv A outer s H vs Q E hr h => ⟨_, (pss_cons (ps_set (i := 1) sc_rounded_dot.nd rfl (by first | exact Or.inl rfl | exact Or.inr rfl) (pe_call (ok_nearest T) (hr.mono (by decide)) (by rfl) T.nearest.g T.nearest.F.kp T.nearest.b .nil pass0 (pa_cons (pe_op op_mulW (pe_ix ix_tup (pv 0) pe_int (fun _ _ => rfl)) pe_int) (pa_cons (pe_ix ix_tup (pv 0) pe_int (fun _ _ => rfl)) pa_nil))))
  (pss_cons (ps_if (pt_cmpR op_eq (pv 1) pe_int (nomark _))
  (pss_one (ps_ret (pe_tup (pa_cons pe_int (pa_cons pe_int pa_nil)))))
  pss_nil)
  (pss_one (ps_ret (pe_tup (pa_cons (pe_call (ok_nearest T) (hr.mono (by decide)) (by rfl) T.nearest.g T.nearest.F.kp T.nearest.b .nil pass0 (pa_cons (pe_op op_mulW (pe_ix ix_tup (pv 0) pe_int (fun _ _ => rfl)) pe_int) (pa_cons (pe_ix ix_tup (pv 0) pe_int (fun _ _ => rfl)) pa_nil))) (pa_cons (pv 1) pa_nil))))))), ?_⟩)
  · obtain ⟨t, x, rfl, _⟩ := h
    rfl
  · obtain ⟨t, ⟨p, c, wh⟩, rfl, ht, ok, k⟩ := h
    have hp : p ≤ c := ok.pc
    have hc : c ≤ wh := ok.cw
    have hw : wh < 2 ^ 300 := ok.w
    have w0 : 0 < wh := ok.w0
    have hc3 : c < 2 ^ 300 := Nat.lt_of_le_of_lt hc hw
    have hp3 : p < 2 ^ 300 := Nat.lt_of_le_of_lt hp hc3
    have h255 : (255 : Nat) < 2 ^ 8 := by decide
    refine c_call (paC (pu_nmul (pu_ixT (n := 1) (pu_var rfl) pu_c (SqT.of ht) rfl rfl) (pu_nc 255) hc3 h255) (paC (pu_ixT (n := 2) (pu_var rfl) pu_c (SqT.of ht) rfl rfl) pa0)) ⟨c * 255, wh, rfl, w0, bgM (bgX hc3 h255) 800 (by decide), bgM hw 800 (by decide), ?_⟩
    refine s_if (pt_neq (k := 0) (pu_var rfl)) (fun e => ?_) fun e => ?_
    · refine c_tup (paC pu_c (paC pu_c pa0)) (Nat.le_of_ble_eq_true rfl) fun t' ht' => k t' _ ht' (Ex.new ht') ?_
      rw [upd_same]
      unfold nShow
      rw [if_pos (of_decide_eq_true e)]
      rfl
    · have e' := of_decide_eq_false e
      have c0 : 0 < c := by
        rcases Nat.eq_zero_or_pos c with z | z
        · exfalso
          apply e'
          unfold near
          rw [z]
          exact Nat.div_eq_of_lt (by omega)
        · exact z
      refine c_call (paC (pu_nmul (pu_ixT (n := 0) (pu_var rfl) pu_c (SqT.of ht) rfl rfl) (pu_nc 255) hp3 h255) (paC (pu_ixT (n := 1) (pu_var rfl) pu_c (SqT.of ht) rfl rfl) pa0)) ⟨p * 255, c, rfl, c0, bgM (bgX hp3 h255) 800 (by decide), bgM hc3 800 (by decide), ?_⟩
      refine ⟨_, rfl, by show 2 ≤ sizeLine; decide, fun t' ht' => k t' _ ht' (Ex.new ht') ?_⟩
      rw [upd_same]
      unfold nShow
      rw [if_neg e']
/-- shown_dot(layers, place) -/
def nDot (pl : Nat) (l : Layer) : Dot := (l.dots[pl]?).getD (0, 0)
def nPile (pl : Nat) (ls : List Layer) : N3 := ls.foldl (fun x l => nStep x l (nDot pl l)) (0, 0, 1)
structure LayOk (pl : Nat) (l : Layer) : Prop where
  d : l.dots[pl]? = some (nDot pl l)
  d1 : (nDot pl l).1 ≤ 255
  d2 : (nDot pl l).2 ≤ 255
  st : l.strong ≤ 255
  wy : l.way ≤ 6
theorem ok3_step {x : N3} {k : Nat} {l : Layer} {pl : Nat} (o : Ok3 x k) (lo : LayOk pl l) : Ok3 (nStep x l (nDot pl l)) (k + 24) := by
  obtain ⟨p, c, wh⟩ := x
  have hp : p ≤ c := o.pc
  have hc : c ≤ wh := o.cw
  have w0 : 0 < wh := o.w0
  have hw : wh < 2 ^ k := o.w
  unfold nStep
  by_cases e : l.seen = true
  · rw [if_pos e]
    have hu : (nDot pl l).2 * l.strong ≤ 65025 := Nat.mul_le_mul lo.d2 lo.st
    have hv := lo.d1
    have n1 := nMet_le (way := l.way) hp hv
    have hwb : wh * 65025 * 255 < 2 ^ (k + 24) := by
      have h2 : (16581375 : Nat) < 2 ^ 24 := by decide
      have h3 := bgX hw h2
      have h4 : wh * 65025 * 255 = wh * 16581375 := by rw [Nat.mul_assoc]
      omega
    generalize (nDot pl l).2 * l.strong = u at *
    generalize (nDot pl l).1 = v at *
    unfold nOver
    obtain ⟨r, hr⟩ : ∃ r, 65025 = u + r := ⟨65025 - u, by omega⟩
    obtain ⟨q, hq⟩ : ∃ q, wh = c + q := ⟨wh - c, by omega⟩
    have eB : 65025 - u = r := by omega
    have eQ : wh - c = q := by omega
    refine ⟨?_, ?_, ?_, ?_⟩
    · show v * u * (wh - c) + p * (65025 - u) * 255 + u * nMet l.way p c v ≤ (u * wh + c * (65025 - u)) * 255
      rw [eB, eQ]
      have m1 : u * nMet l.way p c v ≤ u * (c * 255) := Nat.mul_le_mul_left _ (nMet_le hp hv)
      have m2 : p * r ≤ c * r := Nat.mul_le_mul_right _ hp
      have m3 : v * (u * q) ≤ 255 * (u * q) := Nat.mul_le_mul_right _ hv
      have e3 : v * u * q = v * (u * q) := Nat.mul_assoc ..
      have e4 : u * wh = u * c + u * q := by rw [hq, Nat.mul_add]
      have e5 : u * (c * 255) = u * c * 255 := by rw [Nat.mul_assoc]
      rw [e3, e4]
      omega
    · show (u * wh + c * (65025 - u)) * 255 ≤ wh * 65025 * 255
      rw [eB]
      have m2 : c * r ≤ wh * r := Nat.mul_le_mul_right _ hc
      have e4 : wh * 65025 = u * wh + wh * r := by rw [hr, Nat.mul_add, Nat.mul_comm wh u]
      omega
    · show 0 < wh * 65025 * 255
      have := Nat.mul_pos w0 (by decide : 0 < 65025)
      omega
    · exact hwb
  · rw [if_neg e]
    exact ⟨hp, hc, w0, bgM hw (k + 24) (by omega)⟩
theorem ok3_fold {pl : Nat} : ∀ (ls : List Layer) (x : N3) (k : Nat), Ok3 x k → (∀ l ∈ ls, LayOk pl l) → Ok3 (ls.foldl (fun x l => nStep x l (nDot pl l)) x) (k + 24 * ls.length)
  | [], x, k, o, _ => o
  | l :: ls, x, k, o, h => by
    have := ok3_fold ls (nStep x l (nDot pl l)) (k + 24) (ok3_step o (h l (List.mem_cons_self ..))) (fun m hm => h m (List.mem_cons_of_mem _ hm))
    rw [List.length_cons, Nat.mul_succ, Nat.add_comm (24 * ls.length), ← Nat.add_assoc]
    exact this
theorem ok3_one : Ok3 (0, 0, 1) 1 := ⟨Nat.le_refl _, by decide, by decide, by decide⟩
def sp_shown_dot (T : Txt K mg) : Sp := fun vs H Q _ => ∃ (q : Addr) (pl : Nat) (Z : Addr → Prop) (ls : List Layer), vs = [.ref q, nV pl] ∧ LaysAt T.Layer.a Z H q ls ∧ (∀ l ∈ ls, LayOk pl l) ∧ ls.length ≤ 5 ∧ RDot (nShow (nPile pl ls)) H Q
theorem ok_shown_dot (T : Txt K mg) : FnOk P w K mg base CX0 3 T.shown_dot.a T.shown_dot.fd ["layers", "place"] (sp_shown_dot T) := by
  refine T.shown_dot.F.ok sc_shown_dot (fun vs H Q E h => ?_) (fun cdv A outer s H vs Q E hr h => ⟨_, (pss_cons (ps_set (i := 2) sc_shown_dot.nd rfl (by first | exact Or.inl rfl | exact Or.inr rfl) (pe_tup (pa_cons pe_int (pa_cons pe_int (pa_cons pe_int pa_nil)))))
  (pss_cons (ps_for PassesOwn.never rfl (pi_list (pv 0)) (pg_name (i := 3) sc_shown_dot.nd rfl (by first | exact Or.inl rfl | exact Or.inr rfl))
  (pss_one (ps_set (i := 2) sc_shown_dot.nd rfl (by first | exact Or.inl rfl | exact Or.inr rfl) (pe_call (ok_put_over T) (hr.mono (by decide)) (by rfl) T.put_over.g T.put_over.F.kp T.put_over.b .nil pass0 (pa_cons (pv 2) (pa_cons (pv 3) (pa_cons (pv 1) pa_nil)))))))
  (pss_one (ps_ret (pe_call (ok_rounded_dot T) (hr.mono (by decide)) (by rfl) T.rounded_dot.g T.rounded_dot.F.kp T.rounded_dot.b .nil pass0 (pa_cons (pv 2) pa_nil)))))), ?_⟩)
  · obtain ⟨q, pl, Z, ls, rfl, _⟩ := h
    rfl
  · obtain ⟨q, pl, Z, ls, rfl, ⟨vs, hq, pr⟩, lo, h5, k⟩ := h
    have hlen := Paired.len pr
    have oks : ∀ i, Ok3 (nPile pl (ls.take i)) 300 := fun i => by
      have o := ok3_fold (pl := pl) (ls.take i) (0, 0, 1) 1 ok3_one (fun l hl => lo l (List.mem_of_mem_take hl))
      have hl : (ls.take i).length ≤ 5 := by rw [List.length_take]; omega
      exact ⟨o.pc, o.cw, o.w0, bgM o.w 300 (by omega)⟩
    refine ⟨by show 3 ≤ sizeLine; decide, fun t ht => ?_⟩
    refine ⟨_, rfl, q, rfl, ⟨vs, (hq.keep ((Ex.new ht).keep Z)).sq⟩, ?_⟩
    refine for_it walk_list (fun i σ H' => ∃ t x, σ = [some (.ref q), some (nV pl), some (.ref t), x] ∧ Ex H H' ∧ H' t = some (.tup (n3V (nPile pl (ls.take i))))) ⟨t, none, rfl, Ex.new ht, by rw [upd_same]; rfl⟩ (fun i σ H' _ ⟨_, _, _, e, _⟩ => (hq.keep (e.keep Z)).sq) ?_ ?_
    · rintro i v σ H1 H2 hi ⟨t, x, rfl, e, h1⟩ ⟨rfl, hv⟩
      obtain ⟨l, hl, hla⟩ := Paired.get' pr hv
      have lk := lo l (List.mem_of_getElem? hl)
      refine c_call (paC (pu_var rfl) (paC (pu_var rfl) (paC (pu_var rfl) pa0))) ⟨t, v, pl, _, Z, l, nDot pl l, rfl, h1, hla.keep (e.keep Z), lk.d, lk.d1, lk.d2, lk.st, lk.wy, oks i, fun t' H3 e3 h3 => ?_⟩
      refine ⟨t', _, rfl, e.trans e3, ?_⟩
      rw [h3]
      have et : ls.take (i + 1) = ls.take i ++ [l] := by
        rw [List.take_add_one, hl]; rfl
      unfold nPile
      rw [et, List.foldl_append]
      rfl
    · rintro σ H1 ⟨t, x, rfl, e, h1⟩
      rw [hlen, List.take_length] at h1
      refine c_call (paC (pu_var rfl) pa0) ⟨t, _, rfl, h1, ?_, fun t' H3 n3 e3 h3 => k t' H3 (e.back n3) (e.trans e3) h3⟩
      have := oks ls.length
      rw [List.take_length] at this
      exact this
end
end LP
end
section
set_option maxHeartbeats 4100000
namespace LP
open Sq50 (State Layer Dot)
open Sq49 (Frac frac)
theorem So.over_clear {b : Sq49.Dot} {p c w way : Nat} (h : So b p c w) : So (Sq49.over way Sq49.clear b) p c w := by
  have z : Is Sq49.zero 0 1 := ⟨rfl, by decide, by decide⟩
  have one : Is Sq49.one 1 1 := ⟨rfl, by decide, by decide⟩
  have sb := z.mul h.co
  have w0 := h.co.d0
  refine ⟨?_, ?_, h.pc, h.cw⟩
  · rw [over_cover]
    refine ((z.add h.co).less sb).to w0 ?_
    simp only [Nat.zero_mul, Nat.one_mul, Nat.zero_add, Nat.mul_one, Nat.sub_zero]
    rw [Nat.mul_assoc]
  · rw [over_light]
    have l1 := z.mul (one.less h.co)
    have l2 := h.li.mul (one.less z)
    have e0 : (Sq49.zero.mul b.cover).n = 0 := sb.nz.mpr (by simp)
    have l3 : Is ((Sq49.clear.cover.mul b.cover).mul (Sq49.mix way b.colour Sq49.clear.colour)) 0 1 := by
      show Is ((Sq49.zero.mul b.cover).mul _) 0 1
      generalize Sq49.zero.mul b.cover = f at e0 ⊢
      generalize Sq49.mix way b.colour _ = g
      have : f.mul g = ⟨0, 1⟩ := by
        unfold Frac.mul Sq49.frac
        rw [e0, Nat.zero_mul, if_pos rfl]
      rw [this]
      exact ⟨by simp, by decide, by decide⟩
    refine Is.to ((l1.add l2).add l3) w0 ?_
    simp only [Nat.zero_mul, Nat.one_mul, Nat.zero_add, Nat.mul_one, Nat.sub_zero, Nat.add_zero]
    ac_rfl
theorem pile_so {w h x y : Nat} (hx : x < w) (hy : y < h) : ∀ (ls : List Layer) (b base : Sq49.Dot) (n : N3), So b n.1 n.2.1 n.2.2 → (∀ l ∈ ls, LayOk (y * w + x) l) →
    So (Sq49.Node.pile x y b base (ls.map fun l => .layer l.how 0 0 w h l.dots)) (ls.foldl (fun n l => nStep n l (nDot (y * w + x) l)) n).1 (ls.foldl (fun n l => nStep n l (nDot (y * w + x) l)) n).2.1 (ls.foldl (fun n l => nStep n l (nDot (y * w + x) l)) n).2.2
  | [], b, base, n, so, _ => by
    rw [List.map_nil, Sq49.Node.pile]
    exact so
  | l :: ls, b, base, n, so, lo => by
    rw [List.map_cons, Sq49.Node.pile]
    have lk := lo l (List.mem_cons_self ..)
    have cl : (Sq49.Node.layer l.how 0 0 w h l.dots).how.clip = false := rfl
    rw [cl]
    simp only [Bool.false_eq_true, if_false]  -- own
    refine pile_so hx hy ls _ _ (nStep n l (nDot (y * w + x) l)) ?_ (fun m hm => lo m (List.mem_cons_of_mem _ hm))
    show So (Sq49.over l.way (Sq49.Node.dot x y (.layer l.how 0 0 w h l.dots)) b) _ _ _
    rw [Sq49.Node.dot]
    unfold nStep
    cases hs : l.seen with
    | false =>
      have e : l.how.seen = false := hs
      rw [if_pos e, if_neg (by decide)]
      exact so.over_clear
    | true =>
      have e : ¬ l.how.seen = false := by show ¬ l.seen = false; rw [hs]; decide
      rw [if_neg e, if_pos rfl]
      have hr : ¬ ((x : Int) - 0 < 0 ∨ (w : Int) ≤ (x : Int) - 0 ∨ (y : Int) - 0 < 0 ∨ (h : Int) ≤ (y : Int) - 0) := by omega
      simp only []
      rw [if_neg hr]
      have e1 : ((y : Int) - 0).toNat = y := by omega
      have e2 : ((x : Int) - 0).toNat = x := by omega
      rw [e1, e2]
      have hd : (l.dots[y * w + x]?).getD (0, 0) = nDot (y * w + x) l := rfl
      rw [hd]
      exact so.over lk.d1 lk.d2 lk.st lk.wy
theorem shown_so {a : Sq49.Dot} {n : N3} (so : So a n.1 n.2.1 n.2.2) : Sq49.shown a = nShow n := by
  unfold Sq49.shown nShow
  have e1 : Sq49.rounded a.cover = near (n.2.1 * 255) n.2.2 := so.co.rounded
  rw [e1]
  by_cases h : near (n.2.1 * 255) n.2.2 = 0
  · rw [if_pos h, if_pos h]
  · rw [if_neg h, if_neg h]
    have c0 : 0 < n.2.1 := by
      rcases Nat.eq_zero_or_pos n.2.1 with z | z
      · exfalso
        apply h
        have := so.co.d0
        unfold near
        rw [z]
        exact Nat.div_eq_of_lt (by omega)
      · exact z
    have hB : Is a.colour n.1 n.2.1 := by
      unfold Sq49.Dot.colour
      rw [if_neg (fun e => by have := so.co.nz.mp e; omega)]
      refine (so.li.by_ so.co c0).to c0 ?_
      ac_rfl
    have e2 : Sq49.rounded a.colour = near (n.1 * 255) n.2.1 := hB.rounded
    rw [e2]
theorem lay_ok {s : State} (W : WF s) {l : Layer} (hl : l ∈ s.layers) {p : Nat} (hp : p < s.w * s.h) : LayOk p l := by
  have h1 : p < l.dots.length := by rw [W.len l hl]; exact hp
  have e : l.dots[p]? = some (l.dots[p]) := List.getElem?_eq_getElem h1
  have e2 : nDot p l = l.dots[p] := by unfold nDot; rw [e]; rfl
  have := W.dot l hl l.dots[p] (List.getElem_mem h1)
  exact ⟨by rw [e2]; exact e, by rw [e2]; exact this.1, by rw [e2]; exact this.2, W.str l hl, W.way l hl⟩
theorem shown_p {s : State} (W : WF s) {x y : Nat} (hx : x < s.w) (hy : y < s.h) : s.shown x y = nShow (nPile (y * s.w + x) s.layers) := by
  have hp : y * s.w + x < s.w * s.h := by
    have : (y + 1) * s.w ≤ s.h * s.w := Nat.mul_le_mul_right _ hy
    rw [Nat.add_mul, Nat.one_mul, Nat.mul_comm s.h] at this
    omega
  unfold State.shown nPile
  exact shown_so (pile_so hx hy s.layers _ _ (0, 0, 1) So.clear (fun l hl => lay_ok W hl hp))
/-- over nothing a way makes no difference -/
theorem nStep_way (l : Layer) (d : Dot) (k : Nat) : nStep (0, 0, 1) { l with way := k } d = nStep (0, 0, 1) l d := by
  unfold nStep
  show (if l.seen = true then _ else _) = (if l.seen = true then _ else _)
  have e : ∀ way v, nMet way 0 0 v = 0 := fun way v => by
    unfold nMet
    repeat' split
    all_goals simp
  cases l.seen with
  | false => rfl
  | true =>
    rw [if_pos rfl, if_pos rfl]
    unfold nOver
    show (_, _, _) = (_, _, _)
    rw [e, e]
theorem joined_p {s : State} (W : WF s) {a b : Layer} (ha : a ∈ s.layers) (hb : b ∈ s.layers) : s.joined a b = (List.range (s.w * s.h)).map fun p => nShow (nPile p [a, b]) := by
  unfold State.joined
  rw [cells_map W]
  refine List.map_congr_left fun p hp => ?_  -- own
  have hp' : p < s.w * s.h := List.mem_range.mp hp
  obtain ⟨hx, hy⟩ := mem_p W.w1 hp'
  have e := pile_so hx hy [{ a with way := 0 }, b] Sq49.clear Sq49.clear (0, 0, 1) So.clear (fun l hl => by
    rw [back]
    rcases List.mem_cons.mp hl with rfl | hl
    · have := lay_ok W ha hp'
      exact ⟨this.d, this.d1, this.d2, this.st, Nat.zero_le _⟩
    · rcases List.mem_cons.mp hl with rfl | hl
      · exact lay_ok W hb hp'
      · cases hl)
  rw [back] at e
  have := shown_so e
  show Sq49.shown (Sq49.Node.pile _ _ _ _ [.layer { a.how with way := 0 } 0 0 s.w s.h a.dots, .layer b.how 0 0 s.w s.h b.dots]) = _
  refine Eq.trans this ?_
  unfold nPile
  have e9 := nStep_way a (nDot p a) 0
  show nShow (nStep (nStep (0, 0, 1) { a with way := 0 } (nDot p a)) b (nDot p b)) = nShow (nStep (nStep (0, 0, 1) a (nDot p a)) b (nDot p b))
  rw [e9]
/-- what is shown is a dot -/
theorem near_le {p q : Nat} (h : p ≤ 255 * q) : near p q ≤ 255 := by
  unfold near
  rcases Nat.eq_zero_or_pos q with z | z
  · subst z; simp
  · rw [Nat.div_le_iff_le_mul_add_pred (by omega)]
    omega
theorem nShow_ok {x : N3} {k : Nat} (o : Ok3 x k) : (nShow x).1 ≤ 255 ∧ (nShow x).2 ≤ 255 := by
  unfold nShow
  split
  · exact ⟨by decide, by decide⟩
  · exact ⟨near_le (by have := o.pc; omega), near_le (by have := o.cw; omega)⟩
end LP
end
section
set_option maxHeartbeats 4100000
namespace LP
open PySem PySem.Spec PyProof.Rows L2 Evl
open Sq50 (State Layer Dot)
section
variable {P : Program} {w : World} {K : PySem.W.Frag} {mg : Str → Option Value} {base : Heap}
/-- joined_one(how, chosen, told) -/
def sp_joined_one (T : Txt K mg) : Sp := fun vs H Q _ => ∃ (how : Nat) (a b : Bool), vs = [nV how, bV a, bV b] ∧ Q (bV (Sq44.joined how a b)) H
theorem ok_joined_one (T : Txt K mg) : FnOk P w K mg base CX0 1 T.joined_one.a T.joined_one.fd ["how", "chosen", "told"] (sp_joined_one T) := by
  refine T.joined_one.F.ok sc_joined_one (fun vs H Q E h => ?_) (fun cdv A outer s H vs Q E hr h => ⟨_, (pss_cons (ps_if (pt_cmpR op_eq (pv 0) pe_int (nomark _))
  (pss_one (ps_ret (pv 2)))
  pss_nil)
  (pss_cons (ps_if (pt_cmpR op_eq (pv 0) pe_int (nomark _))
  (pss_one (ps_ret (pe_op op_or (pv 1) (pv 2))))
  pss_nil)
  (pss_cons (ps_if (pt_cmpR op_eq (pv 0) pe_int (nomark _))
  (pss_one (ps_ret (pe_op op_and (pv 1) (pe_op op_sub pe_int (pv 2)))))
  pss_nil)
  (pss_cons (ps_if (pt_cmpR op_eq (pv 0) pe_int (nomark _))
  (pss_one (ps_ret (pe_op op_and (pv 1) (pv 2))))
  pss_nil)
  (pss_one (ps_ret (pe_op op_xor (pv 1) (pv 2)))))))), ?_⟩)
  · obtain ⟨how, a, b, rfl, _⟩ := h
    rfl
  · obtain ⟨how, a, b, rfl, k⟩ := h
    refine s_if (pt_neq (k := 0) pu_v) (fun e => s_ret (pu_is pu_v ?_) k) fun n0 => ?_
    · have e := of_decide_eq_true e; subst e; rfl
    refine s_if (pt_neq (k := 1) pu_v) (fun e => s_ret (pu_is (pu_I0 pu_v pu_v) ?_) k) fun n1 => ?_
    · have e := of_decide_eq_true e; subst e; cases a <;> cases b <;> rfl
    refine s_if (pt_neq (k := 2) pu_v) (fun e => s_ret (pu_is (pu_I0 pu_v (pu_I0 pu_c pu_v)) ?_) k) fun n2 => ?_
    · have e := of_decide_eq_true e; subst e; cases a <;> cases b <;> rfl
    refine s_if (pt_neq (k := 3) pu_v) (fun e => s_ret (pu_is (pu_I0 pu_v pu_v) ?_) k) fun n3 => ?_
    · have e := of_decide_eq_true e; subst e; cases a <;> cases b <;> rfl
    refine s_ret (pu_is (pu_I0 pu_v pu_v) ?_) k
    have e0 := of_decide_eq_false n0
    have e1 := of_decide_eq_false n1
    have e2 := of_decide_eq_false n2
    have e3 := of_decide_eq_false n3
    obtain ⟨m, rfl⟩ : ∃ m, how = m + 4 := ⟨how - 4, by omega⟩
    cases a <;> cases b <;> rfl
/-- joined(how, chosen, told) -/
def joinL (how : Nat) (as bs : List Bool) : List Bool := (as.zip bs).map fun x => Sq44.joined how x.1 x.2
def sp_joined (T : Txt K mg) : Sp := fun vs H Q _ => ∃ (how : Nat) (a b : Addr) (as bs : List Bool), vs = [nV how, .ref a, .ref b] ∧ H a = some (.lst (bVs as)) ∧ H b = some (.lst (bVs bs)) ∧ as.length = bs.length ∧ as.length ≤ 144 ∧ RBits (joinL how as bs) H Q
theorem ok_joined (T : Txt K mg) : FnOk P w K mg base CX0 2 T.joined.a T.joined.fd ["how", "chosen", "told"] (sp_joined T) := by
  refine T.joined.F.ok sc_joined (fun vs H Q E h => ?_) (fun cdv A outer s H vs Q E hr h => ⟨_, (pss_one (ps_ret (pe_lc (own := [("old", 3), ("new", 4)]) (g := (gTup K 2 (gCons (gName 3) (gCons (gName 4) gNil)))) rfl sc_joined.nd (pi_zip (by rfl) (T.nb "zip" (by decide)) (pa_cons (pv 1) (pa_cons (pv 2) pa_nil))) (blkOk_by (own := [("old", 3), ("new", 4)]) (N := N_joined) (sc := defScope s_joined) (by decide +kernel)) (fun _ _ _ _ _ => (pg_tup rfl (pgs_cons (pg_name (i := 3) sc_joined.nd rfl (by first | exact Or.inl rfl | exact Or.inr rfl)) (pgs_cons (pg_name (i := 4) sc_joined.nd rfl (by first | exact Or.inl rfl | exact Or.inr rfl)) pgs_nil)))) (fun _ _ _ _ _ => pts_nil) (fun _ _ _ _ _ => (pe_call (ok_joined_one T) (hr.mono (by decide)) (by rfl) T.joined_one.g T.joined_one.F.kp T.joined_one.b .nil pass0 (pa_cons (pv 0) (pa_cons (pv 3) (pa_cons (pv 4) pa_nil)))))))), ?_⟩)
  · obtain ⟨how, a, b, as, bs, rfl, _⟩ := h
    rfl
  · obtain ⟨how, a, b, as, bs, rfl, ha, hb, hl, h144, k⟩ := h
    refine ⟨_, rfl, _, rfl, a, b, _, _, rfl, SqL.of ha, SqL.of hb, fun D hD => ?_⟩
    refine lcV (wk_zip (by rw [bVs_len, bVs_len]; exact hl)) (fun _ => true) (fun i => bV (Sq44.joined how (as[i]?.getD false) (bs[i]?.getD false))) (by rw [bVs_len]; omega) hD (fun H1 e => ⟨SqL.of (e _ _ ha), SqL.of (e _ _ hb)⟩) ?_ ?_
    · rintro i x H1 H2 R S hi e ⟨t, u, v, rfl, ht, rfl, hu, hv⟩ hR _
      obtain ⟨ba, h1, rfl⟩ := bVs_get hu
      obtain ⟨bb, h2, rfl⟩ := bVs_get hv
      refine ⟨t, _, rfl, SqT.of upd_same, rfl, _, _, rfl, _, _, rfl, rfl, rfl, ?_⟩
      refine ⟨_, rfl, _, rfl, _, rfl, how, ba, bb, rfl, ?_⟩
      have := hR rfl _ (Ex.new (o := .tup [bV ba, bV bb]) ht)
      rw [h1, h2] at this
      exact this
    · intro H1 e h1
      refine k D H1 hD e ?_
      rw [h1, given_all, bVs_len, range_bVs (ns := joinL how as bs)]
      · unfold joinL; rw [List.length_map, List.length_zip]; omega
      · intro i c hc
        unfold joinL at hc
        rw [List.getElem?_map] at hc
        obtain ⟨z, h2, rfl⟩ := Option.map_eq_some_iff.mp hc
        obtain ⟨h3, h4⟩ := List.getElem?_zip_eq_some.mp h2  -- own
        rw [h3, h4]
        rfl
/-- reversed_choice(chosen) -/
def sp_reversed_choice (T : Txt K mg) : Sp := fun vs H Q _ => ∃ (a : Addr) (as : List Bool), vs = [.ref a] ∧ H a = some (.lst (bVs as)) ∧ as.length ≤ 144 ∧ RBits (as.map fun b => !b) H Q
theorem ok_reversed_choice (T : Txt K mg) : FnOk P w K mg base CX0 1 T.reversed_choice.a T.reversed_choice.fd ["chosen"] (sp_reversed_choice T) := by
  refine T.reversed_choice.F.ok sc_reversed_choice (fun vs H Q E h => ?_) (fun cdv A outer s H vs Q E hr h => ⟨_, (pss_one (ps_ret (pe_lc (own := [("mark", 1)]) (g := (gName 1)) rfl sc_reversed_choice.nd (pi_list (pv 0)) (blkOk_by (own := [("mark", 1)]) (N := N_reversed_choice) (sc := defScope s_reversed_choice) (by decide +kernel)) (fun _ _ _ _ _ => (pg_name (i := 1) sc_reversed_choice.nd rfl (by first | exact Or.inl rfl | exact Or.inr rfl))) (fun _ _ _ _ _ => pts_nil) (fun _ _ _ _ _ => (pe_op op_sub pe_int (pv 1)))))), ?_⟩)
  · obtain ⟨a, as, rfl, _⟩ := h
    rfl
  · obtain ⟨a, as, rfl, ha, h144, k⟩ := h
    refine ⟨_, rfl, a, rfl, ⟨_, SqL.of ha⟩, fun D hD => ?_⟩
    refine lcV walk_list (fun _ => true) (fun i => bV (!(as[i]?.getD false))) (by rw [bVs_len]; omega) hD (fun H1 e => SqL.of (e _ _ ha)) ?_ ?_
    · rintro i x H1 H2 R S hi e ⟨rfl, hu⟩ hR _
      obtain ⟨ba, h1, rfl⟩ := bVs_get hu
      refine ⟨rfl, _, rfl, _, _, rfl, rfl, ?_⟩
      have := hR rfl _ (Ex.refl _)
      rw [h1] at this
      cases ba <;> exact this
    · intro H1 e h1
      refine k D H1 hD e ?_
      rw [h1, given_all, bVs_len, range_bVs (ns := as.map fun b => !b)]
      · rw [List.length_map]
      · intro i c hc
        rw [List.getElem?_map] at hc
        obtain ⟨z, h2, rfl⟩ := Option.map_eq_some_iff.mp hc
        rw [h2]
        rfl
/-- is_near(w, place, marked, r) -/
def farP (w p o : Nat) : Nat := Sq44.far (p % w, p / w) (o % w, o / w)
def nearB (w r p : Nat) (ms : List Nat) : Bool := ms.any fun o => decide (farP w p o ≤ r)
theorem sq_apart (a b : Nat) : ((a : Int) - (b : Int)) * ((a : Int) - (b : Int)) = ((Sq44.apart a b ^ 2 : Nat) : Int) := by
  unfold Sq44.apart
  rcases Nat.le_total a b with h | h
  · obtain ⟨k, rfl⟩ : ∃ k, b = a + k := ⟨b - a, by omega⟩
    have e1 : a - (a + k) = 0 := by omega
    have e2 : a + k - a = k := by omega
    rw [e1, e2, Nat.zero_add, Nat.pow_two, Int.natCast_mul]
    have e3 : ((a : Int) - ((a + k : Nat) : Int)) = -(k : Int) := by omega
    rw [e3, Int.neg_mul_neg]
  · obtain ⟨k, rfl⟩ : ∃ k, a = b + k := ⟨a - b, by omega⟩
    have e1 : b - (b + k) = 0 := by omega
    have e2 : b + k - b = k := by omega
    rw [e1, e2, Nat.add_zero, Nat.pow_two, Int.natCast_mul]
    have e3 : (((b + k : Nat) : Int) - (b : Int)) = (k : Int) := by omega
    rw [e3]
theorem pu_nmod {σ : L2.St} {H : Hp} {ta tb : TE} {a b : Nat} (ha : Pu ta σ H (nV a)) (hb : Pu tb σ H (nV b)) (h : 0 < b) : Pu (tOp (rI (fun _ j => 0 < j) fun i j => .int (i % j)) ta tb) σ H (nV (a % b)) := pu_is (pu_I ha hb (by show (0 : Int) < _; omega)) (by show V.int _ = V.int _; rw [Int.natCast_emod])
theorem pu_ndiv {σ : L2.St} {H : Hp} {ta tb : TE} {a b : Nat} (ha : Pu ta σ H (nV a)) (hb : Pu tb σ H (nV b)) (h : 0 < b) (h' : b < 1073741824) : Pu (tOp (rI CDiv fun i j => .int (i / j)) ta tb) σ H (nV (a / b)) := pu_is (pu_I ha hb ⟨by omega, by omega⟩) (by show V.int _ = V.int _; rw [Int.natCast_ediv])
def sp_is_near (T : Txt K mg) : Sp := fun vs H Q _ => ∃ (w p r : Nat) (m : Addr) (ms : List Nat), vs = [nV w, nV p, .ref m, nV r] ∧ H m = some (.lst (nVs ms)) ∧ 0 < w ∧ w ≤ 12 ∧ p < 2 ^ 20 ∧ (∀ o ∈ ms, o < 2 ^ 20) ∧ Q (.bl (nearB w r p ms)) H
theorem ok_is_near (T : Txt K mg) : FnOk P w K mg base CX0 1 T.is_near.a T.is_near.fd ["w", "place", "marked", "r"] (sp_is_near T) := by
  refine T.is_near.F.ok sc_is_near (fun vs H Q E h => ?_) (fun cdv A outer s H vs Q E hr h => ⟨_, (pss_cons (ps_for PassesOwn.never rfl (pi_list (pv 2)) (pg_name (i := 4) sc_is_near.nd rfl (by first | exact Or.inl rfl | exact Or.inr rfl))
  (pss_cons (ps_set (i := 5) sc_is_near.nd rfl (by first | exact Or.inl rfl | exact Or.inr rfl) (pe_op op_sub (pe_op op_mod (pv 1) (pv 0)) (pe_op op_mod (pv 4) (pv 0))))
    (pss_cons (ps_set (i := 6) sc_is_near.nd rfl (by first | exact Or.inl rfl | exact Or.inr rfl) (pe_op op_sub (pe_op op_fdiv (pv 1) (pv 0)) (pe_op op_fdiv (pv 4) (pv 0))))
    (pss_one (ps_if (pt_cmpR op_le (pe_op op_add (pe_op op_mul (pv 5) (pv 5)) (pe_op op_mul (pv 6) (pv 6))) (pv 3) (nomark _))
    (pss_one (ps_ret pe_bl))
    pss_nil)))))
  (pss_one (ps_ret pe_bl))), ?_⟩)
  · obtain ⟨w, p, r, m, ms, rfl, _⟩ := h
    rfl
  · obtain ⟨w, p, r, m, ms, rfl, hm, w0, w12, hp, ho, k⟩ := h
    refine ⟨_, rfl, m, rfl, ⟨_, SqL.of hm⟩, ?_⟩
    refine for_it walk_list (fun i σ H' => ∃ x y z, σ = [some (nV w), some (nV p), some (.ref m), some (nV r), x, y, z] ∧ H' = H ∧ nearB w r p (ms.take i) = false) ⟨none, none, none, rfl, rfl, rfl⟩ (fun i σ H' _ ⟨_, _, _, _, e, _⟩ => by rw [e]; exact SqL.of hm) ?_ ?_
    · rintro i v σ H1 H2 hi ⟨x, y, z, rfl, rfl, hn⟩ ⟨rfl, hv⟩
      obtain ⟨o, h1, rfl⟩ := nVs_get hv
      have ho' := ho o (List.mem_of_getElem? h1)
      have m1 : p % w < w := Nat.mod_lt _ w0
      have m2 : o % w < w := Nat.mod_lt _ w0
      have d1 : p / w ≤ p := Nat.div_le_self ..
      have d2 : o / w ≤ o := Nat.div_le_self ..
      refine s_set (pu_I0 (pu_nmod pu_v pu_v w0) (pu_nmod pu_v pu_v w0)) ?_
      refine s_set (pu_I0 (pu_ndiv pu_v pu_v w0 (by omega)) (pu_ndiv pu_v pu_v w0 (by omega))) ?_
      have et : nearB w r p (ms.take (i + 1)) = decide (farP w p o ≤ r) := by
        have e2 : ms.take (i + 1) = ms.take i ++ [o] := by rw [List.take_add_one, h1]; rfl
        unfold nearB at hn ⊢
        rw [e2, List.any_append, hn]
        simp
      refine s_if (b := decide (farP w p o ≤ r)) (pt_is (pt_cmp (pu_add (pu_mul pu_v pu_v (mulOk ?_ ?_)) (pu_mul pu_v pu_v (mulOk ?_ ?_))) pu_v) ?_) (fun e => ?_) fun e => ?_
      · show -(2 ^ 64) < ((p % w : Nat) : Int) - ((o % w : Nat) : Int); omega
      · show ((p % w : Nat) : Int) - ((o % w : Nat) : Int) < 2 ^ 64; omega
      · show -(2 ^ 64) < ((p / w : Nat) : Int) - ((o / w : Nat) : Int); generalize p / w = A at d1 ⊢; generalize o / w = B at d2 ⊢; omega
      · show ((p / w : Nat) : Int) - ((o / w : Nat) : Int) < 2 ^ 64; generalize p / w = A at d1 ⊢; generalize o / w = B at d2 ⊢; omega
      · show decide (_ + _ ≤ (r : Int)) = _
        rw [sq_apart, sq_apart]
        unfold farP Sq44.far
        by_cases h : Sq44.apart (p % w) (o % w) ^ 2 + Sq44.apart (p / w) (o / w) ^ 2 ≤ r
        · rw [decide_eq_true h, decide_eq_true (by omega)]
        · rw [decide_eq_false h, decide_eq_false (by omega)]
      · refine s_ret pu_c ?_
        have ea : nearB w r p ms = true := by
          unfold nearB
          rw [List.any_eq_true]
          exact ⟨o, List.mem_of_getElem? h1, e⟩
        rw [ea] at k
        exact k
      · refine ⟨_, _, _, rfl, rfl, ?_⟩
        rw [et, e]
    · rintro σ H1 ⟨x, y, z, rfl, rfl, hn⟩
      rw [nVs_len, List.take_length] at hn
      rw [hn] at k
      exact k
/-- grown(w, chosen, r) -/
def markL (bs : List Bool) : List Nat := (List.range bs.length).filter fun i => bs[i]?.getD false
def growL (w r : Nat) (bs : List Bool) : List Bool := (List.range bs.length).map fun p => nearB w r p (markL bs)
theorem growL_len (w r : Nat) (bs : List Bool) : (growL w r bs).length = bs.length := by unfold growL; rw [List.length_map, List.length_range]
theorem given_mark (bs : List Bool) : given (bVs bs).length (fun i => bs[i]?.getD false) nV = nVs (markL bs) := by unfold given nVs markL; rw [bVs_len]
def sp_grown (T : Txt K mg) : Sp := fun vs H Q _ => ∃ (w r : Nat) (a : Addr) (as : List Bool), vs = [nV w, .ref a, nV r] ∧ H a = some (.lst (bVs as)) ∧ 0 < w ∧ w ≤ 12 ∧ as.length ≤ 144 ∧ RBits (growL w r as) H Q
theorem ok_grown (T : Txt K mg) : FnOk P w K mg base CX0 2 T.grown.a T.grown.fd ["w", "chosen", "r"] (sp_grown T) := by
  refine T.grown.F.ok sc_grown (fun vs H Q E h => ?_) (fun cdv A outer s H vs Q E hr h => ⟨_, (pss_cons (ps_set (i := 3) sc_grown.nd rfl (by first | exact Or.inl rfl | exact Or.inr rfl) (pe_lc (own := [("place", 4), ("mark", 5)]) (g := (gTup K 2 (gCons (gName 4) (gCons (gName 5) gNil)))) rfl sc_grown.nd (pi_enum (by rfl) (T.nb "enumerate" (by decide)) (pa_cons (pv 1) pa_nil)) (blkOk_by (own := [("place", 4), ("mark", 5)]) (N := N_grown) (sc := defScope s_grown) (by decide +kernel)) (fun _ _ _ _ _ => (pg_tup rfl (pgs_cons (pg_name (i := 4) sc_grown.nd rfl (by first | exact Or.inl rfl | exact Or.inr rfl)) (pgs_cons (pg_name (i := 5) sc_grown.nd rfl (by first | exact Or.inl rfl | exact Or.inr rfl)) pgs_nil)))) (fun _ _ _ _ _ => (pts_one (pt_truthK (K := K) rfl (pv 5) (by intro _; rfl)))) (fun _ _ _ _ _ => (pv 4))))
  (pss_one (ps_ret (pe_lc (own := [("place", 4)]) (g := (gName 4)) rfl sc_grown.nd (pi_range1 (by rfl) (T.nb "range" (by decide)) (pa_cons (pe_callB call_len_seq (by rfl) (T.nb "len" (by decide)) (by decide +kernel) (pa_cons (pv 1) pa_nil)) pa_nil)) (blkOk_by (own := [("place", 4)]) (N := N_grown) (sc := defScope s_grown) (by decide +kernel)) (fun _ _ _ _ _ => (pg_name (i := 4) sc_grown.nd rfl (by first | exact Or.inl rfl | exact Or.inr rfl))) (fun _ _ _ _ _ => pts_nil) (fun _ _ _ _ _ => (pe_ifExp (pt_val (pe_call (ok_is_near T) (hr.mono (by decide)) (by rfl) T.is_near.g T.is_near.F.kp T.is_near.b .nil pass0 (pa_cons (pv 0) (pa_cons (pv 4) (pa_cons (pv 3) (pa_cons (pv 2) pa_nil)))))) pe_int pe_int)))))), ?_⟩)
  · obtain ⟨w, r, a, as, rfl, _⟩ := h
    rfl
  · obtain ⟨w, r, a, as, rfl, ha, w0, w12, h144, k⟩ := h
    refine ⟨_, rfl, a, _, rfl, SqL.of ha, fun D hD => ?_⟩
    refine lcV wk_enum (fun i => as[i]?.getD false) nV (by rw [bVs_len]; omega) hD (fun H1 e => SqL.of (e _ _ ha)) ?_ ?_
    · rintro i x H1 H2 R S hi e ⟨t, v, rfl, ht, rfl, hv⟩ hR hS
      obtain ⟨ba, h1, rfl⟩ := bVs_get hv
      refine ⟨t, _, rfl, SqT.of upd_same, rfl, _, _, rfl, _, _, rfl, rfl, rfl, ?_⟩
      refine ⟨_, rfl, _, rfl, ?_⟩
      rw [h1] at hR hS
      cases ba with
      | true => exact ⟨_, rfl, hR rfl _ (Ex.new ht)⟩
      | false => exact hS rfl _ (Ex.new ht)
    · intro H1 e1 h1
      rw [given_mark] at h1
      refine ⟨_, rfl, a, _, rfl, .inl (SqL.of (e1 _ _ ha)), _, rfl, ?_, ?_, fun D2 hD2 => ?_⟩
      · rw [bVs_len]; omega
      · rw [bVs_len]; omega
      · refine lcV walk_range (fun _ => true) (fun p => bV (nearB w r p (markL as))) (by rw [bVs_len]; omega) hD2 (fun _ _ => trivial) ?_ ?_
        · rintro i x H2 H3 R S hi e2 ⟨rfl, rfl⟩ hR _
          rw [bVs_len] at hi
          have hi' : i < as.length := by omega
          have ez : V.int (0 + (i : Int)) = nV i := by rw [Int.zero_add]
          refine ⟨rfl, _, rfl, _, rfl, _, rfl, _, rfl, w, i, r, D, markL as, ?_, e2 _ _ h1, w0, w12, by omega, fun o ho => ?_, _, rfl, ?_⟩
          · show [nV w, V.int (0 + (i : Int)), V.ref D, nV r] = _
            rw [ez]
          · have := List.mem_range.mp (List.mem_filter.mp ho).1
            omega
          · have := hR rfl _ (Ex.refl _)
            cases hb : nearB w r i (markL as) with
            | true => rw [hb] at this; exact this
            | false => rw [hb] at this; exact this
        · intro H2 e2 h2
          refine k D2 H2 (e1.back hD2) (e1.trans e2) ?_
          rw [h2, given_all, bVs_len, Int.toNat_natCast]
          congr 1
          congr 1
          unfold growL bVs
          rw [List.map_map]
          rfl
end
end LP
end
section
set_option maxHeartbeats 4100000
namespace LP
open PySem PySem.Spec PyProof.Rows L2 Evl
open Sq50 (State Layer Dot)
section
variable {P : Program} {w : World} {K : PySem.W.Frag} {mg : Str → Option Value} {base : Heap}
/-- shrunk(w, chosen, r) -/
def shrinkL (w r : Nat) (bs : List Bool) : List Bool := (growL w r (bs.map fun b => !b)).map fun b => !b
def sp_shrunk (T : Txt K mg) : Sp := fun vs H Q _ => ∃ (w r : Nat) (a : Addr) (as : List Bool), vs = [nV w, .ref a, nV r] ∧ H a = some (.lst (bVs as)) ∧ 0 < w ∧ w ≤ 12 ∧ as.length ≤ 144 ∧ RBits (shrinkL w r as) H Q
theorem ok_shrunk (T : Txt K mg) : FnOk P w K mg base CX0 3 T.shrunk.a T.shrunk.fd ["w", "chosen", "r"] (sp_shrunk T) := by
  refine T.shrunk.F.ok sc_shrunk (fun vs H Q E h => ?_) (fun cdv A outer s H vs Q E hr h => ⟨_, (pss_one (ps_ret (pe_call (ok_reversed_choice T) (hr.mono (by decide)) (by rfl) T.reversed_choice.g T.reversed_choice.F.kp T.reversed_choice.b .nil pass0 (pa_cons (pe_call (ok_grown T) (hr.mono (by decide)) (by rfl) T.grown.g T.grown.F.kp T.grown.b .nil pass0 (pa_cons (pv 0) (pa_cons (pe_call (ok_reversed_choice T) (hr.mono (by decide)) (by rfl) T.reversed_choice.g T.reversed_choice.F.kp T.reversed_choice.b .nil pass0 (pa_cons (pv 1) pa_nil)) (pa_cons (pv 2) pa_nil)))) pa_nil)))), ?_⟩)
  · obtain ⟨w, r, a, as, rfl, _⟩ := h
    rfl
  · obtain ⟨w, r, a, as, rfl, ha, w0, w12, h144, k⟩ := h
    refine ⟨_, rfl, _, rfl, a, as, rfl, ha, h144, fun p H1 n1 e1 h1 => ?_⟩
    refine ⟨_, rfl, w, r, p, _, rfl, h1, w0, w12, by rw [List.length_map]; exact h144, fun p2 H2 n2 e2 h2 => ?_⟩
    refine ⟨p2, _, rfl, h2, by rw [growL_len, List.length_map]; exact h144, fun p3 H3 n3 e3 h3 => ?_⟩
    exact k p3 H3 (e1.back (e2.back n3)) ((e1.trans e2).trans e3) h3
/-- rectangle(picture, left, top, wide, high) -/
def rectB (w h x y a b p : Nat) : Bool := (decide (x ≤ p % w) && decide (p % w < min (x + a) w)) && (decide (y ≤ p / w) && decide (p / w < min (y + b) h))
def rectL (w h x y a b n : Nat) : List Bool := (List.range n).map (rectB w h x y a b)
def sp_rectangle (T : Txt K mg) : Sp := fun vs H Q _ => ∃ (pa : Addr) (Z : Addr → Prop) (s : State) (x y a b : Nat), vs = [.ref pa, nV x, nV y, nV a, nV b] ∧ Pic T Z H pa s ∧ WF s ∧ RBits (rectL s.w s.h x y a b (s.w * s.h)) H Q
theorem ok_rectangle (T : Txt K mg) : FnOk P w K mg base CX0 1 T.rectangle.a T.rectangle.fd ["picture", "left", "top", "wide", "high"] (sp_rectangle T) := by
  refine T.rectangle.F.ok sc_rectangle (fun vs H Q E h => ?_) (fun cdv A outer s H vs Q E hr h => ⟨_, (pss_cons (ps_set (i := 5) sc_rectangle.nd rfl (by first | exact Or.inl rfl | exact Or.inr rfl) (pe_callB (call_min2 rfl) (by rfl) (T.nb "min" (by decide)) (by decide +kernel) (pa_cons (pe_op op_add (pv 1) (pv 3)) (pa_cons (pe_fld (pv 0) rfl) pa_nil))))
  (pss_cons (ps_set (i := 6) sc_rectangle.nd rfl (by first | exact Or.inl rfl | exact Or.inr rfl) (pe_callB (call_min2 rfl) (by rfl) (T.nb "min" (by decide)) (by decide +kernel) (pa_cons (pe_op op_add (pv 2) (pv 4)) (pa_cons (pe_fld (pv 0) rfl) pa_nil))))
  (pss_cons (ps_set (i := 7) sc_rectangle.nd rfl (by first | exact Or.inl rfl | exact Or.inr rfl) (pe_lst pa_nil))
  (pss_cons (ps_for PassesOwn.never rfl (pi_range1 (by rfl) (T.nb "range" (by decide)) (pa_cons (pe_fld (pv 0) rfl) pa_nil)) (pg_name (i := 8) sc_rectangle.nd rfl (by first | exact Or.inl rfl | exact Or.inr rfl))
  (pss_one (ps_for PassesOwn.never rfl (pi_range1 (by rfl) (T.nb "range" (by decide)) (pa_cons (pe_fld (pv 0) rfl) pa_nil)) (pg_name (i := 9) sc_rectangle.nd rfl (by first | exact Or.inl rfl | exact Or.inr rfl))
    (pss_one (ps_expr (pe_bm PySem.F.plainAttrs_list PySem.F.slot_list_append PySem.F.type_list_append mt_append (pv 7) (pa_cons (pe_ifExp (PW.pt (pw_and (pt_chain op_le op_lt (pv 1) (pv 9) (pv 5)) (pw_and1 (pt_chain op_le op_lt (pv 2) (pv 8) (pv 6))))) pe_int pe_int) pa_nil)))))))
  (pss_one (ps_ret (pv 7))))))), ?_⟩)
  · obtain ⟨pa, Z, s, x, y, a, b, rfl, _⟩ := h
    rfl
  · obtain ⟨pa, Z, s, x, y, a, b, rfl, hp, W, k⟩ := h
    obtain ⟨dx, q, c, ha, hl, hc⟩ := hp
    have w1 := W.w1
    have w12 := W.w12
    have h12 := W.h12
    have fld : ∀ (H' : Hp) (σ : L2.St) (f : Str) (u : V), Ex H H' → σ[0]? = some (some (.ref pa)) → f ∈ (["w", "h", "layers", "worked", "chosen", "made"] : List Str) → (picF s q c).lookup f = some u → Pu (tFld K (tVar 0) f) σ H' u :=
      fun H' σ f u e hs hf hu => pu_fld (pu_var hs) (e _ _ ha.h) T.Picture.cl (T.Picture.no f hf) hu
    refine s_set (pu_nmin (pu_nadd pu_v pu_v) (fld H _ "w" _ (Ex.refl H) rfl (by decide) (pf_w _ _ _))) ?_
    refine s_set (pu_nmin (pu_nadd pu_v pu_v) (fld H _ "h" _ (Ex.refl H) rfl (by decide) (pf_h _ _ _))) ?_
    refine ⟨Nat.zero_le _, fun D hD => ?_⟩
    have hDp : pa ≠ D := ne_of_none ha.h hD
    refine ⟨_, rfl, pa, _, dx, _, _, rfl, (Ex.new hD) _ _ ha.h, T.Picture.cl, T.Picture.no _ (by decide), pf_h _ _ _, _, rfl, by omega, by omega, ?_⟩
    refine for_it walk_range (fun i σ H' => ∃ u v, σ = [some (.ref pa), some (nV x), some (nV y), some (nV a), some (nV b), some (nV (min (x + a) s.w)), some (nV (min (y + b) s.h)), some (.ref D), u, v] ∧ Ex H H' ∧ H' D = some (.lst (bVs (rectL s.w s.h x y a b (s.w * i)))))
      ⟨none, none, rfl, Ex.new hD, by rw [Nat.mul_zero]; exact upd_same⟩ (fun _ _ _ _ _ => trivial) ?_ ?_
    · rintro i vv σ H1 H2 hi ⟨u, v, rfl, e1, h1⟩ ⟨rfl, rfl⟩
      have ez : V.int (0 + (i : Int)) = nV i := by rw [Int.zero_add]
      rw [show (fun i : Nat => V.int (0 + (i : Int))) i = nV i from ez]
      have hi' : i < s.h := by rw [Int.toNat_natCast] at hi; exact hi
      refine ⟨_, rfl, pa, _, dx, _, _, rfl, e1 _ _ ha.h, T.Picture.cl, T.Picture.no _ (by decide), pf_w _ _ _, _, rfl, by omega, by omega, ?_⟩
      refine for_it walk_range (fun j σ H' => ∃ v, σ = [some (.ref pa), some (nV x), some (nV y), some (nV a), some (nV b), some (nV (min (x + a) s.w)), some (nV (min (y + b) s.h)), some (.ref D), some (nV i), v] ∧ Ex H H' ∧ H' D = some (.lst (bVs (rectL s.w s.h x y a b (s.w * i + j)))))
        ⟨v, rfl, e1, h1⟩ (fun _ _ _ _ _ => trivial) ?_ ?_
      · rintro j vv σ H3 H4 hj ⟨v, rfl, e3, h3⟩ ⟨rfl, rfl⟩
        have ez : V.int (0 + (j : Int)) = nV j := by rw [Int.zero_add]
        rw [show (fun i : Nat => V.int (0 + (i : Int))) j = nV j from ez]
        have hj' : j < s.w := by rw [Int.toNat_natCast] at hj; exact hj
        have em : (s.w * i + j) % s.w = j := by rw [Nat.mul_add_mod, Nat.mod_eq_of_lt hj']
        have ed : (s.w * i + j) / s.w = i := by rw [Nat.mul_add_div (by omega), Nat.div_eq_of_lt hj', Nat.add_zero]
        have hwi : s.w * i ≤ 144 := Nat.le_trans (Nat.mul_le_mul_left _ (Nat.le_of_lt hi')) W.n
        have hlen : (bVs (rectL s.w s.h x y a b (s.w * i + j))).length < 100000 := by rw [bVs_len]; unfold rectL; rw [List.length_map, List.length_range]; omega
        refine ⟨_, rfl, .inl ⟨rfl, _, SqL.of h3⟩, ?_⟩
        refine pu_if (v := bV (rectB s.w s.h x y a b (s.w * i + j))) (b := rectB s.w s.h x y a b (s.w * i + j)) (pt_is (pt_and (pt_test (pu_chain pu_v pu_v pu_v)) (fun _ => pt_test (pu_chain pu_v pu_v pu_v))) ?_) (fun e => pu_is pu_c ?_) (fun e => pu_is pu_c ?_) _ ?_
        · unfold rectB
          rw [em, ed]
          simp only [Int.ofNat_le, Int.ofNat_lt]
        · rw [e]; rfl
        · rw [e]; rfl
        · refine ⟨D, _, _, rfl, rfl, h3, szt hlen, _, rfl, Ex.mut e3 hD, ?_⟩
          rw [upd_same]
          congr 2
          unfold rectL bVs
          rw [← Nat.add_assoc, List.range_succ, List.map_append, List.map_append]
          rfl
      · rintro σ H3 ⟨v, rfl, e3, h3⟩
        refine ⟨_, _, rfl, e3, ?_⟩
        rw [h3, Int.toNat_natCast, Nat.mul_succ]
    · rintro σ H1 ⟨u, v, rfl, e1, h1⟩
      refine ⟨_, rfl, k D H1 hD e1 ?_⟩
      rw [h1, Int.toNat_natCast]
end
end LP
end
section
set_option maxHeartbeats 4100000
namespace LP
open PySem PySem.Spec PyProof.Rows L2 Evl
open Sq50 (State Layer Dot)
section
variable {P : Program} {w : World} {K : PySem.W.Frag} {mg : Str → Option Value} {base : Heap}
/-- steps(corners) -/
def stepsL (c : Nat) : List (Int × Int) := [(0, -1), (0, 1), (-1, 0), (1, 0)] ++ (if c = 0 then [] else [(-1, -1), (1, -1), (-1, 1), (1, 1)])
def PairAt (H0 H : Hp) (v : V) (x : Int × Int) : Prop := ∃ t, v = .ref t ∧ H0 t = none ∧ H t = some (.tup [.int x.1, .int x.2])
theorem PairAt.ex {H0 H H' : Hp} {v : V} {x : Int × Int} (p : PairAt H0 H v x) (e : Ex H H') : PairAt H0 H' v x := by obtain ⟨t, h1, h2, h3⟩ := p; exact ⟨t, h1, h2, e _ _ h3⟩
def sp_steps (T : Txt K mg) : Sp := fun vs H Q _ => ∃ c : Nat, vs = [nV c] ∧ ∀ p vs H', H p = none → Ex H H' → H' p = some (.lst vs) → Paired (PairAt H H') vs (stepsL c) → Q (.ref p) H'
theorem ok_steps (T : Txt K mg) : FnOk P w K mg base CX0 1 T.steps.a T.steps.fd ["corners"] (sp_steps T) := by
  refine T.steps.F.ok sc_steps (fun vs H Q E h => ?_) (fun cdv A outer s H vs Q E hr h => ⟨_, (pss_cons (ps_set (i := 1) sc_steps.nd rfl (by first | exact Or.inl rfl | exact Or.inr rfl) (pe_lst (pa_cons (pe_tup (pa_cons pe_int (pa_cons (pe_un un_neg pe_int) pa_nil))) (pa_cons (pe_tup (pa_cons pe_int (pa_cons pe_int pa_nil))) (pa_cons (pe_tup (pa_cons (pe_un un_neg pe_int) (pa_cons pe_int pa_nil))) (pa_cons (pe_tup (pa_cons pe_int (pa_cons pe_int pa_nil))) pa_nil))))))
  (pss_cons (ps_if (pt_cmpR op_eq (pv 0) pe_int (nomark _))
  (pss_one (ps_ret (pv 1)))
  pss_nil)
  (pss_one (ps_ret (pe_op op_cat (pv 1) (pe_lst (pa_cons (pe_tup (pa_cons (pe_un un_neg pe_int) (pa_cons (pe_un un_neg pe_int) pa_nil))) (pa_cons (pe_tup (pa_cons pe_int (pa_cons (pe_un un_neg pe_int) pa_nil))) (pa_cons (pe_tup (pa_cons (pe_un un_neg pe_int) (pa_cons pe_int pa_nil))) (pa_cons (pe_tup (pa_cons pe_int (pa_cons pe_int pa_nil))) pa_nil)))))))))), ?_⟩)
  · obtain ⟨c, rfl, _⟩ := h
    rfl
  · obtain ⟨c, rfl, k⟩ := h
    have z2 : (2 : Nat) ≤ sizeLine := by decide
    have z4 : (4 : Nat) ≤ sizeLine := by decide
    refine ⟨_, rfl, z2, fun t1 n1 => ⟨z2, fun t2 n2 => ⟨_, rfl, z2, fun t3 n3 => ⟨z2, fun t4 n4 => ⟨z4, fun D nD => ?_⟩⟩⟩⟩⟩
    have a1 := Ex.new (o := .tup [.int 0, .int (-1)]) n1
    have a2 := Ex.new (o := .tup [.int 0, .int 1]) n2
    have a3 := Ex.new (o := .tup [.int (-1), .int 0]) n3
    have a4 := Ex.new (o := .tup [.int 1, .int 0]) n4
    have a5 := Ex.new (o := .lst [.ref t1, .ref t2, .ref t3, .ref t4]) nD
    have b2 := a1.back n2
    have b3 := a1.back (a2.back n3)
    have b4 := a1.back (a2.back (a3.back n4))
    have bD := a1.back (a2.back (a3.back (a4.back nD)))
    have e5 := a1.trans (a2.trans (a3.trans (a4.trans a5)))
    have p4 : Paired (PairAt H _) [.ref t1, .ref t2, .ref t3, .ref t4] [((0 : Int), (-1 : Int)), (0, 1), (-1, 0), (1, 0)] :=
      .cons ⟨t1, rfl, n1, a5 _ _ (a4 _ _ (a3 _ _ (a2 _ _ upd_same)))⟩ (.cons ⟨t2, rfl, b2, a5 _ _ (a4 _ _ (a3 _ _ upd_same))⟩ (.cons ⟨t3, rfl, b3, a5 _ _ (a4 _ _ upd_same)⟩ (.cons ⟨t4, rfl, b4, a5 _ _ upd_same⟩ .nil)))
    refine s_if (pt_neq (k := 0) pu_v) (fun e => ?_) fun e => ?_
    · refine s_ret pu_v (k D _ _ bD e5 upd_same ?_)
      unfold stepsL
      rw [if_pos (of_decide_eq_true e)]
      exact p4
    · refine ⟨_, rfl, _, rfl, _, rfl, z2, fun t5 n5 => ⟨_, rfl, z2, fun t6 n6 => ⟨_, rfl, z2, fun t7 n7 => ⟨z2, fun t8 n8 => ⟨z4, fun D2 nD2 => ?_⟩⟩⟩⟩⟩
      have c1 := Ex.new (o := .tup [.int (-1), .int (-1)]) n5
      have c2 := Ex.new (o := .tup [.int 1, .int (-1)]) n6
      have c3 := Ex.new (o := .tup [.int (-1), .int 1]) n7
      have c4 := Ex.new (o := .tup [.int 1, .int 1]) n8
      have c5 := Ex.new (o := .lst [.ref t5, .ref t6, .ref t7, .ref t8]) nD2
      have e6 := c1.trans (c2.trans (c3.trans (c4.trans c5)))
      refine ⟨D, D2, _, _, rfl, rfl, e6 _ _ upd_same, upd_same, (by decide : 4 + 4 ≤ sizeLine), fun D3 nD3 => ?_⟩
      have c6 := Ex.new (o := .lst ([.ref t1, .ref t2, .ref t3, .ref t4] ++ [.ref t5, .ref t6, .ref t7, .ref t8])) nD3
      refine k D3 _ _ (e5.back (e6.back nD3)) (e5.trans (e6.trans c6)) upd_same ?_
      unfold stepsL
      rw [if_neg (of_decide_eq_false e)]
      have q1 := Paired.imp (fun _ _ x => PairAt.ex x (e6.trans c6)) p4
      have f : ∀ {t : Addr} {x : Int × Int} {Hx : Hp}, Hx t = none → Ex H Hx → H t = none := fun h e => e.back h
      refine .cons ?_ (.cons ?_ (.cons ?_ (.cons ?_ (.cons ⟨t5, rfl, e5.back n5, c6 _ _ (c5 _ _ (c4 _ _ (c3 _ _ (c2 _ _ upd_same))))⟩ (.cons ⟨t6, rfl, e5.back (c1.back n6), c6 _ _ (c5 _ _ (c4 _ _ (c3 _ _ upd_same)))⟩
        (.cons ⟨t7, rfl, e5.back (c1.back (c2.back n7)), c6 _ _ (c5 _ _ (c4 _ _ upd_same))⟩ (.cons ⟨t8, rfl, e5.back (c1.back (c2.back (c3.back n8))), c6 _ _ (c5 _ _ upd_same)⟩ .nil)))))))
      · exact ⟨t1, rfl, n1, (e6.trans c6) _ _ (a5 _ _ (a4 _ _ (a3 _ _ (a2 _ _ upd_same))))⟩
      · exact ⟨t2, rfl, b2, (e6.trans c6) _ _ (a5 _ _ (a4 _ _ (a3 _ _ upd_same)))⟩
      · exact ⟨t3, rfl, b3, (e6.trans c6) _ _ (a5 _ _ (a4 _ _ upd_same))⟩
      · exact ⟨t4, rfl, b4, (e6.trans c6) _ _ (a5 _ _ upd_same)⟩
/-- beside(picture, place, corners) -/
def besP (w h p : Nat) (x : Int × Int) : Bool := (decide (0 ≤ ((p % w : Nat) : Int) + x.1) && decide (((p % w : Nat) : Int) + x.1 < (w : Int))) && (decide (0 ≤ ((p / w : Nat) : Int) + x.2) && decide (((p / w : Nat) : Int) + x.2 < (h : Int)))
def besV (w p : Nat) (x : Int × Int) : Nat := ((((p / w : Nat) : Int) + x.2) * (w : Int) + (((p % w : Nat) : Int) + x.1)).toNat
def besL (w h p : Nat) (ss : List (Int × Int)) : List Nat := (ss.filter (besP w h p)).map (besV w p)
theorem besL_snoc (w h p : Nat) (ss : List (Int × Int)) (x : Int × Int) : besL w h p (ss ++ [x]) = if besP w h p x = true then besL w h p ss ++ [besV w p x] else besL w h p ss := by
  unfold besL
  rw [List.filter_append]
  split
  · rename_i e; simp [e]
  · rename_i e; simp [e]
theorem besL_len (w h p : Nat) (ss : List (Int × Int)) : (besL w h p ss).length ≤ ss.length := by unfold besL; rw [List.length_map]; exact List.length_filter_le _ _
theorem besV_eq {w h p : Nat} {x : Int × Int} (hb : besP w h p x = true) : (((p / w : Nat) : Int) + x.2) * (w : Int) + (((p % w : Nat) : Int) + x.1) = ((besV w p x : Nat) : Int) := by
  unfold besP at hb
  simp only [Bool.and_eq_true, decide_eq_true_eq] at hb
  unfold besV
  have := Int.mul_nonneg hb.2.1 (Int.natCast_nonneg w)
  omega
def sp_beside (T : Txt K mg) : Sp := fun vs H Q _ => ∃ (pa : Addr) (Z : Addr → Prop) (s : State) (p c : Nat), vs = [.ref pa, nV p, nV c] ∧ Pic T Z H pa s ∧ WF s ∧ p < 2 ^ 20 ∧ RNats (besL s.w s.h p (stepsL c)) H Q
theorem ok_beside (T : Txt K mg) : FnOk P w K mg base CX0 2 T.beside.a T.beside.fd ["picture", "place", "corners"] (sp_beside T) := by
  refine T.beside.F.ok sc_beside (fun vs H Q E h => ?_) (fun cdv A outer s H vs Q E hr h => ⟨_, (pss_cons (ps_set (i := 3) sc_beside.nd rfl (by first | exact Or.inl rfl | exact Or.inr rfl) (pe_lst pa_nil))
  (pss_cons (ps_for PassesOwn.never rfl (pi_list (pe_call (ok_steps T) (hr.mono (by decide)) (by rfl) T.steps.g T.steps.F.kp T.steps.b .nil pass0 (pa_cons (pv 2) pa_nil))) (pg_name (i := 4) sc_beside.nd rfl (by first | exact Or.inl rfl | exact Or.inr rfl))
  (pss_cons (ps_set (i := 5) sc_beside.nd rfl (by first | exact Or.inl rfl | exact Or.inr rfl) (pe_op op_add (pe_op op_mod (pv 1) (pe_fld (pv 0) rfl)) (pe_ix ix_tup (pv 4) pe_int (fun _ _ => rfl))))
    (pss_cons (ps_set (i := 6) sc_beside.nd rfl (by first | exact Or.inl rfl | exact Or.inr rfl) (pe_op op_add (pe_op op_fdiv (pv 1) (pe_fld (pv 0) rfl)) (pe_ix ix_tup (pv 4) pe_int (fun _ _ => rfl))))
    (pss_one (ps_if (PW.pt (pw_and (pt_chain op_le op_lt pe_int (pv 5) (pe_fld (pv 0) rfl)) (pw_and1 (pt_chain op_le op_lt pe_int (pv 6) (pe_fld (pv 0) rfl)))))
    (pss_one (ps_expr (pe_bm PySem.F.plainAttrs_list PySem.F.slot_list_append PySem.F.type_list_append mt_append (pv 3) (pa_cons (pe_op op_add (pe_op op_mul (pv 6) (pe_fld (pv 0) rfl)) (pv 5)) pa_nil))))
    pss_nil)))))
  (pss_one (ps_ret (pv 3))))), ?_⟩)
  · obtain ⟨pa, Z, s, p, c, rfl, _⟩ := h
    rfl
  · obtain ⟨pa, Z, s, p, c, rfl, hp, W, h20, k⟩ := h
    obtain ⟨dx, q, cc, ha, hl, hc⟩ := hp
    have w1 := W.w1
    have w12 := W.w12
    have fld : ∀ (H' : Hp) (σ : L2.St) (f : Str) (u : V), Ex H H' → σ[0]? = some (some (.ref pa)) → f ∈ (["w", "h", "layers", "worked", "chosen", "made"] : List Str) → (picF s q cc).lookup f = some u → Pu (tFld K (tVar 0) f) σ H' u :=
      fun H' σ f u e hs hf hu => pu_fld (pu_var hs) (e _ _ ha.h) T.Picture.cl (T.Picture.no f hf) hu
    refine ⟨Nat.zero_le _, fun D hD => ?_⟩
    refine c_call (paC pu_v pa0) ⟨c, rfl, fun sp ss H1 nsp e1 hsp pr => ?_⟩
    have hD1 : H1 D = some (.lst []) := e1 _ _ upd_same
    have nsD : sp ≠ D := fun z => by rw [z, upd_same] at nsp; cases nsp
    have eH1 : Ex H H1 := (Ex.new hD).trans e1
    refine ⟨sp, rfl, ⟨ss, SqL.of hsp⟩, ?_⟩
    have ks : ∀ H' : Hp, (∀ b o, b ≠ D → H1 b = some o → H' b = some o) → SqL K H' sp ss := fun H' kp => SqL.of (kp _ _ nsD hsp)
    have hss := Paired.len pr
    have hs8 : (stepsL c).length ≤ 8 := by unfold stepsL; rw [List.length_append]; split <;> decide
    refine for_it walk_list (fun i σ H' => ∃ x y z, σ = [some (.ref pa), some (nV p), some (nV c), some (.ref D), x, y, z] ∧ Ex H H' ∧ (∀ b o, b ≠ D → H1 b = some o → H' b = some o) ∧ H' D = some (.lst (nVs (besL s.w s.h p ((stepsL c).take i)))))
      ⟨none, none, none, rfl, eH1, fun b o _ h => h, hD1⟩ (fun i σ H' _ ⟨_, _, _, _, _, kp, _⟩ => ks H' kp) ?_ ?_
    · rintro i v σ H2 H3 hi ⟨x, y, z, rfl, e2, kp, h2⟩ ⟨rfl, hv⟩
      obtain ⟨st, h1, t, rfl, nt, ht⟩ := Paired.get' pr hv
      have ntD : t ≠ D := fun z => by rw [z, upd_same] at nt; cases nt
      have ht3 := kp _ _ ntD ht
      refine s_set (pu_add (pu_nmod pu_v (fld H3 _ "w" _ e2 rfl (by decide) (pf_w _ _ _)) (by omega)) (pu_ixT (n := 0) pu_v pu_c (SqT.of ht3) rfl rfl)) ?_
      refine s_set (pu_add (pu_ndiv pu_v (fld H3 _ "w" _ e2 rfl (by decide) (pf_w _ _ _)) (by omega) (by omega)) (pu_ixT (n := 1) pu_v pu_c (SqT.of ht3) rfl rfl)) ?_
      have et : (stepsL c).take (i + 1) = (stepsL c).take i ++ [st] := by rw [List.take_add_one, h1]; rfl
      refine s_if (b := besP s.w s.h p st) (pt_is (pt_and (pt_test (pu_chain pu_c pu_v (fld H3 _ "w" _ e2 rfl (by decide) (pf_w _ _ _)))) (fun _ => pt_test (pu_chain pu_c pu_v (fld H3 _ "h" _ e2 rfl (by decide) (pf_h _ _ _))))) rfl) (fun e => ?_) fun e => ?_
      · have hlen : (nVs (besL s.w s.h p ((stepsL c).take i))).length < 100000 := by
          rw [nVs_len]
          have := besL_len s.w s.h p ((stepsL c).take i)
          have h9 : ((stepsL c).take i).length ≤ 8 := by rw [List.length_take]; omega
          omega
        refine ⟨_, rfl, .inl ⟨rfl, _, SqL.of h2⟩, ?_⟩
        refine pu_add (pu_mul pu_v (fld H3 _ "w" _ e2 rfl (by decide) (pf_w _ _ _)) (mulOkR (by omega) (by omega))) pu_v _ ?_
        refine ⟨D, _, _, rfl, rfl, h2, szt hlen, _, _, _, rfl, Ex.mut e2 hD, fun b o nb hb => ?_, ?_⟩
        · rw [upd_ne nb]; exact kp b o nb hb
        · rw [upd_same, et, besL_snoc, if_pos e]
          unfold nVs
          rw [List.map_append, besV_eq e]
          rfl
      · refine ⟨_, _, _, rfl, e2, kp, ?_⟩
        rw [h2, et, besL_snoc, if_neg (by rw [e]; decide)]
    · rintro σ H2 ⟨x, y, z, rfl, e2, kp, h2⟩
      rw [hss, List.take_length] at h2
      exact ⟨_, rfl, k D H2 hD e2 h2⟩
end
end LP
end
section
set_option maxHeartbeats 4100000
namespace LP
open PySem PySem.Spec PyProof.Rows L2 Evl
open Sq50 (State Layer Dot)
/-! a flood, turn by turn -/
abbrev Fs := List Bool × List Nat
def fTurn (ok : Nat → Nat → Bool) (p : Nat) (x : Fs) (o : Nat) : Fs := if (x.1[o]?.getD true = false) ∧ ok p o = true then (x.1.set o true, x.2 ++ [o]) else x
/-- all states that are come to; nb: the places beside one -/
inductive Fl (nb : Nat → List Nat) (ok : Nat → Nat → Bool) (a : Fs) : Fs → Prop
  | refl : Fl nb ok a a
  | step {rs : List Bool} {ws : List Nat} {p : Nat} : Fl nb ok a (rs, ws ++ [p]) → Fl nb ok a ((nb p).foldl (fTurn ok p) (rs, ws))
def cf (rs : List Bool) : Nat := rs.count false
def fm (x : Fs) : Nat := 2 * cf x.1 + x.2.length
structure FOk (n : Nat) (x : Fs) : Prop where
  l : x.1.length = n
  w : ∀ p ∈ x.2, p < n
theorem cf_set {rs : List Bool} {o : Nat} (h : rs[o]?.getD true = false) : cf (rs.set o true) + 1 = cf rs := by
  unfold cf
  induction rs generalizing o with
  | nil => simp at h
  | cons b rs ih =>
    cases o with
    | zero =>
      have e : b = false := by simpa using h
      subst e
      simp
    | succ o =>
      have := ih (o := o) (by simpa using h)
      rw [List.set_cons_succ, List.count_cons, List.count_cons]
      omega
theorem fTurn_ok {n : Nat} {ok : Nat → Nat → Bool} {p o : Nat} {x : Fs} (h : FOk n x) (ho : o < n) : FOk n (fTurn ok p x o) ∧ fm (fTurn ok p x o) ≤ fm x := by
  unfold fTurn
  split
  · rename_i c
    have := cf_set c.1
    refine ⟨⟨by rw [List.length_set]; exact h.l, fun q hq => ?_⟩, ?_⟩
    · rcases List.mem_append.mp hq with hq | hq  -- own
      · exact h.w q hq
      · rw [List.mem_singleton.mp hq]; exact ho
    · unfold fm
      show 2 * cf (x.1.set o true) + (x.2 ++ [o]).length ≤ _
      rw [List.length_append]
      simp only [List.length_cons, List.length_nil]  -- own
      omega
  · exact ⟨h, Nat.le_refl _⟩
theorem fold_ok {n : Nat} {ok : Nat → Nat → Bool} {p : Nat} : ∀ (os : List Nat) (x : Fs), FOk n x → (∀ o ∈ os, o < n) → FOk n (os.foldl (fTurn ok p) x) ∧ fm (os.foldl (fTurn ok p) x) ≤ fm x
  | [], x, h, _ => ⟨h, Nat.le_refl _⟩
  | o :: os, x, h, ho => by
    obtain ⟨h1, h2⟩ := fTurn_ok (ok := ok) (p := p) h (ho o (List.mem_cons_self ..))
    obtain ⟨h3, h4⟩ := fold_ok os _ h1 (fun q hq => ho q (List.mem_cons_of_mem _ hq))
    exact ⟨h3, Nat.le_trans h4 h2⟩
section
variable {P : Program} {w : World} {K : PySem.W.Frag} {mg : Str → Option Value} {base : Heap}
theorem besL_lt {w h p o : Nat} {ss : List (Int × Int)} (w0 : 0 < w) (ho : o ∈ besL w h p ss) : o < w * h := by
  unfold besL at ho
  obtain ⟨x, hx, rfl⟩ := List.mem_map.mp ho
  have hb := (List.mem_filter.mp hx).2
  have e := besV_eq hb
  unfold besP at hb
  simp only [Bool.and_eq_true, decide_eq_true_eq] at hb
  obtain ⟨⟨h1, h2⟩, h3, h4⟩ := hb
  have h5 : ((p / w : Nat) : Int) + x.2 + 1 ≤ (h : Int) := by omega
  have h6 := Int.mul_le_mul_of_nonneg_right h5 (Int.natCast_nonneg w)
  rw [Int.add_mul, Int.one_mul] at h6
  have h7 : ((w * h : Nat) : Int) = (h : Int) * (w : Int) := by rw [Int.natCast_mul, Int.mul_comm]
  omega
/-- flood(picture, start, tolerance, kind, corners) -/
def okF (cs : List Nat) (start tol kind : Nat) (p o : Nat) : Bool := decide (Sq44.apart (colAt cs (if kind = 0 then start else p)) (colAt cs o) ≤ tol)
def fl0 (n start : Nat) : Fs := ((List.replicate n false).set start true, [start])
def sp_flood (T : Txt K mg) : Sp := fun vs H Q _ => ∃ (pa : Addr) (Z : Addr → Prop) (s : State) (start tol kind c : Nat), vs = [.ref pa, nV start, nV tol, nV kind, nV c] ∧ Pic T Z H pa s ∧ WF s ∧ start < s.w * s.h ∧
  ∀ rs, Fl (fun p => besL s.w s.h p (stepsL c)) (okF (s.layer.dots.map (·.1)) start tol kind) (fl0 (s.w * s.h) start) (rs, []) → RBits rs H Q
theorem flat_zeros (n : Nat) : (List.replicate n [V.int 0]).flatten = bVs (List.replicate n false) := by
  unfold bVs
  rw [List.map_replicate]
  induction n with
  | zero => rfl
  | succ n ih => rw [List.replicate_succ, List.flatten_cons, ih]; rfl
theorem bVs_set (bs : List Bool) (i : Nat) (b : Bool) : (bVs bs).set i (bV b) = bVs (bs.set i b) := by unfold bVs; rw [List.map_set]
theorem nVs_snoc (ns : List Nat) (n : Nat) : nVs ns ++ [nV n] = nVs (ns ++ [n]) := by unfold nVs; rw [List.map_append]; rfl
theorem ixN_lt {n j : Nat} (hj : j < n) : ixN n (j : Int) = some j := by
  unfold ixN
  rw [if_pos (by omega), if_pos (by omega)]  -- own
  simp
theorem apart_abs (a b : Nat) : ((((b : Int) - (a : Int)).natAbs : Nat) : Int) = ((Sq44.apart a b : Nat) : Int) := by unfold Sq44.apart; omega
theorem ok_flood (T : Txt K mg) : FnOk P w K mg base CX0 8 T.flood.a T.flood.fd ["picture", "start", "tolerance", "kind", "corners"] (sp_flood T) := by
  refine T.flood.F.ok sc_flood (fun vs H Q E h => ?_) (fun cdv A outer s H vs Q E hr h => ⟨_, (pss_cons (ps_set (i := 5) sc_flood.nd rfl (by first | exact Or.inl rfl | exact Or.inr rfl) (pe_call (ok_worked_colours T) (hr.mono (by decide)) (by rfl) T.worked_colours.g T.worked_colours.F.kp T.worked_colours.b .nil pass0 (pa_cons (pv 0) pa_nil)))
  (pss_cons (ps_set (i := 6) sc_flood.nd rfl (by first | exact Or.inl rfl | exact Or.inr rfl) (pe_op op_rep (pe_lst (pa_cons pe_int pa_nil)) (pe_callB call_len_seq (by rfl) (T.nb "len" (by decide)) (by decide +kernel) (pa_cons (pv 5) pa_nil))))
  (pss_cons (ps_asg pe_int (pg_sub (pv 6) (pv 1) set_list))
  (pss_cons (ps_set (i := 7) sc_flood.nd rfl (by first | exact Or.inl rfl | exact Or.inr rfl) (pe_lst (pa_cons (pv 1) pa_nil)))
  (pss_cons (ps_while PassesOwn.never (pt_truth (pv 7) (by intro _; rfl))
  (pss_cons (ps_set (i := 8) sc_flood.nd rfl (by first | exact Or.inl rfl | exact Or.inr rfl) (pe_bm0 PySem.F.plainAttrs_list PySem.F.slot_list_pop PySem.F.type_list_pop mt_pop (pv 7)))
    (pss_cons (ps_set (i := 9) sc_flood.nd rfl (by first | exact Or.inl rfl | exact Or.inr rfl) (pe_ifExp (pt_cmpR op_eq (pv 3) pe_int (nomark _)) (pe_ix ix_list (pv 5) (pv 1) (fun _ _ => rfl)) (pe_ix ix_list (pv 5) (pv 8) (fun _ _ => rfl))))
    (pss_one (ps_for PassesOwn.never rfl (pi_list (pe_call (ok_beside T) (hr.mono (by decide)) (by rfl) T.beside.g T.beside.F.kp T.beside.b .nil pass0 (pa_cons (pv 0) (pa_cons (pv 8) (pa_cons (pv 4) pa_nil))))) (pg_name (i := 10) sc_flood.nd rfl (by first | exact Or.inl rfl | exact Or.inr rfl))
    (pss_one (ps_if (PW.pt (pw_and (pt_cmpR op_eq (pe_ix ix_list (pv 6) (pv 10) (fun _ _ => rfl)) pe_int (nomark _)) (pw_and1 (pt_cmpR op_le (pe_callB call_abs (by rfl) (T.nb "abs" (by decide)) (by decide +kernel) (pa_cons (pe_op op_sub (pe_ix ix_list (pv 5) (pv 10) (fun _ _ => rfl)) (pv 9)) pa_nil)) (pv 2) (nomark _)))))
      (pss_cons (ps_asg pe_int (pg_sub (pv 6) (pv 10) set_list))
        (pss_one (ps_expr (pe_bm PySem.F.plainAttrs_list PySem.F.slot_list_append PySem.F.type_list_append mt_append (pv 7) (pa_cons (pv 10) pa_nil)))))
      pss_nil)))))))
  (pss_one (ps_ret (pv 6)))))))), ?_⟩)
  · obtain ⟨pa, Z, s, start, tol, kind, c, rfl, _⟩ := h
    rfl
  · obtain ⟨pa, Z, s, start, tol, kind, c, rfl, hp, W, hst, k⟩ := h
    have hn := W.n
    have w1 := W.w1
    have hlen : (s.layer.dots.map (·.1)).length = s.w * s.h := by rw [List.length_map]; exact W.len _ (layer_mem W)
    generalize hcs : s.layer.dots.map (·.1) = cs at hlen k
    refine c_call (paC pu_v pa0) ⟨pa, Z, s, rfl, hp, W, fun C H1 nC e1 hC => ?_⟩
    rw [hcs] at hC
    -- reached = [0] * len(colours)
    refine ⟨by show 1 ≤ sizeLine; decide, fun l0 hl0 => ?_⟩
    have e2 := Ex.new (o := .lst [.int 0]) hl0
    refine ⟨_, rfl, C, _, rfl, .inl (SqL.of (e2 _ _ hC)), l0, _, _, rfl, rfl, upd_same, ?_, ?_, ?_, fun Rr hRr => ?_⟩
    · omega
    · rw [nVs_len, hlen]; omega
    · rw [nVs_len, hlen]; exact szl (by simp; omega)
    rw [Int.toNat_natCast, nVs_len, hlen, flat_zeros]
    have e3 := Ex.new (o := .lst (bVs (List.replicate (s.w * s.h) false))) hRr
    -- reached[start] = 1
    refine ⟨_, rfl, _, rfl, Rr, _, _, start, rfl, rfl, upd_same, ?_, ?_⟩
    · rw [bVs_len, List.length_replicate]; exact ixN_lt hst
    rw [upd_upd, show (V.int 1) = bV true from rfl, bVs_set]
    -- waiting = [start]
    refine ⟨_, rfl, by show 1 ≤ sizeLine; decide, fun Wt hWt => ?_⟩
    have nWR : Wt ≠ Rr := fun z => by rw [z, upd_same] at hWt; cases hWt
    have nRH : H Rr = none := e1.back (e2.back hRr)
    have nWH : H Wt = none := by
      rw [upd_ne nWR] at hWt
      exact e1.back (e2.back hWt)
    have nCR : C ≠ Rr := fun z => by have := e2 _ _ hC; rw [z, hRr] at this; cases this
    have nCW : C ≠ Wt := fun z => by
      rw [upd_ne nWR] at hWt
      have := e2 _ _ hC
      rw [z, hWt] at this
      cases this
    -- the loop
    refine ⟨fun m σ H' => ∃ (x : Fs) (u v y : Option V), σ = [some (.ref pa), some (nV start), some (nV tol), some (nV kind), some (nV c), some (.ref C), some (.ref Rr), some (.ref Wt), u, v, y] ∧ Ex H H' ∧ H' C = some (.lst (nVs cs)) ∧ H' Rr = some (.lst (bVs x.1)) ∧ H' Wt = some (.lst (nVs x.2)) ∧
        FOk (s.w * s.h) x ∧ Fl (fun p => besL s.w s.h p (stepsL c)) (okF cs start tol kind) (fl0 (s.w * s.h) start) x ∧ m = fm x ∧ fm x ≤ 1000, ⟨_, fl0 (s.w * s.h) start, none, none, none, rfl, ?_, ?_, ?_, ?_, ?_, .refl, rfl, ?_⟩, ?_⟩
    · exact Ex.mut (Ex.mut (e1.trans e2) nRH) nWH
    · rw [upd_ne nCW, upd_ne nCR]; exact e2 _ _ hC
    · rw [upd_ne (Ne.symm nWR), upd_same]; rfl
    · exact upd_same
    · refine ⟨?_, fun q hq => ?_⟩
      · unfold fl0; rw [List.length_set, List.length_replicate]
      · rw [List.mem_singleton.mp hq]; exact hst
    · unfold fm fl0
      have h3 : cf ((List.replicate (s.w * s.h) false).set start true) ≤ _ := List.count_le_length
      rw [List.length_set, List.length_replicate] at h3
      show 2 * cf ((List.replicate (s.w * s.h) false).set start true) + 1 ≤ 1000
      omega
    rintro m σ H2 ⟨⟨rs, ws⟩, u, v, y, rfl, eH, h2C, h2R, h2W, fo, fl, rfl, h1000⟩
    refine ⟨_, rfl, !(nVs ws).isEmpty, .inl ⟨_, SqL.of h2W, rfl⟩, ?_⟩
    rcases List.eq_nil_or_concat ws with rfl | ⟨ws', p, rfl⟩
    · -- done
      refine ifF rfl ?_
      exact ⟨_, rfl, k rs fl Rr H2 nRH eH h2R⟩
    · have ew : (!(nVs (ws'.concat p)).isEmpty) = true := by rw [List.concat_eq_append, ← nVs_snoc]; simp
      rw [List.concat_eq_append] at fo fl h2W ew h1000 ⊢
      refine ifT ew ?_
      have hpn : p < s.w * s.h := fo.w p (List.mem_append_right _ (List.mem_singleton.mpr rfl))
      have hw1 := fo.l
      refine ⟨_, fun σ' H' z => z, ?_⟩
      -- place = waiting.pop()
      refine ⟨_, rfl, .inl ⟨rfl, _, SqL.of h2W⟩, Wt, nVs (ws' ++ [p]), nV p, rfl, rfl, h2W, ?_, ?_⟩
      · rw [← nVs_snoc]; simp
      rw [← nVs_snoc, List.dropLast_concat]
      have e3' : Ex H (upd H2 Wt (.lst (nVs ws'))) := Ex.mut eH nWH
      have h3C : (upd H2 Wt (.lst (nVs ws'))) C = some (.lst (nVs cs)) := by rw [upd_ne nCW]; exact h2C
      have h3R : (upd H2 Wt (.lst (nVs ws'))) Rr = some (.lst (bVs rs)) := by rw [upd_ne (Ne.symm nWR)]; exact h2R
      have gc : ∀ j : Nat, j < s.w * s.h → (nVs cs)[j]? = some (nV (colAt cs j)) := fun j hj => by
        unfold nVs colAt
        rw [List.getElem?_map, List.getElem?_eq_getElem (by omega)]
        rfl
      have hmeas : (if kind = 0 then start else p) < s.w * s.h := by split <;> assumption
      -- measure
      refine s_set (v := nV (colAt cs (if kind = 0 then start else p))) (pu_if (pt_neq (k := 0) pu_v) (fun e => ?_) (fun e => ?_)) ?_
      · rw [if_pos (of_decide_eq_true e)]
        exact pu_ixL (n := start) pu_v pu_v (SqL.of h3C) rfl (gc start hst)
      · rw [if_neg (of_decide_eq_false e)]
        exact pu_ixL (n := p) pu_v pu_v (SqL.of h3C) rfl (gc p hpn)
      -- for other in beside(..)
      refine c_call (paC pu_v (paC pu_v (paC pu_v pa0))) ⟨pa, Z, s, p, c, rfl, hp.keep (e3'.keep Z), W, by omega, fun B H4 nB e4 hB => ?_⟩
      refine ⟨B, rfl, ⟨_, SqL.of hB⟩, ?_⟩
      have nBR : B ≠ Rr := fun z => by rw [z, h3R] at nB; cases nB
      have nBW : B ≠ Wt := fun z => by rw [z, upd_same] at nB; cases nB
      generalize hbl : besL s.w s.h p (stepsL c) = bl at hB
      have hbo : ∀ o ∈ bl, o < s.w * s.h := fun o ho => besL_lt (by omega) (by rw [hbl]; exact ho)
      have fo' : FOk (s.w * s.h) (rs, ws') := ⟨hw1, fun q hq => fo.w q (List.mem_append_left _ hq)⟩
      refine for_it walk_list (fun i σ H' => ∃ (x : Fs) (y : Option V), σ = [some (.ref pa), some (nV start), some (nV tol), some (nV kind), some (nV c), some (.ref C), some (.ref Rr), some (.ref Wt), some (nV p), some (nV (colAt cs (if kind = 0 then start else p))), y] ∧ Ex H H' ∧ H' C = some (.lst (nVs cs)) ∧
          H' Rr = some (.lst (bVs x.1)) ∧ H' Wt = some (.lst (nVs x.2)) ∧ H' B = some (.lst (nVs bl)) ∧ x = (bl.take i).foldl (fTurn (okF cs start tol kind) p) (rs, ws'))
        ⟨(rs, ws'), y, rfl, e3'.trans e4, e4 _ _ h3C, e4 _ _ h3R, e4 _ _ upd_same, hB, rfl⟩ (fun i σ H' _ ⟨_, _, _, _, _, _, _, hb, _⟩ => SqL.of hb) ?_ ?_
      · rintro i vv σ H5 H6 hi ⟨⟨rs1, ws1⟩, y, rfl, e5, h5C, h5R, h5W, h5B, ex⟩ ⟨rfl, hv⟩
        obtain ⟨o, ho, rfl⟩ := nVs_get hv
        have hon := hbo o (List.mem_of_getElem? ho)
        obtain ⟨fo1, fm1⟩ := fold_ok (ok := okF cs start tol kind) (p := p) (bl.take i) (rs, ws') fo' (fun q hq => hbo q (List.mem_of_mem_take hq))
        rw [← ex] at fo1 fm1
        have hr1 : rs1.length = s.w * s.h := fo1.l
        obtain ⟨rb, hrb⟩ : ∃ rb, rs1[o]? = some rb := ⟨_, List.getElem?_eq_getElem (by omega)⟩
        have hrv : (bVs rs1)[o]? = some (bV rb) := by unfold bVs; rw [List.getElem?_map, hrb]; rfl
        have et : (bl.take (i + 1)).foldl (fTurn (okF cs start tol kind) p) (rs, ws') = fTurn (okF cs start tol kind) p (rs1, ws1) o := by
          have e2 : bl.take (i + 1) = bl.take i ++ [o] := by rw [List.take_add_one, ho]; rfl
          rw [e2, List.foldl_append, ← ex]
          rfl
        refine s_if (b := (!rb && okF cs start tol kind p o)) (pt_is (pt_and (pt_test (pu_eq (pu_ixL (n := o) pu_v pu_v (SqL.of h5R) rfl hrv) pu_c)) (fun _ => pt_cmp (pu_abs (pu_sub (pu_ixL (n := o) pu_v pu_v (SqL.of h5C) rfl (gc o hon)) pu_v)) pu_v)) ?_) (fun e => ?_) fun e => ?_
        · congr 1
          · cases rb <;> rfl
          · unfold okF
            rw [apart_abs]
            by_cases h : Sq44.apart (colAt cs (if kind = 0 then start else p)) (colAt cs o) ≤ tol
            · rw [decide_eq_true h, decide_eq_true (by omega)]
            · rw [decide_eq_false h, decide_eq_false (by omega)]
        · rw [Bool.and_eq_true] at e
          have erb : rb = false := by simpa using e.1
          subst erb
          refine ⟨_, rfl, _, rfl, Rr, _, _, o, rfl, rfl, h5R, by rw [bVs_len, hr1]; exact ixN_lt hon, ?_⟩
          have es : (bVs ((rs1, ws1) : Fs).fst).set o (bV true) = bVs (rs1.set o true) := bVs_set rs1 o true
          rw [es]
          have h6W : (upd H6 Rr (.lst (bVs (rs1.set o true)))) Wt = some (.lst (nVs ws1)) := by rw [upd_ne nWR]; exact h5W
          have hz : (nVs ws1).length < 100000 := by
            rw [nVs_len]
            have h1 : fm (rs1, ws1) ≤ fm (rs, ws') := fm1
            have h2 : fm (rs, ws') ≤ fm (rs, ws' ++ [p]) := by unfold fm; show 2 * cf rs + ws'.length ≤ 2 * cf rs + (ws' ++ [p]).length; rw [List.length_append]; omega
            have h3 : cf rs ≤ rs.length := List.count_le_length
            have h4 : ws'.length ≤ 1000 := by
              have z : 2 * cf rs + (ws' ++ [p]).length ≤ 1000 := h1000
              rw [List.length_append] at z
              omega
            unfold fm at h1
            show ws1.length < 100000
            have h5 : 2 * cf rs1 + ws1.length ≤ 2 * cf rs + ws'.length := h1
            have h6 : rs.length = s.w * s.h := hw1
            omega
          refine ⟨_, rfl, .inl ⟨rfl, _, SqL.of h6W⟩, _, rfl, Wt, _, _, rfl, rfl, h6W, szt hz, ?_⟩
          refine ⟨(rs1.set o true, ws1 ++ [o]), _, rfl, Ex.mut (Ex.mut e5 nRH) nWH, ?_, ?_, ?_, ?_, ?_⟩
          · rw [upd_ne nCW, upd_ne nCR]; exact h5C
          · rw [upd_ne (Ne.symm nWR)]; exact upd_same
          · rw [upd_same, nVs_snoc]
          · rw [upd_ne nBW, upd_ne nBR]; exact h5B
          · rw [et]
            unfold fTurn
            rw [if_pos ⟨by show rs1[o]?.getD true = false; rw [hrb]; rfl, e.2⟩]
        · refine ⟨(rs1, ws1), _, rfl, e5, h5C, h5R, h5W, h5B, ?_⟩
          rw [et]
          unfold fTurn
          rw [if_neg]
          rintro ⟨z1, z2⟩
          have z1' : rs1[o]?.getD true = false := z1
          rw [hrb] at z1'
          have : rb = false := z1'
          rw [this, z2] at e
          cases e
      · rintro σ H5 ⟨x, y, rfl, e5, h5C, h5R, h5W, h5B, ex⟩
        rw [nVs_len, List.take_length] at ex
        obtain ⟨fo1, fm1⟩ := fold_ok (ok := okF cs start tol kind) (p := p) bl (rs, ws') fo' hbo
        rw [← ex] at fo1 fm1
        have flt : fm x < fm (rs, ws' ++ [p]) := ?flt
        refine ⟨fm x, flt, x, _, _, _, rfl, e5, h5C, h5R, h5W, fo1, ?_, rfl, by omega⟩
        case flt =>
          unfold fm at fm1 ⊢
          show _ < 2 * cf rs + (ws' ++ [p]).length
          have : 2 * cf x.1 + x.2.length ≤ 2 * cf rs + ws'.length := fm1
          rw [List.length_append, List.length_singleton]  -- own
          omega
        · rw [ex, ← hbl]
          exact .step fl
end
end LP
end
section
set_option maxHeartbeats 4100000
namespace LP
open PySem PySem.Spec PyProof.Rows L2 Evl
open Sq50 (State Layer Dot)
section
variable {P : Program} {w : World} {K : PySem.W.Frag} {mg : Str → Option Value} {base : Heap}
/-- the class of the refusal that answers e -/
def cls (T : Txt K mg) (e : Int) : Addr := if e = -1 then T.C_CannotBe else if e = -2 then T.C_NoSuchLayer else if e = -3 then T.C_NotSoTold else if e = -5 then T.C_TooMany else T.C_NotNow
/-- what a deed comes to -/
def Dres (T : Txt K mg) (Z : Addr → Prop) (H : Hp) (Q : VK) (E : XK) : Except Int State → Prop
  | .ok t => PicR T Z t H Q
  | .error e => Rz (cls T e) e H E
def spDeed (T : Txt K mg) (n : Nat) (f : State → List Nat → Except Int State) : Sp := fun vs H Q E => ∃ (a m : Addr) (Z : Addr → Prop) (s : State) (ms : List Nat), vs = [.ref a, .ref m] ∧ Pic T Z H a s ∧ WF s ∧ Free Z H ∧ H m = some (.lst (nVs ms)) ∧ ms.length = n ∧ Dres T Z H Q E (f s ms)
/-- the n-th that is told -/
theorem pu_more {σ : L2.St} {H : Hp} {m : Addr} {ms : List Nat} {n i : Nat} {x : Nat} (hs : σ[i]? = some (some (.ref m))) (h : H m = some (.lst (nVs ms))) (hx : ms[n]? = some x) : Pu (tOp (rIxL K) (tVar i) (tC (.int (n : Int)))) σ H (nV x) :=
  pu_ixL (n := n) (pu_var hs) pu_c (SqL.of h) rfl (by unfold nVs; rw [List.getElem?_map, hx]; rfl)
theorem pt_ngt {σ : L2.St} {H : Hp} {ta tb : TE} {a b : Nat} (ha : Pu ta σ H (nV a)) (hb : Pu tb σ H (nV b)) : PuT (tTest (tOp (rI0 fun i j => .bl (decide (j < i))) ta tb)) σ H (decide (b < a)) := pt_is (pt_cmp ha hb) (by
  by_cases h : b < a
  · rw [decide_eq_true h, decide_eq_true (by omega)]
  · rw [decide_eq_false h, decide_eq_false (by omega)])
theorem pt_nge {σ : L2.St} {H : Hp} {ta tb : TE} {a b : Nat} (ha : Pu ta σ H (nV a)) (hb : Pu tb σ H (nV b)) : PuT (tTest (tOp (rI0 fun i j => .bl (decide (j ≤ i))) ta tb)) σ H (decide (b ≤ a)) := pt_is (pt_cmp ha hb) (by
  by_cases h : b ≤ a
  · rw [decide_eq_true h, decide_eq_true (by omega)]
  · rw [decide_eq_false h, decide_eq_false (by omega)])
theorem cK {sp : Sp} {dvs : List V} {E : XK} {tr : TA} {σ : L2.St} {H : Hp} {Q : VK} (h : tr σ H fun vs H1 => sp (vs ++ dvs) H1 Q E) : tCall sp dvs E tr σ H Q := h
theorem cC {te : TE} {tr : TA} {σ : L2.St} {H : Hp} {v : V} {Q : List V → Hp → Prop} (h : Pu te σ H v) (q : tr σ H fun xs H2 => Q (v :: xs) H2) : tCons te tr σ H Q := h _ q
theorem cE {te : TE} {tr : TA} {σ : L2.St} {H : Hp} {Q : List V → Hp → Prop} (h : te σ H fun x H1 => tr σ H1 fun xs H2 => Q (x :: xs) H2) : tCons te tr σ H Q := h
/-- with_joined(picture, how, told) -/
def withCh (s : State) (bs : List Bool) : State := { s with chosen := bs }
def sp_with_joined (T : Txt K mg) : Sp := fun vs H Q _ => ∃ (a c : Addr) (Z : Addr → Prop) (s : State) (how : Nat) (bs : List Bool), vs = [.ref a, nV how, .ref c] ∧ Pic T Z H a s ∧ WF s ∧ Free Z H ∧ H c = some (.lst (bVs bs)) ∧ bs.length = s.w * s.h ∧ PicR T Z (withCh s (joinL how s.chosen bs)) H Q
theorem pic_ch {T : Txt K mg} {Z : Addr → Prop} {H H' : Hp} {q c p dp : Addr} {s : State} {bs : List Bool} (hF : Free Z H) (hl : LaysAt T.Layer.a Z H q s.layers) (e : Ex H H') (np : H p = none) (nc : H c = none) (hc : H' c = some (.lst (bVs bs))) (hp : H' p = some (.ins T.Picture.a dp (picF (withCh s bs) q c))) : Pic T Z H' p (withCh s bs) :=
  ⟨dp, q, c, ⟨hF p np, hp⟩, hl.keep (e.keep Z), ⟨hF c nc, hc⟩⟩
theorem ok_with_joined (T : Txt K mg) : FnOk P w K mg base CX0 4 T.with_joined.a T.with_joined.fd ["picture", "how", "told"] (sp_with_joined T) := by
  refine T.with_joined.F.ok sc_with_joined (fun vs H Q E h => ?_) (fun cdv A outer s H vs Q E hr h => ⟨_, (pss_one (ps_ret (pe_call (ok_with_chosen T) (hr.mono (by decide)) (by rfl) T.with_chosen.g T.with_chosen.F.kp T.with_chosen.b .nil pass0 (pa_cons (pv 0) (pa_cons (pe_call (ok_joined T) (hr.mono (by decide)) (by rfl) T.joined.g T.joined.F.kp T.joined.b .nil pass0 (pa_cons (pv 1) (pa_cons (pe_fld (pv 0) rfl) (pa_cons (pv 2) pa_nil)))) pa_nil))))), ?_⟩)
  · obtain ⟨a, c, Z, s, how, bs, rfl, _⟩ := h
    rfl
  · obtain ⟨a, c, Z, s, how, bs, rfl, hp, W, hF, hc, hb, k⟩ := h
    obtain ⟨dx, q, c0, ha, hl, hch⟩ := hp
    refine ⟨_, rfl, _, rfl, _, rfl, a, _, dx, _, _, rfl, ha.h, T.Picture.cl, T.Picture.no _ (by decide), pf_chosen _ _ _, _, rfl, how, c0, c, s.chosen, bs, rfl, hch.h, hc, by rw [W.ch, hb], by rw [W.ch]; exact W.n, fun p H1 n1 e1 h1 => ?_⟩
    refine ⟨a, dx, q, c0, p, s, joinL how s.chosen bs, rfl, e1 _ _ ha.h, fun x dp H2 n2 e2 h2 => ?_⟩
    exact k x H2 (e1.trans e2) (pic_ch hF hl (e1.trans e2) (e1.back n2) n1 (e2 _ _ h1) h2)
def f_rect (s : State) : List Nat → Except Int State
  | [how, x, y, a, b] => if 4 < how then .error (-1) else .ok (withCh s (joinL how s.chosen (rectL s.w s.h x y a b (s.w * s.h))))
  | _ => .error 0
theorem ok_choose_rectangle (T : Txt K mg) : FnOk P w K mg base (L2.CX P w) 5 T.choose_rectangle.a T.choose_rectangle.fd ["picture", "more"] (spDeed T 5 f_rect) := by
  refine T.choose_rectangle.F.okX sc_choose_rectangle (fun vs H Q E h => ?_) (fun cdv A outer s H vs Q E hr h => ⟨_, (pss_cons (ps_if (pt_cmpR op_gt (pe_ix ix_list (pv 1) pe_int (fun _ _ => rfl)) (pe_glob (by rfl) T.LAST_HOW.g T.LAST_HOW.r) (nomark _))
  (pss_one (ps_raiseR rfl T.CannotBe hr (takes_of rfl rfl rfl rfl)))
  pss_nil)
  (pss_one (ps_ret (pe_call (ok_with_joined T) (hr.mono (by decide)) (by rfl) T.with_joined.g T.with_joined.F.kp T.with_joined.b .nil pass0 (pa_cons (pv 0) (pa_cons (pe_ix ix_list (pv 1) pe_int (fun _ _ => rfl)) (pa_cons (pe_call (ok_rectangle T) (hr.mono (by decide)) (by rfl) T.rectangle.g T.rectangle.F.kp T.rectangle.b .nil pass0 (pa_cons (pv 0) (pa_cons (pe_ix ix_list (pv 1) pe_int (fun _ _ => rfl)) (pa_cons (pe_ix ix_list (pv 1) pe_int (fun _ _ => rfl)) (pa_cons (pe_ix ix_list (pv 1) pe_int (fun _ _ => rfl)) (pa_cons (pe_ix ix_list (pv 1) pe_int (fun _ _ => rfl)) pa_nil)))))) pa_nil))))))), ?_⟩)
  · obtain ⟨a, m, Z, s, ms, rfl, _⟩ := h
    rfl
  · obtain ⟨pa, m, Z, s, ms, rfl, hp, W, hF, hm, hn, k⟩ := h
    obtain ⟨how, x, y, a, b, rfl⟩ : ∃ how x y a b, ms = [how, x, y, a, b] := by
      match ms, hn with
      | [how, x, y, a, b], _ => exact ⟨how, x, y, a, b, rfl⟩
    refine s_if (pt_ngt (pu_more rfl hm rfl) (pu_nc 4)) (fun e => ?_) fun e => ?_
    · dsimp only [f_rect] at k
      rw [if_pos (of_decide_eq_true e)] at k
      exact Rz.go k (Ex.refl H)
    · dsimp only [f_rect] at k
      rw [if_neg (of_decide_eq_false e)] at k
      refine cK (cC pu_v (cC (pu_more rfl hm rfl) (cE ?_)))
      refine c_call (paC pu_v (paC (pu_more rfl hm rfl) (paC (pu_more rfl hm rfl) (paC (pu_more rfl hm rfl) (paC (pu_more rfl hm rfl) pa0))))) ⟨pa, Z, s, x, y, a, b, rfl, hp, W, fun p H1 n1 e1 h1 => ?_⟩
      exact ⟨pa, p, Z, s, how, _, rfl, hp.keep (e1.keep Z), W, hF.ex e1, h1, by unfold rectL; rw [List.length_map, List.length_range], fun p2 H2 e2 h2 => k p2 H2 (e1.trans e2) h2⟩
def f_all (s : State) : List Nat → Except Int State
  | [how] => if 4 < how then .error (-1) else .ok (withCh s (joinL how s.chosen (List.replicate (s.w * s.h) true)))
  | _ => .error 0
theorem ok_choose_all (T : Txt K mg) : FnOk P w K mg base (L2.CX P w) 5 T.choose_all.a T.choose_all.fd ["picture", "more"] (spDeed T 1 f_all) := by
  refine T.choose_all.F.okX sc_choose_all (fun vs H Q E h => ?_) (fun cdv A outer s H vs Q E hr h => ⟨_, (pss_cons (ps_if (pt_cmpR op_gt (pe_ix ix_list (pv 1) pe_int (fun _ _ => rfl)) (pe_glob (by rfl) T.LAST_HOW.g T.LAST_HOW.r) (nomark _))
  (pss_one (ps_raiseR rfl T.CannotBe hr (takes_of rfl rfl rfl rfl)))
  pss_nil)
  (pss_one (ps_ret (pe_call (ok_with_joined T) (hr.mono (by decide)) (by rfl) T.with_joined.g T.with_joined.F.kp T.with_joined.b .nil pass0 (pa_cons (pv 0) (pa_cons (pe_ix ix_list (pv 1) pe_int (fun _ _ => rfl)) (pa_cons (pe_op op_rep (pe_lst (pa_cons pe_int pa_nil)) (pe_callB call_len_seq (by rfl) (T.nb "len" (by decide)) (by decide +kernel) (pa_cons (pe_fld (pv 0) rfl) pa_nil))) pa_nil))))))), ?_⟩)
  · obtain ⟨a, m, Z, s, ms, rfl, _⟩ := h
    rfl
  · obtain ⟨pa, m, Z, s, ms, rfl, hp, W, hF, hm, hn, k⟩ := h
    obtain ⟨how, rfl⟩ : ∃ how, ms = [how] := by
      match ms, hn with
      | [how], _ => exact ⟨how, rfl⟩
    have hn := W.n
    refine s_if (pt_ngt (pu_more rfl hm rfl) (pu_nc 4)) (fun e => ?_) fun e => ?_
    · dsimp only [f_all] at k
      rw [if_pos (of_decide_eq_true e)] at k
      exact Rz.go k (Ex.refl H)
    · dsimp only [f_all] at k
      rw [if_neg (of_decide_eq_false e)] at k
      obtain ⟨dx, q, c, ha, hl, hc⟩ := id hp
      refine cK (cC pu_v (cC (pu_more rfl hm rfl) (cE ⟨by show 1 ≤ sizeLine; decide, fun l0 n0 => ?_⟩)))
      have e0 := Ex.new (o := .lst [.int 1]) n0
      have hlen : (bVs s.chosen).length = s.w * s.h := by rw [bVs_len, W.ch]
      refine ⟨_, rfl, pa, _, dx, _, _, rfl, e0 _ _ ha.h, T.Picture.cl, T.Picture.no _ (by decide), pf_chosen _ _ _, c, _, rfl, .inl (hc.keep (e0.keep Z)).sq, l0, _, _, rfl, rfl, upd_same, by omega, by rw [hlen]; omega, by rw [hlen]; exact szl (by simp; omega), fun p n1 => ?_⟩
      rw [Int.toNat_natCast, hlen, flat_ones]
      have e1 := Ex.new (o := .lst (bVs (List.replicate (s.w * s.h) true))) n1
      exact ⟨pa, p, Z, s, how, _, rfl, hp.keep ((e0.trans e1).keep Z), W, hF.ex (e0.trans e1), upd_same, by rw [List.length_replicate], fun p2 H2 e2 h2 => k p2 H2 ((e0.trans e1).trans e2) h2⟩
def f_grow (s : State) : List Nat → Except Int State
  | [r] => if 1000 < r then .error (-1) else .ok (withCh s (growL s.w r s.chosen))
  | _ => .error 0
theorem ok_grow_choice (T : Txt K mg) : FnOk P w K mg base (L2.CX P w) 4 T.grow_choice.a T.grow_choice.fd ["picture", "more"] (spDeed T 1 f_grow) := by
  refine T.grow_choice.F.okX sc_grow_choice (fun vs H Q E h => ?_) (fun cdv A outer s H vs Q E hr h => ⟨_, (pss_cons (ps_if (pt_cmpR op_gt (pe_ix ix_list (pv 1) pe_int (fun _ _ => rfl)) (pe_glob (by rfl) T.MOST_REACH.g T.MOST_REACH.r) (nomark _))
  (pss_one (ps_raiseR rfl T.CannotBe hr (takes_of rfl rfl rfl rfl)))
  pss_nil)
  (pss_one (ps_ret (pe_call (ok_with_chosen T) (hr.mono (by decide)) (by rfl) T.with_chosen.g T.with_chosen.F.kp T.with_chosen.b .nil pass0 (pa_cons (pv 0) (pa_cons (pe_call (ok_grown T) (hr.mono (by decide)) (by rfl) T.grown.g T.grown.F.kp T.grown.b .nil pass0 (pa_cons (pe_fld (pv 0) rfl) (pa_cons (pe_fld (pv 0) rfl) (pa_cons (pe_ix ix_list (pv 1) pe_int (fun _ _ => rfl)) pa_nil)))) pa_nil)))))), ?_⟩)
  · obtain ⟨a, m, Z, s, ms, rfl, _⟩ := h
    rfl
  · obtain ⟨pa, m, Z, s, ms, rfl, hp, W, hF, hm, hn, k⟩ := h
    obtain ⟨r, rfl⟩ : ∃ r, ms = [r] := by
      match ms, hn with
      | [how], _ => exact ⟨how, rfl⟩
    refine s_if (pt_ngt (pu_more rfl hm rfl) (pu_nc 1000)) (fun e => ?_) fun e => ?_
    · dsimp only [f_grow] at k
      rw [if_pos (of_decide_eq_true e)] at k
      exact Rz.go k (Ex.refl H)
    · dsimp only [f_grow] at k
      rw [if_neg (of_decide_eq_false e)] at k
      obtain ⟨dx, q, c, ha, hl, hc⟩ := id hp
      refine cK (cC pu_v (cE (cK (cC (pu_fld pu_v ha.h T.Picture.cl (T.Picture.no _ (by decide)) (pf_w _ _ _)) (cC (pu_fld pu_v ha.h T.Picture.cl (T.Picture.no _ (by decide)) (pf_chosen _ _ _)) (cC (pu_more rfl hm rfl) ?_))))))
      refine ⟨s.w, r, c, s.chosen, rfl, hc.h, by have := W.w1; omega, W.w12, by rw [W.ch]; exact W.n, fun p H1 n1 e1 h1 => ?_⟩
      refine ⟨pa, dx, q, c, p, s, growL s.w r s.chosen, rfl, e1 _ _ ha.h, fun x dp H2 n2 e2 h2 => ?_⟩
      exact k x H2 (e1.trans e2) (pic_ch hF hl (e1.trans e2) (e1.back n2) n1 (e2 _ _ h1) h2)
def f_shrink (s : State) : List Nat → Except Int State
  | [r] => if 1000 < r then .error (-1) else .ok (withCh s (shrinkL s.w r s.chosen))
  | _ => .error 0
theorem ok_shrink_choice (T : Txt K mg) : FnOk P w K mg base (L2.CX P w) 4 T.shrink_choice.a T.shrink_choice.fd ["picture", "more"] (spDeed T 1 f_shrink) := by
  refine T.shrink_choice.F.okX sc_shrink_choice (fun vs H Q E h => ?_) (fun cdv A outer s H vs Q E hr h => ⟨_, (pss_cons (ps_if (pt_cmpR op_gt (pe_ix ix_list (pv 1) pe_int (fun _ _ => rfl)) (pe_glob (by rfl) T.MOST_REACH.g T.MOST_REACH.r) (nomark _))
  (pss_one (ps_raiseR rfl T.CannotBe hr (takes_of rfl rfl rfl rfl)))
  pss_nil)
  (pss_one (ps_ret (pe_call (ok_with_chosen T) (hr.mono (by decide)) (by rfl) T.with_chosen.g T.with_chosen.F.kp T.with_chosen.b .nil pass0 (pa_cons (pv 0) (pa_cons (pe_call (ok_shrunk T) (hr.mono (by decide)) (by rfl) T.shrunk.g T.shrunk.F.kp T.shrunk.b .nil pass0 (pa_cons (pe_fld (pv 0) rfl) (pa_cons (pe_fld (pv 0) rfl) (pa_cons (pe_ix ix_list (pv 1) pe_int (fun _ _ => rfl)) pa_nil)))) pa_nil)))))), ?_⟩)
  · obtain ⟨a, m, Z, s, ms, rfl, _⟩ := h
    rfl
  · obtain ⟨pa, m, Z, s, ms, rfl, hp, W, hF, hm, hn, k⟩ := h
    obtain ⟨r, rfl⟩ : ∃ r, ms = [r] := by
      match ms, hn with
      | [how], _ => exact ⟨how, rfl⟩
    refine s_if (pt_ngt (pu_more rfl hm rfl) (pu_nc 1000)) (fun e => ?_) fun e => ?_
    · dsimp only [f_shrink] at k
      rw [if_pos (of_decide_eq_true e)] at k
      exact Rz.go k (Ex.refl H)
    · dsimp only [f_shrink] at k
      rw [if_neg (of_decide_eq_false e)] at k
      obtain ⟨dx, q, c, ha, hl, hc⟩ := id hp
      refine cK (cC pu_v (cE (cK (cC (pu_fld pu_v ha.h T.Picture.cl (T.Picture.no _ (by decide)) (pf_w _ _ _)) (cC (pu_fld pu_v ha.h T.Picture.cl (T.Picture.no _ (by decide)) (pf_chosen _ _ _)) (cC (pu_more rfl hm rfl) ?_))))))
      refine ⟨s.w, r, c, s.chosen, rfl, hc.h, by have := W.w1; omega, W.w12, by rw [W.ch]; exact W.n, fun p H1 n1 e1 h1 => ?_⟩
      refine ⟨pa, dx, q, c, p, s, shrinkL s.w r s.chosen, rfl, e1 _ _ ha.h, fun x dp H2 n2 e2 h2 => ?_⟩
      exact k x H2 (e1.trans e2) (pic_ch hF hl (e1.trans e2) (e1.back n2) n1 (e2 _ _ h1) h2)
/-- choose_flood(picture, more) -/
def sp_choose_flood (T : Txt K mg) : Sp := fun vs H Q E => ∃ (a m : Addr) (Z : Addr → Prop) (s : State) (how x y tol kind c : Nat), vs = [.ref a, .ref m] ∧ Pic T Z H a s ∧ WF s ∧ Free Z H ∧ H m = some (.lst (nVs [how, x, y, tol, kind, c])) ∧
  ((4 < how ∨ 1 < kind ∨ 1 < c ∨ s.w ≤ x ∨ s.h ≤ y) → Rz T.C_CannotBe (-1) H E) ∧
  (¬ (4 < how ∨ 1 < kind ∨ 1 < c ∨ s.w ≤ x ∨ s.h ≤ y) → ∀ rs, Fl (fun p => besL s.w s.h p (stepsL c)) (okF (s.layer.dots.map (·.1)) (y * s.w + x) tol kind) (fl0 (s.w * s.h) (y * s.w + x)) (rs, []) → rs.length = s.w * s.h ∧ PicR T Z (withCh s (joinL how s.chosen rs)) H Q)
theorem ok_choose_flood (T : Txt K mg) : FnOk P w K mg base (L2.CX P w) 9 T.choose_flood.a T.choose_flood.fd ["picture", "more"] (sp_choose_flood T) := by
  refine T.choose_flood.F.okX sc_choose_flood (fun vs H Q E h => ?_) (fun cdv A outer s H vs Q E hr h => ⟨_, (pss_cons (ps_set (i := 2) sc_choose_flood.nd rfl (by first | exact Or.inl rfl | exact Or.inr rfl) (pe_ix ix_list (pv 1) pe_int (fun _ _ => rfl)))
  (pss_cons (ps_set (i := 3) sc_choose_flood.nd rfl (by first | exact Or.inl rfl | exact Or.inr rfl) (pe_ix ix_list (pv 1) pe_int (fun _ _ => rfl)))
  (pss_cons (ps_set (i := 4) sc_choose_flood.nd rfl (by first | exact Or.inl rfl | exact Or.inr rfl) (pe_ix ix_list (pv 1) pe_int (fun _ _ => rfl)))
  (pss_cons (ps_set (i := 5) sc_choose_flood.nd rfl (by first | exact Or.inl rfl | exact Or.inr rfl) (pe_ix ix_list (pv 1) pe_int (fun _ _ => rfl)))
  (pss_cons (ps_if (PW.pt (pw_or (pt_cmpR op_gt (pe_ix ix_list (pv 1) pe_int (fun _ _ => rfl)) (pe_glob (by rfl) T.LAST_HOW.g T.LAST_HOW.r) (nomark _)) (pw_or (pt_cmpR op_gt (pv 4) pe_int (nomark _)) (pw_or1 (pt_cmpR op_gt (pv 5) pe_int (nomark _))))))
  (pss_one (ps_raiseR rfl T.CannotBe hr (takes_of rfl rfl rfl rfl)))
  pss_nil)
  (pss_cons (ps_if (PW.pt (pw_or (pt_cmpR op_ge (pv 2) (pe_fld (pv 0) rfl) (nomark _)) (pw_or1 (pt_cmpR op_ge (pv 3) (pe_fld (pv 0) rfl) (nomark _)))))
  (pss_one (ps_raiseR rfl T.CannotBe hr (takes_of rfl rfl rfl rfl)))
  pss_nil)
  (pss_one (ps_ret (pe_call (ok_with_joined T) (hr.mono (by decide)) (by rfl) T.with_joined.g T.with_joined.F.kp T.with_joined.b .nil pass0 (pa_cons (pv 0) (pa_cons (pe_ix ix_list (pv 1) pe_int (fun _ _ => rfl)) (pa_cons (pe_call (ok_flood T) (hr.mono (by decide)) (by rfl) T.flood.g T.flood.F.kp T.flood.b .nil pass0 (pa_cons (pv 0) (pa_cons (pe_op op_add (pe_op op_mul (pv 3) (pe_fld (pv 0) rfl)) (pv 2)) (pa_cons (pe_ix ix_list (pv 1) pe_int (fun _ _ => rfl)) (pa_cons (pv 4) (pa_cons (pv 5) pa_nil)))))) pa_nil)))))))))))), ?_⟩)
  · obtain ⟨a, m, Z, s, how, x, y, tol, kind, c, rfl, _⟩ := h
    rfl
  · obtain ⟨pa, m, Z, s, how, x, y, tol, kind, c, rfl, hp, W, hF, hm, k1, k2⟩ := h
    obtain ⟨dx, q, c0, ha, hl, hc⟩ := id hp
    refine s_set (pu_more rfl hm rfl) ?_
    refine s_set (pu_more rfl hm rfl) ?_
    refine s_set (pu_more rfl hm rfl) ?_
    refine s_set (pu_more rfl hm rfl) ?_
    refine s_if (pt_or (pt_ngt (pu_more rfl hm rfl) (pu_nc 4)) (fun _ => pt_or (pt_ngt pu_v (pu_nc 1)) (fun _ => pt_ngt pu_v (pu_nc 1)))) (fun e => ?_) fun e => ?_
    · refine (k1 ?_).go (Ex.refl H)
      simp only [Bool.or_eq_true, decide_eq_true_eq] at e
      omega
    · simp only [Bool.or_eq_false_iff, decide_eq_false_iff_not] at e
      refine s_if (pt_or (pt_nge pu_v (pu_fld pu_v ha.h T.Picture.cl (T.Picture.no _ (by decide)) (pf_w _ _ _))) (fun _ => pt_nge pu_v (pu_fld pu_v ha.h T.Picture.cl (T.Picture.no _ (by decide)) (pf_h _ _ _)))) (fun e2 => ?_) fun e2 => ?_
      · refine (k1 ?_).go (Ex.refl H)
        simp only [Bool.or_eq_true, decide_eq_true_eq] at e2
        omega
      · simp only [Bool.or_eq_false_iff, decide_eq_false_iff_not] at e2
        have k3 := k2 (by omega)
        have w12 := W.w12
        have h12 := W.h12
        have hst : y * s.w + x < s.w * s.h := by
          have : (y + 1) * s.w ≤ s.h * s.w := Nat.mul_le_mul_right _ (by omega)
          rw [Nat.add_mul, Nat.one_mul, Nat.mul_comm s.h] at this
          omega
        refine cK (cC pu_v (cC (pu_more rfl hm rfl) (cE (cK (cC pu_v (cC (v := nV (y * s.w + x)) (pu_is (pu_add (pu_mul pu_v (pu_fld pu_v ha.h T.Picture.cl (T.Picture.no _ (by decide)) (pf_w _ _ _)) (mulOk (by omega) (by omega))) pu_v) ?_) (cC (pu_more rfl hm rfl) (cC pu_v (cC pu_v ?_)))))))))
        · show V.int _ = V.int _
          rw [Int.natCast_add, Int.natCast_mul]
        · refine ⟨pa, Z, s, y * s.w + x, tol, kind, c, rfl, hp, W, hst, fun rs fl => ?_⟩
          obtain ⟨hlr, k4⟩ := k3 rs fl
          intro p H1 n1 e1 h1
          exact ⟨pa, p, Z, s, how, rs, rfl, hp.keep (e1.keep Z), W, hF.ex e1, h1, hlr, fun p2 H2 e2 h2 => k4 p2 H2 (e1.trans e2) h2⟩
end
end LP
end
section
set_option maxHeartbeats 4100000
namespace LP
open PySem PySem.Spec PyProof.Rows L2 Evl
open Sq50 (State Layer Dot)
section
variable {P : Program} {w : World} {K : PySem.W.Frag} {mg : Str → Option Value} {base : Heap}
theorem may_len {s : State} (W : WF s) : (bVs (mayL s)).length = s.w * s.h := by rw [bVs_len, mayL_len W]
def mayP (s : State) (p : Nat) : Bool := ((mayL s)[p]?).getD false
def dotP (s : State) (p : Nat) : Dot := (s.layer.dots[p]?).getD (0, 0)
theorem mayP_get {s : State} (W : WF s) {p : Nat} (hp : p < s.w * s.h) : (mayL s)[p]? = some (mayP s p) := by
  unfold mayP
  rw [List.getElem?_eq_getElem (by rw [mayL_len W]; exact hp)]
  rfl
theorem dotP_get {s : State} (W : WF s) {p : Nat} (hp : p < s.w * s.h) : s.layer.dots[p]? = some (dotP s p) := by
  unfold dotP
  rw [List.getElem?_eq_getElem (by rw [W.len _ (layer_mem W)]; exact hp)]
  rfl
/-- with_all_become(picture, dot) -/
def becL (s : State) (d : Dot) : List Dot := (List.range (s.w * s.h)).map fun p => if mayP s p = true then d else dotP s p
def sp_with_all_become (T : Txt K mg) : Sp := fun vs H Q _ => ∃ (a : Addr) (v : V) (Z : Addr → Prop) (s : State) (d : Dot), vs = [.ref a, v] ∧ Pic T Z H a s ∧ WF s ∧ Free Z H ∧ DotAt Z H v d ∧ PicR T Z (setDots s (becL s d)) H Q
theorem ok_with_all_become (T : Txt K mg) : FnOk P w K mg base CX0 7 T.with_all_become.a T.with_all_become.fd ["picture", "dot"] (sp_with_all_become T) := by
  refine T.with_all_become.F.ok sc_with_all_become (fun vs H Q E h => ?_) (fun cdv A outer s H vs Q E hr h => ⟨_, (pss_cons (ps_setLc (i := 2) (y := "dots") (own := [("old", 3), ("free", 4)]) (g := (gTup K 2 (gCons (gName 3) (gCons (gName 4) gNil)))) rfl sc_with_all_become.nd rfl rfl (sw_true rfl rfl rfl (by decide +kernel)) (pi_zip (by rfl) (T.nb "zip" (by decide)) (pa_cons (pe_call (ok_worked_dots T) (hr.mono (by decide)) (by rfl) T.worked_dots.g T.worked_dots.F.kp T.worked_dots.b .nil pass0 (pa_cons (pv 0) pa_nil)) (pa_cons (pe_call (ok_may_change T) (hr.mono (by decide)) (by rfl) T.may_change.g T.may_change.F.kp T.may_change.b .nil pass0 (pa_cons (pv 0) pa_nil)) pa_nil))) (blkOk_by (own := [("old", 3), ("free", 4)]) (N := N_with_all_become) (sc := defScope s_with_all_become) (by decide +kernel)) (fun _ _ _ _ _ => (pg_tup rfl (pgs_cons (pg_name (i := 3) sc_with_all_become.nd rfl (by first | exact Or.inl rfl | exact Or.inr rfl)) (pgs_cons (pg_name (i := 4) sc_with_all_become.nd rfl (by first | exact Or.inl rfl | exact Or.inr rfl)) pgs_nil)))) (fun _ _ _ _ _ => pts_nil) (fun _ _ _ _ _ => (pe_ifExp (pt_truthK (K := K) rfl (pv 4) (by intro _; rfl)) (pv 1) (pv 3))))
  (pss_one (ps_ret (pe_call (ok_with_worked_dots T) (hr.mono (by decide)) (by rfl) T.with_worked_dots.g T.with_worked_dots.F.kp T.with_worked_dots.b .nil pass0 (pa_cons (pv 0) (pa_cons (pv 2) pa_nil)))))), ?_⟩)
  · obtain ⟨a, v, Z, s, d, rfl, _⟩ := h
    rfl
  · obtain ⟨a, v, Z, s, d, rfl, hp, W, hF, hd, k⟩ := h
    have hn := W.n
    have hlw := W.len _ (layer_mem W)
    refine ⟨_, rfl, a, Z, s, rfl, hp, W, fun q H1 e1 h1 => ?_⟩
    refine ⟨_, rfl, a, Z, s, rfl, hp.keep (e1.keep Z), W, hF.ex e1, fun m H2 e2 h2 => ?_⟩
    obtain ⟨vs, hq, pr⟩ := h1.keep (e2.keep Z)
    have hlv := Paired.len pr
    refine ⟨q, m, _, _, rfl, hq.sq, h2.sq, fun D hD => ?_⟩
    refine lcV (wk_zip (by rw [may_len W]; omega)) (fun _ => true) (fun i => if mayP s i = true then v else vs[i]?.getD .non) (by omega) hD (fun H3 e => ⟨(hq.keep (e.keep Z)).sq, (h2.keep (e.keep Z)).sq⟩) ?_ ?_
    · rintro i x H3 H4 R S hi e3 ⟨t, x1, y1, rfl, ht, rfl, hx, hy⟩ hR _
      obtain ⟨b, hb, rfl⟩ := bVs_get hy
      have hbm : mayP s i = b := by unfold mayP; rw [hb]; rfl
      refine ⟨t, _, rfl, SqT.of upd_same, rfl, _, _, rfl, _, _, rfl, rfl, rfl, ?_⟩
      have hr1 := hR rfl _ (Ex.new (o := .tup [x1, bV b]) ht)
      rw [hbm] at hr1
      cases b with
      | true => exact ⟨_, rfl, true, rfl, _, rfl, hr1⟩
      | false =>
        refine ⟨_, rfl, false, rfl, _, rfl, ?_⟩
        rw [hx] at hr1
        exact hr1
    · intro H3 e3 h3
      rw [given_all] at h3
      have eA := e1.trans e2
      refine ⟨_, rfl, _, rfl, a, D, Z, s, becL s d, rfl, hp.keep ((eA.trans e3).keep Z), W, hF.ex (eA.trans e3), ⟨_, ⟨hF D (eA.back hD), h3⟩, ?_⟩, fun p H4 e4 h4 => k p H4 ((eA.trans e3).trans e4) h4⟩
      refine Paired.of_get (by unfold becL; rw [List.length_map, List.length_map, List.length_range, List.length_range]; omega) fun i x y hx hy => ?_
      rw [List.getElem?_map] at hx
      unfold becL at hy
      rw [List.getElem?_map] at hy
      obtain ⟨j, hj, rfl⟩ := Option.map_eq_some_iff.mp hx
      obtain ⟨j2, hj2, rfl⟩ := Option.map_eq_some_iff.mp hy
      obtain ⟨hlt, ej⟩ := List.getElem?_eq_some_iff.mp hj
      obtain ⟨hlt2, ej2⟩ := List.getElem?_eq_some_iff.mp hj2
      rw [List.getElem_range] at ej ej2
      subst ej ej2
      rw [List.length_range] at hlt2
      by_cases c : mayP s i = true
      · rw [if_pos c, if_pos c]
        exact hd.keep ((eA.trans e3).keep Z)
      · rw [if_neg c, if_neg c]
        obtain ⟨u, hu, hda⟩ := Paired.get pr (dotP_get W hlt2)
        rw [hu]
        exact hda.keep (e3.keep Z)
def f_fill (s : State) : List Nat → Except Int State
  | [v, c] => if 255 < v ∨ 255 < c then .error (-1) else .ok (setDots s (becL s (v, c)))
  | _ => .error 0
theorem ok_fill (T : Txt K mg) : FnOk P w K mg base (L2.CX P w) 8 T.fill.a T.fill.fd ["picture", "more"] (spDeed T 2 f_fill) := by
  refine T.fill.F.okX sc_fill (fun vs H Q E h => ?_) (fun cdv A outer s H vs Q E hr h => ⟨_, (pss_cons (ps_if (PW.pt (pw_or (pt_cmpR op_gt (pe_ix ix_list (pv 1) pe_int (fun _ _ => rfl)) pe_int (nomark _)) (pw_or1 (pt_cmpR op_gt (pe_ix ix_list (pv 1) pe_int (fun _ _ => rfl)) pe_int (nomark _)))))
  (pss_one (ps_raiseR rfl T.CannotBe hr (takes_of rfl rfl rfl rfl)))
  pss_nil)
  (pss_one (ps_ret (pe_call (ok_with_all_become T) (hr.mono (by decide)) (by rfl) T.with_all_become.g T.with_all_become.F.kp T.with_all_become.b .nil pass0 (pa_cons (pv 0) (pa_cons (pe_tup (pa_cons (pe_ix ix_list (pv 1) pe_int (fun _ _ => rfl)) (pa_cons (pe_ix ix_list (pv 1) pe_int (fun _ _ => rfl)) pa_nil))) pa_nil)))))), ?_⟩)
  · obtain ⟨a, m, Z, s, ms, rfl, _⟩ := h
    rfl
  · obtain ⟨pa, m, Z, s, ms, rfl, hp, W, hF, hm, hn, k⟩ := h
    obtain ⟨v, c, rfl⟩ : ∃ v c, ms = [v, c] := by
      match ms, hn with
      | [v, c], _ => exact ⟨v, c, rfl⟩
    refine s_if (pt_or (pt_ngt (pu_more rfl hm rfl) (pu_nc 255)) (fun _ => pt_ngt (pu_more rfl hm rfl) (pu_nc 255))) (fun e => ?_) fun e => ?_
    · dsimp only [f_fill] at k
      simp only [Bool.or_eq_true, decide_eq_true_eq] at e
      rw [if_pos e] at k
      exact Rz.go k (Ex.refl H)
    · dsimp only [f_fill] at k
      simp only [Bool.or_eq_false_iff, decide_eq_false_iff_not] at e
      rw [if_neg (by omega)] at k
      refine cK (cC pu_v (cE (c_tup (paC (pu_more rfl hm rfl) (paC (pu_more rfl hm rfl) pa0)) (Nat.le_of_ble_eq_true rfl) fun t ht => ?_)))
      have e1 := Ex.new (o := .tup [nV v, nV c]) ht
      exact ⟨pa, .ref t, Z, s, (v, c), rfl, hp.keep (e1.keep Z), W, hF.ex e1, ⟨t, rfl, hF t ht, upd_same⟩, fun p H2 e2 h2 => k p H2 (e1.trans e2) h2⟩
/-- cut(picture, more) -/
def sp_cut (T : Txt K mg) : Sp := fun vs H Q _ => ∃ (a : Addr) (v : V) (Z : Addr → Prop) (s : State), vs = [.ref a, v] ∧ Pic T Z H a s ∧ WF s ∧ Free Z H ∧ PicR T Z (setDots s (becL s (0, 0))) H Q
theorem ok_cut (T : Txt K mg) : FnOk P w K mg base CX0 8 T.cut.a T.cut.fd ["picture", "more"] (sp_cut T) := by
  refine T.cut.F.ok sc_cut (fun vs H Q E h => ?_) (fun cdv A outer s H vs Q E hr h => ⟨_, (pss_one (ps_ret (pe_call (ok_with_all_become T) (hr.mono (by decide)) (by rfl) T.with_all_become.g T.with_all_become.F.kp T.with_all_become.b .nil pass0 (pa_cons (pv 0) (pa_cons (pe_tup (pa_cons pe_int (pa_cons pe_int pa_nil))) pa_nil))))), ?_⟩)
  · obtain ⟨a, v, Z, s, rfl, _⟩ := h
    rfl
  · obtain ⟨pa, v, Z, s, rfl, hp, W, hF, k⟩ := h
    refine cK (cC pu_v (cE ⟨by show 2 ≤ sizeLine; decide, fun t ht => ?_⟩))
    have e1 := Ex.new (o := .tup [.int 0, .int 0]) ht
    exact ⟨pa, .ref t, Z, s, (0, 0), rfl, hp.keep (e1.keep Z), W, hF.ex e1, ⟨t, rfl, hF t ht, upd_same⟩, fun p H2 e2 h2 => k p H2 (e1.trans e2) h2⟩
/-- padded(line, reach) -/
theorem flat_rep (v : V) : ∀ n : Nat, (List.replicate n [v]).flatten = List.replicate n v
  | 0 => rfl
  | n + 1 => by rw [List.replicate_succ, List.flatten_cons, flat_rep v n]; rfl
theorem ref_last {xs : List V} {v : V} (h : xs[xs.length - 1]? = some v) : atI xs (-1) = some v := by
  have hl := (List.getElem?_eq_some_iff.mp h).1
  have e : xs = xs.dropLast ++ [v] := by
    obtain ⟨_, rfl⟩ := List.getElem?_eq_some_iff.mp h
    rw [← List.getLast_eq_getElem (by intro z; rw [z] at hl; cases hl)]
    exact (List.dropLast_concat_getLast _).symm
  rw [e]
  exact atI_last _ _
def sp_padded (T : Txt K mg) : Sp := fun vs H Q _ => ∃ (a : Addr) (xs : List V) (r : Nat), vs = [.ref a, nV r] ∧ H a = some (.lst xs) ∧ 0 < xs.length ∧ xs.length ≤ 1000 ∧ r ≤ 4 ∧ ∀ p H', H p = none → Ex H H' → H' p = some (.lst (padL .non xs r)) → Q (.ref p) H'
theorem ok_padded (T : Txt K mg) : FnOk P w K mg base CX0 1 T.padded.a T.padded.fd ["line", "reach"] (sp_padded T) := by
  refine T.padded.F.ok sc_padded (fun vs H Q E h => ?_) (fun cdv A outer s H vs Q E hr h => ⟨_, (pss_one (ps_ret (pe_op op_cat (pe_op op_cat (pe_op op_rep (pe_lst (pa_cons (pe_ix ix_list (pv 0) pe_int (fun _ _ => rfl)) pa_nil)) (pv 1)) (pv 0)) (pe_op op_rep (pe_lst (pa_cons (pe_ix ix_list (pv 0) (pe_un un_neg pe_int) (fun _ _ => rfl)) pa_nil)) (pv 1))))), ?_⟩)
  · obtain ⟨a, xs, r, rfl, _⟩ := h
    rfl
  · obtain ⟨a, xs, r, rfl, ha, h0, h1, hr4, k⟩ := h
    obtain ⟨v0, e0⟩ : ∃ v, xs[0]? = some v := ⟨_, List.getElem?_eq_getElem h0⟩
    obtain ⟨v1, e1⟩ : ∃ v, xs[xs.length - 1]? = some v := ⟨_, List.getElem?_eq_getElem (by omega)⟩
    have hrep : ∀ v : V, ([v].length * ((r : Nat) : Int).toNat) ≤ sizeLine := fun v => szl (by rw [List.length_singleton, Int.toNat_natCast]; omega)
    -- [line[0]] * reach
    refine (pu_ixL (K := K) (n := 0) pu_v pu_c (SqL.of ha) rfl e0) _ ?_
    refine ⟨szl (Nat.le_of_ble_eq_true rfl), fun p1 n1 => ⟨_, rfl, p1, r, [v0], rfl, rfl, upd_same, by omega, by omega, hrep v0, fun p2 n2 => ?_⟩⟩
    rw [Int.toNat_natCast, flat_rep]
    have x1 := Ex.new (o := .lst [v0]) n1
    have x2 := x1.trans (Ex.new (o := .lst (List.replicate r v0)) n2)
    -- + line
    refine ⟨_, rfl, p2, a, _, xs, rfl, rfl, upd_same, x2 _ _ ha, szl (by rw [List.length_replicate]; omega), fun p3 n3 => ?_⟩
    have x3 := x2.trans (Ex.new (o := .lst (List.replicate r v0 ++ xs)) n3)
    -- [line[-1]] * reach
    refine ⟨_, rfl, _, rfl, a, xs, _, v1, rfl, rfl, SqL.of (x3 _ _ ha), ref_last e1, ?_⟩
    refine ⟨szl (Nat.le_of_ble_eq_true rfl), fun p4 n4 => ⟨_, rfl, p4, r, [v1], rfl, rfl, upd_same, by omega, by omega, hrep v1, fun p5 n5 => ?_⟩⟩
    rw [Int.toNat_natCast, flat_rep]
    have y1 := Ex.new (o := .lst [v1]) n4
    have y2 := y1.trans (Ex.new (o := .lst (List.replicate r v1)) n5)
    -- together
    refine ⟨p3, p5, _, _, rfl, rfl, y2 _ _ upd_same, upd_same, szl (by simp only [List.length_append, List.length_replicate]; omega), fun p6 n6 => ?_⟩
    have x6 := (x3.trans y2).trans (Ex.new (o := .lst (List.replicate r v0 ++ xs ++ List.replicate r v1)) n6)
    refine k p6 _ ((x3.trans y2).back n6) x6 ?_
    rw [upd_same]
    unfold padL
    rw [e0, e1]
    rfl
/-- lists of numbers, row by row -/
def RowAt (H : Hp) (v : V) (l : List Nat) : Prop := ∃ a, v = .ref a ∧ H a = some (.lst (nVs l))
def RowsAt (H : Hp) (a : Addr) (rs : List (List Nat)) : Prop := ∃ vs, H a = some (.lst vs) ∧ Paired (RowAt H) vs rs
theorem RowAt.ex {H H' : Hp} {v : V} {l : List Nat} (e : Ex H H') (h : RowAt H v l) : RowAt H' v l := by obtain ⟨a, rfl, h⟩ := h; exact ⟨a, rfl, e _ _ h⟩
theorem RowsAt.ex {H H' : Hp} {a : Addr} {rs : List (List Nat)} (e : Ex H H') (h : RowsAt H a rs) : RowsAt H' a rs := by obtain ⟨vs, h, p⟩ := h; exact ⟨vs, e _ _ h, Paired.imp (fun _ _ => RowAt.ex e) p⟩
theorem Paired.app {α β : Type} {F : α → β → Prop} : ∀ {a c : List α} {b d : List β}, Paired F a b → Paired F c d → Paired F (a ++ c) (b ++ d)
  | _, _, _, _, .nil, h => h
  | _, _, _, _, .cons r t, h => .cons r (Paired.app t h)
theorem Paired.rep {α β : Type} {F : α → β → Prop} {a : α} {b : β} (h : F a b) : ∀ n : Nat, Paired F (List.replicate n a) (List.replicate n b)
  | 0 => .nil
  | n + 1 => .cons h (Paired.rep h n)
theorem Paired.pad {α β : Type} {F : α → β → Prop} {a : List α} {b : List β} {x : α} {y : β} (p : Paired F a b) (h : 0 < a.length) (r : Nat) : Paired F (padL x a r) (padL y b r) := by
  have hl := Paired.len p
  obtain ⟨u, h1, h2⟩ := Paired.get' p (List.getElem?_eq_getElem h)
  obtain ⟨u2, h3, h4⟩ := Paired.get' p (List.getElem?_eq_getElem (show a.length - 1 < a.length by omega))
  unfold padL
  rw [List.getElem?_eq_getElem h, List.getElem?_eq_getElem (show a.length - 1 < a.length by omega), h1, ← hl, h3]
  exact Paired.app (Paired.app (Paired.rep h2 r) p) (Paired.rep h4 r)
theorem pad_nVs {ns : List Nat} (h : 0 < ns.length) (r : Nat) : padL .non (nVs ns) r = nVs (padL 0 ns r) := by
  unfold padL nVs
  rw [List.map_append, List.map_append, List.map_replicate, List.map_replicate, List.length_map, List.getElem?_map, List.getElem?_map, List.getElem?_eq_getElem h, List.getElem?_eq_getElem (show ns.length - 1 < ns.length by omega)]
  rfl
theorem cut_nat (xs : List V) (x m : Nat) : cutV xs (some (x : Int)) (some ((x + m : Nat) : Int)) = (xs.drop x).take m := by
  unfold cutV
  rw [HT.sIx_nat, HT.sIx_nat]
  refine List.ext_getElem? fun i => ?_
  by_cases c : i < m
  · rw [List.getElem?_take_of_lt c, List.getElem?_drop]
    by_cases c2 : i < min (x + m) xs.length - min x xs.length
    · rw [List.getElem?_take_of_lt c2, List.getElem?_drop]
      have : min x xs.length = x := by omega
      rw [this]
    · rw [List.getElem?_take_eq_none (by omega), List.getElem?_eq_none (by omega)]
  · rw [List.getElem?_take_eq_none (by omega), List.getElem?_take_eq_none (by omega)]
theorem po_n {te : TE} {σ : L2.St} {H : Hp} {n : Nat} {Q : Option Int → Hp → Prop} (h : Pu te σ H (nV n)) (q : Q (some (n : Int)) H) : tPart te σ H Q := h _ ⟨_, rfl, q⟩
theorem nVs_cut (ns : List Nat) (x m : Nat) : ((nVs ns).drop x).take m = nVs ((ns.drop x).take m) := by unfold nVs; rw [List.map_take, List.map_drop]
/-- padded_rows(picture, reach) -/
def colsL (s : State) : List Nat := s.layer.dots.map (·.1)
theorem colsL_len {s : State} (W : WF s) : (colsL s).length = s.w * s.h := by unfold colsL; rw [List.length_map]; exact W.len _ (layer_mem W)
def sp_padded_rows (T : Txt K mg) : Sp := fun vs H Q _ => ∃ (pa : Addr) (Z : Addr → Prop) (s : State) (r : Nat), vs = [.ref pa, nV r] ∧ Pic T Z H pa s ∧ WF s ∧ r ≤ 4 ∧ ∀ p H', H p = none → Ex H H' → RowsAt H' p (padR s.w s.h (colsL s) r) → Q (.ref p) H'
theorem rg_rows {w h : Nat} (hw : 1 ≤ w) (hh : 1 ≤ h) (hw2 : w ≤ 1000) (hh2 : h ≤ 1000) : RgC 0 ((w * h : Nat) : Int) (w : Int) h := by
  have hm : w * h ≤ 1000 * 1000 := Nat.mul_le_mul hw2 hh2
  have h0 : 0 < w * h := Nat.mul_pos hw hh
  have hs : Builtin.Range.rangeSize 0 ((w * h : Nat) : Int) (w : Int) = (h : Int) := by
    unfold Builtin.Range.rangeSize  -- own
    rw [if_pos (by omega), if_pos (by omega)]  -- own
    have e : (((w * h : Nat) : Int) - 0 - 1) = ((w * h - 1 : Nat) : Int) := by omega
    have e2 : (w * h - 1) / w = h - 1 := by
      obtain ⟨h', rfl⟩ : ∃ h', h = h' + 1 := ⟨h - 1, by omega⟩
      have e3 : w * (h' + 1) - 1 = w * h' + (w - 1) := by rw [Nat.mul_add, Nat.mul_one]; omega
      rw [e3, Nat.mul_add_div hw, Nat.div_eq_of_lt (by omega)]
      omega
    rw [e, ← Int.natCast_ediv, e2]
    omega
  refine ⟨by omega, by omega, ?_, hs⟩
  unfold Builtin.Range.small
  rw [hs]
  simp only [Builtin.Range.rangeFitsLong, Bool.and_eq_true, Bool.or_eq_true, decide_eq_true_eq, beq_iff_eq]
  rw [if_pos (by omega), Bool.and_eq_true, decide_eq_true_eq, decide_eq_true_eq]
  omega
theorem ok_padded_rows (T : Txt K mg) : FnOk P w K mg base CX0 8 T.padded_rows.a T.padded_rows.fd ["picture", "reach"] (sp_padded_rows T) := by
  refine T.padded_rows.F.ok sc_padded_rows (fun vs H Q E h => ?_) (fun cdv A outer s H vs Q E hr h => ⟨_, (pss_cons (ps_set (i := 2) sc_padded_rows.nd rfl (by first | exact Or.inl rfl | exact Or.inr rfl) (pe_call (ok_worked_colours T) (hr.mono (by decide)) (by rfl) T.worked_colours.g T.worked_colours.F.kp T.worked_colours.b .nil pass0 (pa_cons (pv 0) pa_nil)))
  (pss_cons (ps_set (i := 3) sc_padded_rows.nd rfl (by first | exact Or.inl rfl | exact Or.inr rfl) (pe_lst pa_nil))
  (pss_cons (ps_for PassesOwn.never rfl (pi_range3 (by rfl) (T.nb "range" (by decide)) (pa_cons pe_int (pa_cons (pe_callB call_len_seq (by rfl) (T.nb "len" (by decide)) (by decide +kernel) (pa_cons (pv 2) pa_nil)) (pa_cons (pe_fld (pv 0) rfl) pa_nil)))) (pg_name (i := 4) sc_padded_rows.nd rfl (by first | exact Or.inl rfl | exact Or.inr rfl))
  (pss_one (ps_expr (pe_bm PySem.F.plainAttrs_list PySem.F.slot_list_append PySem.F.type_list_append mt_append (pv 3) (pa_cons (pe_call (ok_padded T) (hr.mono (by decide)) (by rfl) T.padded.g T.padded.F.kp T.padded.b .nil pass0 (pa_cons (pe_slice sl_list (pv 2) (po_some (pv 4)) (po_some (pe_op op_add (pv 4) (pe_fld (pv 0) rfl)))) (pa_cons (pv 1) pa_nil))) pa_nil)))))
  (pss_one (ps_ret (pe_call (ok_padded T) (hr.mono (by decide)) (by rfl) T.padded.g T.padded.F.kp T.padded.b .nil pass0 (pa_cons (pv 3) (pa_cons (pv 1) pa_nil)))))))), ?_⟩)
  · obtain ⟨pa, Z, s, r, rfl, _⟩ := h
    rfl
  · obtain ⟨pa, Z, s, r, rfl, hp, W, hr4, k⟩ := h
    obtain ⟨dx, ql, c, ha, hl, hc⟩ := id hp
    have w1 := W.w1
    have w12 := W.w12
    have h1' := W.h1
    have h12 := W.h12
    have hcl := colsL_len W
    have fld : ∀ (H' : Hp) (σ : L2.St), Ex H H' → σ[0]? = some (some (.ref pa)) → Pu (tFld K (tVar 0) "w") σ H' (nV s.w) :=
      fun H' σ e hs => pu_fld (pu_var hs) (e _ _ ha.h) T.Picture.cl (T.Picture.no "w" (by decide)) (pf_w _ _ _)
    -- colours
    refine c_call (paC pu_v pa0) ⟨pa, Z, s, rfl, hp, W, fun C H1 nC e1 h1 => ?_⟩
    -- rows
    refine ⟨Nat.zero_le _, fun D nD => ?_⟩
    have eD := Ex.new (o := .lst []) nD
    have e1D := e1.trans eD
    have nDH : H D = none := e1.back nD
    have nCD : C ≠ D := ne_of_none h1 nD
    have hCn : (nVs (colsL s)).length = s.w * s.h := by rw [nVs_len, hcl]
    refine ⟨_, rfl, C, _, rfl, .inl (SqL.of (eD _ _ h1)), (fld _ _ e1D rfl) _ ?_⟩
    refine ⟨0, ((s.w * s.h : Nat) : Int), (s.w : Int), s.h, by show [V.int 0, V.int (nVs (s.layer.dots.map (·.1))).length, nV s.w] = _; rw [show (nVs (s.layer.dots.map (·.1))).length = s.w * s.h from hCn], rg_rows w1 h1' (by omega) (by omega), ?_⟩
    refine for_it walk_rangeC (fun i σ H' => ∃ x, σ = [some (.ref pa), some (nV r), some (.ref C), some (.ref D), x] ∧ Ex H H' ∧ H' C = some (.lst (nVs (colsL s))) ∧ ∃ vs, H' D = some (.lst vs) ∧ Paired (fun v l => RowAt H' v l ∧ v ≠ .ref D) vs (((rowsL s.w s.h (colsL s)).take i).map fun l => padL 0 l r))
      ⟨none, rfl, e1D, eD _ _ h1, [], upd_same, .nil⟩ (fun _ _ _ _ _ => trivial) ?_ ?_
    · rintro i v σ H3 H4 hi ⟨x, rfl, e3, c3, vs, d3, p3⟩ ⟨rfl, rfl⟩
      have hrl := row_len hcl hi
      have hvl : vs.length ≤ s.h := by
        have := Paired.len p3
        rw [List.length_map, List.length_take, rows_len] at this
        omega
      have ev : (0 + (i : Nat) * (s.w : Int) : Int) = ((i * s.w : Nat) : Int) := by rw [Int.natCast_mul]; omega
      have ev2 : (fun i : Nat => V.int (0 + (i : Int) * (s.w : Int))) i = nV (i * s.w) := congrArg V.int ev
      rw [ev2]
      refine ⟨_, rfl, .inl ⟨rfl, _, SqL.of d3⟩, ?_⟩
      -- the slice
      refine ⟨_, rfl, po_n pu_v (po_n (pu_nadd pu_v (fld H4 _ e3 rfl)) ⟨C, _, rfl, SqL.of c3, fun S nS => ?_⟩)⟩
      rw [cut_nat, nVs_cut]
      have eS := Ex.new (o := .lst (nVs (((colsL s).drop (i * s.w)).take s.w))) nS
      refine ⟨_, rfl, S, _, r, rfl, upd_same, by rw [nVs_len, hrl]; omega, by rw [nVs_len, hrl]; omega, hr4, fun L H5 nL e5 h5 => ?_⟩
      rw [pad_nVs (by rw [hrl]; omega)] at h5
      have e45 := eS.trans e5
      have nLH : H4 L = none := eS.back nL
      have nLD : L ≠ D := (ne_of_none d3 nLH).symm
      refine ⟨D, vs, _, rfl, rfl, e45 _ _ d3, szt (by omega), ?_⟩
      refine ⟨_, rfl, Ex.mut (e3.trans e45) nDH, by rw [upd_ne nCD]; exact e45 _ _ c3, _, upd_same, ?_⟩
      have et : (rowsL s.w s.h (colsL s)).take (i + 1) = (rowsL s.w s.h (colsL s)).take i ++ [((colsL s).drop (i * s.w)).take s.w] := by rw [List.take_add_one, row_get _ hi]; rfl
      rw [et, List.map_append]
      refine Paired.snoc (Paired.imp (fun v l z => ⟨?_, z.2⟩) p3) ⟨⟨L, rfl, by rw [upd_ne nLD]; exact h5⟩, fun z => nLD (by injection z)⟩
      obtain ⟨⟨a, rfl, hz⟩, nz⟩ := z
      exact ⟨a, rfl, by rw [upd_ne (fun q => nz (by rw [q]))]; exact e45 _ _ hz⟩
    · rintro σ H3 ⟨x, rfl, e3, c3, vs, d3, p3⟩
      have hl3 := Paired.len p3
      rw [List.length_map, List.length_take, rows_len, Nat.min_self] at hl3
      have full : (rowsL s.w s.h (colsL s)).take s.h = rowsL s.w s.h (colsL s) := List.take_of_length_le (by rw [rows_len]; exact Nat.le_refl _)
      rw [full] at p3
      refine c_call (paC pu_v (paC pu_v pa0)) ⟨D, vs, r, rfl, d3, by omega, by omega, hr4, fun p H4 n4 e4 h4 => k p H4 (e3.back n4) (e3.trans e4) ⟨_, h4, ?_⟩⟩
      exact Paired.pad (Paired.imp (fun _ _ z => z.1.ex e4) p3) (by omega) r
/-- window(rows, x, y, reach) -/
def sp_window (T : Txt K mg) : Sp := fun vs H Q _ => ∃ (q : Addr) (rs : List (List Nat)) (x y r : Nat), vs = [.ref q, nV x, nV y, nV r] ∧ RowsAt H q rs ∧ r ≤ 4 ∧ RNats (cutW rs x y r) H Q
theorem Paired.drop {α β : Type} {F : α → β → Prop} : ∀ {l : List α} {m : List β} (n : Nat), Paired F l m → Paired F (l.drop n) (m.drop n)
  | _, _, 0, h => h
  | _, _, _ + 1, .nil => .nil
  | _, _, n + 1, .cons _ t => Paired.drop n t
theorem Paired.take {α β : Type} {F : α → β → Prop} : ∀ {l : List α} {m : List β} (n : Nat), Paired F l m → Paired F (l.take n) (m.take n)
  | _, _, 0, _ => .nil
  | _, _, _ + 1, .nil => .nil
  | _, _, n + 1, .cons r t => .cons r (Paired.take n t)
theorem fm_len {rs : List (List Nat)} {x m : Nat} : (rs.flatMap fun l => (l.drop x).take m).length ≤ rs.length * m := by
  induction rs with
  | nil => exact Nat.zero_le _
  | cons a l ih =>
    rw [List.flatMap_cons, List.length_append, List.length_cons, Nat.add_mul, Nat.one_mul, List.length_take]
    omega
theorem ok_window (T : Txt K mg) : FnOk P w K mg base CX0 1 T.window.a T.window.fd ["rows", "x", "y", "reach"] (sp_window T) := by
  refine T.window.F.ok sc_window (fun vs H Q E h => ?_) (fun cdv A outer s H vs Q E hr h => ⟨_, (pss_cons (ps_set (i := 4) sc_window.nd rfl (by first | exact Or.inl rfl | exact Or.inr rfl) (pe_op op_add (pe_op op_mul pe_int (pv 3)) pe_int))
  (pss_cons (ps_set (i := 5) sc_window.nd rfl (by first | exact Or.inl rfl | exact Or.inr rfl) (pe_lst pa_nil))
  (pss_cons (ps_for PassesOwn.never rfl (pi_list (pe_slice sl_list (pv 0) (po_some (pv 2)) (po_some (pe_op op_add (pv 2) (pv 4))))) (pg_name (i := 6) sc_window.nd rfl (by first | exact Or.inl rfl | exact Or.inr rfl))
  (pss_one (ps_expr (pe_bm PySem.F.plainAttrs_list PySem.F.slot_list_extend PySem.F.type_list_extend mt_extend (pv 5) (pa_cons (pe_slice sl_list (pv 6) (po_some (pv 1)) (po_some (pe_op op_add (pv 1) (pv 4)))) pa_nil)))))
  (pss_one (ps_ret (pv 5)))))), ?_⟩)
  · obtain ⟨q, rs, x, y, r, rfl, _⟩ := h
    rfl
  · obtain ⟨q, rs, x, y, r, rfl, ⟨vs, hq, pr⟩, hr4, k⟩ := h
    refine s_set (pu_nadd (pu_is (v' := nV (2 * r)) (pu_mul pu_c pu_v (mulOk (by decide) (by decide))) (by show V.int _ = V.int _; rw [Int.natCast_mul]; rfl)) (pu_nc 1)) ?_
    refine ⟨Nat.zero_le _, fun D nD => ?_⟩
    have eD := Ex.new (o := .lst []) nD
    refine ⟨_, rfl, po_n pu_v (po_n (pu_nadd pu_v pu_v) ⟨q, _, rfl, SqL.of (eD _ _ hq), fun S nS => ?_⟩)⟩
    rw [cut_nat]
    have eS := Ex.new (o := .lst ((vs.drop y).take (2 * r + 1))) nS
    have eDS := eD.trans eS
    have nSD : S ≠ D := (ne_of_none upd_same nS).symm
    have pS : Paired (RowAt H) ((vs.drop y).take (2 * r + 1)) ((rs.drop y).take (2 * r + 1)) := Paired.take _ (Paired.drop _ pr)
    have hlS := Paired.len pS
    refine ⟨S, rfl, ⟨_, SqL.of upd_same⟩, ?_⟩
    refine for_it walk_list (fun i σ H' => ∃ z, σ = [some (.ref q), some (nV x), some (nV y), some (nV r), some (nV (2 * r + 1)), some (.ref D), z] ∧ Ex H H' ∧ H' S = some (.lst ((vs.drop y).take (2 * r + 1))) ∧ H' D = some (.lst (nVs ((((rs.drop y).take (2 * r + 1)).take i).flatMap fun l => (l.drop x).take (2 * r + 1)))))
      ⟨none, rfl, eDS, upd_same, eS _ _ upd_same⟩ (fun i σ H' _ ⟨_, _, _, h, _⟩ => SqL.of h) ?_ ?_
    · rintro i v σ H3 H4 hi ⟨z, rfl, e3, s3, d3⟩ ⟨rfl, hv⟩
      obtain ⟨l, hl, a, rfl, ha⟩ := Paired.get' pS hv
      refine ⟨_, rfl, .inl ⟨rfl, _, SqL.of d3⟩, ?_⟩
      refine ⟨_, rfl, po_n pu_v (po_n (pu_nadd pu_v pu_v) ⟨a, _, rfl, SqL.of (e3 _ _ ha), fun L nL => ?_⟩)⟩
      rw [cut_nat, nVs_cut]
      have eL := Ex.new (o := .lst (nVs ((l.drop x).take (2 * r + 1)))) nL
      have et : ((rs.drop y).take (2 * r + 1)).take (i + 1) = ((rs.drop y).take (2 * r + 1)).take i ++ [l] := by rw [List.take_add_one, hl]; rfl
      have few : (nVs ((((rs.drop y).take (2 * r + 1)).take i).flatMap fun l => (l.drop x).take (2 * r + 1))).length ≤ 81 := by
        rw [nVs_len]
        have h1 := fm_len (rs := ((rs.drop y).take (2 * r + 1)).take i) (x := x) (m := 2 * r + 1)
        have h2 : (((rs.drop y).take (2 * r + 1)).take i).length ≤ 9 := by rw [List.length_take, List.length_take]; omega
        have h3 := Nat.mul_le_mul h2 (show 2 * r + 1 ≤ 9 by omega)
        omega
      have few2 : (nVs ((l.drop x).take (2 * r + 1))).length ≤ 9 := by rw [nVs_len, List.length_take]; omega
      refine ⟨D, L, _, _, rfl, rfl, eL _ _ d3, upd_same, szl (by omega), ?_⟩
      refine ⟨_, rfl, Ex.mut (e3.trans eL) nD, by rw [upd_ne nSD]; exact eL _ _ s3, ?_⟩
      rw [upd_same, et, List.flatMap_append]
      unfold nVs
      rw [List.map_append]
      simp
    · rintro σ H3 ⟨z, rfl, e3, s3, d3⟩
      rw [hlS, List.take_length] at d3
      exact ⟨_, rfl, k D H3 nD e3 d3⟩
/-- mean(colours) -/
def sp_mean (T : Txt K mg) : Sp := fun vs H Q _ => ∃ (a : Addr) (ns : List Nat), vs = [.ref a] ∧ H a = some (.lst (nVs ns)) ∧ 0 < ns.length ∧ ns.length ≤ 100000 ∧ ns.sum < 2 ^ 100 ∧ Q (nV (near ns.sum ns.length)) H
theorem sum_cast : ∀ ns : List Nat, (ns.map fun (b : Nat) => (b : Int)).sum = ((ns.sum : Nat) : Int)
  | [] => rfl
  | n :: ns => by rw [List.map_cons, List.sum_cons, List.sum_cons, sum_cast ns, Int.natCast_add]
theorem ok_mean (T : Txt K mg) : FnOk P w K mg base CX0 2 T.mean.a T.mean.fd ["colours"] (sp_mean T) := by
  refine T.mean.F.ok sc_mean (fun vs H Q E h => ?_) (fun cdv A outer s H vs Q E hr h => ⟨_, (pss_one (ps_ret (pe_call (ok_nearest T) (hr.mono (by decide)) (by rfl) T.nearest.g T.nearest.F.kp T.nearest.b .nil pass0 (pa_cons (pe_callB (cr_sum rfl) (by rfl) (T.nb "sum" (by decide)) (by decide +kernel) (pa_cons (pv 0) pa_nil)) (pa_cons (pe_callB call_len_seq (by rfl) (T.nb "len" (by decide)) (by decide +kernel) (pa_cons (pv 0) pa_nil)) pa_nil))))), ?_⟩)
  · obtain ⟨a, ns, rfl, _⟩ := h
    rfl
  · obtain ⟨a, ns, rfl, ha, h0, h1, h2, k⟩ := h
    refine ⟨_, rfl, a, _, rfl, by rw [← nVs_ints]; exact SqL.of ha, _, rfl, a, _, rfl, .inl (SqL.of ha), ?_⟩
    refine ⟨ns.sum, ns.length, by rw [sum_cast, nVs_len]; rfl, h0, bgM h2 800 (by decide), ?_, k⟩
    exact bgM (n := ns.length) (k := 100) (by have : (100000 : Nat) < 2 ^ 100 := by decide
                                              omega) 800 (by decide)
end
end LP
end
section
set_option maxHeartbeats 4100000
namespace LP
open PySem PySem.Spec PyProof.Rows L2 Evl
open Sq50 (State Layer Dot)
section
variable {P : Program} {w : World} {K : PySem.W.Frag} {mg : Str → Option Value} {base : Heap}
/-- what is aside -/
def AsItem (Z : Addr → Prop) (H : Hp) (v : V) (a : Nat × Nat × Dot) : Prop := ∃ t u, v = .ref t ∧ At Z H t (.tup [nV a.1, nV a.2.1, u]) ∧ DotAt Z H u a.2.2
def AsideAt (Z : Addr → Prop) (H : Hp) (a : Addr) (as : List (Nat × Nat × Dot)) : Prop := ∃ vs, At Z H a (.lst vs) ∧ Paired (AsItem Z H) vs as
theorem AsItem.keep {Z : Addr → Prop} {H H' : Hp} {v : V} {a : Nat × Nat × Dot} (k : Keep Z H H') (x : AsItem Z H v a) : AsItem Z H' v a := by obtain ⟨t, u, e, x, y⟩ := x; exact ⟨t, u, e, x.keep k, y.keep k⟩
theorem AsItem.imp {Z Z' : Addr → Prop} {H : Hp} {v : V} {a : Nat × Nat × Dot} (k : ∀ b, Z b → H b ≠ none → Z' b) (x : AsItem Z H v a) : AsItem Z' H v a := by obtain ⟨t, u, e, x, y⟩ := x; exact ⟨t, u, e, x.imp k, y.imp k⟩
theorem AsideAt.keep {Z : Addr → Prop} {H H' : Hp} {a : Addr} {as : List (Nat × Nat × Dot)} (k : Keep Z H H') (x : AsideAt Z H a as) : AsideAt Z H' a as := by obtain ⟨vs, e, x⟩ := x; exact ⟨vs, e.keep k, Paired.imp (fun _ _ => AsItem.keep k) x⟩
theorem AsideAt.imp {Z Z' : Addr → Prop} {H : Hp} {a : Addr} {as : List (Nat × Nat × Dot)} (k : ∀ b, Z b → H b ≠ none → Z' b) (x : AsideAt Z H a as) : AsideAt Z' H a as := by obtain ⟨vs, e, x⟩ := x; exact ⟨vs, e.imp k, Paired.imp (fun _ _ => AsItem.imp k) x⟩
/-- lifted(picture) -/
def liftL (s : State) : List (Nat × Nat × Dot) := ((List.range (s.w * s.h)).filter (mayP s)).map fun p => (p % s.w, p / s.w, dotP s p)
def sp_lifted (T : Txt K mg) : Sp := fun vs H Q _ => ∃ (a : Addr) (Z : Addr → Prop) (s : State), vs = [.ref a] ∧ Pic T Z H a s ∧ WF s ∧ Free Z H ∧ ∀ p H', H p = none → Ex H H' → AsideAt Z H' p (liftL s) → Q (.ref p) H'
theorem Paired.mapR {α β γ : Type} {F : α → γ → Prop} {g : β → γ} : ∀ {l : List α} {m : List β}, Paired (fun a b => F a (g b)) l m → Paired F l (m.map g)
  | _, _, .nil => .nil
  | _, _, .cons r t => .cons r (Paired.mapR t)
theorem ok_lifted (T : Txt K mg) : FnOk P w K mg base CX0 7 T.lifted.a T.lifted.fd ["picture"] (sp_lifted T) := by
  refine T.lifted.F.ok sc_lifted (fun vs H Q E h => ?_) (fun cdv A outer s H vs Q E hr h => ⟨_, (pss_cons (ps_set (i := 1) sc_lifted.nd rfl (by first | exact Or.inl rfl | exact Or.inr rfl) (pe_call (ok_worked_dots T) (hr.mono (by decide)) (by rfl) T.worked_dots.g T.worked_dots.F.kp T.worked_dots.b .nil pass0 (pa_cons (pv 0) pa_nil)))
  (pss_cons (ps_set (i := 2) sc_lifted.nd rfl (by first | exact Or.inl rfl | exact Or.inr rfl) (pe_call (ok_may_change T) (hr.mono (by decide)) (by rfl) T.may_change.g T.may_change.F.kp T.may_change.b .nil pass0 (pa_cons (pv 0) pa_nil)))
  (pss_one (ps_ret (pe_lc (own := [("place", 3), ("dot", 4)]) (g := (gTup K 2 (gCons (gName 3) (gCons (gName 4) gNil)))) rfl sc_lifted.nd (pi_enum (by rfl) (T.nb "enumerate" (by decide)) (pa_cons (pv 1) pa_nil)) (blkOk_by (own := [("place", 3), ("dot", 4)]) (N := N_lifted) (sc := defScope s_lifted) (by decide +kernel)) (fun _ _ _ _ _ => (pg_tup rfl (pgs_cons (pg_name (i := 3) sc_lifted.nd rfl (by first | exact Or.inl rfl | exact Or.inr rfl)) (pgs_cons (pg_name (i := 4) sc_lifted.nd rfl (by first | exact Or.inl rfl | exact Or.inr rfl)) pgs_nil)))) (fun _ _ _ _ _ => (pts_one (pt_truthK (K := K) rfl (pe_ix (ix_listK (K := K) rfl) (pv 2) (pv 3) (fun _ _ => rfl)) (by intro _; rfl)))) (fun _ _ _ _ _ => (pe_tup (pa_cons (pe_op op_mod (pv 3) (pe_fldK (K := K) rfl (pv 0) rfl)) (pa_cons (pe_op op_fdiv (pv 3) (pe_fldK (K := K) rfl (pv 0) rfl)) (pa_cons (pv 4) pa_nil)))))))))), ?_⟩)
  · obtain ⟨a, Z, s, rfl, _⟩ := h
    rfl
  · obtain ⟨a, Z, s, rfl, hp, W, hF, k⟩ := h
    have hn := W.n
    have w1 := W.w1
    have w12 := W.w12
    have hlw := W.len _ (layer_mem W)
    refine ⟨_, rfl, a, Z, s, rfl, hp, W, fun q H1 e1 h1 => ?_⟩
    refine ⟨_, rfl, a, Z, s, rfl, hp.keep (e1.keep Z), W, hF.ex e1, fun m H2 e2 h2 => ?_⟩
    obtain ⟨vs, hq, pr⟩ := h1.keep (e2.keep Z)
    have hlv := Paired.len pr
    obtain ⟨dx, ql, c, ha, _⟩ := hp.keep ((e1.trans e2).keep Z)
    refine ⟨_, rfl, q, _, rfl, hq.sq, fun D hD => ?_⟩
    refine lcP wk_enum (mayP s) (fun Z i y H => AsItem Z H y (i % s.w, i / s.w, dotP s i)) (Z := Z) (by omega) hD (hF.ex (e1.trans e2)) (fun H3 e => (hq.keep (e.keep Z)).sq) (fun Z i y H H' k x => AsItem.keep k x) (fun Z Z' i y H k x => AsItem.imp k x) ?_ ?_
    · rintro Z' hZ i x H3 H4 R S hi e3 hF3 ⟨t, v, rfl, ht, rfl, hv⟩ hR hS
      have e4 : Ex H2 (upd H3 t (.tup [nV i, v])) := e3.trans (Ex.new ht)
      have hiN : i < s.w * s.h := by omega
      obtain ⟨d, hd, hda⟩ := Paired.get' pr hv
      have ed : d = dotP s i := by rw [dotP_get W hiN] at hd; exact (Option.some.inj hd).symm
      have hda' : DotAt Z' (upd H3 t (.tup [nV i, v])) v (dotP s i) := by
        rw [← ed]
        exact (hda.imp hZ).keep (e4.keep Z')
      have hb : (bVs (mayL s))[i]? = some (bV (mayP s i)) := by unfold bVs; rw [List.getElem?_map, mayP_get W hiN]; rfl
      refine ⟨t, _, rfl, SqT.of upd_same, rfl, _, _, rfl, _, _, rfl, rfl, rfl, ?_⟩
      refine pt_truI (pu_ixL (n := i) pu_v pu_v (h2.keep (e4.keep Z)).sq rfl hb) _ ?_
      cases hm : mayP s i with
      | false => exact hS hm _ (Ex.new ht)
      | true =>
        have fw : ∀ σ : L2.St, σ[0]? = some (some (.ref a)) → Pu (tFld K (tVar 0) "w") σ (upd H3 t (.tup [nV i, v])) (nV s.w) := fun σ hs => pu_fld (pu_var hs) (e4 _ _ ha.h) T.Picture.cl (T.Picture.no _ (by decide)) (pf_w _ _ _)
        refine c_tup (paC (pu_nmod pu_v (fw _ rfl) (by omega)) (paC (pu_ndiv pu_v (fw _ rfl) (by omega) (by omega)) (paC pu_v pa0))) (Nat.le_of_ble_eq_true rfl) fun t2 ht2 => ?_
        have e5 := (Ex.new (o := .tup [nV i, v]) ht).trans (Ex.new (o := .tup [nV (i % s.w), nV (i / s.w), v]) ht2)
        refine hR hm _ _ e5 ⟨t2, v, rfl, ⟨hF3 _ ((Ex.new ht).back ht2), upd_same⟩, hda'.keep ((Ex.new ht2).keep Z')⟩
    · intro H3 ys e3 h3 pr3
      have eA := (e1.trans e2)
      refine k D H3 (eA.back hD) (eA.trans e3) ⟨ys, ⟨hF D (eA.back hD), h3⟩, ?_⟩
      unfold liftL
      rw [hlv, hlw] at pr3
      exact Paired.mapR pr3
/-- place_moved(picture, place, across, down) -/
def movP (w h p : Nat) (a b : Int) : Int := if besP w h p (a, b) = true then ((besV w p (a, b) : Nat) : Int) else -1
def sp_place_moved (T : Txt K mg) : Sp := fun vs H Q _ => ∃ (pa : Addr) (Z : Addr → Prop) (s : State) (p : Nat) (a b : Int), vs = [.ref pa, nV p, .int a, .int b] ∧ Pic T Z H pa s ∧ WF s ∧ p < 2 ^ 20 ∧ Q (.int (movP s.w s.h p a b)) H
theorem ok_place_moved (T : Txt K mg) : FnOk P w K mg base CX0 1 T.place_moved.a T.place_moved.fd ["picture", "place", "across", "down"] (sp_place_moved T) := by
  refine T.place_moved.F.ok sc_place_moved (fun vs H Q E h => ?_) (fun cdv A outer s H vs Q E hr h => ⟨_, (pss_cons (ps_set (i := 4) sc_place_moved.nd rfl (by first | exact Or.inl rfl | exact Or.inr rfl) (pe_op op_add (pe_op op_mod (pv 1) (pe_fld (pv 0) rfl)) (pv 2)))
  (pss_cons (ps_set (i := 5) sc_place_moved.nd rfl (by first | exact Or.inl rfl | exact Or.inr rfl) (pe_op op_add (pe_op op_fdiv (pv 1) (pe_fld (pv 0) rfl)) (pv 3)))
  (pss_cons (ps_if (PW.pt (pw_and (pt_chain op_le op_lt pe_int (pv 4) (pe_fld (pv 0) rfl)) (pw_and1 (pt_chain op_le op_lt pe_int (pv 5) (pe_fld (pv 0) rfl)))))
  (pss_one (ps_ret (pe_op op_add (pe_op op_mul (pv 5) (pe_fld (pv 0) rfl)) (pv 4))))
  pss_nil)
  (pss_one (ps_ret (pe_un un_neg pe_int)))))), ?_⟩)
  · obtain ⟨pa, Z, s, p, a, b, rfl, _⟩ := h
    rfl
  · obtain ⟨pa, Z, s, p, a, b, rfl, hp, W, h20, k⟩ := h
    obtain ⟨dx, q, cc, ha, hl, hc⟩ := hp
    have w1 := W.w1
    have w12 := W.w12
    have fld : ∀ (σ : L2.St) (f : Str) (u : V), σ[0]? = some (some (.ref pa)) → f ∈ (["w", "h", "layers", "worked", "chosen", "made"] : List Str) → (picF s q cc).lookup f = some u → Pu (tFld K (tVar 0) f) σ H u :=
      fun σ f u hs hf hu => pu_fld (pu_var hs) ha.h T.Picture.cl (T.Picture.no f hf) hu
    refine s_set (pu_add (pu_nmod pu_v (fld _ "w" _ rfl (by decide) (pf_w _ _ _)) (by omega)) pu_v) ?_
    refine s_set (pu_add (pu_ndiv pu_v (fld _ "w" _ rfl (by decide) (pf_w _ _ _)) (by omega) (by omega)) pu_v) ?_
    refine s_if (b := besP s.w s.h p (a, b)) (pt_is (pt_and (pt_test (pu_chain pu_c pu_v (fld _ "w" _ rfl (by decide) (pf_w _ _ _)))) (fun _ => pt_test (pu_chain pu_c pu_v (fld _ "h" _ rfl (by decide) (pf_h _ _ _))))) rfl) (fun e => ?_) fun e => ?_
    · refine s_ret (pu_is (pu_add (pu_mul pu_v (fld _ "w" _ rfl (by decide) (pf_w _ _ _)) (mulOkR (by omega) (by omega))) pu_v) ?_) k
      unfold movP
      rw [if_pos e, ← besV_eq e]
    · unfold movP at k
      rw [if_neg (by rw [e]; decide)] at k
      exact ⟨_, rfl, k⟩
/-- rearranged(picture, w, h, sources) -/
def rearr (s : State) (w h : Nat) (src : List Nat) : State := { s with w := w, h := h, layers := s.layers.map (fun l => { l with dots := src.map (fun p => nDot p l) }), chosen := src.map (fun p => s.chosen[p]?.getD false) }
def sp_rearranged (T : Txt K mg) : Sp := fun vs H Q _ => ∃ (a q : Addr) (Z : Addr → Prop) (s : State) (w h : Nat) (src : List Nat), vs = [.ref a, nV w, nV h, .ref q] ∧ Pic T Z H a s ∧ WF s ∧ Free Z H ∧ H q = some (.lst (nVs src)) ∧ (∀ p ∈ src, p < s.w * s.h) ∧ src.length ≤ 144 ∧ PicR T Z (rearr s w h src) H Q
theorem ok_rearranged (T : Txt K mg) : FnOk P w K mg base CX0 4 T.rearranged.a T.rearranged.fd ["picture", "w", "h", "sources"] (sp_rearranged T) := by
  refine T.rearranged.F.ok sc_rearranged (fun vs H Q E h => ?_) (fun cdv A outer s H vs Q E hr h => ⟨_, (pss_cons (ps_set (i := 4) sc_rearranged.nd rfl (by first | exact Or.inl rfl | exact Or.inr rfl) (pe_lst pa_nil))
  (pss_cons (ps_for PassesOwn.never rfl (pi_list (pe_fld (pv 0) rfl)) (pg_name (i := 5) sc_rearranged.nd rfl (by first | exact Or.inl rfl | exact Or.inr rfl))
  (pss_one (ps_expr (pe_bm PySem.F.plainAttrs_list PySem.F.slot_list_append PySem.F.type_list_append mt_append (pv 4) (pa_cons (pe_call (ok_layer_with_dots T) (hr.mono (by decide)) (by rfl) T.layer_with_dots.g T.layer_with_dots.F.kp T.layer_with_dots.b .nil pass0 (pa_cons (pv 5) (pa_cons (pe_lc (own := [("place", 7)]) (g := (gName 7)) rfl sc_rearranged.nd (pi_list (pv 3)) (blkOk_by (own := [("place", 7)]) (N := N_rearranged) (sc := defScope s_rearranged) (by decide +kernel)) (fun _ _ _ _ _ => (pg_name (i := 7) sc_rearranged.nd rfl (by first | exact Or.inl rfl | exact Or.inr rfl))) (fun _ _ _ _ _ => pts_nil) (fun _ _ _ _ _ => (pe_ix (ix_listK (K := K) rfl) (pe_fldK (K := K) rfl (pv 5) rfl) (pv 7) (fun _ _ => rfl)))) pa_nil))) pa_nil)))))
  (pss_cons (ps_setLc (i := 6) (y := "chosen") (own := [("place", 7)]) (g := (gName 7)) rfl sc_rearranged.nd rfl rfl (sw_true rfl rfl rfl (by decide +kernel)) (pi_list (pv 3)) (blkOk_by (own := [("place", 7)]) (N := N_rearranged) (sc := defScope s_rearranged) (by decide +kernel)) (fun _ _ _ _ _ => (pg_name (i := 7) sc_rearranged.nd rfl (by first | exact Or.inl rfl | exact Or.inr rfl))) (fun _ _ _ _ _ => pts_nil) (fun _ _ _ _ _ => (pe_ix (ix_listK (K := K) rfl) (pe_fldK (K := K) rfl (pv 0) rfl) (pv 7) (fun _ _ => rfl))))
  (pss_one (ps_ret (pe_make T.Picture.mks (ok_Picture_init T) (hr.mono (by decide)) (by rfl) T.Picture.g T.Picture.b .nil pass0 (pa_cons (pv 1) (pa_cons (pv 2) (pa_cons (pv 4) (pa_cons (pe_fld (pv 0) rfl) (pa_cons (pv 6) (pa_cons (pe_fld (pv 0) rfl) pa_nil)))))))))))), ?_⟩)
  · obtain ⟨a, q, Z, s, w, h, src, rfl, _⟩ := h
    rfl
  · obtain ⟨a, q, Z, s, w, h, src, rfl, hp, W, hF, hq, hsrc, h144, k⟩ := h
    have hn5 := W.n5
    obtain ⟨dx, ql, c, ha, ⟨ls, hql, pr⟩, hc⟩ := id hp
    have hlen := Paired.len pr
    refine ⟨Nat.zero_le _, fun D hD => ?_⟩
    have eD := Ex.new (o := .lst []) hD
    have nz : ¬ But Z D D := fun z => z.2 rfl
    refine ⟨_, rfl, a, _, dx, _, _, rfl, eD _ _ ha.h, T.Picture.cl, T.Picture.no _ (by decide), pf_layers _ _ _, ql, rfl, ⟨ls, (hql.keep (eD.keep Z)).sq⟩, ?_⟩
    refine for_it walk_list (fun i σ H' => ∃ x y z, σ = [some (.ref a), some (nV w), some (nV h), some (.ref q), some (.ref D), x, y, z] ∧ Ex H H' ∧ Free (But Z D) H' ∧ ∃ us, H' D = some (.lst us) ∧ Paired (LayAt T.Layer.a (But Z D) H') us ((s.layers.take i).map fun l => { l with dots := src.map (fun p => nDot p l) }))
      ⟨none, none, none, rfl, eD, Free.but hF, [], upd_same, .nil⟩ (fun i σ H' _ ⟨_, _, _, _, e, _⟩ => (hql.keep (e.keep Z)).sq) ?_ ?_
    · rintro i v σ H1 H2 hi ⟨x, y, z, rfl, e1, hF1, us, hus, pus⟩ ⟨rfl, hv⟩
      obtain ⟨l, hl, hla⟩ := Paired.get' pr hv
      have lm : l ∈ s.layers := List.mem_of_getElem? hl
      have hll := W.len l lm
      obtain ⟨b, db, qb, rfl, hb, vs, hqb, prd⟩ := (hla.imp (but_out hD)).keep (e1.keep (But Z D))
      have hlv := Paired.len prd
      have hul : us.length ≤ 5 := by rw [Paired.len pus, List.length_map, List.length_take]; omega
      refine ⟨_, rfl, .inl ⟨rfl, us, SqL.of hus⟩, ?_⟩
      refine cE (cK (cC pu_v (cE ?_)))
      refine ⟨_, rfl, q, rfl, ⟨_, SqL.of (e1 _ _ hq)⟩, fun L nL => ?_⟩
      refine lcV walk_list (fun _ => true) (fun j => vs[src[j]?.getD 0]?.getD .non) (by rw [nVs_len]; omega) nL (fun H3 e => SqL.of (e _ _ (e1 _ _ hq))) ?_ ?_
      · rintro j vv H3 H4 R S hj e3 ⟨rfl, hvv⟩ hR _
        obtain ⟨p, hp', rfl⟩ := nVs_get hvv
        have hpn := hsrc p (List.mem_of_getElem? hp')
        obtain ⟨u, hu⟩ : ∃ u, vs[p]? = some u := ⟨_, List.getElem?_eq_getElem (by omega)⟩
        refine ⟨rfl, ?_⟩
        have h9 := hR rfl _ (Ex.refl _)
        rw [hp'] at h9
        have h9' : R (vs[p]?.getD .non) H4 := h9
        rw [hu] at h9'
        exact pu_ixL (n := p) (pu_fld pu_v (e3 _ _ hb.h) T.Layer.cl (T.Layer.no _ (by decide)) (lf_dots _ _)) pu_v (hqb.keep (e3.keep (But Z D))).sq rfl hu _ h9'
      · intro H3 e3 h3
        rw [given_all, nVs_len] at h3
        have nLD : L ≠ D := fun z => by rw [z, hus] at nL; cases nL
        have pd : DotsAt (But Z D) H3 L (src.map fun p => nDot p l) := by
          refine ⟨_, ⟨hF1 L nL, h3⟩, ?_⟩
          refine Paired.of_get (by rw [List.length_map, List.length_map, List.length_range]) fun j x y hx hy => ?_
          rw [List.getElem?_map] at hx hy
          obtain ⟨j1, hj1, rfl⟩ := Option.map_eq_some_iff.mp hx
          obtain ⟨p, hp', rfl⟩ := Option.map_eq_some_iff.mp hy
          obtain ⟨hlt, ej⟩ := List.getElem?_eq_some_iff.mp hj1
          rw [List.getElem_range] at ej
          subst ej
          have hpn := hsrc p (List.mem_of_getElem? hp')
          have lk := lay_ok W lm hpn
          obtain ⟨u, hu, hda⟩ := Paired.get prd lk.d
          rw [hp']
          show DotAt _ _ (vs[p]?.getD .non) _
          rw [hu]
          exact hda.keep (e3.keep (But Z D))
        refine ⟨b, db, qb, L, l, src.map fun p => nDot p l, rfl, e3 _ _ hb.h, fun x1 dx1 H4 nx e4 h4 => ?_⟩
        have e34 := e3.trans e4
        refine ⟨D, us, _, rfl, rfl, e34 _ _ hus, szt (by omega), ?_⟩
        have kp : Keep (But Z D) H4 (upd H4 D (.lst (us ++ [.ref x1]))) := fun a o za h => by rw [upd_ne za.2]; exact h
        refine ⟨_, _, _, rfl, Ex.mut (e1.trans e34) hD, fun b' hb' => ?_, _, upd_same, ?_⟩
        · have ne : b' ≠ D := fun q => by rw [q, upd_same] at hb'; cases hb'
          rw [upd_ne ne] at hb'
          exact hF1 b' (e34.back hb')
        · have et : s.layers.take (i + 1) = s.layers.take i ++ [l] := by rw [List.take_add_one, hl]; rfl
          rw [et, List.map_append]
          refine Paired.snoc (Paired.imp (fun _ _ z => (z.keep (e34.keep _)).keep kp) pus) ?_
          exact ⟨x1, dx1, L, rfl, ⟨hF1 x1 (e3.back nx), by rw [upd_ne (fun z => by rw [z, e3 _ _ hus] at nx; cases nx)]; exact h4⟩, (pd.keep (e4.keep _)).keep kp⟩
    · rintro σ H1 ⟨x, y, z, rfl, e1, hF1, us, hus, pus⟩
      rw [hlen, List.take_length] at pus
      have hcl : (bVs s.chosen).length = s.w * s.h := by rw [bVs_len, W.ch]
      refine ⟨_, rfl, q, rfl, ⟨_, SqL.of (e1 _ _ hq)⟩, fun C nC => ?_⟩
      refine lcV walk_list (fun _ => true) (fun j => bV (s.chosen[src[j]?.getD 0]?.getD false)) (by rw [nVs_len]; omega) nC (fun H3 e => SqL.of (e _ _ (e1 _ _ hq))) ?_ ?_
      · rintro j vv H3 H4 R S hj e3 ⟨rfl, hvv⟩ hR _
        obtain ⟨p, hp', rfl⟩ := nVs_get hvv
        have hpn := hsrc p (List.mem_of_getElem? hp')
        obtain ⟨u, hu⟩ : ∃ u, s.chosen[p]? = some u := ⟨_, List.getElem?_eq_getElem (by rw [W.ch]; exact hpn)⟩
        refine ⟨rfl, ?_⟩
        have h9 := hR rfl _ (Ex.refl _)
        rw [hp'] at h9
        have h9' : R (bV (s.chosen[p]?.getD false)) H4 := h9
        rw [hu] at h9'
        have e14 := e1.trans e3
        exact pu_ixL (n := p) (pu_fld pu_v (e14 _ _ ha.h) T.Picture.cl (T.Picture.no _ (by decide)) (pf_chosen _ _ _)) pu_v (hc.keep (e14.keep Z)).sq rfl (by unfold bVs; rw [List.getElem?_map, hu]; rfl) _ h9'
      · intro H3 e3 h3
        rw [given_all, nVs_len] at h3
        have e13 := e1.trans e3
        have hbits : H3 C = some (.lst (bVs (src.map fun p => s.chosen[p]?.getD false))) := by
          rw [h3]
          congr 2
          refine range_bVs (by rw [List.length_map]) fun j b hb => ?_
          rw [List.getElem?_map] at hb
          obtain ⟨p, hp', rfl⟩ := Option.map_eq_some_iff.mp hb
          rw [hp']
          rfl
        refine ⟨_, rfl, _, rfl, _, rfl, _, rfl, a, _, dx, _, _, rfl, e13 _ _ ha.h, T.Picture.cl, T.Picture.no _ (by decide), pf_worked _ _ _, _, rfl, _, rfl, a, _, dx, _, _, rfl, e13 _ _ ha.h, T.Picture.cl, T.Picture.no _ (by decide), pf_made _ _ _, ?_⟩
        refine mk_pic T (s := rearr s w h src) (q := D) (c := C) (fun x1 dx1 H4 nx e4 h4 => ?_) rfl
        have wk : ∀ b, But Z D b → H4 b ≠ none → Z b := fun _ z _ => z.1
        refine k x1 H4 (e13.trans e4) ⟨dx1, D, C, ⟨hF x1 (e13.back nx), h4⟩, ⟨us, ⟨hF D hD, e4 _ _ (e3 _ _ hus)⟩, ?_⟩, ⟨hF C (e1.back nC), e4 _ _ hbits⟩⟩
        exact Paired.imp (fun _ _ z => (z.keep ((e3.trans e4).keep _)).imp wk) pus
end
end LP
end
section
set_option maxHeartbeats 4100000
namespace LP
open PySem PySem.Spec PyProof.Rows L2 Evl
open Sq50 (State Layer Dot)
section
variable {P : Program} {w : World} {K : PySem.W.Frag} {mg : Str → Option Value} {base : Heap}
/-- source(picture, k, x, y) -/
def srcP (w h k x y : Nat) : Nat := if k = 0 then y * w + w - 1 - x else if k = 1 then (h - 1 - y) * w + x else (h - 1 - x) * w + y
def sp_source (T : Txt K mg) : Sp := fun vs H Q _ => ∃ (pa : Addr) (Z : Addr → Prop) (s : State) (k x y : Nat), vs = [.ref pa, nV k, nV x, nV y] ∧ Pic T Z H pa s ∧ WF s ∧ (k ≤ 1 → x < s.w ∧ y < s.h) ∧ (¬ k ≤ 1 → x < s.h ∧ y < s.w) ∧ Q (nV (srcP s.w s.h k x y)) H
theorem ok_source (T : Txt K mg) : FnOk P w K mg base CX0 1 T.source.a T.source.fd ["picture", "k", "x", "y"] (sp_source T) := by
  refine T.source.F.ok sc_source (fun vs H Q E h => ?_) (fun cdv A outer s H vs Q E hr h => ⟨_, (pss_cons (ps_if (pt_cmpR op_eq (pv 1) pe_int (nomark _))
  (pss_one (ps_ret (pe_op op_sub (pe_op op_sub (pe_op op_add (pe_op op_mul (pv 3) (pe_fld (pv 0) rfl)) (pe_fld (pv 0) rfl)) pe_int) (pv 2))))
  pss_nil)
  (pss_cons (ps_if (pt_cmpR op_eq (pv 1) pe_int (nomark _))
  (pss_one (ps_ret (pe_op op_add (pe_op op_mul (pe_op op_sub (pe_op op_sub (pe_fld (pv 0) rfl) pe_int) (pv 3)) (pe_fld (pv 0) rfl)) (pv 2))))
  pss_nil)
  (pss_one (ps_ret (pe_op op_add (pe_op op_mul (pe_op op_sub (pe_op op_sub (pe_fld (pv 0) rfl) pe_int) (pv 2)) (pe_fld (pv 0) rfl)) (pv 3)))))), ?_⟩)
  · obtain ⟨pa, Z, s, k, x, y, rfl, _⟩ := h
    rfl
  · obtain ⟨pa, Z, s, kk, x, y, rfl, hp, W, h1, h2, k⟩ := h
    obtain ⟨dx, q, cc, ha, hl, hc⟩ := hp
    have w1 := W.w1
    have w12 := W.w12
    have hh1 := W.h1
    have hh12 := W.h12
    have fld : ∀ (σ : L2.St) (f : Str) (u : V), σ[0]? = some (some (.ref pa)) → f ∈ (["w", "h", "layers", "worked", "chosen", "made"] : List Str) → (picF s q cc).lookup f = some u → Pu (tFld K (tVar 0) f) σ H u :=
      fun σ f u hs hf hu => pu_fld (pu_var hs) ha.h T.Picture.cl (T.Picture.no f hf) hu
    have pw : ∀ (σ : L2.St), σ[0]? = some (some (.ref pa)) → Pu (tFld K (tVar 0) "w") σ H (nV s.w) := fun σ hs => fld σ "w" _ hs (by decide) (pf_w _ _ _)
    have ph : ∀ (σ : L2.St), σ[0]? = some (some (.ref pa)) → Pu (tFld K (tVar 0) "h") σ H (nV s.h) := fun σ hs => fld σ "h" _ hs (by decide) (pf_h _ _ _)
    refine s_if (pt_neq (k := 0) pu_v) (fun e => ?_) fun n0 => ?_
    · have e := of_decide_eq_true e
      subst e
      obtain ⟨hx, hy⟩ := h1 (by omega)
      refine s_ret (pu_is (pu_sub (pu_sub (pu_add (pu_mul pu_v (pw _ rfl) (mulOk (by omega) (by omega))) (pw _ rfl)) pu_c) pu_v) ?_) k
      show V.int _ = V.int _
      unfold srcP
      rw [if_pos rfl]
      have : ((y * s.w : Nat) : Int) = (y : Int) * (s.w : Int) := Int.natCast_mul ..
      congr 1
      omega
    have n0 := of_decide_eq_false n0
    refine s_if (pt_neq (k := 1) pu_v) (fun e => ?_) fun n1 => ?_
    · have e := of_decide_eq_true e
      subst e
      obtain ⟨hx, hy⟩ := h1 (by omega)
      refine s_ret (pu_is (pu_add (pu_mul (pu_sub (pu_sub (ph _ rfl) pu_c) pu_v) (pw _ rfl) (mulOkR (by omega) (by omega))) pu_v) ?_) k
      show V.int _ = V.int _
      unfold srcP
      rw [if_neg (by decide), if_pos rfl, Int.natCast_add, Int.natCast_mul]
      congr 3
      omega
    have n1 := of_decide_eq_false n1
    obtain ⟨hx, hy⟩ := h2 (by omega)
    refine s_ret (pu_is (pu_add (pu_mul (pu_sub (pu_sub (ph _ rfl) pu_c) pu_v) (pw _ rfl) (mulOkR (by omega) (by omega))) pu_v) ?_) k
    show V.int _ = V.int _
    unfold srcP
    rw [if_neg n0, if_neg n1, Int.natCast_add, Int.natCast_mul]
    congr 3
    omega
theorem srcP_lt {s : State} (W : WF s) {k x y : Nat} (h1 : k ≤ 1 → x < s.w ∧ y < s.h) (h2 : ¬ k ≤ 1 → x < s.h ∧ y < s.w) : srcP s.w s.h k x y < s.w * s.h := by
  have mul : ∀ a b : Nat, a < s.h → b < s.w → a * s.w + b < s.w * s.h := fun a b ha hb => by
    have : (a + 1) * s.w ≤ s.h * s.w := Nat.mul_le_mul_right _ ha
    rw [Nat.add_mul, Nat.one_mul, Nat.mul_comm s.h] at this
    omega
  have w1 := W.w1
  have hh1 := W.h1
  unfold srcP
  split
  · rename_i e
    obtain ⟨hx, hy⟩ := h1 (by omega)
    have := mul y (s.w - 1 - x) hy (by omega)
    omega
  · split
    · obtain ⟨hx, hy⟩ := h1 (by omega)
      exact mul _ _ (by omega) hx
    · rename_i e0 e1
      obtain ⟨hx, hy⟩ := h2 (by omega)
      exact mul _ _ (by omega) hy
def turnSrc (s : State) (k w' h' : Nat) : List Nat := (List.range h').flatMap fun y => (List.range w').map fun x => srcP s.w s.h k x y
def f_turn (s : State) : List Nat → Except Int State
  | [k] => if 2 < k then .error (-1) else .ok (rearr s (if k = 2 then s.h else s.w) (if k = 2 then s.w else s.h) (turnSrc s k (if k = 2 then s.h else s.w) (if k = 2 then s.w else s.h)))
  | _ => .error 0
theorem flat_len {α β : Type} (l : List α) (f : α → List β) (n : Nat) (h : ∀ x ∈ l, (f x).length = n) : (l.flatMap f).length = l.length * n := by
  induction l with
  | nil => simp
  | cons a l ih =>
    rw [List.flatMap_cons, List.length_append, ih (fun x hx => h x (List.mem_cons_of_mem _ hx)), h a (List.mem_cons_self ..), List.length_cons, Nat.succ_mul]
    omega
theorem ok_turn (T : Txt K mg) : FnOk P w K mg base (L2.CX P w) 5 T.turn.a T.turn.fd ["picture", "more"] (spDeed T 1 f_turn) := by
  refine T.turn.F.okX sc_turn (fun vs H Q E h => ?_) (fun cdv A outer s H vs Q E hr h => ⟨_, (pss_cons (ps_set (i := 2) sc_turn.nd rfl (by first | exact Or.inl rfl | exact Or.inr rfl) (pe_ix ix_list (pv 1) pe_int (fun _ _ => rfl)))
  (pss_cons (ps_if (pt_cmpR op_gt (pv 2) pe_int (nomark _))
  (pss_one (ps_raiseR rfl T.CannotBe hr (takes_of rfl rfl rfl rfl)))
  pss_nil)
  (pss_cons (ps_set (i := 3) sc_turn.nd rfl (by first | exact Or.inl rfl | exact Or.inr rfl) (pe_ifExp (pt_cmpR op_eq (pv 2) pe_int (nomark _)) (pe_fld (pv 0) rfl) (pe_fld (pv 0) rfl)))
  (pss_cons (ps_set (i := 4) sc_turn.nd rfl (by first | exact Or.inl rfl | exact Or.inr rfl) (pe_ifExp (pt_cmpR op_eq (pv 2) pe_int (nomark _)) (pe_fld (pv 0) rfl) (pe_fld (pv 0) rfl)))
  (pss_cons (ps_set (i := 5) sc_turn.nd rfl (by first | exact Or.inl rfl | exact Or.inr rfl) (pe_lst pa_nil))
  (pss_cons (ps_for (passes_of rfl) rfl (pi_range1 (by rfl) (T.nb "range" (by decide)) (pa_cons (pv 4) pa_nil)) (pg_name (i := 6) sc_turn.nd rfl (by first | exact Or.inl rfl | exact Or.inr rfl))
  (pss_one (ps_expr (pe_bm PySem.F.plainAttrs_list PySem.F.slot_list_extend PySem.F.type_list_extend mt_extend (pv 5) (pa_cons (pe_lc (own := [("x", 7)]) (g := (gName 7)) rfl sc_turn.nd (pi_range1 (by rfl) (T.nb "range" (by decide)) (pa_cons (pv 3) pa_nil)) (blkOk_by (own := [("x", 7)]) (N := N_turn) (sc := defScope s_turn) (by decide +kernel)) (fun _ _ _ _ _ => (pg_name (i := 7) sc_turn.nd rfl (by first | exact Or.inl rfl | exact Or.inr rfl))) (fun _ _ _ _ _ => pts_nil) (fun _ _ _ _ _ => (pe_call (ok_source T) (hr.mono (by decide)) (by rfl) T.source.g T.source.F.kp T.source.b .nil pass0 (pa_cons (pv 0) (pa_cons (pv 2) (pa_cons (pv 7) (pa_cons (pv 6) pa_nil))))))) pa_nil)))))
  (pss_one (ps_ret (pe_call (ok_rearranged T) (hr.mono (by decide)) (by rfl) T.rearranged.g T.rearranged.F.kp T.rearranged.b .nil pass0 (pa_cons (pv 0) (pa_cons (pv 3) (pa_cons (pv 4) (pa_cons (pv 5) pa_nil))))))))))))), ?_⟩)
  · obtain ⟨a, m, Z, s, ms, rfl, _⟩ := h
    rfl
  · obtain ⟨pa, m, Z, s, ms, rfl, hp, W, hF, hm, hn, k⟩ := h
    obtain ⟨kk, rfl⟩ : ∃ k, ms = [k] := by
      match ms, hn with
      | [k], _ => exact ⟨k, rfl⟩
    obtain ⟨dx, q, cc, ha, hl, hc⟩ := id hp
    have w12 := W.w12
    have h12 := W.h12
    refine s_set (pu_more rfl hm rfl) ?_
    refine s_if (pt_ngt pu_v (pu_nc 2)) (fun e => ?_) fun e => ?_
    · dsimp only [f_turn] at k
      rw [if_pos (of_decide_eq_true e)] at k
      exact Rz.go k (Ex.refl H)
    · dsimp only [f_turn] at k
      rw [if_neg (of_decide_eq_false e)] at k
      have e := of_decide_eq_false e
      have pw : ∀ (σ : L2.St), σ[0]? = some (some (.ref pa)) → Pu (tFld K (tVar 0) "w") σ H (nV s.w) := fun σ hs => pu_fld (pu_var hs) ha.h T.Picture.cl (T.Picture.no _ (by decide)) (pf_w _ _ _)
      have ph : ∀ (σ : L2.St), σ[0]? = some (some (.ref pa)) → Pu (tFld K (tVar 0) "h") σ H (nV s.h) := fun σ hs => pu_fld (pu_var hs) ha.h T.Picture.cl (T.Picture.no _ (by decide)) (pf_h _ _ _)
      refine s_set (v := nV (if kk = 2 then s.h else s.w)) (pu_if (pt_neq (k := 2) pu_v) (fun e => ?_) (fun e => ?_)) ?_
      · rw [if_pos (of_decide_eq_true e)]; exact ph _ rfl
      · rw [if_neg (of_decide_eq_false e)]; exact pw _ rfl
      refine s_set (v := nV (if kk = 2 then s.w else s.h)) (pu_if (pt_neq (k := 2) pu_v) (fun e => ?_) (fun e => ?_)) ?_
      · exact pu_is (pw _ rfl) (by rw [if_pos (of_decide_eq_true e)])
      · exact pu_is (ph _ rfl) (by rw [if_neg (of_decide_eq_false e)])
      have hw' : (if kk = 2 then s.h else s.w) ≤ 12 := by split <;> omega
      have hh' : (if kk = 2 then s.w else s.h) ≤ 12 := by split <;> omega
      have hxy : ∀ x y, x < (if kk = 2 then s.h else s.w) → y < (if kk = 2 then s.w else s.h) → (kk ≤ 1 → x < s.w ∧ y < s.h) ∧ (¬ kk ≤ 1 → x < s.h ∧ y < s.w) := fun x y hx hy => by
        by_cases c : kk = 2
        · rw [if_pos c] at hx hy; exact ⟨fun z => by omega, fun _ => ⟨hx, hy⟩⟩
        · rw [if_neg c] at hx hy; exact ⟨fun _ => ⟨hx, hy⟩, fun z => by omega⟩
      generalize (if kk = 2 then s.h else s.w) = w' at *
      generalize (if kk = 2 then s.w else s.h) = h' at *
      refine ⟨Nat.zero_le _, fun D hD => ?_⟩
      refine ⟨_, rfl, _, rfl, by omega, by omega, ?_⟩
      refine for_it walk_range (fun i σ H' => ∃ x y, σ = [some (.ref pa), some (.ref m), some (nV kk), some (nV w'), some (nV h'), some (.ref D), x, y] ∧ Ex H H' ∧ H' D = some (.lst (nVs (turnSrc s kk w' i))))
        ⟨none, none, rfl, Ex.new hD, upd_same⟩ (fun _ _ _ _ _ => trivial) ?_ ?_
      · rintro i vv σ H1 H2 hi ⟨x, y, rfl, e1, h1⟩ ⟨rfl, rfl⟩
        rw [show (fun i : Nat => V.int (0 + (i : Int))) i = nV i from by show V.int _ = V.int _; rw [Int.zero_add]]
        have hi' : i < h' := by rw [Int.toNat_natCast] at hi; exact hi
        refine ⟨_, rfl, .inl ⟨rfl, _, SqL.of h1⟩, ?_⟩
        refine cE ⟨_, rfl, _, rfl, by omega, by omega, fun L nL => ?_⟩
        refine lcV walk_range (fun _ => true) (fun j => nV (srcP s.w s.h kk j i)) (by omega) nL (fun _ _ => trivial) ?_ ?_
        · rintro j x H3 H4 R S hj e3 ⟨rfl, rfl⟩ hR _
          rw [Int.toNat_natCast] at hj
          obtain ⟨q1, q2⟩ := hxy j i hj hi'
          refine ⟨rfl, ?_⟩
          refine cK (cC pu_v (cC pu_v (cC pu_v (cC pu_v ?_))))
          exact ⟨pa, Z, s, kk, j, i, by show [_, _, V.int (0 + (j : Int)), _] = _; rw [Int.zero_add], hp.keep ((e1.trans e3).keep Z), W, q1, q2, hR rfl _ (Ex.refl _)⟩
        · intro H3 e3 h3
          rw [given_all, Int.toNat_natCast] at h3
          have hlen : (nVs (turnSrc s kk w' i)).length ≤ 144 := by
            rw [nVs_len]
            unfold turnSrc
            rw [flat_len _ _ w' (fun _ _ => by rw [List.length_map, List.length_range]), List.length_range]
            have := Nat.mul_le_mul (by omega : i ≤ 12) hw'
            omega
          refine ⟨D, L, _, _, rfl, rfl, e3 _ _ h1, h3, szl (by rw [List.length_map, List.length_range]; omega), ?_⟩
          refine ⟨_, _, rfl, Ex.mut (e1.trans e3) hD, ?_⟩
          rw [upd_same]
          congr 2
          unfold turnSrc nVs
          rw [List.range_succ, List.flatMap_append, List.map_append]
          congr 1
          show _ = List.map nV (((List.range w').map fun x => srcP s.w s.h kk x i) ++ [])
          rw [List.append_nil, List.map_map]
          rfl
      · rintro σ H1 ⟨x, y, rfl, e1, h1⟩
        rw [Int.toNat_natCast] at h1
        refine cK (cC pu_v (cC pu_v (cC pu_v (cC pu_v ?_))))
        refine ⟨pa, D, Z, s, w', h', turnSrc s kk w' h', rfl, hp.keep (e1.keep Z), W, hF.ex e1, h1, fun p hp' => ?_, ?_, fun p H2 e2 h2 => k p H2 (e1.trans e2) h2⟩
        · unfold turnSrc at hp'
          obtain ⟨y, hy, hp'⟩ := List.mem_flatMap.mp hp'
          obtain ⟨x, hx, rfl⟩ := List.mem_map.mp hp'
          obtain ⟨q1, q2⟩ := hxy x y (List.mem_range.mp hx) (List.mem_range.mp hy)
          exact srcP_lt W q1 q2
        · unfold turnSrc
          rw [flat_len _ _ w' (fun _ _ => by rw [List.length_map, List.length_range]), List.length_range]
          have := Nat.mul_le_mul hh' hw'
          omega
/-- crop(picture, more) -/
def cropSrc (w l r t b : Nat) : List Nat := (List.range (b + 1 - t)).flatMap fun j => (List.range (r + 1 - l)).map fun i => (t + j) * w + (l + i)
def loC (w : Nat) (ms : List Nat) : Nat := ((ms.map fun p => p % w).min?).getD 0
def hiC (w : Nat) (ms : List Nat) : Nat := ((ms.map fun p => p % w).max?).getD 0
def f_crop (s : State) : Except Int State :=
  let ms := markL s.chosen
  if ms.length = 0 then .error (-6) else
    let l := loC s.w ms
    let r := hiC s.w ms
    let t := ms.headD 0 / s.w
    let b := ms.getLastD 0 / s.w
    .ok (rearr s (r - l + 1) (b - t + 1) (cropSrc s.w l r t b))
theorem lo_is {w : Nat} {ms : List Nat} {m : Nat} (h1 : m ∈ ms.map fun p => p % w) (h2 : ∀ y ∈ ms.map fun p => p % w, m ≤ y) : m = loC w ms := by
  unfold loC
  rw [List.min?_eq_some_iff.mpr ⟨h1, h2⟩]
  rfl
theorem hi_is {w : Nat} {ms : List Nat} {m : Nat} (h1 : m ∈ ms.map fun p => p % w) (h2 : ∀ y ∈ ms.map fun p => p % w, y ≤ m) : m = hiC w ms := by
  unfold hiC
  rw [List.max?_eq_some_iff.mpr ⟨h1, h2⟩]
  rfl
def sp_crop (T : Txt K mg) : Sp := fun vs H Q E => ∃ (a : Addr) (v : V) (Z : Addr → Prop) (s : State), vs = [.ref a, v] ∧ Pic T Z H a s ∧ WF s ∧ Free Z H ∧ Dres T Z H Q E (f_crop s)
theorem nmem {ms : List Nat} {m : Int} (h : m ∈ ms.map fun (b : Nat) => (b : Int)) : ∃ n : Nat, n ∈ ms ∧ m = (n : Int) := by
  obtain ⟨n, h1, h2⟩ := List.mem_map.mp h
  exact ⟨n, h1, h2.symm⟩
theorem ok_crop (T : Txt K mg) : FnOk P w K mg base (L2.CX P w) 5 T.crop.a T.crop.fd ["picture", "more"] (sp_crop T) := by
  refine T.crop.F.okX sc_crop (fun vs H Q E h => ?_) (fun cdv A outer s H vs Q E hr h => ⟨_, (pss_cons (ps_setLc (i := 2) (y := "marked") (own := [("place", 10), ("mark", 11)]) (g := (gTup K 2 (gCons (gName 10) (gCons (gName 11) gNil)))) rfl sc_crop.nd rfl rfl (sw_true rfl rfl rfl (by decide +kernel)) (pi_enum (by rfl) (T.nb "enumerate" (by decide)) (pa_cons (pe_fld (pv 0) rfl) pa_nil)) (blkOk_by (own := [("place", 10), ("mark", 11)]) (N := N_crop) (sc := defScope s_crop) (by decide +kernel)) (fun _ _ _ _ _ => (pg_tup rfl (pgs_cons (pg_name (i := 10) sc_crop.nd rfl (by first | exact Or.inl rfl | exact Or.inr rfl)) (pgs_cons (pg_name (i := 11) sc_crop.nd rfl (by first | exact Or.inl rfl | exact Or.inr rfl)) pgs_nil)))) (fun _ _ _ _ _ => (pts_one (pt_truthK (K := K) rfl (pv 11) (by intro _; rfl)))) (fun _ _ _ _ _ => (pv 10)))
  (pss_cons (ps_if (pt_cmpR op_eq (pe_callB call_len_seq (by rfl) (T.nb "len" (by decide)) (by decide +kernel) (pa_cons (pv 2) pa_nil)) pe_int (nomark _))
  (pss_one (ps_raiseR rfl T.NotNow hr (takes_of rfl rfl rfl rfl)))
  pss_nil)
  (pss_cons (ps_setLc (i := 3) (y := "columns") (own := [("place", 10)]) (g := (gName 10)) rfl sc_crop.nd rfl rfl (sw_true rfl rfl rfl (by decide +kernel)) (pi_list (pv 2)) (blkOk_by (own := [("place", 10)]) (N := N_crop) (sc := defScope s_crop) (by decide +kernel)) (fun _ _ _ _ _ => (pg_name (i := 10) sc_crop.nd rfl (by first | exact Or.inl rfl | exact Or.inr rfl))) (fun _ _ _ _ _ => pts_nil) (fun _ _ _ _ _ => (pe_op op_mod (pv 10) (pe_fldK (K := K) rfl (pv 0) rfl))))
  (pss_cons (ps_set (i := 4) sc_crop.nd rfl (by first | exact Or.inl rfl | exact Or.inr rfl) (pe_callB (cr_min rfl) (by rfl) (T.nb "min" (by decide)) (by decide +kernel) (pa_cons (pv 3) pa_nil)))
  (pss_cons (ps_set (i := 5) sc_crop.nd rfl (by first | exact Or.inl rfl | exact Or.inr rfl) (pe_callB (cr_max rfl) (by rfl) (T.nb "max" (by decide)) (by decide +kernel) (pa_cons (pv 3) pa_nil)))
  (pss_cons (ps_set (i := 6) sc_crop.nd rfl (by first | exact Or.inl rfl | exact Or.inr rfl) (pe_op op_fdiv (pe_ix ix_list (pv 2) pe_int (fun _ _ => rfl)) (pe_fld (pv 0) rfl)))
  (pss_cons (ps_set (i := 7) sc_crop.nd rfl (by first | exact Or.inl rfl | exact Or.inr rfl) (pe_op op_fdiv (pe_ix ix_list (pv 2) (pe_un un_neg pe_int) (fun _ _ => rfl)) (pe_fld (pv 0) rfl)))
  (pss_cons (ps_set (i := 8) sc_crop.nd rfl (by first | exact Or.inl rfl | exact Or.inr rfl) (pe_lst pa_nil))
  (pss_cons (ps_for (passes_of rfl) rfl (pi_range2 (by rfl) (T.nb "range" (by decide)) (pa_cons (pv 6) (pa_cons (pe_op op_add (pv 7) pe_int) pa_nil))) (pg_name (i := 9) sc_crop.nd rfl (by first | exact Or.inl rfl | exact Or.inr rfl))
  (pss_one (ps_expr (pe_bm PySem.F.plainAttrs_list PySem.F.slot_list_extend PySem.F.type_list_extend mt_extend (pv 8) (pa_cons (pe_lc (own := [("x", 12)]) (g := (gName 12)) rfl sc_crop.nd (pi_range2 (by rfl) (T.nb "range" (by decide)) (pa_cons (pv 4) (pa_cons (pe_op op_add (pv 5) pe_int) pa_nil))) (blkOk_by (own := [("x", 12)]) (N := N_crop) (sc := defScope s_crop) (by decide +kernel)) (fun _ _ _ _ _ => (pg_name (i := 12) sc_crop.nd rfl (by first | exact Or.inl rfl | exact Or.inr rfl))) (fun _ _ _ _ _ => pts_nil) (fun _ _ _ _ _ => (pe_op op_add (pe_op op_mul (pv 9) (pe_fldK (K := K) rfl (pv 0) rfl)) (pv 12)))) pa_nil)))))
  (pss_one (ps_ret (pe_call (ok_rearranged T) (hr.mono (by decide)) (by rfl) T.rearranged.g T.rearranged.F.kp T.rearranged.b .nil pass0 (pa_cons (pv 0) (pa_cons (pe_op op_add (pe_op op_sub (pv 5) (pv 4)) pe_int) (pa_cons (pe_op op_add (pe_op op_sub (pv 7) (pv 6)) pe_int) (pa_cons (pv 8) pa_nil)))))))))))))))), ?_⟩)
  · obtain ⟨a, v, Z, s, rfl, _⟩ := h
    rfl
  · obtain ⟨pa, mv, Z, s, rfl, hp, W, hF, k⟩ := h
    obtain ⟨dx, q, c, ha, hl, hc⟩ := id hp
    have w1 := W.w1
    have w12 := W.w12
    have h12 := W.h12
    have hn := W.n
    -- marked
    refine ⟨_, rfl, pa, _, dx, _, _, rfl, ha.h, T.Picture.cl, T.Picture.no _ (by decide), pf_chosen _ _ _, c, _, rfl, hc.sq, fun D hD => ?_⟩
    refine lcV wk_enum (fun i => s.chosen[i]?.getD false) nV (by rw [bVs_len, W.ch]; omega) hD (fun H1 e => (hc.keep (e.keep Z)).sq) ?_ ?_
    · rintro i x H1 H2 R S hi e ⟨t, v, rfl, ht, rfl, hv⟩ hR hS
      obtain ⟨ba, h1, rfl⟩ := bVs_get hv
      refine ⟨t, _, rfl, SqT.of upd_same, rfl, _, _, rfl, _, _, rfl, rfl, rfl, ?_⟩
      refine ⟨_, rfl, _, rfl, ?_⟩
      rw [h1] at hR hS
      cases ba with
      | true => exact ⟨_, rfl, hR rfl _ (Ex.new ht)⟩
      | false => exact hS rfl _ (Ex.new ht)
    intro H1 e1 h1
    rw [given_mark] at h1
    have hmn : ∀ p ∈ markL s.chosen, p < s.w * s.h := fun p hp' => by
      have := List.mem_range.mp (List.mem_filter.mp hp').1
      rw [W.ch] at this
      exact this
    have hml : (markL s.chosen).length ≤ 144 := by
      have := List.length_filter_le (fun i => s.chosen[i]?.getD false) (List.range s.chosen.length)
      rw [List.length_range] at this
      have h9 := W.ch
      unfold markL
      omega
    unfold f_crop at k
    dsimp only at k
    generalize hms : markL s.chosen = ms at *
    refine s_if (b := decide (ms.length = 0)) (pt_is (pt_test (pu_eq (pu_lenL pu_v (SqL.of h1)) pu_c)) ?_) (fun e => ?_) fun e => ?_
    · rw [nVs_len]
      by_cases h : ms.length = 0
      · rw [decide_eq_true h, decide_eq_true (by omega)]
      · rw [decide_eq_false h, decide_eq_false (by omega)]
    · rw [if_pos (of_decide_eq_true e)] at k
      exact Rz.go k e1
    have m0 := of_decide_eq_false e
    rw [if_neg m0] at k
    have pw : ∀ (H' : Hp) (σ : L2.St), Ex H H' → σ[0]? = some (some (.ref pa)) → Pu (tFld K (tVar 0) "w") σ H' (nV s.w) := fun H' σ e hs => pu_fld (pu_var hs) (e _ _ ha.h) T.Picture.cl (T.Picture.no _ (by decide)) (pf_w _ _ _)
    -- columns
    refine ⟨_, rfl, D, rfl, ⟨_, SqL.of h1⟩, fun C nC => ?_⟩
    refine lcV walk_list (fun _ => true) (fun i => nV ((ms[i]?.getD 0) % s.w)) (by rw [nVs_len]; omega) nC (fun H2 e => SqL.of (e _ _ h1)) ?_ ?_
    · rintro i x H2 H3 R S hi e2 ⟨rfl, hv⟩ hR _
      obtain ⟨p, hp', rfl⟩ := nVs_get hv
      refine ⟨rfl, ?_⟩
      have h9 := hR rfl _ (Ex.refl _)
      rw [hp'] at h9
      exact pu_nmod pu_v (pw _ _ (e1.trans e2) rfl) (by omega) _ h9
    intro H2 e2 h2
    rw [given_all, nVs_len, range_nVs (ns := ms.map fun p => p % s.w) (by rw [List.length_map]) (fun i a ha' => by
      rw [List.getElem?_map] at ha'
      obtain ⟨p, hp', rfl⟩ := Option.map_eq_some_iff.mp ha'
      rw [hp']; rfl)] at h2
    have e12 := e1.trans e2
    have hcI : SqL K H2 C (((ms.map fun p => p % s.w).map fun (b : Nat) => (b : Int)).map V.int) := by rw [← nVs_ints]; exact SqL.of h2
    have hcl : 0 < ((ms.map fun p => p % s.w).map fun (b : Nat) => (b : Int)).length := by rw [List.length_map, List.length_map]; omega
    refine ⟨_, rfl, C, _, rfl, hcI, hcl, fun l0 hl1 hl2 => ?_⟩
    obtain ⟨l, hl3, rfl⟩ := nmem hl1
    refine ⟨_, rfl, C, _, rfl, hcI, hcl, fun r0 hr1 hr2 => ?_⟩
    obtain ⟨r, hr3, rfl⟩ := nmem hr1
    have el : l = loC s.w ms := lo_is hl3 fun y hy => by have := hl2 (y : Int) (List.mem_map.mpr ⟨y, hy, rfl⟩); omega
    have er : r = hiC s.w ms := hi_is hr3 fun y hy => by have := hr2 (y : Int) (List.mem_map.mpr ⟨y, hy, rfl⟩); omega
    have hlr : l ≤ r := by have := hl2 (r : Int) hr1; omega
    have hrw : r < s.w := by
      obtain ⟨p, _, rfl⟩ := List.mem_map.mp hr3
      exact Nat.mod_lt _ (by omega)
    rw [← el, ← er] at k
    have h1' := e2 _ _ h1
    obtain ⟨p0, hp0⟩ : ∃ p0, ms[0]? = some p0 := ⟨_, List.getElem?_eq_getElem (by omega)⟩
    obtain ⟨pz, hpz⟩ : ∃ pz, ms[ms.length - 1]? = some pz := ⟨_, List.getElem?_eq_getElem (by omega)⟩
    have eh : ms.headD 0 = p0 := by cases ms with | nil => cases hp0 | cons a t => exact Option.some.inj hp0
    have ez : ms.getLastD 0 = pz := by rw [List.getLastD_eq_getLast?, List.getLast?_eq_getElem?, hpz]; rfl
    rw [eh, ez] at k
    have hp0n := hmn p0 (List.mem_of_getElem? hp0)
    have hpzn := hmn pz (List.mem_of_getElem? hpz)
    have hpp : p0 ≤ pz := by
      have srt : ms.Pairwise (· < ·) := by rw [← hms]; unfold markL; exact List.Pairwise.filter _ List.pairwise_lt_range
      rcases Nat.eq_or_lt_of_le (show 0 ≤ ms.length - 1 by omega) with e | e
      · rw [← e, hp0] at hpz; cases hpz; exact Nat.le_refl _
      · obtain ⟨a1, a2⟩ := List.getElem?_eq_some_iff.mp hp0
        obtain ⟨b1, b2⟩ := List.getElem?_eq_some_iff.mp hpz
        have := List.pairwise_iff_getElem.mp srt 0 (ms.length - 1) a1 b1 e
        omega
    have hd0 : p0 / s.w ≤ pz / s.w := Nat.div_le_div_right hpp
    have hdz : pz / s.w < s.h := (mem_p w1 hpzn).2
    refine s_set (pu_ndiv (pu_ixL (n := 0) pu_v pu_c (SqL.of h1') rfl (by unfold nVs; rw [List.getElem?_map, hp0]; rfl)) (pw _ _ e12 rfl) (by omega) (by omega)) ?_
    have atz : atI (nVs ms) (-1) = some (nV pz) := by
      unfold atI ixN
      rw [if_neg (by decide), nVs_len, if_pos (by omega)]
      show (nVs ms)[((-1 : Int) + (ms.length : Nat)).toNat]? = _
      have : ((-1 : Int) + (ms.length : Nat)).toNat = ms.length - 1 := by omega
      rw [this]
      unfold nVs
      rw [List.getElem?_map, hpz]
      rfl
    have puz : ∀ σ : L2.St, σ[2]? = some (some (.ref D)) → Pu (tOp (rIxL K) (tVar 2) (tUn (rU fun i => .int (-i)) (tC (.int 1)))) σ H2 (nV pz) := fun σ hs Q' q => ⟨_, hs, 1, rfl, D, _, _, _, rfl, rfl, SqL.of h1', atz, q⟩
    refine s_set (pu_ndiv (puz _ rfl) (pw _ _ e12 rfl) (by omega) (by omega)) ?_
    generalize p0 / s.w = t at *
    generalize pz / s.w = b at *
    refine ⟨Nat.zero_le _, fun S0 nS => ?_⟩
    have nSH : H S0 = none := e12.back nS
    refine ⟨_, rfl, _, rfl, _, _, rfl, rfl, _, _, rfl, ⟨by omega, by omega, by omega, by omega⟩, ?_⟩
    have eN : ((b : Int) + 1 - (t : Int)).toNat = b + 1 - t := by omega
    rw [eN]
    have eM : ((r : Int) + 1 - (l : Int)).toNat = r + 1 - l := by omega
    refine for_it walk_range (fun i σ H' => ∃ x y z u, σ = [some (.ref pa), some mv, some (.ref D), some (.ref C), some (nV l), some (nV r), some (nV t), some (nV b), some (.ref S0), x, y, z, u] ∧ Ex H H' ∧ H' S0 = some (.lst (nVs ((List.range i).flatMap fun j => (List.range (r + 1 - l)).map fun i => (t + j) * s.w + (l + i)))))
      ⟨none, none, none, none, rfl, e12.trans (Ex.new nS), upd_same⟩ (fun _ _ _ _ _ => trivial) ?_ ?_
    · rintro i vv σ H3 H4 hi ⟨x, y, z, u, rfl, e3, h3⟩ ⟨rfl, rfl⟩
      rw [show (fun i : Nat => V.int ((t : Int) + (i : Int))) i = nV (t + i) from by show V.int _ = V.int _; rw [Int.natCast_add]]
      refine ⟨_, rfl, .inl ⟨rfl, _, SqL.of h3⟩, ?_⟩
      refine cE ⟨_, rfl, _, rfl, _, _, rfl, rfl, _, _, rfl, ⟨by omega, by omega, by omega, by omega⟩, fun L nL => ?_⟩
      rw [eM]
      refine lcV walk_range (fun _ => true) (fun j => nV ((t + i) * s.w + (l + j))) (by omega) nL (fun _ _ => trivial) ?_ ?_
      · rintro j x H5 H6 R S hj e5 ⟨rfl, rfl⟩ hR _
        refine ⟨rfl, ?_⟩
        have h9 := hR rfl _ (Ex.refl _)
        refine pu_is (pu_add (pu_mul pu_v (pw _ _ (e3.trans e5) rfl) (mulOkR (by omega) (by omega))) pu_v) ?_ _ h9
        show V.int _ = V.int _
        simp only [Int.natCast_add, Int.natCast_mul]
      · intro H5 e5 h5
        rw [given_all] at h5
        have hlen : (nVs ((List.range i).flatMap fun j => (List.range (r + 1 - l)).map fun i => (t + j) * s.w + (l + i))).length ≤ 144 := by
          rw [nVs_len, flat_len _ _ (r + 1 - l) (fun _ _ => by rw [List.length_map, List.length_range]), List.length_range]
          have := Nat.mul_le_mul (by omega : i ≤ 12) (by omega : r + 1 - l ≤ 12)
          omega
        refine ⟨S0, L, _, _, rfl, rfl, e5 _ _ h3, h5, szl (by rw [List.length_map, List.length_range]; omega), ?_⟩
        refine ⟨_, _, _, _, rfl, Ex.mut (e3.trans e5) nSH, ?_⟩
        rw [upd_same]
        congr 2
        unfold nVs
        rw [List.range_succ, List.flatMap_append, List.map_append]
        congr 1
        show _ = List.map nV (((List.range (r + 1 - l)).map fun j => (t + i) * s.w + (l + j)) ++ [])
        rw [List.append_nil, List.map_map]
        rfl
    · rintro σ H3 ⟨x, y, z, u, rfl, e3, h3⟩
      refine cK (cC pu_v (cC (v := nV (r - l + 1)) (pu_is (pu_add (pu_sub pu_v pu_v) pu_c) ?_) (cC (v := nV (b - t + 1)) (pu_is (pu_add (pu_sub pu_v pu_v) pu_c) ?_) (cC pu_v ?_))))
      · show V.int _ = V.int _
        congr 1
        omega
      · show V.int _ = V.int _
        congr 1
        omega
      · refine ⟨pa, S0, Z, s, r - l + 1, b - t + 1, cropSrc s.w l r t b, rfl, hp.keep (e3.keep Z), W, hF.ex e3, h3, fun p hp' => ?_, ?_, fun p H4 e4 h4 => k p H4 (e3.trans e4) h4⟩
        · unfold cropSrc at hp'
          obtain ⟨j, hj, hp'⟩ := List.mem_flatMap.mp hp'
          obtain ⟨i, hi, rfl⟩ := List.mem_map.mp hp'
          have hj' := List.mem_range.mp hj  -- own
          have hi' := List.mem_range.mp hi  -- own
          have : (t + j + 1) * s.w ≤ s.h * s.w := Nat.mul_le_mul_right _ (by omega)
          rw [Nat.add_mul (t + j), Nat.one_mul, Nat.mul_comm s.h] at this
          omega
        · unfold cropSrc
          rw [flat_len _ _ (r + 1 - l) (fun _ _ => by rw [List.length_map, List.length_range]), List.length_range]
          have := Nat.mul_le_mul (by omega : b + 1 - t ≤ 12) (by omega : r + 1 - l ≤ 12)
          omega
end
end LP
end
section
set_option maxHeartbeats 4100000
namespace LP
open PySem PySem.Spec PyProof.Rows L2 Evl
open Sq50 (State Layer Dot)
theorem Paired.erase {α β : Type} {F : α → β → Prop} : ∀ {l : List α} {m : List β} (n : Nat), Paired F l m → Paired F (l.eraseIdx n) (m.eraseIdx n)
  | _, _, _, .nil => .nil
  | _, _, 0, .cons _ t => t
  | _, _, n + 1, .cons r t => .cons r (Paired.erase n t)
theorem cut_lo (xs : List V) (k : Nat) : cutV xs (some (k : Int)) none = xs.drop k := by
  unfold cutV
  rw [HT.sIx_nat, HT.sIx_none]
  rcases Nat.le_total k xs.length with h | h
  · rw [Nat.min_eq_left h]
    exact List.take_of_length_le (by rw [List.length_drop]; exact Nat.le_refl _)
  · rw [Nat.min_eq_right h, List.drop_eq_nil_of_le h, List.drop_eq_nil_of_le (Nat.le_refl _)]
    exact List.take_nil
theorem cut_hi (xs : List V) (k : Nat) : cutV xs none (some (k : Int)) = xs.take k := by
  unfold cutV
  rw [HT.sIx_nat, HT.sIx_none]
  show (xs.drop 0).take (min k xs.length - 0) = _
  rw [List.drop_zero, Nat.sub_zero]
  rcases Nat.le_total k xs.length with h | h
  · rw [Nat.min_eq_left h]
  · rw [Nat.min_eq_right h, List.take_length, List.take_of_length_le h]
theorem cut_both (xs : List V) (j k : Nat) (hj : j ≤ k) (hk : k ≤ xs.length) : cutV xs (some (j : Int)) (some (k : Int)) = (xs.drop j).take (k - j) := by
  unfold cutV
  rw [HT.sIx_nat, HT.sIx_nat, Nat.min_eq_left hk, Nat.min_eq_left (by omega)]
theorem pu_nmulS {σ : L2.St} {H : Hp} {ta tb : TE} {a b : Nat} (ha : Pu ta σ H (nV a)) (hb : Pu tb σ H (nV b)) (h : a < 2 ^ 64) : Pu (tOp (rI CMul fun i j => .int (i * j)) ta tb) σ H (nV (a * b)) := pu_is (pu_mul ha hb (mulOk (by omega) (by omega))) (by show V.int _ = V.int _; rw [Int.natCast_mul])
theorem place_lt {s : State} (W : WF s) : s.place < s.layers.length := by
  obtain ⟨l, hl, _⟩ := place_on W
  exact (List.getElem?_eq_some_iff.mp hl).1
section
variable {P : Program} {w : World} {K : PySem.W.Frag} {mg : Str → Option Value} {base : Heap}
/-- with_new_layer(picture, dots) -/
def newL (s : State) (ds : List Dot) : Except Int State := if 5 ≤ s.layers.length then .error (-5) else .ok { s with layers := s.layers.take (s.place + 1) ++ [⟨s.next, true, 255, 0, ds⟩] ++ s.layers.drop (s.place + 1), on := s.next, next := s.next + 1 }
def sp_with_new_layer (T : Txt K mg) : Sp := fun vs H Q E => ∃ (a q : Addr) (Z : Addr → Prop) (s : State) (ds : List Dot), vs = [.ref a, .ref q] ∧ Pic T Z H a s ∧ WF s ∧ Free Z H ∧ DotsAt Z H q ds ∧ Dres T Z H Q E (newL s ds)
theorem Dres.ex {T : Txt K mg} {Z : Addr → Prop} {H H' : Hp} {Q : VK} {E : XK} {r : Except Int State} (e : Ex H H') (h : Dres T Z H Q E r) : Dres T Z H' Q E r := by
  cases r with
  | ok t => exact fun p H2 e2 h2 => h p H2 (e.trans e2) h2
  | error n => exact fun d H2 e2 h2 => h d H2 (e.trans e2) h2
theorem ok_with_new_layer (T : Txt K mg) : FnOk P w K mg base (L2.CX P w) 6 T.with_new_layer.a T.with_new_layer.fd ["picture", "dots"] (sp_with_new_layer T) := by
  refine T.with_new_layer.F.okX sc_with_new_layer (fun vs H Q E h => ?_) (fun cdv A outer s H vs Q E hr h => ⟨_, (pss_cons (ps_if (pt_cmpR op_ge (pe_callB call_len_seq (by rfl) (T.nb "len" (by decide)) (by decide +kernel) (pa_cons (pe_fld (pv 0) rfl) pa_nil)) (pe_glob (by rfl) T.MOST_LAYERS.g T.MOST_LAYERS.r) (nomark _))
  (pss_one (ps_raiseR rfl T.TooMany hr (takes_of rfl rfl rfl rfl)))
  pss_nil)
  (pss_cons (ps_set (i := 2) sc_with_new_layer.nd rfl (by first | exact Or.inl rfl | exact Or.inr rfl) (pe_fld (pv 0) rfl))
  (pss_cons (ps_set (i := 3) sc_with_new_layer.nd rfl (by first | exact Or.inl rfl | exact Or.inr rfl) (pe_callTy call_list_of (by rfl) (T.nb "list" (by decide)) (by decide +kernel) (pa_cons (pe_fld (pv 0) rfl) pa_nil)))
  (pss_cons (ps_expr (pe_bm PySem.F.plainAttrs_list PySem.F.slot_list_insert PySem.F.type_list_insert mt_insert (pv 3) (pa_cons (pe_op op_add (pe_call (ok_worked_place T) (hr.mono (by decide)) (by rfl) T.worked_place.g T.worked_place.F.kp T.worked_place.b .nil pass0 (pa_cons (pv 0) pa_nil)) pe_int) (pa_cons (pe_call (ok_plain_layer T) (hr.mono (by decide)) (by rfl) T.plain_layer.g T.plain_layer.F.kp T.plain_layer.b .nil pass0 (pa_cons (pv 2) (pa_cons (pv 1) pa_nil))) pa_nil))))
  (pss_one (ps_ret (pe_make T.Picture.mks (ok_Picture_init T) (hr.mono (by decide)) (by rfl) T.Picture.g T.Picture.b .nil pass0 (pa_cons (pe_fld (pv 0) rfl) (pa_cons (pe_fld (pv 0) rfl) (pa_cons (pv 3) (pa_cons (pv 2) (pa_cons (pe_fld (pv 0) rfl) (pa_cons (pe_op op_add (pv 2) pe_int) pa_nil))))))))))))), ?_⟩)
  · obtain ⟨a, q, Z, s, ds, rfl, _⟩ := h
    rfl
  · obtain ⟨pa, q, Z, s, ds, rfl, hp, W, hF, hd, k⟩ := h
    obtain ⟨dx, ql, c, ha, ⟨ls, hql, pr⟩, hc⟩ := id hp
    have hlen := Paired.len pr
    have n5 := W.n5
    have plt := place_lt W
    have fld : ∀ (H' : Hp) (σ : L2.St) (f : Str) (u : V), Ex H H' → σ[0]? = some (some (.ref pa)) → f ∈ (["w", "h", "layers", "worked", "chosen", "made"] : List Str) → (picF s ql c).lookup f = some u → Pu (tFld K (tVar 0) f) σ H' u :=
      fun H' σ f u e hs hf hu => pu_fld (pu_var hs) (e _ _ ha.h) T.Picture.cl (T.Picture.no f hf) hu
    unfold newL at k
    refine s_if (b := decide (5 ≤ s.layers.length)) (pt_is (pt_nge (pu_is (pu_lenL (fld H _ "layers" _ (Ex.refl H) rfl (by decide) (pf_layers _ _ _)) hql.sq) (v' := nV ls.length) rfl) (pu_nc 5)) (by rw [hlen])) (fun e => ?_) fun e => ?_
    · rw [if_pos (of_decide_eq_true e)] at k
      exact Rz.go k (Ex.refl H)
    · rw [if_neg (of_decide_eq_false e)] at k
      have e := of_decide_eq_false e
      refine s_set (fld H _ "made" _ (Ex.refl H) rfl (by decide) (pf_made _ _ _)) ?_
      refine ⟨_, rfl, pa, _, dx, _, _, rfl, ha.h, T.Picture.cl, T.Picture.no _ (by decide), pf_layers _ _ _, ql, ls, rfl, .inl hql.sq, fun L nL => ?_⟩
      have e1 := Ex.new (o := .lst ls) nL
      refine ⟨_, rfl, .inl ⟨rfl, _, SqL.of upd_same⟩, ?_⟩
      refine cE (c_call (paC pu_v pa0) ⟨pa, Z, s, rfl, hp.keep (e1.keep Z), W, fun H2 e2 => ?_⟩)
      refine ⟨_, _, rfl, rfl, ?_⟩
      refine cE (c_call (paC pu_v (paC pu_v pa0)) ⟨s.next, q, ds, rfl, fun x dx1 H3 nx e3 h3 => ?_⟩)
      have e13 := e1.trans (e2.trans e3)
      have hL3 := e3 _ _ (e2 _ _ (upd_same (H := H) (a := L) (o := .lst ls)))
      refine ⟨L, ls, _, _, rfl, rfl, hL3, szt (by omega), by omega, by omega, ?_⟩
      have etn : ((s.place : Int) + 1).toNat = s.place + 1 := by omega
      rw [etn]
      have e4 : Ex H (upd H3 L (.lst (ls.take (s.place + 1) ++ [.ref x] ++ ls.drop (s.place + 1)))) := Ex.mut e13 nL
      refine ⟨_, rfl, pa, _, dx, _, _, rfl, e4 _ _ ha.h, T.Picture.cl, T.Picture.no _ (by decide), pf_w _ _ _, _, rfl, pa, _, dx, _, _, rfl, e4 _ _ ha.h, T.Picture.cl, T.Picture.no _ (by decide), pf_h _ _ _, _, rfl, _, rfl, _, rfl, pa, _, dx, _, _, rfl, e4 _ _ ha.h, T.Picture.cl, T.Picture.no _ (by decide), pf_chosen _ _ _, _, rfl, _, _, rfl, rfl, ?_⟩
      have nLx : x ≠ L := fun z => by rw [z, e2 _ _ (upd_same (H := H) (a := L) (o := .lst ls))] at nx; cases nx
      refine mk_pic T (s := { s with layers := s.layers.take (s.place + 1) ++ [⟨s.next, true, 255, 0, ds⟩] ++ s.layers.drop (s.place + 1), on := s.next, next := s.next + 1 }) (q := L) (c := c) (fun y dy H5 ny e5 h5 => ?_) (by
        show [_, _, _, _, _, V.int _] = [_, _, _, _, _, V.int _]
        rw [Int.natCast_add]; rfl)
      have e45 := e4.trans e5
      refine k y H5 e45 ⟨dy, L, c, ⟨hF y (e4.back ny), h5⟩, ⟨_, ⟨hF L nL, e5 _ _ upd_same⟩, ?_⟩, hc.keep (e45.keep Z)⟩
      have pr' := Paired.imp (fun _ _ z => LayAt.keep (e45.keep Z) z) pr
      refine Paired.app (Paired.app (Paired.take _ pr') (.cons ⟨x, dx1, q, rfl, ⟨hF x (e1.back (e2.back nx)), e5 _ _ ?_⟩, hd.keep (e45.keep Z)⟩ .nil)) (Paired.drop _ pr')
      rw [upd_ne nLx]
      exact h3
/-- [(0, 0)] * (w * h) -/
theorem flat_dots {Z : Addr → Prop} {H : Hp} {t : Addr} (h : At Z H t (.tup [.int 0, .int 0])) : ∀ n : Nat, Paired (DotAt Z H) (List.replicate n [V.ref t]).flatten (List.replicate n ((0, 0) : Dot))
  | 0 => .nil
  | n + 1 => .cons ⟨t, rfl, h⟩ (flat_dots h n)
def sp_make_layer (T : Txt K mg) : Sp := fun vs H Q E => ∃ (a : Addr) (v : V) (Z : Addr → Prop) (s : State), vs = [.ref a, v] ∧ Pic T Z H a s ∧ WF s ∧ Free Z H ∧ Dres T Z H Q E (newL s (List.replicate (s.w * s.h) (0, 0)))
theorem ok_make_layer (T : Txt K mg) : FnOk P w K mg base (L2.CX P w) 7 T.make_layer.a T.make_layer.fd ["picture", "more"] (sp_make_layer T) := by
  refine T.make_layer.F.okX sc_make_layer (fun vs H Q E h => ?_) (fun cdv A outer s H vs Q E hr h => ⟨_, (pss_one (ps_ret (pe_call (ok_with_new_layer T) (hr.mono (by decide)) (by rfl) T.with_new_layer.g T.with_new_layer.F.kp T.with_new_layer.b .nil (passes_call (takes_of rfl rfl rfl rfl) (fun _ _ _ _ h => h)) (pa_cons (pv 0) (pa_cons (pe_op op_rep (pe_lst (pa_cons (pe_tup (pa_cons pe_int (pa_cons pe_int pa_nil))) pa_nil)) (pe_op op_mul (pe_fld (pv 0) rfl) (pe_fld (pv 0) rfl))) pa_nil))))), ?_⟩)
  · obtain ⟨a, v, Z, s, rfl, _⟩ := h
    rfl
  · obtain ⟨pa, v, Z, s, rfl, hp, W, hF, k⟩ := h
    obtain ⟨dx, ql, c, ha, hl, hc⟩ := id hp
    have w12 := W.w12
    have hn := W.n
    refine cK (cC pu_v (cE ⟨by show 2 ≤ sizeLine; decide, fun t nt => ⟨by show 1 ≤ sizeLine; decide, fun l0 n0 => ?_⟩⟩))
    have e1 := Ex.new (o := .tup [.int 0, .int 0]) nt
    have e2 := Ex.new (o := .lst [.ref t]) n0
    have e12 := e1.trans e2
    refine pu_nmulS (pu_fld pu_v (e12 _ _ ha.h) T.Picture.cl (T.Picture.no _ (by decide)) (pf_w _ _ _)) (pu_fld pu_v (e12 _ _ ha.h) T.Picture.cl (T.Picture.no _ (by decide)) (pf_h _ _ _)) (by omega) _ ?_
    refine ⟨l0, _, _, rfl, rfl, upd_same, by omega, by omega, szl (by rw [Int.toNat_natCast]; simp; omega), fun D nD => ?_⟩
    rw [Int.toNat_natCast]
    have e3 := Ex.new (o := .lst (List.replicate (s.w * s.h) [V.ref t]).flatten) nD
    have e13 := e12.trans e3
    refine ⟨pa, D, Z, s, List.replicate (s.w * s.h) (0, 0), rfl, hp.keep (e13.keep Z), W, hF.ex e13, ⟨_, ⟨hF D (e12.back nD), upd_same⟩, flat_dots ⟨hF t nt, e3 _ _ (e2 _ _ upd_same)⟩ _⟩, k.ex e13⟩
/-- work_on_layer(picture, more) -/
def f_work (s : State) : List Nat → Except Int State
  | [i] => match s.layers.findIdx? (fun l => l.id == i) with
    | none => .error (-2)
    | some _ => .ok { s with on := i }
  | _ => .error 0
theorem ok_work_on_layer (T : Txt K mg) : FnOk P w K mg base (L2.CX P w) 5 T.work_on_layer.a T.work_on_layer.fd ["picture", "more"] (spDeed T 1 f_work) := by
  refine T.work_on_layer.F.okX sc_work_on_layer (fun vs H Q E h => ?_) (fun cdv A outer s H vs Q E hr h => ⟨_, (pss_cons (ps_expr (pe_call (ok_layer_place T) (hr.mono (by decide)) (by rfl) T.layer_place.g T.layer_place.F.kp T.layer_place.b .nil (passes_call (takes_of rfl rfl rfl rfl) (fun _ _ _ _ h => h)) (pa_cons (pv 0) (pa_cons (pe_ix ix_list (pv 1) pe_int (fun _ _ => rfl)) pa_nil))))
  (pss_one (ps_ret (pe_call (ok_with_layers T) (hr.mono (by decide)) (by rfl) T.with_layers.g T.with_layers.F.kp T.with_layers.b .nil pass0 (pa_cons (pv 0) (pa_cons (pe_fld (pv 0) rfl) (pa_cons (pe_ix ix_list (pv 1) pe_int (fun _ _ => rfl)) pa_nil))))))), ?_⟩)
  · obtain ⟨a, m, Z, s, ms, rfl, _⟩ := h
    rfl
  · obtain ⟨pa, m, Z, s, ms, rfl, hp, W, hF, hm, hn, k⟩ := h
    obtain ⟨i, rfl⟩ : ∃ k, ms = [k] := by
      match ms, hn with
      | [k], _ => exact ⟨k, rfl⟩
    dsimp only [f_work] at k
    refine c_call (paC pu_v (paC (pu_more rfl hm rfl) pa0)) ⟨pa, i, Z, s, rfl, hp, fun p ep => ?_, fun ep => ?_⟩
    · rw [ep] at k
      intro H1 e1
      obtain ⟨dx, ql, c, ha, hl, hc⟩ := hp.keep (e1.keep Z)
      refine cK (cC pu_v (cC (pu_fld pu_v ha.h T.Picture.cl (T.Picture.no _ (by decide)) (pf_layers _ _ _)) (cC (pu_more rfl (e1 _ _ hm) rfl) ?_)))
      refine ⟨pa, dx, ql, c, ql, s, i, s.layers, rfl, ha.h, fun x dp H2 n2 e2 h2 => ?_⟩
      exact k x H2 (e1.trans e2) ⟨dp, ql, c, ⟨hF x (e1.back n2), h2⟩, hl.keep (e2.keep Z), hc.keep (e2.keep Z)⟩
    · rw [ep] at k
      exact k
end
end LP
end
section
set_option maxHeartbeats 4100000
namespace LP
open PySem PySem.Spec PyProof.Rows L2 Evl
open Sq50 (State Layer Dot)
theorem seqIx {p n : Nat} (h : p < n) : seqIndex? (p : Int) n = some p := by
  unfold seqIndex?
  have e : (if (p : Int) < 0 then (p : Int) + (n : Int) else (p : Int)) = (p : Int) := if_neg (by omega)
  simp only [e]
  rw [if_pos (by simp; omega), Int.toNat_natCast]
section
variable {P : Program} {w : World} {K : PySem.W.Frag} {mg : Str → Option Value} {base : Heap}
theorem cMk {C : Addr} {sp : Sp} {dvs : List V} {E : XK} {t : TA} {σ : L2.St} {H : Hp} {Q : VK} (h : t σ H (fun vs H1 => ∀ x dx, H1 x = none → H1 dx = none → dx ≠ x → sp (.ref x :: (vs ++ dvs)) (upd (upd H1 dx (.own x)) x (.ins C dx [])) (fun v H2 => v = .non ∧ Q (.ref x) H2) E)) : tMake C sp dvs E t σ H Q := h
theorem cA {te : TE} {g : TG} {D : Ends} {σ : L2.St} {H : Hp} (h : te σ H fun x H1 => g x σ H1 D.nx) : tAsg te g D σ H := h
theorem cN {σ : L2.St} {H : Hp} {Q : List V → Hp → Prop} (h : Q [] H) : tNil σ H Q := h
theorem find_lt {ls : List Layer} {i p : Nat} (h : ls.findIdx? (fun l => l.id == i) = some p) : p < ls.length := (List.findIdx?_eq_some_iff_getElem.mp h).1
/-- drop_layer(picture, more) -/
def f_drop (s : State) : List Nat → Except Int State
  | [i] => match s.layers.findIdx? (fun l => l.id == i) with
    | none => .error (-2)
    | some p => if s.layers.length = 1 then .error (-6) else .ok { s with layers := s.layers.eraseIdx p, on := if s.on = i then ((s.layers.eraseIdx p)[0]?.getD (⟨0, false, 0, 0, []⟩ : Layer)).id else s.on }
  | _ => .error 0
theorem ok_drop_layer (T : Txt K mg) : FnOk P w K mg base (L2.CX P w) 5 T.drop_layer.a T.drop_layer.fd ["picture", "more"] (spDeed T 1 f_drop) := by
  refine T.drop_layer.F.okX sc_drop_layer (fun vs H Q E h => ?_) (fun cdv A outer s H vs Q E hr h => ⟨_, (pss_cons (ps_set (i := 2) sc_drop_layer.nd rfl (by first | exact Or.inl rfl | exact Or.inr rfl) (pe_call (ok_layer_place T) (hr.mono (by decide)) (by rfl) T.layer_place.g T.layer_place.F.kp T.layer_place.b .nil (passes_call (takes_of rfl rfl rfl rfl) (fun _ _ _ _ h => h)) (pa_cons (pv 0) (pa_cons (pe_ix ix_list (pv 1) pe_int (fun _ _ => rfl)) pa_nil))))
  (pss_cons (ps_if (pt_cmpR op_eq (pe_callB call_len_seq (by rfl) (T.nb "len" (by decide)) (by decide +kernel) (pa_cons (pe_fld (pv 0) rfl) pa_nil)) pe_int (nomark _))
  (pss_one (ps_raiseR rfl T.NotNow hr (takes_of rfl rfl rfl rfl)))
  pss_nil)
  (pss_cons (ps_set (i := 3) sc_drop_layer.nd rfl (by first | exact Or.inl rfl | exact Or.inr rfl) (pe_callTy call_list_of (by rfl) (T.nb "list" (by decide)) (by decide +kernel) (pa_cons (pe_fld (pv 0) rfl) pa_nil)))
  (pss_cons (ps_expr (pe_bm PySem.F.plainAttrs_list PySem.F.slot_list_pop PySem.F.type_list_pop mt_popAt (pv 3) (pa_cons (pv 2) pa_nil)))
  (pss_cons (ps_set (i := 4) sc_drop_layer.nd rfl (by first | exact Or.inl rfl | exact Or.inr rfl) (pe_ifExp (pt_cmpR op_eq (pe_fld (pv 0) rfl) (pe_ix ix_list (pv 1) pe_int (fun _ _ => rfl)) (nomark _)) (pe_fld (pe_ix ix_list (pv 3) pe_int (fun _ _ => rfl)) rfl) (pe_fld (pv 0) rfl)))
  (pss_one (ps_ret (pe_call (ok_with_layers T) (hr.mono (by decide)) (by rfl) T.with_layers.g T.with_layers.F.kp T.with_layers.b .nil pass0 (pa_cons (pv 0) (pa_cons (pv 3) (pa_cons (pv 4) pa_nil))))))))))), ?_⟩)
  · obtain ⟨a, m, Z, s, ms, rfl, _⟩ := h
    rfl
  · obtain ⟨pa, m, Z, s, ms, rfl, hp, W, hF, hm, hn, k⟩ := h
    obtain ⟨i, rfl⟩ : ∃ k, ms = [k] := by
      match ms, hn with
      | [k], _ => exact ⟨k, rfl⟩
    dsimp only [f_drop] at k
    have n5 := W.n5
    refine c_call (paC pu_v (paC (pu_more rfl hm rfl) pa0)) ⟨pa, i, Z, s, rfl, hp, fun p ep => ?_, fun ep => ?_⟩
    · rw [ep] at k
      intro H1 e1
      have hpl := find_lt ep
      obtain ⟨dx, ql, c, ha, ⟨ls, hql, pr⟩, hc⟩ := hp.keep (e1.keep Z)
      have hlen := Paired.len pr
      have fld : ∀ (H' : Hp) (σ : L2.St) (f : Str) (u : V), Ex H1 H' → σ[0]? = some (some (.ref pa)) → f ∈ (["w", "h", "layers", "worked", "chosen", "made"] : List Str) → (picF s ql c).lookup f = some u → Pu (tFld K (tVar 0) f) σ H' u :=
        fun H' σ f u e hs hf hu => pu_fld (pu_var hs) (e _ _ ha.h) T.Picture.cl (T.Picture.no f hf) hu
      refine s_if (b := decide (s.layers.length = 1)) (pt_is (pt_neq (k := 1) (pu_is (pu_lenL (fld H1 _ "layers" _ (Ex.refl H1) rfl (by decide) (pf_layers _ _ _)) hql.sq) (v' := nV ls.length) rfl)) (by rw [hlen])) (fun e => ?_) fun e => ?_
      · dsimp only at k
        rw [if_pos (of_decide_eq_true e)] at k
        exact Rz.go k e1
      · dsimp only at k
        rw [if_neg (of_decide_eq_false e)] at k
        have e := of_decide_eq_false e
        refine ⟨_, rfl, pa, _, dx, _, _, rfl, ha.h, T.Picture.cl, T.Picture.no _ (by decide), pf_layers _ _ _, ql, ls, rfl, .inl hql.sq, fun L nL => ?_⟩
        have e2 := Ex.new (o := .lst ls) nL
        obtain ⟨y, hy⟩ : ∃ y, ls[p]? = some y := ⟨_, List.getElem?_eq_getElem (by omega)⟩
        refine ⟨_, rfl, .inl ⟨rfl, _, SqL.of upd_same⟩, _, rfl, L, ls, _, p, y, rfl, rfl, upd_same, by omega, by omega, by rw [hlen]; exact seqIx hpl, hy, ?_⟩
        rw [upd_upd]
        have e3 : Ex H1 (upd H1 L (.lst (ls.eraseIdx p))) := Ex.new nL
        have pe := Paired.erase p pr
        have hel : 0 < (s.layers.eraseIdx p).length := by rw [List.length_eraseIdx, if_pos hpl]; omega
        obtain ⟨l0, hl0⟩ : ∃ l0, (s.layers.eraseIdx p)[0]? = some l0 := ⟨_, List.getElem?_eq_getElem hel⟩
        obtain ⟨v0, hv0, hla⟩ := Paired.get pe hl0
        obtain ⟨b0, d0, q0, rfl, hb0, _⟩ := hla.keep (e3.keep Z)
        rw [hl0] at k
        refine s_set (v := nV (if s.on = i then l0.id else s.on)) (pu_if (b := decide (s.on = i)) (pt_is (pt_test (pu_eq (fld _ _ "worked" _ e3 rfl (by decide) (pf_worked _ _ _)) (pu_more rfl (e3 _ _ (e1 _ _ hm)) rfl))) ?_) (fun e => ?_) (fun e => ?_)) ?_
        · by_cases h : s.on = i
          · rw [decide_eq_true h, decide_eq_true (by omega)]
          · rw [decide_eq_false h, decide_eq_false (by omega)]
        · exact pu_is (pu_fld (pu_ixL (n := 0) pu_v pu_c (SqL.of upd_same) rfl hv0) hb0.h T.Layer.cl (T.Layer.no _ (by decide)) (lf_number _ _)) (by rw [if_pos (of_decide_eq_true e)])
        · exact pu_is (fld _ _ "worked" _ e3 rfl (by decide) (pf_worked _ _ _)) (by rw [if_neg (of_decide_eq_false e)])
        refine cK (cC pu_v (cC pu_v (cC pu_v ?_)))
        refine ⟨pa, dx, ql, c, L, s, if s.on = i then l0.id else s.on, s.layers.eraseIdx p, rfl, e3 _ _ ha.h, fun x dp H2 n2 e4 h2 => ?_⟩
        have e34 := e3.trans e4
        exact k x H2 (e1.trans e34) ⟨dp, L, c, ⟨hF x (e1.back (e3.back n2)), h2⟩, ⟨_, ⟨hF L (e1.back nL), e4 _ _ upd_same⟩, Paired.imp (fun _ _ z => LayAt.keep (e34.keep Z) z) pe⟩, hc.keep (e34.keep Z)⟩
    · rw [ep] at k
      exact k
/-- raise_layer(picture, more) -/
def f_raise (s : State) : List Nat → Except Int State
  | [i] => match s.layers.findIdx? (fun l => l.id == i) with
    | none => .error (-2)
    | some p => if p = s.layers.length - 1 then .error (-6) else .ok { s with layers := (s.layers.eraseIdx p).take (p + 1) ++ [s.layers[p]?.getD (⟨0, false, 0, 0, []⟩ : Layer)] ++ (s.layers.eraseIdx p).drop (p + 1) }
  | _ => .error 0
theorem ok_raise_layer (T : Txt K mg) : FnOk P w K mg base (L2.CX P w) 5 T.raise_layer.a T.raise_layer.fd ["picture", "more"] (spDeed T 1 f_raise) := by
  refine T.raise_layer.F.okX sc_raise_layer (fun vs H Q E h => ?_) (fun cdv A outer s H vs Q E hr h => ⟨_, (pss_cons (ps_set (i := 2) sc_raise_layer.nd rfl (by first | exact Or.inl rfl | exact Or.inr rfl) (pe_call (ok_layer_place T) (hr.mono (by decide)) (by rfl) T.layer_place.g T.layer_place.F.kp T.layer_place.b .nil (passes_call (takes_of rfl rfl rfl rfl) (fun _ _ _ _ h => h)) (pa_cons (pv 0) (pa_cons (pe_ix ix_list (pv 1) pe_int (fun _ _ => rfl)) pa_nil))))
  (pss_cons (ps_if (pt_cmpR op_eq (pv 2) (pe_op op_sub (pe_callB call_len_seq (by rfl) (T.nb "len" (by decide)) (by decide +kernel) (pa_cons (pe_fld (pv 0) rfl) pa_nil)) pe_int) (nomark _))
  (pss_one (ps_raiseR rfl T.NotNow hr (takes_of rfl rfl rfl rfl)))
  pss_nil)
  (pss_cons (ps_set (i := 3) sc_raise_layer.nd rfl (by first | exact Or.inl rfl | exact Or.inr rfl) (pe_callTy call_list_of (by rfl) (T.nb "list" (by decide)) (by decide +kernel) (pa_cons (pe_fld (pv 0) rfl) pa_nil)))
  (pss_cons (ps_set (i := 4) sc_raise_layer.nd rfl (by first | exact Or.inl rfl | exact Or.inr rfl) (pe_bm PySem.F.plainAttrs_list PySem.F.slot_list_pop PySem.F.type_list_pop mt_popAt (pv 3) (pa_cons (pv 2) pa_nil)))
  (pss_cons (ps_expr (pe_bm PySem.F.plainAttrs_list PySem.F.slot_list_insert PySem.F.type_list_insert mt_insert (pv 3) (pa_cons (pe_op op_add (pv 2) pe_int) (pa_cons (pv 4) pa_nil))))
  (pss_one (ps_ret (pe_call (ok_with_layers T) (hr.mono (by decide)) (by rfl) T.with_layers.g T.with_layers.F.kp T.with_layers.b .nil pass0 (pa_cons (pv 0) (pa_cons (pv 3) (pa_cons (pe_fld (pv 0) rfl) pa_nil))))))))))), ?_⟩)
  · obtain ⟨a, m, Z, s, ms, rfl, _⟩ := h
    rfl
  · obtain ⟨pa, m, Z, s, ms, rfl, hp, W, hF, hm, hn, k⟩ := h
    obtain ⟨i, rfl⟩ : ∃ k, ms = [k] := by
      match ms, hn with
      | [k], _ => exact ⟨k, rfl⟩
    dsimp only [f_raise] at k
    have n5 := W.n5
    refine c_call (paC pu_v (paC (pu_more rfl hm rfl) pa0)) ⟨pa, i, Z, s, rfl, hp, fun p ep => ?_, fun ep => ?_⟩
    · rw [ep] at k
      intro H1 e1
      have hpl := find_lt ep
      obtain ⟨dx, ql, c, ha, ⟨ls, hql, pr⟩, hc⟩ := hp.keep (e1.keep Z)
      have hlen := Paired.len pr
      have fld : ∀ (H' : Hp) (σ : L2.St) (f : Str) (u : V), Ex H1 H' → σ[0]? = some (some (.ref pa)) → f ∈ (["w", "h", "layers", "worked", "chosen", "made"] : List Str) → (picF s ql c).lookup f = some u → Pu (tFld K (tVar 0) f) σ H' u :=
        fun H' σ f u e hs hf hu => pu_fld (pu_var hs) (e _ _ ha.h) T.Picture.cl (T.Picture.no f hf) hu
      refine s_if (b := decide (p = s.layers.length - 1)) (pt_is (pt_test (pu_eq pu_v (pu_sub (pu_lenL (fld H1 _ "layers" _ (Ex.refl H1) rfl (by decide) (pf_layers _ _ _)) hql.sq) pu_c))) ?_) (fun e => ?_) fun e => ?_
      · by_cases h : p = s.layers.length - 1
        · rw [decide_eq_true h, decide_eq_true (by omega)]
        · rw [decide_eq_false h, decide_eq_false (by omega)]
      · dsimp only at k
        rw [if_pos (of_decide_eq_true e)] at k
        exact Rz.go k e1
      · dsimp only at k
        rw [if_neg (of_decide_eq_false e)] at k
        have e := of_decide_eq_false e
        refine ⟨_, rfl, pa, _, dx, _, _, rfl, ha.h, T.Picture.cl, T.Picture.no _ (by decide), pf_layers _ _ _, ql, ls, rfl, .inl hql.sq, fun L nL => ?_⟩
        obtain ⟨l, hl⟩ : ∃ l, s.layers[p]? = some l := ⟨_, List.getElem?_eq_getElem hpl⟩
        obtain ⟨y, hy, hla⟩ := Paired.get pr hl
        rw [hl] at k
        refine ⟨_, rfl, .inl ⟨rfl, _, SqL.of upd_same⟩, _, rfl, L, ls, _, p, y, rfl, rfl, upd_same, by omega, by omega, by rw [hlen]; exact seqIx hpl, hy, ?_⟩
        rw [upd_upd]
        have hel : (ls.eraseIdx p).length ≤ 5 := by have := List.length_eraseIdx_le ls p; omega
        refine ⟨_, rfl, .inl ⟨rfl, _, SqL.of upd_same⟩, _, rfl, _, _, rfl, rfl, _, rfl, L, ls.eraseIdx p, _, _, rfl, rfl, upd_same, szt (by omega), by omega, by omega, ?_⟩
        have etn : ((p : Int) + 1).toNat = p + 1 := by omega
        rw [etn, upd_upd]
        have e3 : Ex H1 (upd H1 L (.lst ((ls.eraseIdx p).take (p + 1) ++ [y] ++ (ls.eraseIdx p).drop (p + 1)))) := Ex.new nL
        refine cK (cC pu_v (cC pu_v (cC (fld _ _ "worked" _ e3 rfl (by decide) (pf_worked _ _ _)) ?_)))
        refine ⟨pa, dx, ql, c, L, s, s.on, (s.layers.eraseIdx p).take (p + 1) ++ [l] ++ (s.layers.eraseIdx p).drop (p + 1), rfl, e3 _ _ ha.h, fun x dp H2 n2 e4 h2 => ?_⟩
        have e34 := e3.trans e4
        have pr' := Paired.imp (fun _ _ z => LayAt.keep (e34.keep Z) z) pr
        exact k x H2 (e1.trans e34) ⟨dp, L, c, ⟨hF x (e1.back (e3.back n2)), h2⟩, ⟨_, ⟨hF L (e1.back nL), e4 _ _ upd_same⟩, Paired.app (Paired.app (Paired.take _ (Paired.erase p pr')) (.cons (hla.keep (e34.keep Z)) .nil)) (Paired.drop _ (Paired.erase p pr'))⟩, hc.keep (e34.keep Z)⟩
    · rw [ep] at k
      exact k
/-- set_layer(picture, more) -/
def f_how (s : State) : List Nat → Except Int State
  | [i, e, a, m] => if 1 < e ∨ 255 < a ∨ 6 < m then .error (-1) else match s.layers.findIdx? (fun l => l.id == i) with
    | none => .error (-2)
    | some p => .ok { s with layers := s.layers.set p ⟨i, e == 1, a, m, (s.layers[p]?.getD (⟨0, false, 0, 0, []⟩ : Layer)).dots⟩ }
  | _ => .error 0
theorem ok_set_layer (T : Txt K mg) : FnOk P w K mg base (L2.CX P w) 5 T.set_layer.a T.set_layer.fd ["picture", "more"] (spDeed T 4 f_how) := by
  refine T.set_layer.F.okX sc_set_layer (fun vs H Q E h => ?_) (fun cdv A outer s H vs Q E hr h => ⟨_, (pss_cons (ps_set (i := 2) sc_set_layer.nd rfl (by first | exact Or.inl rfl | exact Or.inr rfl) (pe_ix ix_list (pv 1) pe_int (fun _ _ => rfl)))
  (pss_cons (ps_set (i := 3) sc_set_layer.nd rfl (by first | exact Or.inl rfl | exact Or.inr rfl) (pe_ix ix_list (pv 1) pe_int (fun _ _ => rfl)))
  (pss_cons (ps_set (i := 4) sc_set_layer.nd rfl (by first | exact Or.inl rfl | exact Or.inr rfl) (pe_ix ix_list (pv 1) pe_int (fun _ _ => rfl)))
  (pss_cons (ps_if (PW.pt (pw_or (pt_cmpR op_gt (pv 2) pe_int (nomark _)) (pw_or (pt_cmpR op_gt (pv 3) pe_int (nomark _)) (pw_or1 (pt_cmpR op_gt (pv 4) pe_int (nomark _))))))
  (pss_one (ps_raiseR rfl T.CannotBe hr (takes_of rfl rfl rfl rfl)))
  pss_nil)
  (pss_cons (ps_set (i := 5) sc_set_layer.nd rfl (by first | exact Or.inl rfl | exact Or.inr rfl) (pe_call (ok_layer_place T) (hr.mono (by decide)) (by rfl) T.layer_place.g T.layer_place.F.kp T.layer_place.b .nil (passes_call (takes_of rfl rfl rfl rfl) (fun _ _ _ _ h => h)) (pa_cons (pv 0) (pa_cons (pe_ix ix_list (pv 1) pe_int (fun _ _ => rfl)) pa_nil))))
  (pss_cons (ps_set (i := 6) sc_set_layer.nd rfl (by first | exact Or.inl rfl | exact Or.inr rfl) (pe_callTy call_list_of (by rfl) (T.nb "list" (by decide)) (by decide +kernel) (pa_cons (pe_fld (pv 0) rfl) pa_nil)))
  (pss_cons (ps_asg (pe_make T.Layer.mks (ok_Layer_init T) (hr.mono (by decide)) (by rfl) T.Layer.g T.Layer.b .nil pass0 (pa_cons (pe_ix ix_list (pv 1) pe_int (fun _ _ => rfl)) (pa_cons (pv 2) (pa_cons (pv 3) (pa_cons (pv 4) (pa_cons (pe_fld (pe_ix ix_list (pv 6) (pv 5) (fun _ _ => rfl)) rfl) pa_nil)))))) (pg_sub (pv 6) (pv 5) set_list))
  (pss_one (ps_ret (pe_call (ok_with_layers T) (hr.mono (by decide)) (by rfl) T.with_layers.g T.with_layers.F.kp T.with_layers.b .nil pass0 (pa_cons (pv 0) (pa_cons (pv 6) (pa_cons (pe_fld (pv 0) rfl) pa_nil))))))))))))), ?_⟩)
  · obtain ⟨a, m, Z, s, ms, rfl, _⟩ := h
    rfl
  · obtain ⟨pa, m, Z, s, ms, rfl, hp, W, hF, hm, hn, k⟩ := h
    obtain ⟨i, sn, st, wy, rfl⟩ : ∃ a b c d, ms = [a, b, c, d] := by
      match ms, hn with
      | [a, b, c, d], _ => exact ⟨a, b, c, d, rfl⟩
    dsimp only [f_how] at k
    have n5 := W.n5
    refine s_set (pu_more rfl hm rfl) ?_
    refine s_set (pu_more rfl hm rfl) ?_
    refine s_set (pu_more rfl hm rfl) ?_
    refine s_if (pt_or (pt_ngt pu_v (pu_nc 1)) (fun _ => pt_or (pt_ngt pu_v (pu_nc 255)) (fun _ => pt_ngt pu_v (pu_nc 6)))) (fun e => ?_) fun e => ?_
    · simp only [Bool.or_eq_true, decide_eq_true_eq] at e
      rw [if_pos e] at k
      exact Rz.go k (Ex.refl H)
    simp only [Bool.or_eq_false_iff, decide_eq_false_iff_not] at e
    rw [if_neg (by omega)] at k
    refine c_call (paC pu_v (paC (pu_more rfl hm rfl) pa0)) ⟨pa, i, Z, s, rfl, hp, fun p ep => ?_, fun ep => ?_⟩
    · rw [ep] at k
      intro H1 e1
      have hpl := find_lt ep
      obtain ⟨dx, ql, c, ha, ⟨ls, hql, pr⟩, hc⟩ := hp.keep (e1.keep Z)
      have hlen := Paired.len pr
      obtain ⟨l, hl⟩ : ∃ l, s.layers[p]? = some l := ⟨_, List.getElem?_eq_getElem hpl⟩
      obtain ⟨y, hy, hla⟩ := Paired.get pr hl
      dsimp only at k
      rw [hl] at k
      refine ⟨_, rfl, pa, _, dx, _, _, rfl, ha.h, T.Picture.cl, T.Picture.no _ (by decide), pf_layers _ _ _, ql, ls, rfl, .inl hql.sq, fun L nL => ?_⟩
      have e2 := Ex.new (o := .lst ls) nL
      obtain ⟨b0, d0, q0, rfl, hb0, hd0⟩ := hla
      have em2 := e2 _ _ (e1 _ _ hm)
      refine cA (cMk (cC (pu_more rfl em2 rfl) (cC pu_v (cC pu_v (cC pu_v (cC (pu_fld (pu_ixL (n := p) pu_v pu_v (SqL.of upd_same) rfl hy) (e2 _ _ hb0.h) T.Layer.cl (T.Layer.no _ (by decide)) (lf_dots _ _)) ?_))))))
      refine cN fun x dx1 nx nd ne => ?_
      refine ⟨x, dx1, q0, ⟨i, sn == 1, st, wy, l.dots⟩, ?eqv, upd_same, rfl, ?_⟩
      rotate_left
      · have e3 : Ex (upd H1 L (.lst ls)) (upd (upd (upd (upd H1 L (.lst ls)) dx1 (.own x)) x (.ins T.Layer.a dx1 [])) x (.ins T.Layer.a dx1 (layF ⟨i, sn == 1, st, wy, l.dots⟩ q0))) := ex_made nx nd
        have h3 : (upd (upd (upd (upd H1 L (.lst ls)) dx1 (.own x)) x (.ins T.Layer.a dx1 [])) x (.ins T.Layer.a dx1 (layF ⟨i, sn == 1, st, wy, l.dots⟩ q0))) x = some (.ins T.Layer.a dx1 (layF ⟨i, sn == 1, st, wy, l.dots⟩ q0)) := upd_same
        revert e3 h3
        generalize (upd (upd (upd (upd H1 L (.lst ls)) dx1 (.own x)) x (.ins T.Layer.a dx1 [])) x (.ins T.Layer.a dx1 (layF ⟨i, sn == 1, st, wy, l.dots⟩ q0))) = H3
        intro e3 h3
        have hL3 := e3 _ _ (upd_same (H := H1) (a := L) (o := .lst ls))
        refine ⟨_, rfl, _, rfl, L, ls, _, p, rfl, rfl, hL3, by rw [hlen]; exact ixN_lt hpl, ?_⟩
        have nLx : x ≠ L := fun z => by rw [z, upd_same] at nx; cases nx
        have e4 : Ex H1 (upd H3 L (.lst (ls.set p (.ref x)))) := Ex.mut (e2.trans e3) nL
        refine cK (cC pu_v (cC pu_v (cC (pu_fld pu_v (e4 _ _ ha.h) T.Picture.cl (T.Picture.no _ (by decide)) (pf_worked _ _ _)) ?_)))
        refine ⟨pa, dx, ql, c, L, s, s.on, s.layers.set p ⟨i, sn == 1, st, wy, l.dots⟩, rfl, e4 _ _ ha.h, fun x2 dp H5 n5' e5 h5 => ?_⟩
        have e45 := e4.trans e5
        refine k x2 H5 (e1.trans e45) ⟨dp, L, c, ⟨hF x2 (e1.back (e4.back n5')), h5⟩, ⟨_, ⟨hF L (e1.back nL), e5 _ _ upd_same⟩, ?_⟩, hc.keep (e45.keep Z)⟩
        refine Paired.set ?_ _ (Paired.imp (fun _ _ z => z.keep (e45.keep Z)) pr)
        refine ⟨x, dx1, q0, rfl, ⟨hF x (e1.back (e2.back nx)), e5 _ _ ?_⟩, hd0.keep (e45.keep Z)⟩
        rw [upd_ne nLx]; exact h3
      case eqv =>
        show [_, _, nV sn, _, _, _] = [_, _, bV (sn == 1), _, _, _]
        have : (sn : Int) = (((sn == 1 : Bool).toNat : Nat) : Int) := by
          have h1 : sn ≤ 1 := by omega
          rcases Nat.le_one_iff_eq_zero_or_eq_one.mp h1 with rfl | rfl <;> rfl
        show [_, _, V.int (sn : Int), _, _, _] = [_, _, V.int _, _, _, _]
        rw [this]
    · rw [ep] at k
      exact k
end
end LP
end
section
set_option maxHeartbeats 4100000
namespace LP
open PySem PySem.Spec PyProof.Rows L2 Evl
open Sq50 (State Layer Dot)
section
variable {P : Program} {w : World} {K : PySem.W.Frag} {mg : Str → Option Value} {base : Heap}
/-- paste_layer(picture, aside) -/
def pasteT (w h : Nat) (ds : List Dot) (a : Nat × Nat × Dot) : List Dot := if a.1 < w ∧ a.2.1 < h then ds.set (a.2.1 * w + a.1) a.2.2 else ds
def pasteL (s : State) (as : List (Nat × Nat × Dot)) : List Dot := as.foldl (pasteT s.w s.h) (List.replicate (s.w * s.h) (0, 0))
theorem pasteT_len (w h : Nat) (ds : List Dot) (a : Nat × Nat × Dot) : (pasteT w h ds a).length = ds.length := by unfold pasteT; split <;> simp
theorem pasteF_len (w h : Nat) : ∀ (as : List (Nat × Nat × Dot)) (ds : List Dot), (as.foldl (pasteT w h) ds).length = ds.length
  | [], ds => rfl
  | a :: as, ds => by rw [List.foldl_cons, pasteF_len w h as, pasteT_len]
def f_paste (s : State) (as : List (Nat × Nat × Dot)) : Except Int State := if as.length = 0 then .error (-6) else newL s (pasteL s as)
def sp_paste_layer (T : Txt K mg) : Sp := fun vs H Q E => ∃ (a q : Addr) (Z : Addr → Prop) (s : State) (as : List (Nat × Nat × Dot)), vs = [.ref a, .ref q] ∧ Pic T Z H a s ∧ WF s ∧ Free Z H ∧ AsideAt Z H q as ∧ Dres T Z H Q E (f_paste s as)
theorem ok_paste_layer (T : Txt K mg) : FnOk P w K mg base (L2.CX P w) 7 T.paste_layer.a T.paste_layer.fd ["picture", "aside"] (sp_paste_layer T) := by
  refine T.paste_layer.F.okX sc_paste_layer (fun vs H Q E h => ?_) (fun cdv A outer s H vs Q E hr h => ⟨_, (pss_cons (ps_if (pt_cmpR op_eq (pe_callB call_len_seq (by rfl) (T.nb "len" (by decide)) (by decide +kernel) (pa_cons (pv 1) pa_nil)) pe_int (nomark _))
  (pss_one (ps_raiseR rfl T.NotNow hr (takes_of rfl rfl rfl rfl)))
  pss_nil)
  (pss_cons (ps_set (i := 2) sc_paste_layer.nd rfl (by first | exact Or.inl rfl | exact Or.inr rfl) (pe_op op_rep (pe_lst (pa_cons (pe_tup (pa_cons pe_int (pa_cons pe_int pa_nil))) pa_nil)) (pe_op op_mul (pe_fld (pv 0) rfl) (pe_fld (pv 0) rfl))))
  (pss_cons (ps_for (passes_of rfl) rfl (pi_list (pv 1)) (pg_tup rfl (pgs_cons (pg_name (i := 3) sc_paste_layer.nd rfl (by first | exact Or.inl rfl | exact Or.inr rfl)) (pgs_cons (pg_name (i := 4) sc_paste_layer.nd rfl (by first | exact Or.inl rfl | exact Or.inr rfl)) (pgs_cons (pg_name (i := 5) sc_paste_layer.nd rfl (by first | exact Or.inl rfl | exact Or.inr rfl)) pgs_nil))))
  (pss_one (ps_if (PW.pt (pw_and (pt_cmpR op_lt (pv 3) (pe_fld (pv 0) rfl) (nomark _)) (pw_and1 (pt_cmpR op_lt (pv 4) (pe_fld (pv 0) rfl) (nomark _)))))
    (pss_one (ps_asg (pv 5) (pg_sub (pv 2) (pe_op op_add (pe_op op_mul (pv 4) (pe_fld (pv 0) rfl)) (pv 3)) set_list)))
    pss_nil)))
  (pss_one (ps_ret (pe_call (ok_with_new_layer T) (hr.mono (by decide)) (by rfl) T.with_new_layer.g T.with_new_layer.F.kp T.with_new_layer.b .nil (passes_call (takes_of rfl rfl rfl rfl) (fun _ _ _ _ h => h)) (pa_cons (pv 0) (pa_cons (pv 2) pa_nil)))))))), ?_⟩)
  · obtain ⟨a, q, Z, s, as, rfl, _⟩ := h
    rfl
  · obtain ⟨pa, q, Z, s, as, rfl, hp, W, hF, ⟨vs, hq, pr⟩, k⟩ := h
    obtain ⟨dx, ql, c, ha, hl, hc⟩ := id hp
    have w12 := W.w12
    have hn := W.n
    have hlen := Paired.len pr
    unfold f_paste at k
    refine s_if (b := decide (as.length = 0)) (pt_is (pt_neq (k := 0) (pu_is (pu_lenL pu_v hq.sq) (v' := nV vs.length) rfl)) (by rw [hlen])) (fun e => ?_) fun e => ?_
    · rw [if_pos (of_decide_eq_true e)] at k
      exact Rz.go k (Ex.refl H)
    rw [if_neg (of_decide_eq_false e)] at k
    refine ⟨by show 2 ≤ sizeLine; decide, fun t nt => ⟨by show 1 ≤ sizeLine; decide, fun l0 n0 => ?_⟩⟩
    have e1 := Ex.new (o := .tup [.int 0, .int 0]) nt
    have e2 := Ex.new (o := .lst [.ref t]) n0
    have e12 := e1.trans e2
    refine pu_nmulS (pu_fld pu_v (e12 _ _ ha.h) T.Picture.cl (T.Picture.no _ (by decide)) (pf_w _ _ _)) (pu_fld pu_v (e12 _ _ ha.h) T.Picture.cl (T.Picture.no _ (by decide)) (pf_h _ _ _)) (by omega) _ ?_
    refine ⟨l0, _, _, rfl, rfl, upd_same, by omega, by omega, szl (by rw [Int.toNat_natCast]; simp; omega), fun D nD => ?_⟩
    rw [Int.toNat_natCast]
    have e3 := Ex.new (o := .lst (List.replicate (s.w * s.h) [V.ref t]).flatten) nD
    have e13 := e12.trans e3
    have nDH : H D = none := e12.back nD
    have nz : ¬ But Z D D := fun z => z.2 rfl
    have ztD : But Z D t := ⟨hF t nt, ne_of_none (e2 _ _ (upd_same (H := H) (a := t) (o := .tup [.int 0, .int 0]))) nD⟩
    refine ⟨_, rfl, q, rfl, ⟨vs, (hq.keep (e13.keep Z)).sq⟩, ?_⟩
    refine for_it walk_list (fun i σ H' => ∃ x y z, σ = [some (.ref pa), some (.ref q), some (.ref D), x, y, z] ∧ Ex H H' ∧ Free (But Z D) H' ∧ ∃ us, H' D = some (.lst us) ∧ Paired (DotAt (But Z D) H') us ((as.take i).foldl (pasteT s.w s.h) (List.replicate (s.w * s.h) (0, 0))))
      ⟨none, none, none, rfl, e13, Free.but (hF.ex e12), _, upd_same, flat_dots ⟨ztD, e3 _ _ (e2 _ _ upd_same)⟩ _⟩ (fun i σ H' _ ⟨_, _, _, _, e, _⟩ => (hq.keep (e.keep Z)).sq) ?_ ?_
    · rintro i v σ H1 H2 hi ⟨x, y, z, rfl, eH, hF1, us, hus, pus⟩ ⟨rfl, hv⟩
      obtain ⟨a, hla, hai⟩ := Paired.get' pr hv
      obtain ⟨t1, u1, rfl, ht1, hd1⟩ := (hai.imp (but_out nDH)).keep (eH.keep (But Z D))
      refine ⟨t1, _, rfl, ht1.st, rfl, _, _, rfl, _, _, rfl, _, _, rfl, rfl, ?_⟩
      have et : as.take (i + 1) = as.take i ++ [a] := by rw [List.take_add_one, hla]; rfl
      have hul : us.length = s.w * s.h := by rw [Paired.len pus, pasteF_len, List.length_replicate]
      refine s_if (b := decide (a.1 < s.w) && decide (a.2.1 < s.h)) (pt_is (pt_and (pt_cmp pu_v (pu_fld pu_v (eH _ _ ha.h) T.Picture.cl (T.Picture.no _ (by decide)) (pf_w _ _ _))) (fun _ => pt_cmp pu_v (pu_fld pu_v (eH _ _ ha.h) T.Picture.cl (T.Picture.no _ (by decide)) (pf_h _ _ _)))) (by simp only [Int.ofNat_lt])) (fun e => ?_) fun e => ?_
      · rw [Bool.and_eq_true, decide_eq_true_eq, decide_eq_true_eq] at e
        have hlt : a.2.1 * s.w + a.1 < s.w * s.h := by
          have : (a.2.1 + 1) * s.w ≤ s.h * s.w := Nat.mul_le_mul_right _ e.2
          rw [Nat.add_mul, Nat.one_mul, Nat.mul_comm s.h] at this
          omega
        refine ⟨_, rfl, _, rfl, ?_⟩
        refine pu_nadd (pu_is (pu_mul pu_v (pu_fld pu_v (eH _ _ ha.h) T.Picture.cl (T.Picture.no _ (by decide)) (pf_w _ _ _)) (mulOkR (by omega) (by omega))) (v' := nV (a.2.1 * s.w)) (by show V.int _ = V.int _; rw [Int.natCast_mul])) pu_v _ ?_
        refine ⟨D, us, _, a.2.1 * s.w + a.1, rfl, rfl, hus, by rw [hul]; exact ixN_lt hlt, ?_⟩
        have kp : Keep (But Z D) H2 (upd H2 D (.lst (us.set (a.2.1 * s.w + a.1) u1))) := fun b o zb h => by rw [upd_ne zb.2]; exact h
        refine ⟨_, _, _, rfl, Ex.mut eH nDH, fun b hb => ?_, _, upd_same, ?_⟩
        · have ne : b ≠ D := fun q => by rw [q, upd_same] at hb; cases hb
          rw [upd_ne ne] at hb
          exact hF1 b hb
        · rw [et, List.foldl_append]
          show Paired _ _ (pasteT _ _ _ a)
          unfold pasteT
          rw [if_pos e]
          exact Paired.set (hd1.keep kp) _ (Paired.imp (fun _ _ z => z.keep kp) pus)
      · refine ⟨_, _, _, rfl, eH, hF1, us, hus, ?_⟩
        rw [et, List.foldl_append]
        show Paired _ _ (pasteT _ _ _ a)
        unfold pasteT
        rw [if_neg]
        · exact pus
        · rintro ⟨z1, z2⟩
          rw [decide_eq_true z1, decide_eq_true z2] at e
          cases e
    · rintro σ H1 ⟨x, y, z, rfl, eH, hF1, us, hus, pus⟩
      rw [hlen, List.take_length] at pus
      refine cK (cC pu_v (cC pu_v ?_))
      refine ⟨pa, D, Z, s, pasteL s as, rfl, hp.keep (eH.keep Z), W, hF.ex eH, ⟨us, ⟨hF D nDH, hus⟩, Paired.imp (fun _ _ z => z.imp but_in) pus⟩, k.ex eH⟩
/-- put_together(picture, more) -/
def mergeL (s : State) (a b : Layer) : List Dot := (List.range (s.w * s.h)).map fun p => nShow (nPile p [a, b])
def f_merge (s : State) : Except Int State := if s.place = 0 then .error (-6) else
  let a := s.layers[s.place - 1]?.getD (⟨0, false, 0, 0, []⟩ : Layer)
  .ok { s with layers := s.layers.take (s.place - 1) ++ [⟨a.id, true, 255, a.way, mergeL s a s.layer⟩] ++ s.layers.drop (s.place + 1), on := a.id }
def sp_put_together (T : Txt K mg) : Sp := fun vs H Q E => ∃ (a : Addr) (v : V) (Z : Addr → Prop) (s : State), vs = [.ref a, v] ∧ Pic T Z H a s ∧ WF s ∧ Free Z H ∧ Dres T Z H Q E (f_merge s)
theorem ok_put_together (T : Txt K mg) : FnOk P w K mg base (L2.CX P w) 6 T.put_together.a T.put_together.fd ["picture", "more"] (sp_put_together T) := by
  refine T.put_together.F.okX sc_put_together (fun vs H Q E h => ?_) (fun cdv A outer s H vs Q E hr h => ⟨_, (pss_cons (ps_set (i := 2) sc_put_together.nd rfl (by first | exact Or.inl rfl | exact Or.inr rfl) (pe_call (ok_worked_place T) (hr.mono (by decide)) (by rfl) T.worked_place.g T.worked_place.F.kp T.worked_place.b .nil pass0 (pa_cons (pv 0) pa_nil)))
  (pss_cons (ps_if (pt_cmpR op_eq (pv 2) pe_int (nomark _))
  (pss_one (ps_raiseR rfl T.NotNow hr (takes_of rfl rfl rfl rfl)))
  pss_nil)
  (pss_cons (ps_set (i := 3) sc_put_together.nd rfl (by first | exact Or.inl rfl | exact Or.inr rfl) (pe_slice sl_list (pe_fld (pv 0) rfl) (po_some (pe_op op_sub (pv 2) pe_int)) (po_some (pe_op op_add (pv 2) pe_int))))
  (pss_cons (ps_setLc (i := 4) (y := "dots") (own := [("pixel", 7)]) (g := (gName 7)) rfl sc_put_together.nd rfl rfl (sw_true rfl rfl rfl (by decide +kernel)) (pi_range1 (by rfl) (T.nb "range" (by decide)) (pa_cons (pe_op op_mul (pe_fld (pv 0) rfl) (pe_fld (pv 0) rfl)) pa_nil)) (blkOk_by (own := [("pixel", 7)]) (N := N_put_together) (sc := defScope s_put_together) (by decide +kernel)) (fun _ _ _ _ _ => (pg_name (i := 7) sc_put_together.nd rfl (by first | exact Or.inl rfl | exact Or.inr rfl))) (fun _ _ _ _ _ => pts_nil) (fun _ _ _ _ _ => (pe_call (ok_shown_dot T) (hr.mono (by decide)) (by rfl) T.shown_dot.g T.shown_dot.F.kp T.shown_dot.b .nil pass0 (pa_cons (pv 3) (pa_cons (pv 7) pa_nil)))))
  (pss_cons (ps_set (i := 5) sc_put_together.nd rfl (by first | exact Or.inl rfl | exact Or.inr rfl) (pe_make T.Layer.mks (ok_Layer_init T) (hr.mono (by decide)) (by rfl) T.Layer.g T.Layer.b .nil pass0 (pa_cons (pe_fld (pe_ix ix_list (pv 3) pe_int (fun _ _ => rfl)) rfl) (pa_cons pe_int (pa_cons pe_int (pa_cons (pe_fld (pe_ix ix_list (pv 3) pe_int (fun _ _ => rfl)) rfl) (pa_cons (pv 4) pa_nil)))))))
  (pss_cons (ps_set (i := 6) sc_put_together.nd rfl (by first | exact Or.inl rfl | exact Or.inr rfl) (pe_op op_cat (pe_op op_cat (pe_slice sl_list (pe_fld (pv 0) rfl) po_none (po_some (pe_op op_sub (pv 2) pe_int))) (pe_lst (pa_cons (pv 5) pa_nil))) (pe_slice sl_list (pe_fld (pv 0) rfl) (po_some (pe_op op_add (pv 2) pe_int)) po_none)))
  (pss_one (ps_ret (pe_call (ok_with_layers T) (hr.mono (by decide)) (by rfl) T.with_layers.g T.with_layers.F.kp T.with_layers.b .nil pass0 (pa_cons (pv 0) (pa_cons (pv 6) (pa_cons (pe_fld (pv 5) rfl) pa_nil)))))))))))), ?_⟩)
  · obtain ⟨a, v, Z, s, rfl, _⟩ := h
    rfl
  · obtain ⟨pa, mv, Z, s, rfl, hp, W, hF, k⟩ := h
    have hn := W.n
    have n5 := W.n5
    have w12 := W.w12
    have plt := place_lt W
    refine ⟨_, rfl, pa, Z, s, rfl, hp, W, fun H1 e1 => ?_⟩
    unfold f_merge at k
    refine s_if (pt_neq (k := 0) pu_v) (fun e => ?_) fun e => ?_
    · rw [if_pos (of_decide_eq_true e)] at k
      exact Rz.go k e1
    rw [if_neg (of_decide_eq_false e)] at k
    have p0 := of_decide_eq_false e
    dsimp only at k
    obtain ⟨dx, ql, c, ha, ⟨ls, hql, pr⟩, hc⟩ := hp.keep (e1.keep Z)
    have hlen := Paired.len pr
    obtain ⟨lo, hlo⟩ : ∃ l, s.layers[s.place - 1]? = some l := ⟨_, List.getElem?_eq_getElem (by omega)⟩
    obtain ⟨up, hup, _, eup⟩ := place_on W
    subst eup
    rw [hlo] at k
    have ek : (some lo).getD (⟨0, false, 0, 0, []⟩ : Layer) = lo := rfl
    rw [ek] at k
    have lom := List.mem_of_getElem? hlo
    -- both
    have em1 : ((s.place : Int) - 1) = ((s.place - 1 : Nat) : Int) := by omega
    have ep1 : ((s.place : Int) + 1) = ((s.place + 1 : Nat) : Int) := by omega
    refine ⟨_, rfl, pa, _, dx, _, _, rfl, ha.h, T.Picture.cl, T.Picture.no _ (by decide), pf_layers _ _ _, _, rfl, _, _, rfl, rfl, _, rfl, _, rfl, _, _, rfl, rfl, _, rfl, ql, ls, rfl, hql.sq, fun B nB => ?_⟩
    rw [em1, ep1, cut_both ls (s.place - 1) (s.place + 1) (by omega) (by omega)]
    have eb : (ls.drop (s.place - 1)).take (s.place + 1 - (s.place - 1)) = [ls[s.place - 1]'(by omega), ls[s.place]'(by omega)] := by
      have h2 : s.place + 1 - (s.place - 1) = 2 := by omega
      rw [h2, List.drop_eq_getElem_cons (by omega), List.take_succ_cons]
      have h3 : s.place - 1 + 1 = s.place := by omega
      rw [h3, List.drop_eq_getElem_cons (by omega), List.take_succ_cons, List.take_zero]
    rw [eb]
    obtain ⟨v1, hv1, hl1⟩ := Paired.get pr hlo
    obtain ⟨v2, hv2, hl2⟩ := Paired.get pr hup
    have g1 : ls[s.place - 1]'(by omega) = v1 := (List.getElem?_eq_some_iff.mp hv1).2
    have g2 : ls[s.place]'(by omega) = v2 := (List.getElem?_eq_some_iff.mp hv2).2
    rw [g1, g2]
    have e2 := Ex.new (o := .lst [v1, v2]) nB
    have e12 := e1.trans e2
    -- dots
    refine ⟨_, rfl, pa, _, dx, _, _, rfl, e2 _ _ ha.h, T.Picture.cl, T.Picture.no _ (by decide), pf_w _ _ _, _, rfl, pa, _, dx, _, _, rfl, e2 _ _ ha.h, T.Picture.cl, T.Picture.no _ (by decide), pf_h _ _ _, _, _, rfl, rfl, mulOk (by omega) (by omega), _, rfl, ?_, ?_, fun D hD => ?_⟩
    · rw [← Int.natCast_mul]; omega
    · rw [← Int.natCast_mul]; omega
    have eN : ((s.w : Int) * (s.h : Int)).toNat = s.w * s.h := by rw [← Int.natCast_mul, Int.toNat_natCast]
    rw [eN]
    have hb2 : LaysAt T.Layer.a Z (upd H1 B (.lst [v1, v2])) B [lo, s.layer] := ⟨[v1, v2], ⟨hF B (e1.back nB), upd_same⟩, .cons (hl1.keep (e2.keep Z)) (.cons (hl2.keep (e2.keep Z)) .nil)⟩
    refine lcP walk_range (fun _ => true) (fun Z i y H => DotAt Z H y (nShow (nPile i [lo, s.layer]))) (Z := Z) (by omega) hD (hF.ex e12) (fun _ _ => trivial) (fun Z i y H H' k x => x.keep k) (fun Z Z' i y H k x => x.imp k) ?_ ?_
    · rintro Z' hZ i x H3 H4 R S hi e3 hF3 ⟨rfl, rfl⟩ hR _
      refine ⟨rfl, ?_⟩
      have ez : V.int (0 + (i : Int)) = nV i := by rw [Int.zero_add]
      refine cK (cC pu_v (cC (v := nV i) (pu_is pu_v ez) ?_))
      refine ⟨B, i, Z', [lo, s.layer], rfl, (hb2.imp hZ).keep (e3.keep Z'), fun l hl => ?_, Nat.le_of_ble_eq_true rfl, fun t H5 nt e5 h5 => hR rfl _ _ e5 ⟨t, rfl, hF3 t nt, h5⟩⟩
      rcases List.mem_cons.mp hl with rfl | hl
      · exact lay_ok W lom hi
      · rcases List.mem_cons.mp hl with rfl | hl
        · exact lay_ok W (layer_mem W) hi
        · cases hl
    · intro H3 ys e3 h3 pr3
      have pm : DotsAt Z H3 D (mergeL s lo s.layer) := by
        refine ⟨ys, ⟨hF D (e12.back hD), h3⟩, ?_⟩
        rw [List.filter_eq_self.mpr (fun _ _ => rfl)] at pr3
        exact Paired.mapR pr3
      have e23 := e2.trans e3
      have e13 := e1.trans e23
      obtain ⟨b1, db1, qb1, rfl, hb1, _⟩ := hl1
      have hB3 := e3 _ _ (upd_same (H := H1) (a := B) (o := .lst [.ref b1, v2]))
      refine cA (cMk (cC (pu_fld (pu_ixL (n := 0) pu_v pu_c (SqL.of hB3) rfl rfl) (e23 _ _ hb1.h) T.Layer.cl (T.Layer.no _ (by decide)) (lf_number _ _)) (cC pu_c (cC pu_c (cC (pu_fld (pu_ixL (n := 0) pu_v pu_c (SqL.of hB3) rfl rfl) (e23 _ _ hb1.h) T.Layer.cl (T.Layer.no _ (by decide)) (lf_way _ _)) (cC pu_v ?_))))))
      refine cN fun x dx1 nx nd ne => ?_
      refine ⟨x, dx1, D, ⟨lo.id, true, 255, lo.way, mergeL s lo s.layer⟩, rfl, upd_same, rfl, ?_⟩
      have e4 : Ex H3 (upd (upd (upd H3 dx1 (.own x)) x (.ins T.Layer.a dx1 [])) x (.ins T.Layer.a dx1 (layF ⟨lo.id, true, 255, lo.way, mergeL s lo s.layer⟩ D))) := ex_made nx nd
      have h4 : (upd (upd (upd H3 dx1 (.own x)) x (.ins T.Layer.a dx1 [])) x (.ins T.Layer.a dx1 (layF ⟨lo.id, true, 255, lo.way, mergeL s lo s.layer⟩ D))) x = some (.ins T.Layer.a dx1 (layF ⟨lo.id, true, 255, lo.way, mergeL s lo s.layer⟩ D)) := upd_same
      revert e4 h4
      generalize (upd (upd (upd H3 dx1 (.own x)) x (.ins T.Layer.a dx1 [])) x (.ins T.Layer.a dx1 (layF ⟨lo.id, true, 255, lo.way, mergeL s lo s.layer⟩ D))) = H4
      intro e4 h4
      have e24 := e23.trans e4
      have hq4 := hql.keep (e24.keep Z)
      -- layers
      refine ⟨_, rfl, pa, _, dx, _, _, rfl, e24 _ _ ha.h, T.Picture.cl, T.Picture.no _ (by decide), pf_layers _ _ _, _, rfl, _, _, rfl, rfl, _, rfl, ql, ls, rfl, hq4.sq, fun A1 nA1 => ?_⟩
      rw [em1, cut_hi]
      have f1 := Ex.new (o := .lst (ls.take (s.place - 1))) nA1
      refine ⟨_, rfl, by show 1 ≤ sizeLine; decide, fun A2 nA2 => ?_⟩
      have f2 := Ex.new (o := .lst [.ref x]) nA2
      refine ⟨A1, A2, _, _, rfl, rfl, f2 _ _ upd_same, upd_same, szl (by rw [List.length_take]; simp; omega), fun A3 nA3 => ?_⟩
      have f3 := Ex.new (o := .lst (ls.take (s.place - 1) ++ [.ref x])) nA3
      have f13 := f1.trans (f2.trans f3)
      have e2f := e24.trans f13
      refine ⟨_, rfl, pa, _, dx, _, _, rfl, e2f _ _ ha.h, T.Picture.cl, T.Picture.no _ (by decide), pf_layers _ _ _, _, rfl, _, _, rfl, rfl, _, rfl, ql, ls, rfl, (hql.keep (e2f.keep Z)).sq, fun A4 nA4 => ?_⟩
      rw [ep1, cut_lo]
      have f4 := Ex.new (o := .lst (ls.drop (s.place + 1))) nA4
      refine ⟨A3, A4, _, _, rfl, rfl, f4 _ _ upd_same, upd_same, szl (by rw [List.length_append, List.length_take, List.length_drop]; simp; omega), fun A5 nA5 => ?_⟩
      have f5 := Ex.new (o := .lst (ls.take (s.place - 1) ++ [.ref x] ++ ls.drop (s.place + 1))) nA5
      have f15 := f13.trans (f4.trans f5)
      have e2z := e24.trans f15
      have e1z := e1.trans e2z
      have e4z := e4.trans f15
      refine cK (cC pu_v (cC pu_v (cC (pu_fld pu_v (f15 _ _ h4) T.Layer.cl (T.Layer.no _ (by decide)) (lf_number _ _)) ?_)))
      refine ⟨pa, dx, ql, c, A5, s, lo.id, s.layers.take (s.place - 1) ++ [⟨lo.id, true, 255, lo.way, mergeL s lo s.layer⟩] ++ s.layers.drop (s.place + 1), rfl, e2z _ _ ha.h, fun x5 d5 H6 n6 e6 h6 => ?_⟩
      have e26 := e2z.trans e6
      have pr' := Paired.imp (fun _ _ z => LayAt.keep (e26.keep Z) z) pr
      have zx : Z x := hF x (e13.back nx)
      refine k x5 H6 (e1.trans e26) ⟨d5, A5, c, ⟨hF x5 (e1z.back n6), h6⟩, ⟨_, ⟨hF A5 (e1.back (e24.back (f13.back (f4.back nA5)))), e6 _ _ upd_same⟩, ?_⟩, hc.keep (e26.keep Z)⟩
      exact Paired.app (Paired.app (Paired.take _ pr') (.cons ⟨x, dx1, D, rfl, ⟨zx, e6 _ _ (f15 _ _ h4)⟩, pm.keep ((e4z.trans e6).keep Z)⟩ .nil)) (Paired.drop _ pr')
end
end LP
end
section
set_option maxHeartbeats 4100000
namespace LP
open PySem PySem.Spec PyProof.Rows L2 Evl
open Sq50 (State Layer Dot)
section
variable {P : Program} {w : World} {K : PySem.W.Frag} {mg : Str → Option Value} {base : Heap}
/-- first_picture(w, h, colours) -/
def firstS (w h : Nat) (cs : List Nat) : State := ⟨w, h, [⟨0, true, 255, 0, cs.map fun c => (c, 255)⟩], 0, List.replicate (w * h) false, 1⟩
def sp_first_picture (T : Txt K mg) : Sp := fun vs H Q _ => ∃ (w h : Nat) (a : Addr) (cs : List Nat) (Z : Addr → Prop), vs = [nV w, nV h, .ref a] ∧ SqL K H a (nVs cs) ∧ cs.length ≤ 144 ∧ w ≤ 12 ∧ h ≤ 12 ∧ Free Z H ∧ PicR T Z (firstS w h cs) H Q
theorem ok_first_picture (T : Txt K mg) : FnOk P w K mg base CX0 4 T.first_picture.a T.first_picture.fd ["w", "h", "colours"] (sp_first_picture T) := by
  refine T.first_picture.F.ok sc_first_picture (fun vs H Q E h => ?_) (fun cdv A outer s H vs Q E hr h => ⟨_, (pss_cons (ps_setLc (i := 3) (y := "dots") (own := [("colour", 4)]) (g := (gName 4)) rfl sc_first_picture.nd rfl rfl (sw_true rfl rfl rfl (by decide +kernel)) (pi_list (pv 2)) (blkOk_by (own := [("colour", 4)]) (N := N_first_picture) (sc := defScope s_first_picture) (by decide +kernel)) (fun _ _ _ _ _ => (pg_name (i := 4) sc_first_picture.nd rfl (by first | exact Or.inl rfl | exact Or.inr rfl))) (fun _ _ _ _ _ => pts_nil) (fun _ _ _ _ _ => (pe_tup (pa_cons (pv 4) (pa_cons pe_int pa_nil)))))
  (pss_one (ps_ret (pe_make T.Picture.mks (ok_Picture_init T) (hr.mono (by decide)) (by rfl) T.Picture.g T.Picture.b .nil pass0 (pa_cons (pv 0) (pa_cons (pv 1) (pa_cons (pe_lst (pa_cons (pe_call (ok_plain_layer T) (hr.mono (by decide)) (by rfl) T.plain_layer.g T.plain_layer.F.kp T.plain_layer.b .nil pass0 (pa_cons pe_int (pa_cons (pv 3) pa_nil))) pa_nil)) (pa_cons pe_int (pa_cons (pe_op op_rep (pe_lst (pa_cons pe_int pa_nil)) (pe_op op_mul (pv 0) (pv 1))) (pa_cons pe_int pa_nil)))))))))), ?_⟩)
  · obtain ⟨w, h, a, cs, Z, rfl, _⟩ := h
    rfl
  · obtain ⟨w, h, a, cs, Z, rfl, ha, h144, w12, h12, hF, k⟩ := h
    have sqe : ∀ H', Ex H H' → SqL K H' a (nVs cs) := fun H' e => by
      rcases ha with (h | ⟨o, h⟩) | h
      · exact .inl (.inl (e _ _ h))
      · exact .inl (.inr ⟨o, e _ _ h⟩)  -- own
      · exact .inr h
    refine ⟨_, rfl, a, rfl, ⟨_, ha⟩, fun D hD => ?_⟩
    refine lcP walk_list (fun _ => true) (fun Z i y H => DotAt Z H y (cs[i]?.getD 0, 255)) (Z := Z) (by rw [nVs_len]; omega) hD hF (fun H' e => sqe H' e) (fun Z i y H H' k x => x.keep k) (fun Z Z' i y H k x => x.imp k) ?_ ?_
    · rintro Z' hZ i x H3 H4 R S hi e3 hF3 ⟨rfl, hv⟩ hR _
      obtain ⟨c, hc, rfl⟩ := nVs_get hv
      refine ⟨rfl, ?_⟩
      refine c_tup (paC pu_v (paC pu_c pa0)) (Nat.le_of_ble_eq_true rfl) fun t nt => ?_
      refine hR rfl _ _ (Ex.new nt) ⟨t, rfl, hF3 t nt, ?_⟩
      rw [upd_same, hc]
      rfl
    · intro H1 ys e1 h1 pr1
      rw [List.filter_eq_self.mpr (fun _ _ => rfl), nVs_len] at pr1
      have pd : DotsAt Z H1 D (cs.map fun c => (c, 255)) := by
        refine ⟨ys, ⟨hF D hD, h1⟩, ?_⟩
        have := Paired.mapR (F := DotAt Z H1) (g := fun i => (cs[i]?.getD 0, 255)) pr1
        have e : (List.range cs.length).map (fun i => ((cs[i]?.getD 0, 255) : Dot)) = cs.map fun c => (c, 255) := by
          refine List.ext_getElem? fun j => ?_  -- own
          rw [List.getElem?_map, List.getElem?_map]  -- own
          by_cases c : j < cs.length
          · rw [List.getElem?_range c, List.getElem?_eq_getElem c]
            show some (cs[j]?.getD 0, 255) = _
            rw [List.getElem?_eq_getElem c]
            rfl
          · rw [List.getElem?_eq_none (by simpa using c), List.getElem?_eq_none (by simpa using c)] <;> rfl
        rw [e] at this
        exact this
      refine cMk (cC pu_v (cC pu_v (cE ?_)))
      refine cE (cK (cC pu_c (cC pu_v ?_)))
      refine ⟨0, D, cs.map fun c => (c, 255), rfl, fun x dx H2 nx e2 h2 => ?_⟩
      refine ⟨by show 1 ≤ sizeLine; decide, fun L nL => ?_⟩
      have f1 := Ex.new (o := .lst [.ref x]) nL
      refine cC pu_c (cE ⟨by show 1 ≤ sizeLine; decide, fun l0 n0 => ?_⟩)
      have f2 := Ex.new (o := .lst [.int 0]) n0
      refine pu_nmulS pu_v pu_v (by omega) _ ?_
      have hwh : w * h ≤ 144 := Nat.mul_le_mul w12 h12
      refine ⟨l0, _, _, rfl, rfl, upd_same, by omega, by omega, szl (by rw [Int.toNat_natCast]; simp; omega), fun C nC => ?_⟩
      rw [Int.toNat_natCast, flat_zeros]
      have f3 := Ex.new (o := .lst (bVs (List.replicate (w * h) false))) nC
      have e1f := e1.trans (e2.trans (f1.trans (f2.trans f3)))
      refine cC pu_c (cN ?_)
      refine mk_pic T (s := firstS w h cs) (q := L) (c := C) (fun y dy H5 ny e5 h5 => ?_) rfl
      have fz := f1.trans (f2.trans (f3.trans e5))
      refine k y H5 (e1f.trans e5) ⟨dy, L, C, ⟨hF y (e1f.back ny), h5⟩, ⟨_, ⟨hF L (e1.back (e2.back nL)), e5 _ _ (f3 _ _ (f2 _ _ upd_same))⟩, .cons ⟨x, dx, D, rfl, ⟨hF x (e1.back nx), fz _ _ h2⟩, pd.keep ((e2.trans fz).keep Z)⟩ .nil⟩, ⟨hF C (e1.back (e2.back (f1.back (f2.back nC)))), e5 _ _ upd_same⟩⟩
/-- move(picture, more) -/
abbrev Mv := List Dot × List Bool
def mvTurn (s : State) (a b : Int) (x : Mv) (p : Nat) : Mv := if mayP s p = true ∧ besP s.w s.h p (a, b) = true then (x.1.set (besV s.w p (a, b)) (dotP s p), x.2.set (besV s.w p (a, b)) true) else x
def mvAll (s : State) (a b : Int) (n : Nat) : Mv := (List.range n).foldl (mvTurn s a b) (becL s (0, 0), List.replicate (s.w * s.h) false)
def f_move (s : State) : List Nat → Except Int State
  | [a, b] => if 32 < a ∨ 32 < b then .error (-1) else
    let x := mvAll s ((a : Int) - 16) ((b : Int) - 16) (s.w * s.h)
    .ok (if s.chosen.any (fun b => b) = true then withCh (setDots s x.1) x.2 else setDots s x.1)
  | _ => .error 0
theorem mvTurn_len (s : State) (a b : Int) (x : Mv) (p : Nat) : (mvTurn s a b x p).1.length = x.1.length ∧ (mvTurn s a b x p).2.length = x.2.length := by unfold mvTurn; split <;> simp
theorem mvF_len (s : State) (a b : Int) : ∀ (ps : List Nat) (x : Mv), (ps.foldl (mvTurn s a b) x).1.length = x.1.length ∧ (ps.foldl (mvTurn s a b) x).2.length = x.2.length
  | [], x => ⟨rfl, rfl⟩
  | p :: ps, x => by
    rw [List.foldl_cons]
    have h1 := mvF_len s a b ps (mvTurn s a b x p)
    have h2 := mvTurn_len s a b x p
    exact ⟨h1.1.trans h2.1, h1.2.trans h2.2⟩
theorem becL_len (s : State) (d : Dot) : (becL s d).length = s.w * s.h := by unfold becL; rw [List.length_map, List.length_range]
theorem mvAll_len (s : State) (a b : Int) (n : Nat) : (mvAll s a b n).1.length = s.w * s.h ∧ (mvAll s a b n).2.length = s.w * s.h := by
  have := mvF_len s a b (List.range n) (becL s (0, 0), List.replicate (s.w * s.h) false)
  exact ⟨this.1.trans (becL_len s _), this.2.trans (List.length_replicate ..)⟩
theorem mvAll_succ (s : State) (a b : Int) (n : Nat) : mvAll s a b (n + 1) = mvTurn s a b (mvAll s a b n) n := by unfold mvAll; rw [List.range_succ, List.foldl_append]; rfl
theorem besV_lt {w h p : Nat} {x : Int × Int} (w0 : 0 < w) (hb : besP w h p x = true) : besV w p x < w * h :=
  besL_lt (p := p) (ss := [x]) w0 (by unfold besL; rw [List.filter_cons, if_pos hb]; exact List.mem_singleton.mpr rfl)
end
end LP
end
section
set_option maxHeartbeats 4100000
namespace LP
open PySem PySem.Spec PyProof.Rows L2 Evl
open Sq50 (State Layer Dot)
section
variable {P : Program} {w : World} {K : PySem.W.Frag} {mg : Str → Option Value} {base : Heap}
theorem cG {i : Nat} {v : V} {σ : L2.St} {H : Hp} {D : L2.St → Hp → Prop} (h : D (σ.set i (some v)) H) : gName i v σ H D := h
theorem cS {t u : TS} {D : Ends} {σ : L2.St} {H : Hp} (h : t { D with nx := u D } σ H) : tSeq t u D σ H := h
theorem cB {r : List V → Hp → VK → Prop} {ta : TA} {σ : L2.St} {H : Hp} {Q : VK} (h : ta σ H fun vs H1 => r vs H1 Q) : tCB r ta σ H Q := h
theorem dotP_ok {s : State} (W : WF s) {p : Nat} (hp : p < s.w * s.h) : (dotP s p).1 ≤ 255 ∧ (dotP s p).2 ≤ 255 := W.dot _ (layer_mem W) _ (List.mem_of_getElem? (dotP_get W hp))
theorem becL_ok {s : State} (W : WF s) {d : Dot} (h : d.1 ≤ 255 ∧ d.2 ≤ 255) : ∀ x ∈ becL s d, x.1 ≤ 255 ∧ x.2 ≤ 255 := fun x hx => by
  unfold becL at hx
  obtain ⟨p, hp, rfl⟩ := List.mem_map.mp hx
  split
  · exact h
  · exact dotP_ok W (List.mem_range.mp hp)
theorem setDots_on (s : State) (ds : List Dot) : (setDots s ds).on = s.on := rfl
theorem setDots_layer {s : State} (W : WF s) {ds : List Dot} (W2 : WF (setDots s ds)) : (setDots s ds).layer.dots = ds := by
  have h1 := layer_mem W2
  have h2 := layer_id W2
  obtain ⟨l, hl, e⟩ := List.mem_map.mp h1
  rw [setDots_on] at h2
  by_cases c : l.id = s.on
  · rw [if_pos c] at e
    rw [← e]
  · rw [if_neg c] at e
    rw [← e] at h2
    exact absurd h2 c
theorem ok_move (T : Txt K mg) : FnOk P w K mg base (L2.CX P w) 8 T.move.a T.move.fd ["picture", "more"] (spDeed T 2 f_move) := by
  refine T.move.F.okX sc_move (fun vs H Q E h => ?_) (fun cdv A outer s H vs Q E hr h => ⟨_, (pss_cons (ps_if (PW.pt (pw_or (pt_cmpR op_gt (pe_ix ix_list (pv 1) pe_int (fun _ _ => rfl)) (pe_glob (by rfl) T.MOST_MOVE.g T.MOST_MOVE.r) (nomark _)) (pw_or1 (pt_cmpR op_gt (pe_ix ix_list (pv 1) pe_int (fun _ _ => rfl)) (pe_glob (by rfl) T.MOST_MOVE.g T.MOST_MOVE.r) (nomark _)))))
  (pss_one (ps_raiseR rfl T.CannotBe hr (takes_of rfl rfl rfl rfl)))
  pss_nil)
  (pss_cons (ps_set (i := 2) sc_move.nd rfl (by first | exact Or.inl rfl | exact Or.inr rfl) (pe_call (ok_worked_dots T) (hr.mono (by decide)) (by rfl) T.worked_dots.g T.worked_dots.F.kp T.worked_dots.b .nil pass0 (pa_cons (pv 0) pa_nil)))
  (pss_cons (ps_set (i := 3) sc_move.nd rfl (by first | exact Or.inl rfl | exact Or.inr rfl) (pe_callTy call_list_of (by rfl) (T.nb "list" (by decide)) (by decide +kernel) (pa_cons (pe_call (ok_worked_dots T) (hr.mono (by decide)) (by rfl) T.worked_dots.g T.worked_dots.F.kp T.worked_dots.b .nil pass0 (pa_cons (pe_call (ok_with_all_become T) (hr.mono (by decide)) (by rfl) T.with_all_become.g T.with_all_become.F.kp T.with_all_become.b .nil pass0 (pa_cons (pv 0) (pa_cons (pe_tup (pa_cons pe_int (pa_cons pe_int pa_nil))) pa_nil))) pa_nil)) pa_nil)))
  (pss_cons (ps_set (i := 4) sc_move.nd rfl (by first | exact Or.inl rfl | exact Or.inr rfl) (pe_op op_rep (pe_lst (pa_cons pe_int pa_nil)) (pe_callB call_len_seq (by rfl) (T.nb "len" (by decide)) (by decide +kernel) (pa_cons (pv 2) pa_nil))))
  (pss_cons (ps_for (passes_of rfl) rfl (pi_enum (by rfl) (T.nb "enumerate" (by decide)) (pa_cons (pe_call (ok_may_change T) (hr.mono (by decide)) (by rfl) T.may_change.g T.may_change.F.kp T.may_change.b .nil pass0 (pa_cons (pv 0) pa_nil)) pa_nil)) (pg_tup rfl (pgs_cons (pg_name (i := 5) sc_move.nd rfl (by first | exact Or.inl rfl | exact Or.inr rfl)) (pgs_cons (pg_name (i := 6) sc_move.nd rfl (by first | exact Or.inl rfl | exact Or.inr rfl)) pgs_nil)))
  (pss_cons (ps_set (i := 7) sc_move.nd rfl (by first | exact Or.inl rfl | exact Or.inr rfl) (pe_call (ok_place_moved T) (hr.mono (by decide)) (by rfl) T.place_moved.g T.place_moved.F.kp T.place_moved.b .nil pass0 (pa_cons (pv 0) (pa_cons (pv 5) (pa_cons (pe_op op_sub (pe_ix ix_list (pv 1) pe_int (fun _ _ => rfl)) (pe_glob (by rfl) T.NO_MOVE.g T.NO_MOVE.r)) (pa_cons (pe_op op_sub (pe_ix ix_list (pv 1) pe_int (fun _ _ => rfl)) (pe_glob (by rfl) T.NO_MOVE.g T.NO_MOVE.r)) pa_nil))))))
    (pss_one (ps_if (PW.pt (pw_and (pt_truth (pv 6) (by intro _; rfl)) (pw_and1 (pt_cmpR op_ge (pv 7) pe_int (nomark _)))))
    (pss_cons (ps_asg (pe_ix ix_list (pv 2) (pv 5) (fun _ _ => rfl)) (pg_sub (pv 3) (pv 7) set_list))
      (pss_one (ps_asg pe_int (pg_sub (pv 4) (pv 7) set_list))))
    pss_nil))))
  (pss_cons (ps_set (i := 8) sc_move.nd rfl (by first | exact Or.inl rfl | exact Or.inr rfl) (pe_call (ok_with_worked_dots T) (hr.mono (by decide)) (by rfl) T.with_worked_dots.g T.with_worked_dots.F.kp T.with_worked_dots.b .nil pass0 (pa_cons (pv 0) (pa_cons (pv 3) pa_nil))))
  (pss_cons (ps_if (pt_val (pe_callB (cr_anyI rfl) (by rfl) (T.nb "any" (by decide)) (by decide +kernel) (pa_cons (pe_fld (pv 0) rfl) pa_nil)))
  (pss_one (ps_ret (pe_call (ok_with_chosen T) (hr.mono (by decide)) (by rfl) T.with_chosen.g T.with_chosen.F.kp T.with_chosen.b .nil pass0 (pa_cons (pv 8) (pa_cons (pv 4) pa_nil)))))
  pss_nil)
  (pss_one (ps_ret (pv 8)))))))))), ?_⟩)
  · obtain ⟨a, m, Z, s, ms, rfl, _⟩ := h
    rfl
  · obtain ⟨pa, m, Z, s, ms, rfl, hp, W, hF, hm, hn, k⟩ := h
    obtain ⟨a, b, rfl⟩ : ∃ a b, ms = [a, b] := by
      match ms, hn with
      | [a, b], _ => exact ⟨a, b, rfl⟩
    dsimp only [f_move] at k
    have hN := W.n
    have w1 := W.w1
    refine s_if (pt_or (pt_ngt (pu_more rfl hm rfl) (pu_nc 32)) (fun _ => pt_ngt (pu_more rfl hm rfl) (pu_nc 32))) (fun e => ?_) fun e => ?_
    · simp only [Bool.or_eq_true, decide_eq_true_eq] at e
      rw [if_pos e] at k
      exact Rz.go k (Ex.refl H)
    simp only [Bool.or_eq_false_iff, decide_eq_false_iff_not] at e
    rw [if_neg (by omega)] at k
    have W0 : WF (setDots s (becL s (0, 0))) := W.setDots (becL_len s _) (becL_ok W ⟨by decide, by decide⟩)
    -- before
    refine c_call (paC pu_v pa0) ⟨pa, Z, s, rfl, hp, W, fun q0 H1 e1 h1 => ?_⟩
    obtain ⟨bs, hq0, prb⟩ := id h1
    have hbl := Paired.len prb
    have hlw := W.len _ (layer_mem W)
    -- dots
    refine ⟨_, rfl, by show 2 ≤ sizeLine; decide, fun t nt => ?_⟩
    have e2 := Ex.new (o := .tup [.int 0, .int 0]) nt
    have e12 := e1.trans e2
    refine ⟨pa, .ref t, Z, s, (0, 0), rfl, hp.keep (e12.keep Z), W, hF.ex e12, ⟨t, rfl, hF t (e1.back nt), upd_same⟩, fun p1 H3 e3 h3 => ?_⟩
    have e13 := e12.trans e3
    refine ⟨p1, Z, setDots s (becL s (0, 0)), rfl, h3, W0, fun q1 H4 e4 h4 => ?_⟩
    rw [setDots_layer W W0] at h4
    obtain ⟨us0, hq1, pr0⟩ := h4
    have e14 := e13.trans e4
    refine ⟨q1, us0, rfl, .inl hq1.sq, fun D nD => ?_⟩
    have e5 := Ex.new (o := .lst us0) nD
    have nDH : H D = none := e14.back nD
    have e15 := e14.trans e5
    -- reached
    refine ⟨by show 1 ≤ sizeLine; decide, fun l0 n0 => ?_⟩
    have e6 := Ex.new (o := .lst [.int 0]) n0
    have e16 := e15.trans e6
    have hq06 := hq0.keep ((e2.trans (e3.trans (e4.trans (e5.trans e6)))).keep Z)
    refine ⟨_, rfl, q0, _, rfl, .inl hq06.sq, l0, _, _, rfl, rfl, upd_same, by omega, by omega, szl (by rw [Int.toNat_natCast]; simp; omega), fun Rr nR => ?_⟩
    rw [Int.toNat_natCast, hbl, hlw, flat_zeros]
    have e7 := Ex.new (o := .lst (bVs (List.replicate (s.w * s.h) false))) nR
    have e17 := e16.trans e7
    have nRH : H Rr = none := e16.back nR
    have nDR : D ≠ Rr := ne_of_none (e6 _ _ (upd_same (H := H4) (a := D) (o := .lst us0))) nR
    -- may_change
    have zbH : ∀ b, Z b → H b ≠ none → But (But Z D) Rr b := fun b z n => ⟨⟨z, fun q => n (q ▸ nDH)⟩, fun q => n (q ▸ nRH)⟩
    have fr7 : Free (But (But Z D) Rr) (upd (upd (upd H4 D (.lst us0)) l0 (.lst [.int 0])) Rr (.lst (bVs (List.replicate (s.w * s.h) false)))) := fun b hb => ⟨⟨hF b (e17.back hb), fun q => by rw [q, (e6.trans e7) _ _ (upd_same (H := H4) (a := D) (o := .lst us0))] at hb; cases hb⟩, fun q => by rw [q, upd_same] at hb; cases hb⟩
    refine c_call (paC pu_v pa0) ⟨pa, But (But Z D) Rr, s, rfl, (hp.imp zbH).keep (e17.keep _), W, fr7, fun mc H8 e8 h8 => ?_⟩
    have e18 := e17.trans e8
    -- all but the two that change
    have zb : ∀ b, Z b → H4 b ≠ none → But (But Z D) Rr b := fun b z n => ⟨⟨z, fun q => n (q ▸ nD)⟩, fun q => n (by have := (e5.trans e6).back (q ▸ nR : _ = none); exact this)⟩
    have zb1 : ∀ b, Z b → H1 b ≠ none → But (But Z D) Rr b := fun b z n => zb b z (fun q => n ((e2.trans (e3.trans e4)).back q))
    have nzD : ¬ But (But Z D) Rr D := fun z => z.1.2 rfl
    have nzR : ¬ But (But Z D) Rr Rr := fun z => z.2 rfl
    have e58 := e5.trans (e6.trans (e7.trans e8))
    have e28 := (e2.trans (e3.trans e4)).trans e58
    have pr0' : Paired (DotAt (But (But Z D) Rr) H8) us0 (becL s (0, 0)) := Paired.imp (fun _ _ z => (z.imp zb).keep (e58.keep _)) pr0
    have prb' : Paired (DotAt (But (But Z D) Rr) H8) bs s.layer.dots := Paired.imp (fun _ _ z => (z.imp zb1).keep (e28.keep _)) prb
    have hq0' : At (But (But Z D) Rr) H8 q0 (.lst bs) := (hq0.imp zb1).keep (e28.keep _)
    have fr8 : Free (But (But Z D) Rr) H8 := fun b hb => ⟨⟨hF b (e18.back hb), fun q => by rw [q, (e6.trans (e7.trans e8)) _ _ (upd_same (H := H4) (a := D) (o := .lst us0))] at hb; cases hb⟩, fun q => by rw [q, e8 _ _ upd_same] at hb; cases hb⟩
    have hmlen : (bVs (mayL s)).length = s.w * s.h := may_len W
    have nmD : mc ≠ D ∧ mc ≠ Rr := ⟨h8.z.1.2, h8.z.2⟩
    refine ⟨mc, _, rfl, h8.sq, ?_⟩
    refine for_it wk_enum (fun i σ H' => ∃ x y z u, σ = [some (.ref pa), some (.ref m), some (.ref q0), some (.ref D), some (.ref Rr), x, y, z, u] ∧ Ex H H' ∧ Keep (But (But Z D) Rr) H8 H' ∧ Free (But (But Z D) Rr) H' ∧ H' mc = some (.lst (bVs (mayL s))) ∧ ∃ us, H' D = some (.lst us) ∧ Paired (DotAt (But (But Z D) Rr) H') us (mvAll s ((a : Int) - 16) ((b : Int) - 16) i).1 ∧ H' Rr = some (.lst (bVs (mvAll s ((a : Int) - 16) ((b : Int) - 16) i).2)))
      ⟨none, none, none, none, rfl, e18, fun _ _ _ h => h, fr8, h8.h, us0, (e6.trans (e7.trans e8)) _ _ upd_same, pr0', e8 _ _ upd_same⟩ (fun i σ H' _ ⟨_, _, _, _, _, _, _, _, hm, _⟩ => SqL.of hm) ?_ ?_
    · rintro i v σ H9 HA hi ⟨x, y, z, u, rfl, eH, kH, fH, hmc, us, hus, pus, hrr⟩ ⟨tt, yv, rfl, ntt, rfl, hv⟩
      obtain ⟨fb, hfb, rfl⟩ := bVs_get hv
      have hiN : i < s.w * s.h := by omega
      have efb : mayP s i = fb := by unfold mayP; rw [hfb]; rfl
      have eT := Ex.new (o := .tup [nV i, bV fb]) ntt
      have eHT := eH.trans eT
      refine ⟨tt, _, rfl, SqT.of upd_same, rfl, _, _, rfl, _, _, rfl, rfl, ?_⟩
      refine cS (cA (cK (cC pu_v (cC pu_v (cC (pu_sub (pu_more rfl (eHT _ _ hm) rfl) (pu_nc 16)) (cC (pu_sub (pu_more rfl (eHT _ _ hm) rfl) (pu_nc 16)) ?_))))))
      refine ⟨pa, Z, s, i, (a : Int) - 16, (b : Int) - 16, rfl, hp.keep (eHT.keep Z), W, by omega, ?_⟩
      have lens := mvAll_len s ((a : Int) - 16) ((b : Int) - 16) i
      have hul : us.length = s.w * s.h := (Paired.len pus).trans lens.1
      have hmv : (0 ≤ movP s.w s.h i ((a : Int) - 16) ((b : Int) - 16)) ↔ besP s.w s.h i ((a : Int) - 16, (b : Int) - 16) = true := by
        unfold movP
        split
        · rename_i hh; exact ⟨fun _ => hh, fun _ => by omega⟩
        · rename_i hh; exact ⟨fun q => by omega, fun q => absurd q hh⟩
      refine s_if (b := fb && besP s.w s.h i ((a : Int) - 16, (b : Int) - 16)) (pt_is (pt_and (pt_tru0 (K := K) pu_v) (fun _ => pt_cmp pu_v pu_c)) ?_) (fun ee => ?_) fun ee => ?_
      · congr 1
        · cases fb <;> rfl
        · by_cases hb : besP s.w s.h i ((a : Int) - 16, (b : Int) - 16) = true
          · rw [hb, decide_eq_true (hmv.mpr hb)]
          · rw [Bool.not_eq_true] at hb
            rw [hb, decide_eq_false (fun q => by rw [hmv.mp q] at hb; cases hb)]
      · rw [Bool.and_eq_true] at ee
        have hmP : movP s.w s.h i ((a : Int) - 16) ((b : Int) - 16) = ((besV s.w i ((a : Int) - 16, (b : Int) - 16) : Nat) : Int) := by unfold movP; rw [if_pos ee.2]
        rw [hmP]
        have htl := besV_lt (by omega) ee.2
        generalize besV s.w i ((a : Int) - 16, (b : Int) - 16) = tg at htl hmP ⊢
        obtain ⟨bv, hbv, hbd⟩ := Paired.get (Paired.imp (fun _ _ z => DotAt.keep (kH.trans (eT.keep _)) z) prb') (dotP_get W hiN)
        have hq0T := (hq0'.keep kH).keep (eT.keep _)
        refine pu_ixL (n := i) pu_v pu_v hq0T.sq rfl hbv _ ?_
        have husT := eT _ _ hus
        refine ⟨_, rfl, _, rfl, D, us, _, tg, rfl, rfl, husT, by rw [hul]; exact ixN_lt htl, ?_⟩
        have hrrT : (upd (upd H9 tt (.tup [nV i, bV fb])) D (.lst (us.set tg bv))) Rr = some (.lst (bVs (mvAll s ((a : Int) - 16) ((b : Int) - 16) i).2)) := by rw [upd_ne (Ne.symm nDR)]; exact eT _ _ hrr
        refine ⟨_, rfl, _, rfl, Rr, _, _, tg, rfl, rfl, hrrT, by rw [bVs_len, lens.2]; exact ixN_lt htl, ?_⟩
        have kp2 : Keep (But (But Z D) Rr) (upd H9 tt (.tup [nV i, bV fb])) (upd (upd (upd H9 tt (.tup [nV i, bV fb])) D (.lst (us.set tg bv))) Rr (.lst ((bVs (mvAll s ((a : Int) - 16) ((b : Int) - 16) i).2).set tg (.int 1)))) := fun b' o zb' h => by rw [upd_ne zb'.2, upd_ne zb'.1.2]; exact h
        have et : mvAll s ((a : Int) - 16) ((b : Int) - 16) (i + 1) = ((mvAll s ((a : Int) - 16) ((b : Int) - 16) i).1.set tg (dotP s i), (mvAll s ((a : Int) - 16) ((b : Int) - 16) i).2.set tg true) := by
          rw [mvAll_succ]
          unfold mvTurn
          rw [if_pos ⟨by rw [efb]; exact ee.1, ee.2⟩]
          have : ((besV s.w i ((a : Int) - 16, (b : Int) - 16) : Nat) : Int) = (tg : Int) := by rw [← hmP]; unfold movP; rw [if_pos ee.2]
          have : besV s.w i ((a : Int) - 16, (b : Int) - 16) = tg := by omega
          rw [this]
        refine ⟨_, _, _, _, rfl, Ex.mut (Ex.mut eHT nDH) nRH, kH.trans ((eT.keep _).trans kp2), fun b' hb' => ?_, ?_, us.set tg bv, ?_, ?_, ?_⟩
        · have ne1 : b' ≠ Rr := fun q => by rw [q, upd_same] at hb'; cases hb'
          rw [upd_ne ne1] at hb'
          have ne2 : b' ≠ D := fun q => by rw [q, upd_same] at hb'; cases hb'
          rw [upd_ne ne2] at hb'
          exact fH b' (eT.back hb')
        · rw [upd_ne nmD.2, upd_ne nmD.1]; exact eT _ _ hmc
        · rw [upd_ne nDR, upd_same]
        · rw [et]
          exact Paired.set (hbd.keep kp2) _ (Paired.imp (fun _ _ z => (z.keep (eT.keep _)).keep kp2) pus)
        · rw [et, upd_same]
          have := bVs_set (mvAll s ((a : Int) - 16) ((b : Int) - 16) i).2 tg true
          exact congrArg (fun z => some (HO.lst z)) this
      · have et : mvAll s ((a : Int) - 16) ((b : Int) - 16) (i + 1) = mvAll s ((a : Int) - 16) ((b : Int) - 16) i := by
          rw [mvAll_succ]
          unfold mvTurn
          rw [if_neg]
          rintro ⟨z1, z2⟩
          rw [efb] at z1
          rw [z1, z2] at ee
          cases ee
        refine ⟨_, _, _, _, rfl, eHT, kH.trans (eT.keep _), fH.ex eT, eT _ _ hmc, us, eT _ _ hus, ?_, ?_⟩
        · rw [et]; exact Paired.imp (fun _ _ z => z.keep (eT.keep _)) pus
        · rw [et]; exact eT _ _ hrr
    · rintro σ H9 ⟨x, y, z, u, rfl, eH, kH, fH, hmc, us, hus, pus, hrr⟩
      rw [hmlen] at pus hrr
      have lens := mvAll_len s ((a : Int) - 16) ((b : Int) - 16) (s.w * s.h)
      generalize mvAll s ((a : Int) - 16) ((b : Int) - 16) (s.w * s.h) = xx at *
      -- moved
      refine ⟨_, rfl, _, rfl, pa, D, Z, s, xx.1, rfl, hp.keep (eH.keep Z), W, hF.ex eH, ⟨us, ⟨hF D nDH, hus⟩, Paired.imp (fun _ _ z => z.imp (fun _ q _ => q.1.1)) pus⟩, fun p2 HB eB hB => ?_⟩
      have eHB := eH.trans eB
      obtain ⟨dx, ql, c, ha, hl, hc⟩ := hp.keep (eHB.keep Z)
      have hch : SqL K HB c ((s.chosen.map fun b => (b.toNat : Int)).map V.int) := by rw [← bVs_ints]; exact hc.sq
      refine ⟨_, rfl, pa, _, dx, _, _, rfl, ha.h, T.Picture.cl, T.Picture.no _ (by decide), pf_chosen _ _ _, c, _, rfl, hch, _, rfl, ?_⟩
      rw [any_bits]
      cases hany : s.chosen.any (fun b => b) with
      | true =>
        rw [hany] at k
        refine ifT rfl ?_
        obtain ⟨dx2, ql2, c2, ha2, hl2, hc2⟩ := id hB
        refine cK (cC pu_v (cC pu_v ?_))
        refine ⟨p2, dx2, ql2, c2, Rr, setDots s xx.1, xx.2, rfl, ha2.h, fun p3 d3 HC nC eC hC => ?_⟩
        refine k p3 HC (eHB.trans eC) ⟨d3, ql2, Rr, ⟨hF p3 (eHB.back nC), hC⟩, hl2.keep (eC.keep Z), ⟨hF Rr nRH, (eB.trans eC) _ _ hrr⟩⟩
      | false =>
        rw [hany] at k
        refine ifF rfl ?_
        exact ⟨_, rfl, k p2 HB eHB hB⟩
end
end LP
end
section
set_option maxHeartbeats 4100000
namespace LP
open PySem PySem.Spec PyProof.Rows L2 Evl
open Sq50 (State Layer Dot)
section
variable {P : Program} {w : World} {K : PySem.W.Frag} {mg : Str → Option Value} {base : Heap}
/-- whole_size(picture) -/
def sp_whole_size (T : Txt K mg) : Sp := fun vs H Q _ => ∃ (a : Addr) (Z : Addr → Prop) (s : State), vs = [.ref a] ∧ Pic T Z H a s ∧ WF s ∧ Q (nV ((s.layers.length + 1) * (s.w * s.h))) H
theorem ok_whole_size (T : Txt K mg) : FnOk P w K mg base CX0 1 T.whole_size.a T.whole_size.fd ["picture"] (sp_whole_size T) := by
  refine T.whole_size.F.ok sc_whole_size (fun vs H Q E h => ?_) (fun cdv A outer s H vs Q E hr h => ⟨_, (pss_one (ps_ret (pe_op op_mul (pe_op op_mul (pe_op op_add (pe_callB call_len_seq (by rfl) (T.nb "len" (by decide)) (by decide +kernel) (pa_cons (pe_fld (pv 0) rfl) pa_nil)) pe_int) (pe_fld (pv 0) rfl)) (pe_fld (pv 0) rfl)))), ?_⟩)
  · obtain ⟨a, Z, s, rfl, _⟩ := h
    rfl
  · obtain ⟨pa, Z, s, rfl, hp, W, k⟩ := h
    obtain ⟨dx, ql, c, ha, ⟨ls, hq, pr⟩, hc⟩ := hp
    have n5 := W.n5
    have w12 := W.w12
    have hln := Paired.len pr
    have fld : ∀ (σ : L2.St) (f : Str) (u : V), σ[0]? = some (some (.ref pa)) → f ∈ (["w", "h", "layers", "worked", "chosen", "made"] : List Str) → (picF s ql c).lookup f = some u → Pu (tFld K (tVar 0) f) σ H u :=
      fun σ f u hs hf hu => pu_fld (pu_var hs) ha.h T.Picture.cl (T.Picture.no f hf) hu
    have hm : (s.layers.length + 1) * s.w ≤ 6 * 12 := Nat.mul_le_mul (by omega) w12
    refine s_ret (pu_is (pu_nmulS (pu_nmulS (pu_nadd (pu_is (pu_lenL (K := K) (fld _ "layers" _ rfl (by decide) (pf_layers _ _ _)) hq.sq) (by show nV ls.length = nV s.layers.length; rw [hln])) (pu_nc 1)) (fld _ "w" _ rfl (by decide) (pf_w _ _ _)) (by omega)) (fld _ "h" _ rfl (by decide) (pf_h _ _ _)) (by omega)) ?_) k
    rw [Nat.mul_assoc]
/-- differing(before, after) -/
def sp_differing (T : Txt K mg) : Sp := fun vs H Q _ => ∃ (a b : Addr) (xs ys : List V) (f : Nat → Bool), vs = [.ref a, .ref b] ∧ H a = some (.lst xs) ∧ H b = some (.lst ys) ∧ xs.length = ys.length ∧ xs.length ≤ 1000 ∧
  (∀ (i : Nat) (x y : V) (H' : Hp), Ex H H' → xs[i]? = some x → ys[i]? = some y → ∃ d e, Dp K H' x d ∧ Dp K H' y e ∧ SeqAt.shaped d = true ∧ SeqAt.shaped e = true ∧ (!PyData.eqv d e) = f i) ∧ Rv (nV ((List.range xs.length).filter f).length) H Q
theorem ones_sum {α : Type} : ∀ l : List α, (l.map fun _ => (1 : Int)).sum = (l.length : Int)
  | [] => rfl
  | a :: l => by rw [List.map_cons, List.sum_cons, ones_sum l, List.length_cons]; omega
theorem ok_differing (T : Txt K mg) : FnOk P w K mg base CX0 1 T.differing.a T.differing.fd ["before", "after"] (sp_differing T) := by
  refine T.differing.F.ok sc_differing (fun vs H Q E h => ?_) (fun cdv A outer s H vs Q E hr h => ⟨_, (pss_one (ps_ret (pe_callB (cr_sum rfl) (by rfl) (T.nb "sum" (by decide)) (by decide +kernel) (pa_cons (pe_lc (own := [("old", 2), ("new", 3)]) (g := (gTup K 2 (gCons (gName 2) (gCons (gName 3) gNil)))) rfl sc_differing.nd (pi_zip (by rfl) (T.nb "zip" (by decide)) (pa_cons (pv 0) (pa_cons (pv 1) pa_nil))) (blkOk_by (own := [("old", 2), ("new", 3)]) (N := N_differing) (sc := defScope s_differing) (by decide +kernel)) (fun _ _ _ _ _ => (pg_tup rfl (pgs_cons (pg_name (i := 2) sc_differing.nd rfl (by first | exact Or.inl rfl | exact Or.inr rfl)) (pgs_cons (pg_name (i := 3) sc_differing.nd rfl (by first | exact Or.inl rfl | exact Or.inr rfl)) pgs_nil)))) (fun _ _ _ _ _ => (pts_one (pt_cmpR (op_neDK (K := K) rfl hr.units) (pv 2) (pv 3) (nomark _)))) (fun _ _ _ _ _ => pe_int)) pa_nil)))), ?_⟩)
  · obtain ⟨a, b, xs, ys, f, rfl, _⟩ := h
    rfl
  · obtain ⟨a, b, xs, ys, f, rfl, ha, hb, hl, h1000, hd, k⟩ := h
    refine ⟨_, rfl, _, rfl, a, b, _, _, rfl, SqL.of ha, SqL.of hb, fun D hD => ?_⟩
    refine lcV (wk_zip hl) f (fun _ => nV 1) (by omega) hD (fun H1 e => ⟨SqL.of (e _ _ ha), SqL.of (e _ _ hb)⟩) ?_ ?_
    · rintro i x H1 H2 R S hi e ⟨t, u, v, rfl, ht, rfl, hu, hv⟩ hR hS
      have e2 := Ex.new (o := .tup [u, v]) ht
      refine ⟨t, _, rfl, SqT.of upd_same, rfl, _, _, rfl, _, _, rfl, rfl, rfl, ?_⟩
      obtain ⟨d, e', h1, h2, h3, h4, h5⟩ := hd i u v _ (e.trans e2) hu hv
      refine ⟨_, rfl, _, rfl, d, e', h1, h2, h3, h4, _, rfl, ?_⟩
      rw [h5]
      cases hf : f i with
      | true => exact ifT rfl (hR hf _ e2)
      | false => exact ifF rfl (hS hf _ e2)
    · intro H1 e h1
      have : given xs.length f (fun _ => nV 1) = (((List.range xs.length).filter f).map fun _ => (1 : Int)).map V.int := by
        unfold given
        rw [List.map_map]
        rfl
      rw [this] at h1
      refine ⟨D, _, rfl, SqL.of h1, ?_⟩
      rw [ones_sum]
      exact k _ e
theorem diff_zip {α : Type} [BEq α] : ∀ (as bs : List α) (f : Nat → Bool), as.length = bs.length → (∀ (i : Nat) (a b : α), as[i]? = some a → bs[i]? = some b → f i = (a != b)) → ((List.range as.length).filter f).length = ((as.zip bs).filter fun x => x.1 != x.2).length
  | [], _, _, _, _ => by simp
  | _ :: _, [], _, h, _ => by simp at h
  | a :: as, b :: bs, f, h, hf => by
    have ih := diff_zip as bs (fun i => f (i + 1)) (by simpa using h) (fun i x y hx hy => hf (i + 1) x y (by simpa using hx) (by simpa using hy))
    have h0 := hf 0 a b rfl rfl
    rw [List.length_cons, List.range_succ_eq_map, List.zip_cons_cons]
    have e : ((List.range as.length).map Nat.succ).filter f = ((List.range as.length).filter (fun i => f (i + 1))).map Nat.succ := by
      rw [List.filter_map]; rfl
    by_cases c : f 0 = true
    · rw [List.filter_cons_of_pos c, List.filter_cons_of_pos (by rw [← h0]; exact c), e, List.length_cons, List.length_cons, List.length_map, ih]
    · rw [List.filter_cons_of_neg c, List.filter_cons_of_neg (by rw [← h0]; exact c), e, List.length_map, ih]
theorem dot_data {Z : Addr → Prop} {H : Hp} {x y : V} {d e : Dot} (hx : DotAt Z H x d) (hy : DotAt Z H y e) : ∃ p q, Dp K H x p ∧ Dp K H y q ∧ SeqAt.shaped p = true ∧ SeqAt.shaped q = true ∧ (!PyData.eqv p q) = (d != e) := by
  obtain ⟨a, rfl, ha⟩ := hx
  obtain ⟨b, rfl, hb⟩ := hy
  refine ⟨.tuple [.int d.1, .int d.2], .tuple [.int e.1, .int e.2], .tup ha.st (.cons (.int _) (.cons (.int _) .nil)), .tup hb.st (.cons (.int _) (.cons (.int _) .nil)), ?_, ?_, ?_⟩
  · rfl
  · rfl
  · obtain ⟨d1, d2⟩ := d
    obtain ⟨e1, e2⟩ := e
    have i1 : ((d1 : Int) == (e1 : Int)) = (d1 == e1) := by
      by_cases h : d1 = e1
      · subst h; simp
      · rw [beq_false_of_ne h, beq_false_of_ne (by omega)]
    have i2 : ((d2 : Int) == (e2 : Int)) = (d2 == e2) := by
      by_cases h : d2 = e2
      · subst h; simp
      · rw [beq_false_of_ne h, beq_false_of_ne (by omega)]
    show (!(((d1 : Int) == (e1 : Int)) && (((d2 : Int) == (e2 : Int)) && true))) = !((d1 == e1) && (d2 == e2))
    rw [i1, i2, Bool.and_true]
theorem bit_data {H : Hp} (a b : Bool) : ∃ p q, Dp K H (bV a) p ∧ Dp K H (bV b) q ∧ SeqAt.shaped p = true ∧ SeqAt.shaped q = true ∧ (!PyData.eqv p q) = (a != b) := ⟨_, _, .int _, .int _, rfl, rfl, by cases a <;> cases b <;> rfl⟩
/-- differing, of dots -/
theorem differing_dots (T : Txt K mg) {Z Z' : Addr → Prop} {H : Hp} {a b : Addr} {ds es : List Dot} {Q : VK} {E : XK} (ha : DotsAt Z H a ds) (hb : DotsAt Z' H b es) (hl : ds.length = es.length) (h : ds.length ≤ 1000)
    (k : Rv (nV ((ds.zip es).filter fun x => x.1 != x.2).length) H Q) : sp_differing T [.ref a, .ref b] H Q E := by
  obtain ⟨xs, hx, px⟩ := ha
  obtain ⟨ys, hy, py⟩ := hb
  have l1 := Paired.len px
  have l2 := Paired.len py
  have hf : ∀ (i : Nat) (u v : Dot), ds[i]? = some u → es[i]? = some v → (ds[i]?.getD (0, 0) != es[i]?.getD (0, 0)) = (u != v) := fun i u v h1 h2 => by rw [h1, h2]; rfl
  refine ⟨a, b, xs, ys, fun i => ds[i]?.getD (0, 0) != es[i]?.getD (0, 0), rfl, hx.h, hy.h, by omega, by omega, fun i x y H' e h1 h2 => ?_, ?_⟩
  · obtain ⟨u, h3, h4⟩ := Paired.get' px h1
    obtain ⟨v, h5, h6⟩ := Paired.get' py h2
    dsimp only
    rw [hf i u v h3 h5]
    exact dot_data (Z := fun _ => True) ((h4.imp fun _ _ _ => trivial).keep (e.keep _)) ((h6.imp fun _ _ _ => trivial).keep (e.keep _))
  · rw [l1, diff_zip ds es _ hl hf]
    exact k
theorem differing_bits (T : Txt K mg) {H : Hp} {a b : Addr} {ds es : List Bool} {Q : VK} {E : XK} (ha : H a = some (.lst (bVs ds))) (hb : H b = some (.lst (bVs es))) (hl : ds.length = es.length) (h : ds.length ≤ 1000)
    (k : Rv (nV ((ds.zip es).filter fun x => x.1 != x.2).length) H Q) : sp_differing T [.ref a, .ref b] H Q E := by
  have hf : ∀ (i : Nat) (u v : Bool), ds[i]? = some u → es[i]? = some v → (ds[i]?.getD false != es[i]?.getD false) = (u != v) := fun i u v h1 h2 => by rw [h1, h2]; rfl
  refine ⟨a, b, _, _, fun i => ds[i]?.getD false != es[i]?.getD false, rfl, ha, hb, by rw [bVs_len, bVs_len]; exact hl, by rw [bVs_len]; exact h, fun i x y H' e h1 h2 => ?_, ?_⟩
  · obtain ⟨u, h3, rfl⟩ := bVs_get h1
    obtain ⟨v, h5, rfl⟩ := bVs_get h2
    dsimp only
    rw [hf i u v h3 h5]
    exact bit_data u v
  · rw [bVs_len, diff_zip ds es _ hl hf]
    exact k
/-- the layers' dots by their numbers -/
def KvAt (Z : Addr → Prop) (H : Hp) (kv : Key × V) (l : Layer) : Prop := kv.1 = .inl (l.id : Int) ∧ ∃ q, kv.2 = .ref q ∧ DotsAt Z H q l.dots
theorem KvAt.keep {Z : Addr → Prop} {H H' : Hp} {kv : Key × V} {l : Layer} (k : Keep Z H H') (x : KvAt Z H kv l) : KvAt Z H' kv l := by obtain ⟨e, q, h1, h2⟩ := x; exact ⟨e, q, h1, h2.keep k⟩
theorem kv_find {Z : Addr → Prop} {H : Hp} (n : Nat) : ∀ {kvs : List (Key × V)} {ls : List Layer}, Paired (KvAt Z H) kvs ls →
    (ls.find? (fun m => m.id == n) = none ∧ valV kvs (.inl (n : Int)) = none) ∨ ∃ m q, ls.find? (fun m => m.id == n) = some m ∧ valV kvs (.inl (n : Int)) = some (.ref q) ∧ DotsAt Z H q m.dots
  | _, _, .nil => .inl ⟨rfl, rfl⟩  -- own
  | (k, v) :: kvs, l :: ls, .cons ⟨e, q, h1, h2⟩ t => by
    simp only at e h1
    subst e h1
    by_cases c : l.id = n
    · refine .inr ⟨l, q, ?_, ?_, h2⟩
      · rw [List.find?_cons_of_pos (by simp [c])]
      · unfold valV
        rw [List.find?_cons_of_pos (by simp [c])]
        rfl
    · have c1 : ls.find? (fun m => m.id == n) = (l :: ls).find? (fun m => m.id == n) := by rw [List.find?_cons_of_neg (by simp [c])]
      have c2 : valV kvs (.inl (n : Int)) = valV ((.inl (l.id : Int), V.ref q) :: kvs) (.inl (n : Int)) := by
        unfold valV
        rw [List.find?_cons_of_neg]
        simp only [decide_eq_true_eq]
        intro z
        injection z with z
        omega
      rw [← c1, ← c2]
      exact kv_find n t
theorem kv_get' {Z : Addr → Prop} {H : Hp} {kvs : List (Key × V)} {s : State} (W : WF s) (p : Paired (KvAt Z H) kvs s.layers) {l : Layer} (hl : l ∈ s.layers) : ∃ q, valV kvs (.inl (l.id : Int)) = some (.ref q) ∧ DotsAt Z H q l.dots := by
  rcases kv_find l.id p with ⟨h, _⟩ | ⟨m, q, h1, h2, h3⟩
  · have := List.find?_eq_none.mp h l hl
    simp at this
  · have e1 := List.mem_of_find?_eq_some h1
    have e2 : m.id = l.id := by simpa using List.find?_some h1
    rw [id_inj W e1 hl e2] at h3
    exact ⟨q, h2, h3⟩
theorem merge_new : ∀ (more kvs : List (Key × V)), ((kvs ++ more).map (·.1)).Nodup → mergeK kvs more = kvs ++ more
  | [], kvs, _ => by rw [List.append_nil]; rfl
  | p :: r, kvs, h => by
    have hn : (kvs.any fun kv => decide (kv.1 = p.1)) ≠ true := by
      intro z
      obtain ⟨x, hx, e⟩ := List.any_eq_true.mp z
      have e := of_decide_eq_true e
      rw [List.map_append, List.map_cons] at h
      have := (List.nodup_append.mp h).2.2 x.1 (List.mem_map.mpr ⟨x, hx, rfl⟩) p.1 (List.mem_cons_self ..)
      exact this e
    have e : putK kvs p.1 p.2 = kvs ++ [p] := by unfold putK; rw [if_neg hn]
    show mergeK (putK kvs p.1 p.2) r = _
    rw [e, merge_new r (kvs ++ [p]) (by rw [List.append_assoc]; exact h), List.append_assoc]
    rfl
/-- dots_by_number(picture) -/
def sp_dots_by_number (T : Txt K mg) : Sp := fun vs H Q _ => ∃ (a : Addr) (Z : Addr → Prop) (s : State), vs = [.ref a] ∧ Pic T Z H a s ∧ WF s ∧
  ∀ d H' kvs, H d = none → Ex H H' → H' d = some (.dK kvs) → Paired (KvAt Z H) kvs s.layers → Q (.ref d) H'
theorem nodup_keys {Z : Addr → Prop} {H : Hp} : ∀ {kvs : List (Key × V)} {ls : List Layer}, Paired (KvAt Z H) kvs ls → kvs.map (·.1) = ls.map fun l => (.inl (l.id : Int) : Key)
  | _, _, .nil => rfl
  | _, _, .cons h t => by rw [List.map_cons, List.map_cons, h.1, nodup_keys t]
theorem keys_nodup {ls : List Layer} (h : (ls.map (·.id)).Nodup) : (ls.map fun l => (.inl (l.id : Int) : Key)).Nodup := by
  have e : (ls.map fun l => (.inl (l.id : Int) : Key)) = (ls.map (·.id)).map fun (n : Nat) => (.inl (n : Int) : Key) := by rw [List.map_map]; rfl
  rw [e]
  exact List.Pairwise.map _ (fun a b hab z => hab (by injection z with z; omega)) h
def PrAt (ls : List Layer) (Z0 : Addr → Prop) (H0 : Hp) (Z : Addr → Prop) (i : Nat) (y : V) (H : Hp) : Prop := ∃ p q l, ls[i]? = some l ∧ y = .ref p ∧ At Z H p (.tup [nV l.id, .ref q]) ∧ DotsAt Z0 H0 q l.dots
theorem pr_split {Z0 Z : Addr → Prop} {H0 H : Hp} {ls : List Layer} : ∀ {ys : List V} {is : List Nat}, Paired (fun y i => PrAt ls Z0 H0 Z i y H) ys is →
    ∃ (ps : List Addr) (kvs : List (Key × V)), ys = ps.map V.ref ∧ Paired (fun p kv => SqT K H p [kV kv.1, kv.2]) ps kvs ∧ Paired (fun kv i => ∃ l, ls[i]? = some l ∧ KvAt Z0 H0 kv l) kvs is
  | _, _, .nil => ⟨[], [], rfl, .nil, .nil⟩
  | _, _, .cons ⟨p, q, l, h1, h2, h3, h4⟩ t => by
    obtain ⟨ps, kvs, e1, e2, e3⟩ := pr_split t
    subst h2
    exact ⟨p :: ps, (.inl (l.id : Int), .ref q) :: kvs, by rw [e1]; rfl, .cons h3.st e2, .cons ⟨l, h1, rfl, q, rfl, h4⟩ e3⟩
theorem pr_list {Z : Addr → Prop} {H : Hp} {ls : List Layer} {kvs : List (Key × V)} (h : Paired (fun kv i => ∃ l, ls[i]? = some l ∧ KvAt Z H kv l) kvs (List.range ls.length)) : Paired (KvAt Z H) kvs ls := by
  refine Paired.of_get (by rw [Paired.len h, List.length_range]) fun i kv l h1 h2 => ?_
  have hi := (List.getElem?_eq_some_iff.mp h2).1
  obtain ⟨j, e, m, h3, h4⟩ := Paired.get' h h1
  rw [List.getElem?_range hi] at e
  cases e
  rw [h2] at h3
  cases h3
  exact h4
theorem ok_dots_by_number (T : Txt K mg) : FnOk P w K mg base CX0 1 T.dots_by_number.a T.dots_by_number.fd ["picture"] (sp_dots_by_number T) := by
  refine T.dots_by_number.F.ok sc_dots_by_number (fun vs H Q E h => ?_) (fun cdv A outer s H vs Q E hr h => ⟨_, (pss_one (ps_ret (pe_callTy (call_dictP rfl) (by rfl) (T.nb "dict" (by decide)) (by decide +kernel) (pa_cons (pe_lc (own := [("layer", 1)]) (g := (gName 1)) rfl sc_dots_by_number.nd (pi_list (pe_fld (pv 0) rfl)) (blkOk_by (own := [("layer", 1)]) (N := N_dots_by_number) (sc := defScope s_dots_by_number) (by decide +kernel)) (fun _ _ _ _ _ => (pg_name (i := 1) sc_dots_by_number.nd rfl (by first | exact Or.inl rfl | exact Or.inr rfl))) (fun _ _ _ _ _ => pts_nil) (fun _ _ _ _ _ => (pe_tup (pa_cons (pe_fldK (K := K) rfl (pv 1) rfl) (pa_cons (pe_fldK (K := K) rfl (pv 1) rfl) pa_nil))))) pa_nil)))), ?_⟩)
  · obtain ⟨a, Z, s, rfl, _⟩ := h
    rfl
  · obtain ⟨pa, Z, s, rfl, hp, W, k⟩ := h
    obtain ⟨dx, ql, c, ha, ⟨ls, hq, pr⟩, hc⟩ := hp
    have n5 := W.n5
    have hln := Paired.len pr
    refine ⟨_, rfl, pa, _, dx, _, _, rfl, ha.h, T.Picture.cl, T.Picture.no _ (by decide), pf_layers _ _ _, ql, rfl, ⟨_, hq.sq⟩, fun D hD => ?_⟩
    refine lcP walk_list (fun _ => true) (PrAt s.layers Z H) (Z := fun b => H b = none) (by omega) hD (fun b h => h) (fun H1 e => (hq.keep (e.keep Z)).sq) ?_ ?_ ?_ ?_
    · rintro Z' i y H1 H2 kk ⟨p, q, l, h1, h2, h3, h4⟩
      exact ⟨p, q, l, h1, h2, h3.keep kk, h4⟩
    · rintro Z1 Z2 i y H1 kk ⟨p, q, l, h1, h2, h3, h4⟩
      exact ⟨p, q, l, h1, h2, h3.imp kk, h4⟩
    · rintro Z' hz i x H1 H2 R S hi e hfr ⟨rfl, hx⟩ hR _
      obtain ⟨l, hl, b, db, qb, rfl, hb, hd⟩ := Paired.get' pr hx
      have hb := hb.keep (e.keep Z)
      refine ⟨rfl, ?_⟩
      refine ⟨_, rfl, b, _, db, _, _, rfl, hb.h, T.Layer.cl, T.Layer.no _ (by decide), lf_number _ _, ?_⟩
      refine ⟨_, rfl, b, _, db, _, _, rfl, hb.h, T.Layer.cl, T.Layer.no _ (by decide), lf_dots _ _, ?_⟩
      refine ⟨by show 2 ≤ sizeLine; decide, fun t nt => ?_⟩
      exact hR rfl _ _ (Ex.new nt) ⟨t, qb, l, hl, rfl, ⟨hfr t nt, upd_same⟩, hd⟩
    · intro H1 ys e h1 hpr
      rw [List.filter_eq_self.mpr (fun _ _ => rfl), hln] at hpr
      obtain ⟨ps, kvs, e1, e2, e3⟩ := pr_split (K := K) hpr
      have e4 := pr_list e3
      subst e1
      refine ⟨D, ps, kvs, rfl, SqL.of h1, e2, fun d nd => ?_⟩
      have ed := Ex.new (o := .dK (mergeK [] kvs)) nd
      have hm : mergeK [] kvs = kvs := by
        rw [merge_new kvs [] (by rw [List.nil_append, nodup_keys e4]; exact keys_nodup W.ids)]
        rfl
      exact k d _ kvs (e.back nd) (e.trans ed) (by rw [upd_same, hm]) e4
end
end LP
end
section
set_option maxHeartbeats 4100000
namespace LP
open PySem PySem.Spec PyProof.Rows L2 Evl
open Sq50 (State Layer Dot)
section
variable {P : Program} {w : World} {K : PySem.W.Frag} {mg : Str → Option Value} {base : Heap}
def lostOf (t : State) (l : Layer) : Nat := match t.layers.find? fun m => m.id == l.id with
  | none => l.dots.length
  | some m => ((l.dots.zip m.dots).filter fun x => x.1 != x.2).length
def newOf (s : State) (l : Layer) : Nat := if (s.layers.any fun m => m.id == l.id) = true then 0 else l.dots.length
def dotsCh (s t : State) : Nat := (s.layers.map (lostOf t)).sum + (t.layers.map (newOf s)).sum
theorem sum_next {α : Type} {l : List α} {f : α → Nat} {i : Nat} {a : α} (h : l[i]? = some a) : ((l.take (i + 1)).map f).sum = ((l.take i).map f).sum + f a := by
  rw [List.take_add_one, h, List.map_append, List.sum_append]
  simp
theorem nV_add3 (a b c : Nat) : nV (a + b + c) = .int ((a : Int) + (b : Int) + (c : Int)) := by show V.int _ = V.int _; rw [Int.natCast_add, Int.natCast_add]
theorem nV_add2 (a b : Nat) : nV (a + b) = .int ((a : Int) + (b : Int)) := by show V.int _ = V.int _; rw [Int.natCast_add]
theorem keepOld {H H1 H' : Hp} (e1 : Ex H H1) (e : Ex H H') : Keep (fun b => H b ≠ none) H1 H' := fun b o z h => by
  cases q : H b with
  | none => exact absurd q z
  | some o' =>
    rw [e1 _ _ q] at h
    cases h
    exact e _ _ q
theorem pu_din {σ : L2.St} {H : Hp} {ta tb : TE} {n : Nat} {d : Addr} {kvs : List (Key × V)} {o : Option V} (ha : Pu ta σ H (nV n)) (hb : Pu tb σ H (.ref d)) (h : Rd H d (.dK kvs)) (e : valV kvs (.inl (n : Int)) = o) : PuT (tB (tDIn ta tb)) σ H o.isSome :=
  fun Q q => ha _ (hb _ ⟨d, o, rfl, .inl ⟨kvs, .inl (n : Int), h, rfl, e.symm⟩, _, rfl, q⟩)
theorem pu_dget {σ : L2.St} {H : Hp} {ta tb : TE} {n : Nat} {d : Addr} {kvs : List (Key × V)} {v : V} (hb : Pu tb σ H (.ref d)) (ha : Pu ta σ H (nV n)) (h : Rd H d (.dK kvs)) (e : valV kvs (.inl (n : Int)) = some v) : Pu (tDGet tb ta) σ H v :=
  fun Q q => hb _ (ha _ ⟨d, v, rfl, .inl ⟨kvs, .inl (n : Int), h, rfl, e.symm⟩, q⟩)
/-- dots_changed(before, after) -/
def sp_dots_changed (T : Txt K mg) : Sp := fun vs H Q _ => ∃ (a b : Addr) (Z Z' : Addr → Prop) (s t : State), vs = [.ref a, .ref b] ∧ Pic T Z H a s ∧ Pic T Z' H b t ∧ WF s ∧ WF t ∧ s.w = t.w ∧ s.h = t.h ∧ Rv (nV (dotsCh s t)) H Q
theorem ok_dots_changed (T : Txt K mg) : FnOk P w K mg base CX0 2 T.dots_changed.a T.dots_changed.fd ["before", "after"] (sp_dots_changed T) := by
  refine T.dots_changed.F.ok sc_dots_changed (fun vs H Q E h => ?_) (fun cdv A outer s H vs Q E hr h => ⟨_, (pss_cons (ps_set (i := 2) sc_dots_changed.nd rfl (by first | exact Or.inl rfl | exact Or.inr rfl) (pe_call (ok_dots_by_number T) (hr.mono (by decide)) (by rfl) T.dots_by_number.g T.dots_by_number.F.kp T.dots_by_number.b .nil pass0 (pa_cons (pv 0) pa_nil)))
  (pss_cons (ps_set (i := 3) sc_dots_changed.nd rfl (by first | exact Or.inl rfl | exact Or.inr rfl) (pe_call (ok_dots_by_number T) (hr.mono (by decide)) (by rfl) T.dots_by_number.g T.dots_by_number.F.kp T.dots_by_number.b .nil pass0 (pa_cons (pv 1) pa_nil)))
  (pss_cons (ps_set (i := 4) sc_dots_changed.nd rfl (by first | exact Or.inl rfl | exact Or.inr rfl) pe_int)
  (pss_cons (ps_lock (ps_for PassesOwn.never rfl (pi_keys (pv 2)) (pg_name (i := 5) sc_dots_changed.nd rfl (by first | exact Or.inl rfl | exact Or.inr rfl))
  (pss_one (ps_aug (i := 4) sc_dots_changed.nd rfl (by first | exact Or.inl rfl | exact Or.inr rfl) (pe_ifExp (L2.pt_cmp (pc_din (hu_of hr) (pv 5) (pv 3))) (pe_call (ok_differing T) (hr.mono (by decide)) (by rfl) T.differing.g T.differing.F.kp T.differing.b .nil pass0 (pa_cons (pe_dget (hu_of hr) (pv 2) (pv 5) (fun _ _ => rfl)) (pa_cons (pe_dget (hu_of hr) (pv 3) (pv 5) (fun _ _ => rfl)) pa_nil))) (pe_callB call_len_seq (by rfl) (T.nb "len" (by decide)) (by decide +kernel) (pa_cons (pe_dget (hu_of hr) (pv 2) (pv 5) (fun _ _ => rfl)) pa_nil))) ip_add))))
  (pss_cons (ps_lock (ps_for PassesOwn.never rfl (pi_keys (pv 3)) (pg_name (i := 5) sc_dots_changed.nd rfl (by first | exact Or.inl rfl | exact Or.inr rfl))
  (pss_one (ps_aug (i := 4) sc_dots_changed.nd rfl (by first | exact Or.inl rfl | exact Or.inr rfl) (pe_ifExp (L2.pt_cmp (pc_din (hu_of hr) (pv 5) (pv 2))) pe_int (pe_callB call_len_seq (by rfl) (T.nb "len" (by decide)) (by decide +kernel) (pa_cons (pe_dget (hu_of hr) (pv 3) (pv 5) (fun _ _ => rfl)) pa_nil))) ip_add))))
  (pss_one (ps_ret (pv 4)))))))), ?_⟩)
  · obtain ⟨a, b, Z, Z', s, t, rfl, _⟩ := h
    rfl
  · obtain ⟨a, b, Z, Z', s, t, rfl, hp, hp', W, Wt, ew, eh, k⟩ := h
    have hN := W.n
    have hNt := Wt.n
    have hpo := hp.imp (Z' := fun b => H b ≠ none) fun b _ n => n
    have hpo' := hp'.imp (Z' := fun b => H b ≠ none) fun b _ n => n
    refine c_call (paC pu_v pa0) ⟨a, _, s, rfl, hpo, W, fun d1 H1 kvs1 n1 e1 h1 p1 => ?_⟩
    refine c_call (paC pu_v pa0) ⟨b, _, t, rfl, hpo'.keep (e1.keep _), Wt, fun d2 H2 kvs2 n2 e2 h2 p2 => ?_⟩
    have e12 := e1.trans e2
    have n2H : H d2 = none := e1.back n2
    have n12 : d1 ≠ d2 := ne_of_none h1 n2
    refine ⟨d1, _, e2 _ _ h1, trivial, fun od => ?_⟩
    refine ⟨_, rfl, d1, od, rfl, .inl ⟨kvs1, upd_same, ?_⟩⟩
    refine for_it walk_keys (fun i σ H' => ∃ x, σ = [some (.ref a), some (.ref b), some (.ref d1), some (.ref d2), some (nV ((s.layers.take i).map (lostOf t)).sum), x] ∧ Ex H H' ∧ H' d1 = some (.frz od (.dK kvs1)) ∧ H' d2 = some (.dK kvs2))
      ⟨none, rfl, Ex.mut e12 n1, upd_same, by rw [upd_ne (Ne.symm n12)]; exact h2⟩ (fun i σ H' _ ⟨_, _, _, h, _⟩ => h) ?_ ?_
    · rintro i v σ H3 H4 hi ⟨x, rfl, e3, h3, h4⟩ ⟨rfl, ky, vv, hkv, rfl⟩
      obtain ⟨l, hl, ek, _⟩ := Paired.get' p1 hkv
      simp only at ek
      subst ek
      have hm := List.mem_of_getElem? hl
      obtain ⟨q, hq1, hq2⟩ := kv_get' W p1 hm
      have hq2 := hq2.keep (keepOld (Ex.refl H) e3)
      have hdl : l.dots.length = s.w * s.h := W.len l hm
      refine ⟨_, rfl, ?_⟩
      rcases kv_find l.id p2 with ⟨f1, f2⟩ | ⟨m, q', f1, f2, f3⟩
      · refine pu_din (n := l.id) pu_v pu_v (.inl h4) f2 _ (ifF rfl ?_)
        obtain ⟨us, hus, pus⟩ := hq2
        have hul := Paired.len pus
        refine pu_lenL (pu_dget (n := l.id) pu_v pu_v (.inr ⟨od, h3⟩) hq1) hus.sq _ ?_
        refine ⟨_, _, rfl, rfl, some (nV l.id), ?_, e3, h3, h4⟩
        have : lostOf t l = us.length := by unfold lostOf; rw [f1]; exact hul.symm
        rw [sum_next hl, this, nV_add2]
        rfl
      · have mm := List.mem_of_find?_eq_some f1
        have hml : m.dots.length = t.w * t.h := Wt.len m mm
        refine pu_din (n := l.id) pu_v pu_v (.inl h4) f2 _ (ifT rfl ?_)
        refine c_call (paC (pu_dget (n := l.id) pu_v pu_v (.inr ⟨od, h3⟩) hq1) (paC (pu_dget (n := l.id) pu_v pu_v (.inl h4) f2) pa0)) (differing_dots T hq2 (f3.keep (keepOld e1 e3)) (by rw [hdl, hml, ew, eh]) (by omega) fun H5 e5 => ?_)
        refine ⟨_, _, rfl, rfl, some (nV l.id), ?_, e3.trans e5, e5 _ _ h3, e5 _ _ h4⟩
        have : lostOf t l = ((l.dots.zip m.dots).filter fun x => x.1 != x.2).length := by unfold lostOf; rw [f1]
        rw [sum_next hl, this, nV_add2]
        rfl
    · rintro σ H3 ⟨x, rfl, e3, h3, h4⟩
      have l1 := Paired.len p1
      rw [l1, List.take_length]
      refine ⟨h3, ?_⟩
      have e3' := Ex.mut (o := .dK kvs1) e3 n1
      have h3' : (upd H3 d1 (.dK kvs1)) d1 = some (.dK kvs1) := upd_same
      have h4' : (upd H3 d1 (.dK kvs1)) d2 = some (.dK kvs2) := by rw [upd_ne (Ne.symm n12)]; exact h4
      generalize upd H3 d1 (.dK kvs1) = H6 at e3' h3' h4' ⊢
      refine ⟨d2, _, h4', trivial, fun od2 => ?_⟩
      refine ⟨_, rfl, d2, od2, rfl, .inl ⟨kvs2, upd_same, ?_⟩⟩
      refine for_it walk_keys (fun i σ H' => ∃ x, σ = [some (.ref a), some (.ref b), some (.ref d1), some (.ref d2), some (nV ((s.layers.map (lostOf t)).sum + ((t.layers.take i).map (newOf s)).sum)), x] ∧ Ex H H' ∧ H' d1 = some (.dK kvs1) ∧ H' d2 = some (.frz od2 (.dK kvs2)))
        ⟨_, rfl, Ex.mut e3' n2H, by rw [upd_ne n12]; exact h3', upd_same⟩ (fun i σ H' _ ⟨_, _, _, _, h⟩ => h) ?_ ?_
      · rintro i v σ H7 H8 hi ⟨x, rfl, e7, h7, h8⟩ ⟨rfl, ky, vv, hkv, rfl⟩
        obtain ⟨l, hl, ek, _⟩ := Paired.get' p2 hkv
        simp only at ek
        subst ek
        have hm := List.mem_of_getElem? hl
        obtain ⟨q, hq1, hq2⟩ := kv_get' Wt p2 hm
        have hq2 := hq2.keep (keepOld e1 e7)
        refine ⟨_, rfl, ?_⟩
        rcases kv_find l.id p1 with ⟨f1, f2⟩ | ⟨m, q', f1, f2, f3⟩
        · refine pu_din (n := l.id) pu_v pu_v (.inl h7) f2 _ (ifF rfl ?_)
          obtain ⟨us, hus, pus⟩ := hq2
          have hul := Paired.len pus
          refine pu_lenL (pu_dget (n := l.id) pu_v pu_v (.inr ⟨od2, h8⟩) hq1) hus.sq _ ?_
          refine ⟨_, _, rfl, rfl, some (nV l.id), ?_, e7, h7, h8⟩
          have ha : s.layers.any (fun m => m.id == l.id) = false := by
            rw [List.any_eq_false]
            exact fun z hz => by have := List.find?_eq_none.mp f1 z hz; simpa using this
          have : newOf s l = us.length := by unfold newOf; rw [ha, if_neg Bool.false_ne_true]; exact hul.symm
          rw [sum_next hl, this, ← Nat.add_assoc, nV_add2]
          rfl
        · refine pu_din (n := l.id) pu_v pu_v (.inl h7) f2 _ (ifT rfl ?_)
          refine ⟨_, _, rfl, rfl, some (nV l.id), ?_, e7, h7, h8⟩
          have ha : s.layers.any (fun m => m.id == l.id) = true := List.any_eq_true.mpr ⟨m, List.mem_of_find?_eq_some f1, by have := List.find?_some f1; simpa using this⟩
          have : newOf s l = 0 := by unfold newOf; rw [if_pos ha]
          rw [sum_next hl, this, Nat.add_zero]
          rfl
      · rintro σ H7 ⟨x, rfl, e7, h7, h8⟩
        have l2 := Paired.len p2
        rw [l2, List.take_length]
        exact ⟨h8, _, rfl, k _ (Ex.mut e7 n2H)⟩
/-- cost(before, after) -/
def costN (s t : State) : Nat := 1 + Sq50.differs s t
def sp_cost (T : Txt K mg) : Sp := fun vs H Q _ => ∃ (a b : Addr) (Z Z' : Addr → Prop) (s t : State), vs = [.ref a, .ref b] ∧ Pic T Z H a s ∧ Pic T Z' H b t ∧ WF s ∧ WF t ∧ Rv (nV (costN s t)) H Q
theorem ok_cost (T : Txt K mg) : FnOk P w K mg base CX0 3 T.cost.a T.cost.fd ["before", "after"] (sp_cost T) := by
  refine T.cost.F.ok sc_cost (fun vs H Q E h => ?_) (fun cdv A outer s H vs Q E hr h => ⟨_, (pss_cons (ps_if (PW.pt (pw_or (pt_cmpR op_ne (pe_fld (pv 0) rfl) (pe_fld (pv 1) rfl) (nomark _)) (pw_or1 (pt_cmpR op_ne (pe_fld (pv 0) rfl) (pe_fld (pv 1) rfl) (nomark _)))))
  (pss_one (ps_ret (pe_op op_add (pe_op op_add pe_int (pe_call (ok_whole_size T) (hr.mono (by decide)) (by rfl) T.whole_size.g T.whole_size.F.kp T.whole_size.b .nil pass0 (pa_cons (pv 0) pa_nil))) (pe_call (ok_whole_size T) (hr.mono (by decide)) (by rfl) T.whole_size.g T.whole_size.F.kp T.whole_size.b .nil pass0 (pa_cons (pv 1) pa_nil)))))
  pss_nil)
  (pss_one (ps_ret (pe_op op_add (pe_op op_add pe_int (pe_call (ok_dots_changed T) (hr.mono (by decide)) (by rfl) T.dots_changed.g T.dots_changed.F.kp T.dots_changed.b .nil pass0 (pa_cons (pv 0) (pa_cons (pv 1) pa_nil)))) (pe_call (ok_differing T) (hr.mono (by decide)) (by rfl) T.differing.g T.differing.F.kp T.differing.b .nil pass0 (pa_cons (pe_fld (pv 0) rfl) (pa_cons (pe_fld (pv 1) rfl) pa_nil))))))), ?_⟩)
  · obtain ⟨a, b, Z, Z', s, t, rfl, _⟩ := h
    rfl
  · obtain ⟨a, b, Z, Z', s, t, rfl, hp, hp', W, Wt, k⟩ := h
    have hN := W.n
    obtain ⟨dx, ql, c, ha, hla, hc⟩ := id hp
    obtain ⟨dx', ql', c', ha', hla', hc'⟩ := id hp'
    have fld : ∀ (H' : Hp) (σ : L2.St) (f : Str) (u : V), Ex H H' → σ[0]? = some (some (.ref a)) → f ∈ (["w", "h", "layers", "worked", "chosen", "made"] : List Str) → (picF s ql c).lookup f = some u → Pu (tFld K (tVar 0) f) σ H' u :=
      fun H' σ f u e hs hf hu => pu_fld (pu_var hs) (e _ _ ha.h) T.Picture.cl (T.Picture.no f hf) hu
    have fld' : ∀ (H' : Hp) (σ : L2.St) (f : Str) (u : V), Ex H H' → σ[1]? = some (some (.ref b)) → f ∈ (["w", "h", "layers", "worked", "chosen", "made"] : List Str) → (picF t ql' c').lookup f = some u → Pu (tFld K (tVar 1) f) σ H' u :=
      fun H' σ f u e hs hf hu => pu_fld (pu_var hs) (e _ _ ha'.h) T.Picture.cl (T.Picture.no f hf) hu
    refine s_if (pt_or (pt_test (pu_ne (fld H _ "w" _ (Ex.refl H) rfl (by decide) (pf_w _ _ _)) (fld' H _ "w" _ (Ex.refl H) rfl (by decide) (pf_w _ _ _)))) (fun _ => pt_test (pu_ne (fld H _ "h" _ (Ex.refl H) rfl (by decide) (pf_h _ _ _)) (fld' H _ "h" _ (Ex.refl H) rfl (by decide) (pf_h _ _ _))))) (fun e => ?_) fun e => ?_
    · refine c_call (paC pu_v pa0) ⟨a, Z, s, rfl, hp, W, ?_⟩
      refine ⟨_, _, rfl, rfl, ?_⟩
      refine c_call (paC pu_v pa0) ⟨b, Z', t, rfl, hp', Wt, ?_⟩
      refine ⟨_, _, rfl, rfl, ?_⟩
      have := k H (Ex.refl H)
      unfold costN Sq50.differs at this
      rw [if_pos (by simp only [Bool.or_eq_true, Bool.not_eq_true', decide_eq_false_iff_not] at e; omega), ← Nat.add_assoc, nV_add3] at this
      exact this
    · simp only [Bool.or_eq_false_iff, Bool.not_eq_false', decide_eq_true_eq] at e
      have ew : s.w = t.w := by omega
      have eh : s.h = t.h := by omega
      refine c_call (paC pu_v (paC pu_v pa0)) ⟨a, b, Z, Z', s, t, rfl, hp, hp', W, Wt, ew, eh, fun H1 e1 => ?_⟩
      refine ⟨_, _, rfl, rfl, ?_⟩
      refine c_call (paC (fld H1 _ "chosen" _ e1 rfl (by decide) (pf_chosen _ _ _)) (paC (fld' H1 _ "chosen" _ e1 rfl (by decide) (pf_chosen _ _ _)) pa0)) (differing_bits T (e1 _ _ hc.h) (e1 _ _ hc'.h) (by rw [W.ch, Wt.ch, ew, eh]) (by rw [W.ch]; omega) fun H2 e2 => ?_)
      refine ⟨_, _, rfl, rfl, ?_⟩
      have := k H2 (e1.trans e2)
      unfold costN Sq50.differs at this
      rw [if_neg (by omega)] at this
      dsimp only at this
      rw [← Nat.add_assoc, nV_add3] at this
      exact this
end
end LP
end
section
set_option maxHeartbeats 4100000
namespace LP
open PySem PySem.Spec PyProof.Rows L2 Evl
open Sq50 (State Layer Dot)
section
variable {P : Program} {w : World} {K : PySem.W.Frag} {mg : Str → Option Value} {base : Heap}
theorem pe_imp {X : Cx} {e : Expr} {t u : TE} (h : PE X e t) (k : ∀ σ H Q, u σ H Q → t σ H Q) : PE X e u := ⟨fun pins s σ H Q I hw => h.run pins s σ H Q I (k σ H Q hw)⟩
/-- recoloured(picture, reach, taken) -/
def recL (s : State) (r : Nat) (g : List Nat → Nat) : List Dot := (List.range (s.w * s.h)).map fun p => if mayP s p = true then (g (winL s.w s.h (colsL s) p r), (dotP s p).2) else dotP s p
theorem winL_len (w h : Nat) (cs : List Nat) (p r : Nat) : (winL w h cs p r).length = (2 * r + 1) * (2 * r + 1) := by
  unfold winL
  rw [List.length_flatMap]
  have : ((arL (p / w) r h).map fun y => ((arL (p % w) r w).map fun x => colAt cs (y * w + x)).length) = (arL (p / w) r h).map fun _ => 2 * r + 1 := List.map_congr_left fun _ _ => by rw [List.length_map, arL_len]
  rw [this, List.map_const', List.sum_replicate_nat, arL_len]
theorem winL_le {s : State} (W : WF s) (p r : Nat) : ∀ n ∈ winL s.w s.h (colsL s) p r, n ≤ 255 := fun n hn => by
  unfold winL at hn
  obtain ⟨y, _, h2⟩ := List.mem_flatMap.mp hn
  obtain ⟨x, _, rfl⟩ := List.mem_map.mp h2
  unfold colAt
  cases e : (colsL s)[y * s.w + x]? with
  | none => exact Nat.zero_le _
  | some c =>
    unfold colsL at e
    rw [List.getElem?_map] at e
    obtain ⟨d, h3, rfl⟩ := Option.map_eq_some_iff.mp e
    exact (W.dot _ (layer_mem W) d (List.mem_of_getElem? h3)).1
/-- a list of at least one and few numbers of a byte -/
structure Win (ns : List Nat) : Prop where
  pos : 0 < ns.length
  few : ns.length ≤ 81
  le : ∀ n ∈ ns, n ≤ 255
theorem win_ok {s : State} (W : WF s) (p : Nat) {r : Nat} (hr : r ≤ 4) : Win (winL s.w s.h (colsL s) p r) := by
  refine ⟨?_, ?_, winL_le W p r⟩
  · rw [winL_len]; exact Nat.mul_pos (by omega) (by omega)
  · rw [winL_len]; exact Nat.mul_le_mul (by omega : 2 * r + 1 ≤ 9) (by omega : 2 * r + 1 ≤ 9)
abbrev XR (P : Program) (w : World) (base : Heap) (T : Txt K mg) (cdv : Value) (A : Around) (outer : List Env) (s : Shared) (H : Hp) (E : XK) : Cx := (cxOf CX0 P w K mg base N_recoloured "recoloured" (defScope s_recoloured) T.recoloured.a cdv A outer s H E).nox
/-- rows, none of them at D -/
def RowsBut (D : Addr) (H : Hp) (a : Addr) (rs : List (List Nat)) : Prop := a ≠ D ∧ ∃ vs, H a = some (.lst vs) ∧ Paired (fun v l => RowAt H v l ∧ v ≠ .ref D) vs rs
theorem RowsBut.of {D a : Addr} {H H' : Hp} {rs : List (List Nat)} (h' : RowsAt H' a rs) (h : RowsAt H a rs) (n : H D = none) (e : Ex H H' := by assumption) : RowsBut D H' a rs := by
  obtain ⟨vs, ha, p⟩ := h
  refine ⟨ne_of_none ha n, vs, e _ _ ha, Paired.imp (fun v l z => ?_) p⟩
  obtain ⟨b, rfl, hb⟩ := z
  exact ⟨⟨b, rfl, e _ _ hb⟩, fun q => ne_of_none hb n (by injection q)⟩
theorem RowsBut.rows {D a : Addr} {H : Hp} {rs : List (List Nat)} (h : RowsBut D H a rs) : RowsAt H a rs := by obtain ⟨_, vs, ha, p⟩ := h; exact ⟨vs, ha, Paired.imp (fun _ _ z => z.1) p⟩
theorem RowsBut.ex {D a : Addr} {H H' : Hp} {rs : List (List Nat)} (h : RowsBut D H a rs) (e : Ex H H') : RowsBut D H' a rs := by obtain ⟨n, vs, ha, p⟩ := h; exact ⟨n, vs, e _ _ ha, Paired.imp (fun _ _ z => ⟨z.1.ex e, z.2⟩) p⟩
theorem RowsBut.upd {D a : Addr} {H : Hp} {rs : List (List Nat)} {o : HO} (h : RowsBut D H a rs) : RowsBut D (L2.upd H D o) a rs := by
  obtain ⟨n, vs, ha, p⟩ := h
  refine ⟨n, vs, by rw [upd_ne n]; exact ha, Paired.imp (fun v l z => ?_) p⟩
  obtain ⟨⟨b, rfl, hb⟩, nb⟩ := z
  exact ⟨⟨b, rfl, by rw [upd_ne (fun q => nb (by rw [q]))]; exact hb⟩, nb⟩
theorem recol_run (T : Txt K mg) {cdv : Value} {A : Around} {outer : List Env} {s0 : Shared} {H : Hp} {E : XK} (hr : Room 8 (A.deeper (envOfC "recoloured" (defScope s_recoloured) s0.heap.objs.size T.recoloured.a cdv)))
    {f : Addr} {g : List Nat → Nat} (pre : Hp → Prop) (spT : List V → Hp → VK → Prop) (rule_taken : ∀ {e : Expr} {t : TA} {p pos : Pos}, PA (XR P w base T cdv A outer s0 H E) [e] t → starEach [e] (XR P w base T cdv A outer s0 H E).env = (false, eval e (XR P w base T cdv A outer s0 H E).env) :: starEach [] (XR P w base T cdv A outer s0 H E).env → PE (XR P w base T cdv A outer s0 H E) (.Call (.Name "taken" p) [e] [] pos) (fun σ H1 Q => (σ[2]? = some (some (.ref f)) ∧ pre H1) ∧ t σ H1 fun vs H2 => spT vs H2 Q))
    (hpre : ∀ H1, Ex H H1 → pre H1)
    (htk : ∀ (a : Addr) (ns : List Nat) (H1 : Hp) (Q : VK), Ex H H1 → H1 a = some (.lst (nVs ns)) → Win ns → (∀ H3, Ex H1 H3 → Q (nV (g ns)) H3) → spT [.ref a] H1 Q)
    {pa : Addr} {Z : Addr → Prop} {s : State} {r : Nat} {Q : VK} (hp : Pic T Z H pa s) (W : WF s) (hF : Free Z H) (hr4 : r ≤ 4) (k : PicR T Z (setDots s (recL s r g)) H Q) :
    ∃ t, PSs (XR P w base T cdv A outer s0 H E) (defBody s_recoloured) t ∧ t { nx := fun _ H' => Q .non H', rt := Q } (L2.start N_recoloured [.ref pa, nV r, .ref f]) H := by
  refine ⟨_, (pss_cons (ps_set (i := 3) sc_recoloured.nd rfl (by first | exact Or.inl rfl | exact Or.inr rfl) (pe_call (ok_padded_rows T) (hr.mono (by decide)) (by rfl) T.padded_rows.g T.padded_rows.F.kp T.padded_rows.b .nil pass0 (pa_cons (pv 0) (pa_cons (pv 1) pa_nil))))
  (pss_cons (ps_set (i := 4) sc_recoloured.nd rfl (by first | exact Or.inl rfl | exact Or.inr rfl) (pe_call (ok_may_change T) (hr.mono (by decide)) (by rfl) T.may_change.g T.may_change.F.kp T.may_change.b .nil pass0 (pa_cons (pv 0) pa_nil)))
  (pss_cons (ps_set (i := 5) sc_recoloured.nd rfl (by first | exact Or.inl rfl | exact Or.inr rfl) (pe_lst pa_nil))
  (pss_cons (ps_for PassesOwn.never rfl (pi_enum (by rfl) (T.nb "enumerate" (by decide)) (pa_cons (pe_call (ok_worked_dots T) (hr.mono (by decide)) (by rfl) T.worked_dots.g T.worked_dots.F.kp T.worked_dots.b .nil pass0 (pa_cons (pv 0) pa_nil)) pa_nil)) (pg_tup rfl (pgs_cons (pg_name (i := 6) sc_recoloured.nd rfl (by first | exact Or.inl rfl | exact Or.inr rfl)) (pgs_cons (pg_name (i := 7) sc_recoloured.nd rfl (by first | exact Or.inl rfl | exact Or.inr rfl)) pgs_nil)))
  (pss_one (ps_if (pt_truth (pe_ix ix_list (pv 4) (pv 6) (fun _ _ => rfl)) (by intro _; rfl))
    (pss_one (ps_expr (pe_bm PySem.F.plainAttrs_list PySem.F.slot_list_append PySem.F.type_list_append mt_append (pv 5) (pa_cons (pe_tup (pa_cons (rule_taken (pa_cons (pe_call (ok_window T) (hr.mono (by decide)) (by rfl) T.window.g T.window.F.kp T.window.b .nil pass0 (pa_cons (pv 3) (pa_cons (pe_op op_mod (pv 6) (pe_fld (pv 0) rfl)) (pa_cons (pe_op op_fdiv (pv 6) (pe_fld (pv 0) rfl)) (pa_cons (pv 1) pa_nil))))) pa_nil) rfl) (pa_cons (pe_ix ix_tup (pv 7) pe_int (fun _ _ => rfl)) pa_nil))) pa_nil))))
    (pss_one (ps_expr (pe_bm PySem.F.plainAttrs_list PySem.F.slot_list_append PySem.F.type_list_append mt_append (pv 5) (pa_cons (pv 7) pa_nil)))))))
  (pss_one (ps_ret (pe_call (ok_with_worked_dots T) (hr.mono (by decide)) (by rfl) T.with_worked_dots.g T.with_worked_dots.F.kp T.with_worked_dots.b .nil pass0 (pa_cons (pv 0) (pa_cons (pv 5) pa_nil))))))))), ?_⟩
  have hN := W.n
  have hw1 : 0 < s.w := W.w1
  have hw12 := W.w12
  have hlw := W.len _ (layer_mem W)
  -- rows
  refine c_call (paC pu_v (paC pu_v pa0)) ⟨pa, Z, s, r, rfl, hp, W, hr4, fun C H1 nC e1 h1 => ?_⟩
  -- free
  refine c_call (paC pu_v pa0) ⟨pa, Z, s, rfl, hp.keep (e1.keep Z), W, hF.ex e1, fun mc H2 e2 h2 => ?_⟩
  -- dots
  refine ⟨Nat.zero_le _, fun D nD => ?_⟩
  have e12 := e1.trans e2
  have eD := Ex.new (o := .lst []) nD
  have nDH : H D = none := e12.back nD
  have nz : ¬ But Z D D := fun z => z.2 rfl
  -- the dots before
  refine c_call (paC pu_v pa0) ⟨pa, But Z D, s, rfl, (hp.imp (but_out nDH)).keep ((e12.trans eD).keep _), W, fun q H3 e3 h3 => ?_⟩
  obtain ⟨us, hq, pus⟩ := h3
  have hul := Paired.len pus
  have e2D3 := eD.trans e3
  have hC := h1.ex (e2.trans e2D3)
  have hmc := e2D3 _ _ h2.h
  have hDD : H3 D = some (.lst []) := e3 _ _ upd_same
  have hN2 := W.h12
  have hCB : RowsBut D H3 C (padR s.w s.h (colsL s) r) := RowsBut.of hC (h1.ex e2) nD
  have nmD : mc ≠ D := ne_of_none h2.h nD
  have nqD : q ≠ D := hq.z.2
  refine ⟨q, _, rfl, hq.sq, ?_⟩
  have fr3 : Free (But Z D) H3 := (Free.but (hF.ex e12)).ex e3
  refine for_it wk_enum (fun i σ H' => ∃ x y, σ = [some (.ref pa), some (nV r), some (.ref f), some (.ref C), some (.ref mc), some (.ref D), x, y] ∧ Ex H H' ∧ Keep (But Z D) H3 H' ∧ RowsBut D H' C (padR s.w s.h (colsL s) r) ∧ H' mc = some (.lst (bVs (mayL s))) ∧ Free (But Z D) H' ∧
      ∃ vs, H' D = some (.lst vs) ∧ Paired (DotAt (But Z D) H') vs ((recL s r g).take i))
    ⟨none, none, rfl, e12.trans e2D3, fun _ _ _ h => h, hCB, hmc, fr3, [], hDD, by rw [List.take_zero]; exact .nil⟩ (fun i σ H' _ ⟨_, _, _, _, kp, _⟩ => (hq.keep kp).sq) ?_ ?_
  · rintro i v σ H4 H5 hi ⟨x, y, rfl, e4, k4, c4, m4, f4, vs, d4, p4⟩ ⟨t, y1, rfl, nt, rfl, hy⟩
    have hiN : i < s.w * s.h := by omega
    obtain ⟨d, hd, hda⟩ := Paired.get' pus hy
    rw [dotP_get W hiN] at hd
    cases hd
    have et := Ex.new (o := .tup [nV i, y1]) nt
    obtain ⟨da, rfl, hda⟩ := (hda.keep k4).keep (et.keep _)
    have hvl : vs.length ≤ i := by
      have := Paired.len p4
      rw [List.length_take] at this
      omega
    have rl : (recL s r g).take (i + 1) = (recL s r g).take i ++ [if mayP s i = true then (g (winL s.w s.h (colsL s) i r), (dotP s i).2) else dotP s i] := by
      rw [List.take_add_one]
      unfold recL
      rw [List.getElem?_map, List.getElem?_range hiN]
      rfl
    refine ⟨t, _, rfl, SqT.of upd_same, rfl, _, _, rfl, _, _, rfl, rfl, ?_⟩
    have hmi : (bVs (mayL s))[i]? = some (bV (mayP s i)) := by
      unfold bVs
      rw [List.getElem?_map, mayP_get W hiN]
      rfl
    refine pu_ixL (n := i) pu_v pu_v (SqL.of (et _ _ m4)) rfl hmi _ ?_
    have fin : ∀ (H6 : Hp) (u : V), Ex (upd H4 t (.tup [nV i, .ref da])) H6 → DotAt (But Z D) H6 u (if mayP s i = true then (g (winL s.w s.h (colsL s) i r), (dotP s i).2) else dotP s i) →
        ∃ x y, [some (V.ref pa), some (nV r), some (.ref f), some (.ref C), some (.ref mc), some (.ref D), some (nV i), some (.ref da)] = [some (.ref pa), some (nV r), some (.ref f), some (.ref C), some (.ref mc), some (.ref D), x, y] ∧ Ex H (upd H6 D (.lst (vs ++ [u]))) ∧ Keep (But Z D) H3 (upd H6 D (.lst (vs ++ [u]))) ∧ RowsBut D (upd H6 D (.lst (vs ++ [u]))) C (padR s.w s.h (colsL s) r) ∧ (upd H6 D (.lst (vs ++ [u]))) mc = some (.lst (bVs (mayL s))) ∧ Free (But Z D) (upd H6 D (.lst (vs ++ [u]))) ∧
          ∃ vs', (upd H6 D (.lst (vs ++ [u]))) D = some (.lst vs') ∧ Paired (DotAt (But Z D) (upd H6 D (.lst (vs ++ [u])))) vs' ((recL s r g).take (i + 1)) := by
      intro H6 u e6 hu
      have e46 := et.trans e6
      have kp : Keep (But Z D) H6 (upd H6 D (.lst (vs ++ [u]))) := fun a o z h => by rw [upd_ne z.2]; exact h
      refine ⟨_, _, rfl, Ex.mut (e4.trans e46) nDH, (k4.trans (e46.keep _)).trans kp, ?_, ?_, fun b hb => ?_, _, upd_same, ?_⟩
      · exact (c4.ex e46).upd
      · rw [upd_ne nmD]; exact e46 _ _ m4
      · have ne : b ≠ D := fun z => by rw [z, upd_same] at hb; cases hb
        rw [upd_ne ne] at hb
        exact f4 b (e46.back hb)
      · rw [rl]
        exact Paired.snoc (Paired.imp (fun _ _ z => (z.keep (e46.keep _)).keep kp) p4) (hu.keep kp)
    cases hm : mayP s i with
    | true =>
      refine ⟨_, rfl, ifT rfl ?_⟩
      rw [hm] at fin
      refine ⟨_, rfl, .inl ⟨rfl, _, SqL.of (et _ _ d4)⟩, ?_⟩
      refine ⟨⟨rfl, hpre _ (e4.trans et)⟩, ?_⟩
      obtain ⟨dxp, qlp, cp, hap, _, _⟩ := hp.keep ((e4.trans et).keep Z)
      have fw : ∀ σ : L2.St, σ[0]? = some (some (.ref pa)) → Pu (tFld K (tVar 0) "w") σ (upd H4 t (.tup [nV i, .ref da])) (nV s.w) := fun σ hs => pu_fld (pu_var hs) hap.h T.Picture.cl (T.Picture.no "w" (by decide)) (pf_w _ _ _)
      refine c_call (paC pu_v (paC (pu_nmod pu_v (fw _ rfl) hw1) (paC (pu_ndiv pu_v (fw _ rfl) hw1 (by omega)) (paC pu_v pa0)))) ⟨C, padR s.w s.h (colsL s) r, i % s.w, i / s.w, r, rfl, (c4.ex et).rows, hr4, fun wn H6 nW e6 h6 => ?_⟩
      rw [cut_win W.w1 W.h1 (colsL_len W) hiN] at h6
      refine htk wn _ _ _ ((e4.trans et).trans e6) h6 (win_ok W i hr4) fun H7 e7 => ?_
      have e67 := e6.trans e7
      refine pu_ixT (n := 1) pu_v pu_c (hda.keep (e67.keep _)).st rfl rfl _ ?_
      refine ⟨by show 2 ≤ sizeLine; decide, fun t2 nt2 => ?_⟩
      have et2 := Ex.new (o := .tup [nV (g (winL s.w s.h (colsL s) i r)), nV (dotP s i).2]) nt2
      have e72 := e67.trans et2
      refine ⟨D, vs, _, rfl, rfl, e72 _ _ (et _ _ d4), szt (by omega), ?_⟩
      exact fin _ _ e72 ⟨t2, rfl, (f4.ex et).ex (e67) t2 nt2, upd_same⟩
    | false =>
      refine ⟨_, rfl, ifF rfl ?_⟩
      rw [hm] at fin
      refine ⟨_, rfl, .inl ⟨rfl, _, SqL.of (et _ _ d4)⟩, ?_⟩
      refine ⟨_, rfl, ?_⟩
      refine ⟨D, vs, _, rfl, rfl, et _ _ d4, szt (by omega), ?_⟩
      exact fin _ _ (Ex.refl _) ⟨da, rfl, hda⟩
  · rintro σ H4 ⟨x, y, rfl, e4, k4, c4, m4, f4, vs, d4, p4⟩
    have hlr : (recL s r g).length = s.w * s.h := by unfold recL; rw [List.length_map, List.length_range]
    rw [hul, hlw, ← hlr, List.take_length] at p4
    refine c_call (paC pu_v (paC pu_v pa0)) ⟨pa, D, Z, s, recL s r g, rfl, hp.keep (e4.keep Z), W, hF.ex e4, ⟨vs, ⟨hF D nDH, d4⟩, Paired.imp (fun _ _ z => z.imp (fun _ q _ => q.1)) p4⟩, fun p H5 e5 h5 => k p H5 (e4.trans e5) h5⟩
/-- recoloured(picture, reach, mean) -/
def meanL (ns : List Nat) : Nat := near ns.sum ns.length
def sp_recoloured (T : Txt K mg) : Sp := fun vs H Q _ => ∃ (pa : Addr) (Z : Addr → Prop) (s : State) (r : Nat), vs = [.ref pa, nV r, .ref T.mean.a] ∧ Pic T Z H pa s ∧ WF s ∧ Free Z H ∧ r ≤ 4 ∧ PicR T Z (setDots s (recL s r meanL)) H Q
theorem sum_le {ns : List Nat} (h : ∀ n ∈ ns, n ≤ 255) : ns.sum ≤ ns.length * 255 := by
  induction ns with
  | nil => exact Nat.le_refl _
  | cons a l ih =>
    have := ih fun n hn => h n (List.mem_cons_of_mem _ hn)
    have := h a (List.mem_cons_self ..)
    rw [List.sum_cons, List.length_cons, Nat.add_mul]
    omega
theorem ok_recoloured (T : Txt K mg) : FnOk P w K mg base CX0 9 T.recoloured.a T.recoloured.fd ["picture", "reach", "taken"] (sp_recoloured T) := by
  refine T.recoloured.F.ok sc_recoloured (fun vs H Q E h => ?_) (fun cdv A outer s H vs Q E hr h => ?_)
  · obtain ⟨pa, Z, s, r, rfl, _⟩ := h
    rfl
  · obtain ⟨pa, Z, st, r, rfl, hp, W, hF, hr4, k⟩ := h
    refine recol_run T hr (f := T.mean.a) (g := meanL) (fun _ => True) (fun vs H1 Q => sp_mean T (vs ++ []) H1 Q E0) (fun {e t p pos} ha he => pe_imp (pe_callL (ok_mean T) (hr.mono (by decide)) (by rfl) (by first | exact Or.inl rfl | exact Or.inr (Or.inl rfl)) T.mean.F.kp T.mean.b .nil pass0 ha (by decide) (by decide) he (by rfl)) (fun _ _ _ h => ⟨h.1.1, h.2⟩)) (fun _ _ => trivial) (fun a ns H1 Q1 e1 h1 wn k1 => ?_) hp W hF hr4 k
    have h81 := wn.few
    have hsum := sum_le wn.le
    have h100 : (100000 : Nat) < 2 ^ 100 := by decide
    exact ⟨a, ns, rfl, h1, wn.pos, by omega, by omega, k1 H1 (Ex.refl _)⟩
/-- smooth(picture, more) -/
def f_mean (s : State) : List Nat → Except Int State
  | [r] => if 4 < r then .error (-1) else .ok (setDots s (recL s r meanL))
  | _ => .error 0
theorem ok_smooth (T : Txt K mg) : FnOk P w K mg base (L2.CX P w) 10 T.smooth.a T.smooth.fd ["picture", "more"] (spDeed T 1 f_mean) := by
  refine T.smooth.F.okX sc_smooth (fun vs H Q E h => ?_) (fun cdv A outer s H vs Q E hr h => ⟨_, (pss_cons (ps_if (pt_cmpR op_gt (pe_ix ix_list (pv 1) pe_int (fun _ _ => rfl)) (pe_glob (by rfl) T.FURTHEST_WINDOW.g T.FURTHEST_WINDOW.r) (nomark _))
  (pss_one (ps_raiseR rfl T.CannotBe hr (takes_of rfl rfl rfl rfl)))
  pss_nil)
  (pss_one (ps_ret (pe_call (ok_recoloured T) (hr.mono (by decide)) (by rfl) T.recoloured.g T.recoloured.F.kp T.recoloured.b .nil pass0 (pa_cons (pv 0) (pa_cons (pe_ix ix_list (pv 1) pe_int (fun _ _ => rfl)) (pa_cons (pe_glob (v := .ref T.mean.a) (by rfl) T.mean.g rfl) pa_nil))))))), ?_⟩)
  · obtain ⟨a, m, Z, s, ms, rfl, _⟩ := h
    rfl
  · obtain ⟨pa, m, Z, s, ms, rfl, hp, W, hF, hm, hn, k⟩ := h
    obtain ⟨r, rfl⟩ : ∃ r, ms = [r] := by
      match ms, hn with
      | [r], _ => exact ⟨r, rfl⟩
    dsimp only [f_mean] at k
    refine s_if (pt_ngt (pu_more rfl hm rfl) (pu_nc 4)) (fun e => ?_) fun e => ?_
    · rw [if_pos (of_decide_eq_true e)] at k
      exact Rz.go k (Ex.refl H)
    · have e := of_decide_eq_false e
      rw [if_neg e] at k
      exact cK (cC pu_v (cC (pu_more rfl hm rfl) (cC pu_c ⟨pa, Z, s, r, rfl, hp, W, hF, by omega, k⟩)))
end
end LP
end
section
namespace LP
open Sq50
/-! choices -/
theorem take_with {s : State} (W : WF s) (f : Sq44.Pixel → Bool) : s.take (s.choice.with_ f) = withCh s ((List.range (s.w * s.h)).map fun p => f (p % s.w, p / s.w)) := by
  unfold State.take Sq44.House.with_ withCh
  show { s with chosen := ((s.cells.map f).toArray).toList } = _
  rw [List.toList_toArray, cells_map W]
theorem on_p {s : State} (p : Nat) : s.choice.on (p % s.w, p / s.w) = s.chosen[p]?.getD false := by
  unfold Sq44.House.on State.choice
  show (s.chosen.toArray[p / s.w * s.w + p % s.w]?).getD false = _
  rw [back, List.getElem?_toArray]
theorem ch_get {s : State} (W : WF s) {p : Nat} (hp : p < s.w * s.h) : s.chosen[p]? = some (s.chosen[p]?.getD false) := by
  rw [List.getElem?_eq_getElem (by rw [W.ch]; exact hp)]
  rfl
theorem joinL_range {s : State} (W : WF s) (how : Nat) (t : Nat → Bool) : joinL how s.chosen ((List.range (s.w * s.h)).map t) = (List.range (s.w * s.h)).map fun p => Sq44.joined how (s.chosen[p]?.getD false) (t p) := by
  unfold joinL
  refine List.ext_getElem? fun i => ?_
  rw [List.getElem?_map, List.getElem?_map]  -- own
  by_cases c : i < s.w * s.h
  · have hz : (s.chosen.zip ((List.range (s.w * s.h)).map t))[i]? = some (s.chosen[i]?.getD false, t i) := List.getElem?_zip_eq_some.mpr ⟨ch_get W c, by rw [List.getElem?_map, List.getElem?_range c]; rfl⟩
    rw [List.getElem?_range c, hz]
    rfl
  · have h1 : (s.chosen.zip ((List.range (s.w * s.h)).map t))[i]? = none := List.getElem?_eq_none (by rw [List.length_zip, List.length_map, List.length_range]; omega)
    have h2 : (List.range (s.w * s.h))[i]? = none := List.getElem?_eq_none (by rw [List.length_range]; omega)
    rw [h1, h2]
    rfl
theorem take_join {s : State} (W : WF s) (how : Nat) (f : Sq44.Pixel → Bool) : s.take (s.choice.join how f) = withCh s (joinL how s.chosen ((List.range (s.w * s.h)).map fun p => f (p % s.w, p / s.w))) := by
  unfold Sq44.House.join
  rw [take_with W, joinL_range W]
  congr 1
  refine List.map_congr_left fun p _ => ?_
  rw [on_p]
theorem does_rect {s : State} (W : WF s) (k : Option Clip) (how x y a b : Nat) : s.does k (.rect how x y a b) = f_rect s [how, x, y, a, b] := by
  dsimp only [State.does, f_rect]
  by_cases c : 4 < how
  · rw [if_pos c, if_pos c]
  · rw [if_neg c, if_neg c]
    dsimp only [Sq44.House.step]
    rw [if_neg c]
    show Except.ok (s.take (s.choice.join how _)) = _
    rw [take_join W]
    congr 3
    unfold rectL
    refine List.map_congr_left fun p hp => ?_  -- own
    obtain ⟨h1, h2⟩ := mem_p W.w1 (List.mem_range.mp hp)
    unfold rectB
    simp only [← Bool.decide_and]
    congr 1
    apply propext
    omega
theorem does_all {s : State} (W : WF s) (k : Option Clip) (how : Nat) : s.does k (.all how) = f_all s [how] := by
  dsimp only [State.does, f_all]
  by_cases c : 4 < how
  · rw [if_pos c, if_pos c]
  · rw [if_neg c, if_neg c]
    dsimp only [Sq44.House.step]
    rw [if_neg c]
    show Except.ok (s.take (s.choice.join how _)) = _
    rw [take_join W, List.map_const', List.length_range]
theorem cells_filter {s : State} (W : WF s) (f : Sq44.Pixel → Bool) : s.choice.cells.filter f = ((List.range (s.w * s.h)).filter fun p => f (p % s.w, p / s.w)).map fun p => (p % s.w, p / s.w) := by
  have h : s.choice.cells = (List.range (s.w * s.h)).map fun p => (p % s.w, p / s.w) := by
    have := cells_map W (fun c => c)
    rw [List.map_id'] at this
    exact this
  rw [h, List.filter_map]
  rfl
theorem does_grow {s : State} (W : WF s) (k : Option Clip) (r : Nat) : s.does k (.grow r) = f_grow s [r] := by
  dsimp only [State.does, f_grow]
  by_cases c : 1000 < r
  · rw [if_pos c, if_pos c]
  · rw [if_neg c, if_neg c]
    unfold Sq44.House.grown
    rw [take_with W]
    congr 2
    unfold growL
    rw [W.ch]
    refine List.map_congr_left fun p _ => ?_
    rw [cells_filter W, List.any_map]
    unfold nearB markL
    rw [W.ch]
    have e : (fun p => s.choice.on (p % s.w, p / s.w)) = fun i => s.chosen[i]?.getD false := funext fun p => on_p p
    rw [e]
    rfl
theorem does_shrink {s : State} (W : WF s) (k : Option Clip) (r : Nat) : s.does k (.shrink r) = f_shrink s [r] := by
  dsimp only [State.does, f_shrink]
  by_cases c : 1000 < r
  · rw [if_pos c, if_pos c]
  · rw [if_neg c, if_neg c]
    unfold Sq44.House.shrunk
    rw [take_with W]
    congr 2
    unfold shrinkL growL
    rw [List.map_map, List.length_map, W.ch]
    refine List.map_congr_left fun p _ => ?_
    rw [cells_filter W, List.any_map]
    show _ = !(nearB s.w r p (markL (s.chosen.map fun b => !b)))
    unfold nearB markL
    rw [List.length_map, W.ch]
    congr 1
    have e : (List.range (s.w * s.h)).filter (fun p => !s.choice.on (p % s.w, p / s.w)) = (List.range (s.w * s.h)).filter fun i => ((s.chosen.map fun b => !b)[i]?).getD false := by
      refine List.filter_congr fun i hi => ?_
      rw [on_p, List.getElem?_map, ch_get W (List.mem_range.mp hi)]
      rfl
    rw [e]
    rfl
/-! dots -/
theorem work_rec {s : State} (W : WF s) (f : Nat → Nat → Dot) (g : Nat → Dot) (h : ∀ p, p < s.w * s.h → f (p % s.w) (p / s.w) = g p) : s.work f = setDots s ((List.range (s.w * s.h)).map fun p => if mayP s p = true then g p else dotP s p) := by
  rw [work_eq W]
  congr 1
  refine List.map_congr_left fun p hp => ?_  -- own
  rw [h p (List.mem_range.mp hp)]
  rfl
theorem does_fill {s : State} (W : WF s) (k : Option Clip) (v c : Nat) : s.does k (.fill v c) = f_fill s [v, c] := by
  dsimp only [State.does, f_fill]
  by_cases e : 255 < v ∨ 255 < c
  · rw [if_pos e, if_pos e]
  · rw [if_neg e, if_neg e, work_rec W _ (fun _ => (v, c)) (fun _ _ => rfl)]
    rfl
theorem does_cut {s : State} (W : WF s) (k : Option Clip) : s.does k .cut = .ok (setDots s (becL s (0, 0))) := by
  dsimp only [State.does]
  rw [work_rec W _ (fun _ => (0, 0)) (fun _ _ => rfl)]
  rfl
theorem fm_congr {α β : Type} {f g : α → Option β} : ∀ {l : List α}, (∀ a ∈ l, f a = g a) → l.filterMap f = l.filterMap g
  | [], _ => rfl
  | a :: l, h => by rw [List.filterMap_cons, List.filterMap_cons, h a (List.mem_cons_self ..), fm_congr fun b hb => h b (List.mem_cons_of_mem _ hb)]
/-- a window's place, from the edge -/
theorem place1 {n : Nat} (hn : 1 ≤ n) (c i r : Nat) (hc : c < n) : Sq45.place 1 n ((c : Int) + i - r) = some (min (c + i - r) (n - 1)) := by
  unfold Sq45.place
  by_cases h : 0 ≤ (c : Int) + i - r ∧ (c : Int) + i - r < n
  · rw [if_pos h]
    congr 1
    omega
  · rw [if_neg h]
    show some _ = some _
    congr 1
    split <;> omega
theorem window_eq {s : State} (W : WF s) (r p : Nat) (hp : p < s.w * s.h) : s.colours.window 1 r (p % s.w) (p / s.w) = winL s.w s.h (colsL s) p r := by
  obtain ⟨h1, h2⟩ := mem_p W.w1 hp
  unfold Sq45.Picture.window winL arL
  rw [List.flatMap_map]
  congr 1
  funext j
  rw [List.map_map]
  refine (fm_congr (g := fun i => some (s.colours.at_ (min (p % s.w + i - r) (s.w - 1)) (min (p / s.w + j - r) (s.h - 1)))) fun i _ => ?_).trans ?_
  · have e1 : Sq45.place 1 s.colours.w ((p % s.w : Nat) + (i : Int) - r) = some (min (p % s.w + i - r) (s.w - 1)) := place1 W.w1 _ _ _ h1
    have e2 : Sq45.place 1 s.colours.h ((p / s.w : Nat) + (j : Int) - r) = some (min (p / s.w + j - r) (s.h - 1)) := place1 W.h1 _ _ _ h2
    rw [e1, e2]
  rw [List.filterMap_eq_map']
  refine List.map_congr_left fun i _ => ?_  -- own
  unfold Sq45.Picture.at_ State.colours colAt colsL
  show ((s.layer.dots.map fun d => d.1).toArray[_]?).getD 0 = _
  rw [List.getElem?_toArray]
  rfl
theorem mean_eq {ns : List Nat} (h : 0 < ns.length) : Sq45.mean ns = meanL ns := by
  unfold Sq45.mean Sq45.rounded meanL near
  have e : max 1 ns.length = ns.length := by omega
  rw [e]
  have : (2 * ((ns.sum : Nat) : Int) + (ns.length : Int)) / ((2 * ns.length : Nat) : Int) = (((2 * ns.sum + ns.length) / (2 * ns.length) : Nat) : Int) := by
    rw [Int.natCast_ediv, Int.natCast_add, Int.natCast_mul]
    rfl
  rw [this, Int.toNat_natCast]
theorem does_mean {s : State} (W : WF s) (k : Option Clip) (r : Nat) : s.does k (.mean r) = f_mean s [r] := by
  dsimp only [State.does, f_mean]
  by_cases c : 4 < r
  · rw [if_pos c, if_pos c]
  · rw [if_neg c, if_neg c, work_rec W _ (fun p => (meanL (winL s.w s.h (colsL s) p r), (dotP s p).2)) (fun p hp => ?_)]
    · rfl
    · rw [window_eq W r p hp, mean_eq (win_ok W p (by omega)).pos, at_p]
      rfl
def f_rank (s : State) : List Nat → Except Int State
  | [r, p, q] => if 4 < r ∨ q = 0 ∨ q < p then .error (-1) else .ok (setDots s (recL s r (Sq45.ranked p q)))
  | _ => .error 0
theorem does_rank {s : State} (W : WF s) (k : Option Clip) (r p q : Nat) : s.does k (.rank r p q) = f_rank s [r, p, q] := by
  dsimp only [State.does, f_rank]
  by_cases c : 4 < r ∨ q = 0 ∨ q < p
  · rw [if_pos c, if_pos c]
  · rw [if_neg c, if_neg c, work_rec W _ (fun i => (Sq45.ranked p q (winL s.w s.h (colsL s) i r), (dotP s i).2)) (fun i hi => ?_)]
    · rfl
    · rw [window_eq W r i hi, at_p]
      rfl
end LP
end
section
namespace LP
open Sq50
/-! layers -/
theorem does_layer {s : State} (k : Option Clip) : s.does k .layer = newL s (List.replicate (s.w * s.h) (0, 0)) := by
  dsimp only [State.does, newL]
  by_cases c : LAYERS ≤ s.layers.length
  · rw [if_pos c, if_pos (show 5 ≤ s.layers.length from c)]
  · rw [if_neg c, if_neg (show ¬ 5 ≤ s.layers.length from c), List.append_assoc]
    rfl
theorem any_none {ls : List Layer} {i : Nat} : ((ls.any fun l => l.id == i) = false) ↔ ls.findIdx? (fun l => l.id == i) = none := by
  rw [List.findIdx?_eq_none_iff, List.any_eq_false]
  constructor
  · intro h l hl
    exact Bool.eq_false_iff.mpr (h l hl)
  · intro h l hl
    rw [h l hl]
    exact Bool.false_ne_true
theorem does_work {s : State} (k : Option Clip) (i : Nat) : s.does k (.work i) = f_work s [i] := by
  dsimp only [State.does, f_work]
  cases e : s.layers.findIdx? (fun l => l.id == i) with
  | none => rw [if_pos (any_none.mpr e)]
  | some p => rw [if_neg (fun z => by rw [any_none.mp z] at e; cases e)]
theorem idx_at {ls : List Layer} {i p : Nat} (h : ls.findIdx? (fun l => l.id == i) = some p) : ∃ l, ls[p]? = some l ∧ l.id = i := by
  obtain ⟨hp, h1, _⟩ := List.findIdx?_eq_some_iff_getElem.mp h
  exact ⟨ls[p], List.getElem?_eq_getElem hp, by simpa using h1⟩
theorem does_how {s : State} (W : WF s) (k : Option Clip) (i e a m : Nat) : s.does k (.how i e a m) = f_how s [i, e, a, m] := by
  dsimp only [State.does, f_how]
  by_cases c : 1 < e ∨ 255 < a ∨ 6 < m
  · rw [if_pos c, if_pos c]
  · rw [if_neg c, if_neg c]
    cases q : s.layers.findIdx? (fun l => l.id == i) with
    | none => rw [if_pos (any_none.mpr q)]
    | some p =>
      rw [if_neg (fun z => by rw [any_none.mp z] at q; cases q)]
      obtain ⟨l, hl, hi⟩ := idx_at q
      have h := set_map s.layers (fun (l : Layer) => l.id = i) (fun (l : Layer) => { l with seen := e == 1, strong := a, way := m }) p l hl hi (fun j b hb hbi => idx_inj W hb hl (by rw [hbi, hi]))
      show Except.ok { s with layers := s.layers.map fun (l : Layer) => if l.id = i then { l with seen := e == 1, strong := a, way := m } else l } = _
      rw [h]
      dsimp only
      rw [hl]
      subst hi
      rfl
theorem filter_erase {i : Nat} : ∀ {ls : List Layer} {p : Nat}, (ls.map (·.id)).Nodup → ls.findIdx? (fun l => l.id == i) = some p → ls.filter (fun l => l.id != i) = ls.eraseIdx p
  | [], p, _, h => by simp at h
  | l :: ls, p, hn, h => by
    rw [List.map_cons, List.nodup_cons] at hn  -- own
    rw [List.findIdx?_cons] at h
    by_cases c : l.id = i
    · rw [if_pos (by simpa using c)] at h
      cases h
      rw [List.filter_cons_of_neg (by simp [c]), List.eraseIdx_cons_zero]
      refine List.filter_eq_self.mpr fun m hm => ?_
      have : m.id ≠ i := fun z => hn.1 (by rw [c, ← z]; exact List.mem_map.mpr ⟨m, hm, rfl⟩)
      simpa using this
    · rw [if_neg (by simpa using c)] at h
      obtain ⟨q, hq, rfl⟩ := Option.map_eq_some_iff.mp h
      rw [List.filter_cons_of_pos (by simp [c]), List.eraseIdx_cons_succ, filter_erase hn.2 hq]
theorem does_drop {s : State} (W : WF s) (k : Option Clip) (i : Nat) : s.does k (.drop i) = f_drop s [i] := by
  dsimp only [State.does, f_drop]
  cases q : s.layers.findIdx? (fun l => l.id == i) with
  | none => rw [if_pos (any_none.mpr q)]
  | some p =>
    rw [if_neg (fun z => by rw [any_none.mp z] at q; cases q)]
    obtain ⟨l, hl, hi⟩ := idx_at q
    have hp := (List.getElem?_eq_some_iff.mp hl).1
    have hf := filter_erase W.ids q
    have hlen := List.length_eraseIdx_of_lt hp
    dsimp only
    by_cases c : s.layers.length = 1
    · rw [if_pos c]
      have : s.layers.eraseIdx p = [] := List.eq_nil_of_length_eq_zero (by omega)
      rw [hf, this]
    · rw [if_neg c]
      rw [hf]
      cases h2 : s.layers.eraseIdx p with
      | nil => rw [h2] at hlen; simp at hlen; omega
      | cons a r => rfl
theorem does_raise {s : State} (W : WF s) (k : Option Clip) (i : Nat) : s.does k (.raise i) = f_raise s [i] := by
  dsimp only [State.does, f_raise]
  cases q : s.layers.findIdx? (fun l => l.id == i) with
  | none => rfl
  | some p =>
    obtain ⟨l, hl, hi⟩ := idx_at q
    have hp := (List.getElem?_eq_some_iff.mp hl).1
    dsimp only
    rw [hl]
    by_cases c : p = s.layers.length - 1
    · rw [if_pos c, List.getElem?_eq_none (by omega)]
    · rw [if_neg c]
      have hp1 : p + 1 < s.layers.length := by omega
      have hb := List.getElem?_eq_getElem hp1
      rw [hb]
      dsimp only
      congr 2
      have e1 : s.layers.eraseIdx p = s.layers.take p ++ s.layers[p + 1] :: s.layers.drop (p + 2) := by
        rw [List.eraseIdx_eq_take_drop_succ, List.drop_eq_getElem_cons hp1]
      have ht : (s.layers.take p).length = p := by rw [List.length_take]; omega
      rw [e1, List.take_append, List.drop_append, ht]
      have a1 : p + 1 - p = 1 := by omega
      have h1 : (s.layers.take p).take (p + 1) = s.layers.take p := List.take_of_length_le (by rw [ht]; omega)
      have h2 : (s.layers.take p).drop (p + 1) = [] := List.drop_eq_nil_of_le (by rw [ht]; omega)
      rw [a1, h1, h2]
      show _ = s.layers.take p ++ [s.layers[p + 1]] ++ [l] ++ ([] ++ s.layers.drop (p + 2))
      rw [List.nil_append, List.append_assoc, List.append_assoc]
      rfl
theorem does_merge {s : State} (W : WF s) (k : Option Clip) : s.does k .merge = f_merge s := by
  dsimp only [State.does, f_merge]
  by_cases c : s.place = 0
  · rw [if_pos c, if_pos c]
  · rw [if_neg c, if_neg c]
    obtain ⟨l, hl, _, el⟩ := place_on W
    have hp := (List.getElem?_eq_some_iff.mp hl).1
    have h1 : s.place - 1 < s.layers.length := by omega
    rw [List.getElem?_eq_getElem h1]
    dsimp only
    rw [joined_p W (List.getElem_mem h1) (layer_mem W), List.append_assoc]
    rfl
theorem reshaped_eq (s : State) (w h : Nat) (f : Nat → Nat → Nat × Nat) (src : List Nat) (e : src = ((List.range h).flatMap fun y => (List.range w).map fun x => f x y).map fun c => c.2 * s.w + c.1) : s.reshaped w h f = rearr s w h src := by
  subst e
  unfold State.reshaped rearr
  dsimp only
  congr 1
  · refine List.map_congr_left fun l _ => ?_
    rw [List.map_map]
    rfl
  · rw [List.map_map]
    rfl
theorem flat_congr {α β : Type} {f g : α → List β} {l : List α} (h : ∀ a ∈ l, f a = g a) : l.flatMap f = l.flatMap g := by
  induction l with
  | nil => rfl
  | cons a l ih => rw [List.flatMap_cons, List.flatMap_cons, h a (List.mem_cons_self ..), ih fun b hb => h b (List.mem_cons_of_mem _ hb)]
theorem src_eq (s : State) (w h : Nat) (f : Nat → Nat → Nat × Nat) (g : Nat → Nat → Nat) (e : ∀ x y, x < w → y < h → g x y = (f x y).2 * s.w + (f x y).1) : ((List.range h).flatMap fun y => (List.range w).map fun x => g x y) = ((List.range h).flatMap fun y => (List.range w).map fun x => f x y).map fun c => c.2 * s.w + c.1 := by
  rw [List.map_flatMap]
  refine flat_congr fun y hy => ?_
  rw [List.map_map]
  exact List.map_congr_left fun x hx => e x y (List.mem_range.mp hx) (List.mem_range.mp hy)
theorem does_turn {s : State} (k : Option Clip) (i : Nat) : s.does k (.turn i) = f_turn s [i] := by
  dsimp only [State.does, f_turn]
  by_cases c : 2 < i
  · rw [if_pos c, if_pos c]
  · rw [if_neg c, if_neg c]
    congr 1
    by_cases c0 : i = 0
    · subst c0
      rw [if_pos rfl, if_neg (by decide), if_neg (by decide)]
      refine reshaped_eq s s.w s.h _ _ (src_eq s _ _ _ _ fun x y hx hy => ?_)
      unfold srcP
      rw [if_pos rfl]
      dsimp only
      omega
    · rw [if_neg c0]
      by_cases c1 : i = 1
      · subst c1
        rw [if_pos rfl, if_neg (by decide), if_neg (by decide)]
        refine reshaped_eq s s.w s.h _ _ (src_eq s _ _ _ _ fun x y hx hy => ?_)
        unfold srcP
        rw [if_neg (by decide), if_pos rfl]  -- own
      · have c2 : i = 2 := by omega
        subst c2
        rw [if_neg (by decide), if_pos rfl, if_pos rfl]
        refine reshaped_eq s s.h s.w _ _ (src_eq s _ _ _ _ fun x y hx hy => ?_)
        unfold srcP
        rw [if_neg (by decide), if_neg (by decide)]
theorem mark_sorted (bs : List Bool) : (markL bs).Pairwise (· < ·) := List.Pairwise.filter _ List.pairwise_lt_range
theorem is_mark {s : State} (W : WF s) : s.cells.filter (fun c => s.is c.1 c.2) = (markL s.chosen).map fun p => (p % s.w, p / s.w) := by
  have h : s.cells = (List.range (s.w * s.h)).map fun p => (p % s.w, p / s.w) := by
    have := cells_map W (fun c => c)
    rw [List.map_id'] at this
    exact this
  rw [h, List.filter_map]
  unfold markL
  rw [W.ch]
  congr 2
  funext p
  exact is_p p
theorem min_is {l : List Nat} {m : Nat} (h1 : m ∈ l) (h2 : ∀ x ∈ l, m ≤ x) : l.min? = some m := List.min?_eq_some_iff.mpr ⟨h1, h2⟩
theorem max_is {l : List Nat} {m : Nat} (h1 : m ∈ l) (h2 : ∀ x ∈ l, x ≤ m) : l.max? = some m := List.max?_eq_some_iff.mpr ⟨h1, h2⟩
theorem does_crop {s : State} (W : WF s) (k : Option Clip) : s.does k .crop = f_crop s := by
  dsimp only [State.does, f_crop]
  rw [is_mark W]
  have hs := mark_sorted s.chosen
  generalize markL s.chosen = ms at hs
  cases ms with
  | nil => rfl
  | cons a r =>
    rw [if_neg (by simp)]
    rw [List.map_map, List.map_map]  -- own
    have e1 : ((fun c : Nat × Nat => c.1) ∘ fun p => (p % s.w, p / s.w)) = fun p => p % s.w := rfl
    have e2 : ((fun c : Nat × Nat => c.2) ∘ fun p => (p % s.w, p / s.w)) = fun p => p / s.w := rfl
    rw [e1, e2]
    obtain ⟨lo, hlo⟩ : ∃ lo, ((a :: r).map fun p => p % s.w).min? = some lo := by rw [List.map_cons, List.min?_cons']; exact ⟨_, rfl⟩
    obtain ⟨hi, hhi⟩ : ∃ hi, ((a :: r).map fun p => p % s.w).max? = some hi := by rw [List.map_cons, List.max?_cons']; exact ⟨_, rfl⟩
    have ht : ((a :: r).map fun p => p / s.w).min? = some (a / s.w) := by
      refine min_is (by rw [List.map_cons]; exact List.mem_cons_self ..) fun x hx => ?_
      obtain ⟨p, hp, rfl⟩ := List.mem_map.mp hx
      rcases List.mem_cons.mp hp with rfl | hp  -- own
      · exact Nat.le_refl _
      · exact Nat.div_le_div_right (Nat.le_of_lt ((List.pairwise_cons.mp hs).1 p hp))
    have hb : ((a :: r).map fun p => p / s.w).max? = some ((a :: r).getLastD 0 / s.w) := by
      have hl : (a :: r).getLastD 0 = (a :: r).getLast (by simp) := by rw [List.getLastD_eq_getLast?, List.getLast?_eq_some_getLast (by simp)]; rfl
      rw [hl]
      refine max_is (List.mem_map.mpr ⟨_, List.getLast_mem _, rfl⟩) fun x hx => ?_
      obtain ⟨p, hp, rfl⟩ := List.mem_map.mp hx
      refine Nat.div_le_div_right ?_
      obtain ⟨i, hi, rfl⟩ := List.getElem_of_mem hp  -- own
      rw [List.getLast_eq_getElem]
      by_cases c : i = (a :: r).length - 1
      · subst c; exact Nat.le_refl _
      · exact Nat.le_of_lt (List.pairwise_iff_getElem.mp hs i _ hi (by omega) (by omega))
    rw [hlo, hhi, ht, hb]
    have el : loC s.w (a :: r) = lo := by unfold loC; rw [hlo]; rfl
    have eh : hiC s.w (a :: r) = hi := by unfold hiC; rw [hhi]; rfl
    dsimp only
    rw [el, eh]
    have hle : lo ≤ hi := by
      obtain ⟨h1, _⟩ := List.min?_eq_some_iff.mp hlo
      exact (List.max?_eq_some_iff.mp hhi).2 lo h1
    have htb : a / s.w ≤ (a :: r).getLastD 0 / s.w := by
      obtain ⟨h1, _⟩ := List.min?_eq_some_iff.mp ht
      exact (List.max?_eq_some_iff.mp hb).2 _ h1
    congr 1
    show _ = rearr s (hi - lo + 1) ((a :: r).getLastD 0 / s.w - a / s.w + 1) (cropSrc s.w lo hi (a / s.w) ((a :: r).getLastD 0 / s.w))
    have e3 : hi + 1 - lo = hi - lo + 1 := by omega
    have e4 : (a :: r).getLastD 0 / s.w + 1 - a / s.w = (a :: r).getLastD 0 / s.w - a / s.w + 1 := by omega
    rw [e3, e4]
    refine reshaped_eq s _ _ _ _ ?_
    unfold cropSrc
    rw [e3, e4]
    refine src_eq s _ _ (fun x y => (x + lo, y + a / s.w)) (fun i j => (a / s.w + j) * s.w + (lo + i)) fun x y hx hy => ?_
    dsimp only
    rw [Nat.add_comm y, Nat.add_comm x]
end LP
end
section
namespace LP
open Sq50
/-! move -/
def frm (w h a b q : Nat) : Option Nat := if q % w + 16 < a ∨ q / w + 16 < b ∨ w ≤ q % w + 16 - a ∨ h ≤ q / w + 16 - b then none else some ((q / w + 16 - b) * w + (q % w + 16 - a))
theorem divmod {w x y : Nat} (hx : x < w) : (y * w + x) % w = x ∧ (y * w + x) / w = y := by
  have hw : 0 < w := by omega
  constructor
  · rw [Nat.mul_comm, Nat.mul_add_mod]; exact Nat.mod_eq_of_lt hx
  · rw [Nat.mul_comm, Nat.mul_add_div hw, Nat.div_eq_of_lt hx, Nat.add_zero]
theorem frm_iff {w h a b p q : Nat} (hw : 1 ≤ w) (hp : p < w * h) (hq : q < w * h) : (besP w h p ((a : Int) - 16, (b : Int) - 16) = true ∧ besV w p ((a : Int) - 16, (b : Int) - 16) = q) ↔ frm w h a b q = some p := by
  obtain ⟨p1, p2⟩ := mem_p hw hp
  obtain ⟨q1, q2⟩ := mem_p hw hq
  have bp := back p w
  have bq := back q w
  unfold besP besV frm
  simp only [Bool.and_eq_true, decide_eq_true_eq]  -- own
  constructor
  · generalize p % w = u at p1 bp ⊢
    generalize p / w = v at p2 bp ⊢
    rintro ⟨⟨⟨h1, h2⟩, h3, h4⟩, h5⟩
    obtain ⟨X, hX⟩ := Int.eq_ofNat_of_zero_le h1
    obtain ⟨Y, hY⟩ := Int.eq_ofNat_of_zero_le h3
    rw [hX, hY] at h5
    have e5 : Y * w + X = q := by
      rw [← h5, ← Int.natCast_mul, ← Int.natCast_add, Int.toNat_natCast]
    have hXw : X < w := by omega
    obtain ⟨d1, d2⟩ := divmod (y := Y) hXw
    rw [e5] at d1 d2
    rw [d1, d2]
    rw [if_neg (by omega)]
    congr 1
    have u1 : Y + 16 - b = v := by omega
    have u2 : X + 16 - a = u := by omega
    rw [u1, u2, bp]
  · generalize q % w = u at q1 bq ⊢
    generalize q / w = v at q2 bq ⊢
    intro hf
    split at hf
    · cases hf
    · rename_i hn
      cases hf
      have hu : u + 16 - a < w := by omega
      obtain ⟨d1, d2⟩ := divmod (y := v + 16 - b) hu
      rw [d1, d2]
      have e1 : (((u + 16 - a : Nat) : Int) + ((a : Int) - 16)) = (u : Int) := by omega
      have e2 : (((v + 16 - b : Nat) : Int) + ((b : Int) - 16)) = (v : Int) := by omega
      rw [e1, e2]
      refine ⟨⟨⟨by omega, by omega⟩, by omega, by omega⟩, ?_⟩
      rw [← Int.natCast_mul, ← Int.natCast_add, Int.toNat_natCast, bq]
theorem besV_lt' {w h a b p : Nat} (hw : 1 ≤ w) (hp : p < w * h) (hb : besP w h p ((a : Int) - 16, (b : Int) - 16) = true) : besV w p ((a : Int) - 16, (b : Int) - 16) < w * h := besV_lt (by omega) hb
def mvD (s : State) (a b n q : Nat) : Dot := match frm s.w s.h a b q with
  | some p => if p < n ∧ mayP s p = true then dotP s p else if mayP s q = true then (0, 0) else dotP s q
  | none => if mayP s q = true then (0, 0) else dotP s q
def mvB (s : State) (a b n q : Nat) : Bool := match frm s.w s.h a b q with
  | some p => decide (p < n) && mayP s p
  | none => false
theorem mvAll_is {s : State} (W : WF s) (a b : Nat) : ∀ n, n ≤ s.w * s.h → mvAll s ((a : Int) - 16) ((b : Int) - 16) n = ((List.range (s.w * s.h)).map (mvD s a b n), (List.range (s.w * s.h)).map (mvB s a b n))
  | 0, _ => by
    show (becL s (0, 0), List.replicate (s.w * s.h) false) = _
    congr 1
    · unfold becL
      refine List.map_congr_left fun q _ => ?_
      unfold mvD
      cases frm s.w s.h a b q with
      | none => rfl
      | some p => exact (if_neg (fun z => absurd z.1 (Nat.not_lt_zero _))).symm
    · have : List.replicate (s.w * s.h) false = (List.range (s.w * s.h)).map fun _ => false := by rw [List.map_const', List.length_range]
      rw [this]
      refine List.map_congr_left fun q _ => ?_
      unfold mvB
      cases frm s.w s.h a b q with
      | none => rfl
      | some p => rfl
  | n + 1, hn => by
    rw [mvAll_succ, mvAll_is W a b n (by omega)]
    have hnN : n < s.w * s.h := by omega
    have hiff := fun q (hq : q < s.w * s.h) => frm_iff (a := a) (b := b) W.w1 hnN hq
    unfold mvTurn
    by_cases c : mayP s n = true ∧ besP s.w s.h n ((a : Int) - 16, (b : Int) - 16) = true
    · rw [if_pos c]
      have ht := besV_lt' W.w1 hnN c.2
      have hft := (hiff _ ht).mp ⟨c.2, rfl⟩
      generalize besV s.w n ((a : Int) - 16, (b : Int) - 16) = t at ht hft hiff
      congr 1
      · refine List.ext_getElem? fun q => ?_
        rw [List.getElem?_set]
        by_cases e : t = q
        · subst e
          rw [if_pos rfl, if_pos (by simpa using ht), List.getElem?_map, List.getElem?_range ht]
          show some (dotP s n) = some (mvD s a b (n + 1) t)
          unfold mvD
          rw [hft]
          dsimp only
          rw [if_pos ⟨Nat.lt_succ_self n, c.1⟩]
        · rw [if_neg e, List.getElem?_map, List.getElem?_map]
          by_cases hq : q < s.w * s.h
          · rw [List.getElem?_range hq]
            show some _ = some _
            congr 1
            have hne : frm s.w s.h a b q ≠ some n := fun z => e ((hiff q hq).mpr z).2
            unfold mvD
            cases hf : frm s.w s.h a b q with
            | none => rfl
            | some p =>
              dsimp only
              have hpn : p ≠ n := fun z => hne (by rw [hf, z])
              have : (p < n ∧ mayP s p = true) ↔ (p < n + 1 ∧ mayP s p = true) := by
                constructor
                · rintro ⟨z1, z2⟩; exact ⟨by omega, z2⟩
                · rintro ⟨z1, z2⟩; exact ⟨by omega, z2⟩
              simp only [this]
          · rw [List.getElem?_eq_none (by simpa using hq)]
            rfl
      · refine List.ext_getElem? fun q => ?_
        rw [List.getElem?_set]
        by_cases e : t = q
        · subst e
          rw [if_pos rfl, if_pos (by simpa using ht), List.getElem?_map, List.getElem?_range ht]
          show some true = some (mvB s a b (n + 1) t)
          unfold mvB
          rw [hft]
          dsimp only
          rw [c.1, decide_eq_true (Nat.lt_succ_self n)]
          rfl
        · rw [if_neg e, List.getElem?_map, List.getElem?_map]
          by_cases hq : q < s.w * s.h
          · rw [List.getElem?_range hq]
            show some _ = some _
            congr 1
            have hne : frm s.w s.h a b q ≠ some n := fun z => e ((hiff q hq).mpr z).2
            unfold mvB
            cases hf : frm s.w s.h a b q with
            | none => rfl
            | some p =>
              dsimp only
              have hpn : p ≠ n := fun z => hne (by rw [hf, z])
              have : decide (p < n) = decide (p < n + 1) := by
                by_cases z : p < n
                · rw [decide_eq_true z, decide_eq_true (by omega)]
                · rw [decide_eq_false z, decide_eq_false (by omega)]
              rw [this]
          · rw [List.getElem?_eq_none (by simpa using hq)]
            rfl
    · rw [if_neg c]
      have key : ∀ q, q < s.w * s.h → frm s.w s.h a b q = some n → mayP s n = false := fun q hq z => by
        cases hm : mayP s n with
        | false => rfl
        | true => exact absurd ⟨hm, ((hiff q hq).mpr z).1⟩ c
      congr 1
      · refine List.map_congr_left fun q hq => ?_
        have hq := List.mem_range.mp hq
        unfold mvD
        cases hf : frm s.w s.h a b q with
        | none => rfl
        | some p =>
          dsimp only
          have : (p < n ∧ mayP s p = true) ↔ (p < n + 1 ∧ mayP s p = true) := by
            constructor
            · rintro ⟨z1, z2⟩; exact ⟨by omega, z2⟩
            · rintro ⟨z1, z2⟩
              refine ⟨?_, z2⟩
              by_cases e : p = n
              · subst e; rw [key q hq hf] at z2; cases z2
              · omega
          simp only [this]
      · refine List.map_congr_left fun q hq => ?_
        have hq := List.mem_range.mp hq
        unfold mvB
        cases hf : frm s.w s.h a b q with
        | none => rfl
        | some p =>
          dsimp only
          by_cases e : p = n
          · subst e; rw [key q hq hf, Bool.and_false, Bool.and_false]
          · have : decide (p < n) = decide (p < n + 1) := by
              by_cases z : p < n
              · rw [decide_eq_true z, decide_eq_true (by omega)]
              · rw [decide_eq_false z, decide_eq_false (by omega)]
            rw [this]
theorem frm_lt {w h a b q p : Nat} (hw : 1 ≤ w) (h1 : frm w h a b q = some p) : p < w * h := by
  unfold frm at h1
  split at h1
  · cases h1
  · rename_i hn
    cases h1
    have h2 : (q / w + 16 - b + 1) * w ≤ h * w := Nat.mul_le_mul_right _ (by omega)
    rw [Nat.add_mul, Nat.one_mul, Nat.mul_comm h] at h2
    omega
theorem does_move {s : State} (W : WF s) (k : Option Clip) (a b : Nat) : s.does k (.move a b) = f_move s [a, b] := by
  dsimp only [State.does, f_move]
  by_cases c : 32 < a ∨ 32 < b
  · rw [if_pos (show 2 * OFF < a ∨ 2 * OFF < b from c), if_pos c]
  · rw [if_neg (show ¬ (2 * OFF < a ∨ 2 * OFF < b) from c), if_neg c]
    rw [mvAll_is W a b _ (Nat.le_refl _)]
    dsimp only
    congr 1
    have fr : ∀ q, (if q % s.w + OFF < a ∨ q / s.w + OFF < b ∨ s.w ≤ q % s.w + OFF - a ∨ s.h ≤ q / s.w + OFF - b then (none : Option (Nat × Nat)) else some (q % s.w + OFF - a, q / s.w + OFF - b)) = (frm s.w s.h a b q).map fun p => (p % s.w, p / s.w) := fun q => by
      unfold frm
      show (if q % s.w + 16 < a ∨ q / s.w + 16 < b ∨ s.w ≤ q % s.w + 16 - a ∨ s.h ≤ q / s.w + 16 - b then (none : Option (Nat × Nat)) else some (q % s.w + 16 - a, q / s.w + 16 - b)) = _
      split
      · rfl
      · rename_i hn
        show _ = some _
        obtain ⟨d1, d2⟩ := divmod (w := s.w) (x := q % s.w + 16 - a) (y := q / s.w + 16 - b) (by omega)
        dsimp only
        rw [d1, d2]
    have hN : ∀ {q p : Nat}, frm s.w s.h a b q = some p → p < s.w * s.h := fun z => frm_lt W.w1 z
    by_cases hany : s.chosen.any (fun b => b) = true
    · rw [if_pos hany, if_pos hany]
      unfold withCh setDots
      dsimp only
      congr 1
      · refine List.map_congr_left fun l hl => ?_
        by_cases e : l.id = s.on
        · rw [if_pos e, if_pos e]
          have hs : l = s.layer := id_inj W hl (layer_mem W) (e.trans (layer_id W).symm)
          subst hs
          congr 1
          rw [cells_map W]
          refine List.map_congr_left fun q hq => ?_
          have hq := List.mem_range.mp hq
          dsimp only
          rw [fr q]
          unfold mvD
          cases hf : frm s.w s.h a b q with
          | none =>
            show (if s.may (q % s.w) (q / s.w) = true then _ else _) = _
            rw [may_p W hq, at_p]
            rfl
          | some p =>
            show (if s.may (p % s.w) (p / s.w) = true then s.at_ s.layer (p % s.w) (p / s.w) else if s.may (q % s.w) (q / s.w) = true then (0, 0) else s.at_ s.layer (q % s.w) (q / s.w)) = _
            rw [may_p W hq, may_p W (hN hf), at_p, at_p]
            dsimp only
            have : (p < s.w * s.h ∧ mayP s p = true) ↔ (mayP s p = true) := ⟨fun z => z.2, fun z => ⟨hN hf, z⟩⟩
            simp only [this]
            rfl
        · rw [if_neg e, if_neg e]
      · rw [cells_map W]
        refine List.map_congr_left fun q hq => ?_
        have hq := List.mem_range.mp hq
        dsimp only
        rw [fr q]
        unfold mvB
        cases hf : frm s.w s.h a b q with
        | none => rfl
        | some p =>
          show s.may (p % s.w) (p / s.w) = _
          rw [may_p W (hN hf)]
          dsimp only
          rw [decide_eq_true (hN hf), Bool.true_and]
          rfl
    · rw [if_neg hany, if_neg hany]
      unfold setDots
      congr 1
      refine List.map_congr_left fun l hl => ?_
      by_cases e : l.id = s.on
      · rw [if_pos e, if_pos e]
        have hs : l = s.layer := id_inj W hl (layer_mem W) (e.trans (layer_id W).symm)
        subst hs
        congr 1
        rw [cells_map W]
        refine List.map_congr_left fun q hq => ?_
        have hq := List.mem_range.mp hq
        dsimp only
        rw [fr q]
        unfold mvD
        cases hf : frm s.w s.h a b q with
        | none =>
          show (if s.may (q % s.w) (q / s.w) = true then _ else _) = _
          rw [may_p W hq, at_p]
          rfl
        | some p =>
          show (if s.may (p % s.w) (p / s.w) = true then s.at_ s.layer (p % s.w) (p / s.w) else if s.may (q % s.w) (q / s.w) = true then (0, 0) else s.at_ s.layer (q % s.w) (q / s.w)) = _
          rw [may_p W hq, may_p W (hN hf), at_p, at_p]
          dsimp only
          have : (p < s.w * s.h ∧ mayP s p = true) ↔ (mayP s p = true) := ⟨fun z => z.2, fun z => ⟨hN hf, z⟩⟩
          simp only [this]
          rfl
      · rw [if_neg e, if_neg e]
end LP
end
section
namespace LP
open Sq50
/-! flood: what is come to -/
inductive Re (nb : Nat → List Nat) (ok : Nat → Nat → Bool) (start : Nat) : Nat → Prop
  | here : Re nb ok start start
  | step {p o : Nat} : Re nb ok start p → o ∈ nb p → ok p o = true → Re nb ok start o
structure FlI (nb : Nat → List Nat) (ok : Nat → Nat → Bool) (start n : Nat) (x : Fs) : Prop where
  len : x.1.length = n
  tr : ∀ p : Nat, x.1[p]? = some true → Re nb ok start p
  wt : ∀ p ∈ x.2, x.1[p]? = some true
section
variable {nb : Nat → List Nat} {ok : Nat → Nat → Bool} {start n : Nat}
theorem turn_inv {p o : Nat} {x : Fs} (I : FlI nb ok start n x) (hp : Re nb ok start p) (ho : o ∈ nb p) (hon : o < n) :
    FlI nb ok start n (fTurn ok p x o) ∧ (∀ q : Nat, x.1[q]? = some true → (fTurn ok p x o).1[q]? = some true) ∧ (∀ q ∈ x.2, q ∈ (fTurn ok p x o).2) ∧ (∀ q : Nat, (fTurn ok p x o).1[q]? = some true → x.1[q]? = some true ∨ q ∈ (fTurn ok p x o).2) ∧ (ok p o = true → (fTurn ok p x o).1[o]? = some true) := by
  have hlt : o < x.1.length := by rw [I.len]; exact hon
  unfold fTurn
  by_cases c : x.1[o]?.getD true = false ∧ ok p o = true
  · rw [if_pos c]
    have hs : ∀ q : Nat, (x.1.set o true)[q]? = if o = q then some true else x.1[q]? := fun q => by
      rw [List.getElem?_set]
      by_cases e : o = q
      · subst e; rw [if_pos rfl, if_pos rfl, if_pos hlt]
      · rw [if_neg e, if_neg e]
    refine ⟨⟨by rw [List.length_set]; exact I.len, fun q hq => ?_, fun q hq => ?_⟩, fun q hq => ?_, fun q hq => List.mem_append_left _ hq, fun q hq => ?_, fun _ => ?_⟩
    · rw [hs] at hq
      by_cases e : o = q
      · subst e; exact .step hp ho c.2
      · rw [if_neg e] at hq; exact I.tr q hq
    · rw [hs]
      by_cases e : o = q
      · rw [if_pos e]
      · rw [if_neg e]
        rcases List.mem_append.mp hq with hq | hq  -- own
        · exact I.wt q hq
        · exact absurd (List.mem_singleton.mp hq).symm e
    · rw [hs]
      by_cases e : o = q
      · rw [if_pos e]
      · rw [if_neg e]; exact hq
    · rw [hs] at hq
      by_cases e : o = q
      · subst e; exact .inr (List.mem_append_right _ (List.mem_singleton.mpr rfl))
      · rw [if_neg e] at hq; exact .inl hq
    · rw [hs, if_pos rfl]
  · rw [if_neg c]
    refine ⟨I, fun q hq => hq, fun q hq => hq, fun q hq => .inl hq, fun h => ?_⟩
    rw [List.getElem?_eq_getElem hlt] at c ⊢
    cases e : x.1[o] with
    | true => rfl
    | false => rw [e] at c; exact absurd ⟨rfl, h⟩ c
theorem fold_inv {p : Nat} (hp : Re nb ok start p) (hn : ∀ o ∈ nb p, o < n) : ∀ (os : List Nat) (x : Fs), (∀ o ∈ os, o ∈ nb p) → FlI nb ok start n x →
    FlI nb ok start n (os.foldl (fTurn ok p) x) ∧ (∀ q : Nat, x.1[q]? = some true → (os.foldl (fTurn ok p) x).1[q]? = some true) ∧ (∀ q ∈ x.2, q ∈ (os.foldl (fTurn ok p) x).2) ∧ (∀ q : Nat, (os.foldl (fTurn ok p) x).1[q]? = some true → x.1[q]? = some true ∨ q ∈ (os.foldl (fTurn ok p) x).2) ∧ (∀ o ∈ os, ok p o = true → (os.foldl (fTurn ok p) x).1[o]? = some true)
  | [], x, _, I => ⟨I, fun _ h => h, fun _ h => h, fun _ h => .inl h, fun _ h => nomatch h⟩
  | o :: os, x, hs, I => by
    obtain ⟨I1, m1, w1, n1, d1⟩ := turn_inv I hp (hs o (List.mem_cons_self ..)) (hn o (hs o (List.mem_cons_self ..)))
    obtain ⟨I2, m2, w2, n2, d2⟩ := fold_inv hp hn os _ (fun q hq => hs q (List.mem_cons_of_mem _ hq)) I1
    rw [List.foldl_cons]
    refine ⟨I2, fun q hq => m2 q (m1 q hq), fun q hq => w2 q (w1 q hq), fun q hq => ?_, fun q hq h => ?_⟩
    · rcases n2 q hq with h | h
      · rcases n1 q h with h | h
        · exact .inl h
        · exact .inr (w2 q h)
      · exact .inr h
    · rcases List.mem_cons.mp hq with rfl | hq  -- own
      · exact m2 _ (d1 h)
      · exact d2 q hq h
theorem fl_inv (hst : start < n) (hn : ∀ p o, o ∈ nb p → o < n) {x : Fs} (f : Fl nb ok (fl0 n start) x) : FlI nb ok start n x ∧ x.1[start]? = some true ∧ ∀ p : Nat, x.1[p]? = some true → p ∈ x.2 ∨ ∀ o ∈ nb p, ok p o = true → x.1[o]? = some true := by
  induction f with
  | refl =>
    have hs : ∀ q : Nat, ((List.replicate n false).set start true)[q]? = some true → q = start := fun q hq => by
      rw [List.getElem?_set] at hq
      by_cases e : start = q
      · exact e.symm
      · rw [if_neg e, List.getElem?_replicate] at hq
        split at hq <;> cases hq
    have h0 : ((List.replicate n false).set start true)[start]? = some true := by
      rw [List.getElem?_set, if_pos rfl, if_pos (by rw [List.length_replicate]; exact hst)]
    refine ⟨⟨by show ((List.replicate n false).set start true).length = n; rw [List.length_set, List.length_replicate], fun p hp => ?_, fun p hp => ?_⟩, h0, fun p hp => .inl ?_⟩
    · rw [hs p hp]; exact .here
    · rw [List.mem_singleton.mp hp]; exact h0
    · rw [hs p hp]; exact List.mem_singleton.mpr rfl
  | @step rs ws p f ih =>
    obtain ⟨I, s0, cl⟩ := ih
    have hpt : rs[p]? = some true := I.wt p (List.mem_append_right _ (List.mem_singleton.mpr rfl))
    have hp := I.tr p hpt
    have I0 : FlI nb ok start n (rs, ws) := ⟨I.len, I.tr, fun q hq => I.wt q (List.mem_append_left _ hq)⟩
    obtain ⟨I2, m2, w2, n2, d2⟩ := fold_inv hp (hn p) (nb p) (rs, ws) (fun o ho => ho) I0
    refine ⟨I2, m2 _ s0, fun q hq => ?_⟩
    rcases n2 q hq with h | h
    · rcases cl q h with h3 | h3
      · rcases List.mem_append.mp h3 with h4 | h4
        · exact .inl (w2 q h4)
        · rw [List.mem_singleton.mp h4]
          exact .inr d2
      · exact .inr fun o ho hk => m2 o (h3 o ho hk)
    · exact .inl h
theorem fl_end (hst : start < n) (hn : ∀ p o, o ∈ nb p → o < n) {rs : List Bool} (f : Fl nb ok (fl0 n start) (rs, [])) : rs.length = n ∧ ∀ q : Nat, rs[q]? = some true ↔ Re nb ok start q := by
  obtain ⟨I, s0, cl⟩ := fl_inv hst hn f
  refine ⟨I.len, fun q => ⟨I.tr q, fun h => ?_⟩⟩
  induction h with
  | here => exact s0
  | @step p o _ ho hk ih =>
    rcases cl p ih with h | h
    · exact nomatch h
    · exact h o ho hk
end
/-! flood: rounds -/
inductive Wy (g : Sq44.House) (c : Bool) (ok : Sq44.Pixel → Sq44.Pixel → Bool) (l : List Sq44.Pixel) : Sq44.Pixel → Prop
  | here {p : Sq44.Pixel} : p ∈ l → Wy g c ok l p
  | step {p q : Sq44.Pixel} : Wy g c ok l p → q ∈ g.cells → Sq44.beside c p q = true → ok p q = true → Wy g c ok l q
theorem nodup_len {α : Type} [DecidableEq α] : ∀ {l m : List α}, l.Nodup → (∀ a ∈ l, a ∈ m) → l.length ≤ m.length
  | [], _, _, _ => Nat.zero_le _  -- own
  | a :: l, m, h, hs => by
    have h := List.nodup_cons.mp h
    have ha := hs a (List.mem_cons_self ..)
    have ih := nodup_len (m := m.erase a) h.2 fun b hb => by
      have ne : b ≠ a := fun z => h.1 (by rw [← z]; exact hb)
      exact (List.mem_erase_of_ne ne).mpr (hs b (List.mem_cons_of_mem _ hb))
    have e := List.length_erase_of_mem ha
    have := List.length_pos_of_mem ha
    rw [List.length_cons]
    omega
theorem spread_is (g : Sq44.House) (c : Bool) (ok : Sq44.Pixel → Sq44.Pixel → Bool) (hc : g.cells.Nodup) (l0 : List Sq44.Pixel) : ∀ (f : Nat) (l : List Sq44.Pixel), l.Nodup → (∀ q ∈ l, q ∈ g.cells) → g.cells.length + 1 ≤ l.length + f → (∀ q ∈ l0, q ∈ l) → (∀ q ∈ l, Wy g c ok l0 q) →
    ∀ q, q ∈ g.spread c ok f l ↔ Wy g c ok l0 q
  | 0, l, hl, hs, hn, _, _, _ => by
    have := nodup_len hl hs
    omega
  | f + 1, l, hl, hs, hn, h0, hw, q => by
    unfold Sq44.House.spread
    dsimp only
    generalize hnew : g.cells.filter (fun q => !l.contains q && l.any fun p => Sq44.beside c p q && ok p q) = new
    have hin : ∀ z, z ∈ new ↔ z ∈ g.cells ∧ z ∉ l ∧ ∃ p ∈ l, Sq44.beside c p z = true ∧ ok p z = true := fun z => by
      rw [← hnew, List.mem_filter]
      simp [List.any_eq_true]
    by_cases e : new.isEmpty = true
    · rw [if_pos e]
      refine ⟨hw q, fun h => ?_⟩
      have en : new = [] := List.isEmpty_iff.mp e
      induction h with
      | here hp => exact h0 _ hp
      | @step p q _ hq hb hk ih =>
        by_cases m : q ∈ l
        · exact m
        · have : q ∈ new := (hin q).mpr ⟨hq, m, p, ih, hb, hk⟩
          rw [en] at this
          exact nomatch this
    · rw [if_neg e]
      have hpos : 1 ≤ new.length := by
        cases new with
        | nil => exact absurd rfl e
        | cons a r => simp
      refine spread_is g c ok hc l0 f (l ++ new) ?_ ?_ ?_ ?_ ?_ q
      · refine List.nodup_append.mpr ⟨hl, ?_, fun a ha b hb z => ?_⟩
        · rw [← hnew]; exact hc.filter _
        · subst z; exact ((hin a).mp hb).2.1 ha
      · intro z hz
        rcases List.mem_append.mp hz with hz | hz
        · exact hs z hz
        · exact ((hin z).mp hz).1
      · rw [List.length_append]; omega
      · exact fun z hz => List.mem_append_left _ (h0 z hz)
      · intro z hz
        rcases List.mem_append.mp hz with hz | hz
        · exact hw z hz
        · obtain ⟨h1, h2, p, hp, hb, hk⟩ := (hin z).mp hz
          exact .step (hw p hp) h1 hb hk
/-! side by side -/
theorem sq_le {a : Nat} (h : a ^ 2 ≤ 3) : a ≤ 1 := by
  rcases Nat.lt_or_ge a 2 with c | c
  · omega
  · have := Nat.pow_le_pow_left c 2
    omega
theorem far1 {a b : Nat} : a ^ 2 + b ^ 2 = 1 ↔ (a = 0 ∧ b = 1) ∨ (a = 1 ∧ b = 0) := by
  constructor
  · intro h
    have h1 : a ≤ 1 := sq_le (by omega)
    have h2 : b ≤ 1 := sq_le (by omega)
    have a2 : a = 0 ∨ a = 1 := by omega
    have b2 : b = 0 ∨ b = 1 := by omega
    rcases a2 with rfl | rfl <;> rcases b2 with rfl | rfl <;> simp at h ⊢
  · rintro (⟨rfl, rfl⟩ | ⟨rfl, rfl⟩) <;> rfl
theorem far2 {a b : Nat} : a ^ 2 + b ^ 2 = 2 ↔ a = 1 ∧ b = 1 := by
  constructor
  · intro h
    have h1 : a ≤ 1 := sq_le (by omega)
    have h2 : b ≤ 1 := sq_le (by omega)
    have a2 : a = 0 ∨ a = 1 := by omega
    have b2 : b = 0 ∨ b = 1 := by omega
    rcases a2 with rfl | rfl <;> rcases b2 with rfl | rfl <;> simp at h ⊢
  · rintro ⟨rfl, rfl⟩; rfl
theorem step_iff {c u v u' v' : Nat} (hc : c ≤ 1) : (∃ x ∈ stepsL c, (u : Int) + x.1 = (u' : Int) ∧ (v : Int) + x.2 = (v' : Int)) ↔ Sq44.beside (c == 1) (u, v) (u', v') = true := by
  unfold Sq44.beside Sq44.far Sq44.apart
  have e1 : ∀ n : Nat, ((u - u' + (u' - u)) ^ 2 + (v - v' + (v' - v)) ^ 2 == n) = true ↔ (u - u' + (u' - u)) ^ 2 + (v - v' + (v' - v)) ^ 2 = n := fun n => beq_iff_eq
  simp only [Bool.or_eq_true, Bool.and_eq_true, e1]
  rw [far1, far2]
  have c2 : c = 0 ∨ c = 1 := by omega
  rcases c2 with rfl | rfl
  · simp [stepsL]
    omega
  · simp [stepsL]
    omega
theorem bes_iff {w h c p q : Nat} (hw : 1 ≤ w) (hc : c ≤ 1) (hp : p < w * h) (hq : q < w * h) : q ∈ besL w h p (stepsL c) ↔ Sq44.beside (c == 1) (p % w, p / w) (q % w, q / w) = true := by
  obtain ⟨p1, p2⟩ := mem_p hw hp
  obtain ⟨q1, q2⟩ := mem_p hw hq
  rw [← step_iff hc]
  unfold besL
  rw [List.mem_map]
  constructor
  · rintro ⟨x, hx, hv⟩
    obtain ⟨h1, h2⟩ := List.mem_filter.mp hx
    refine ⟨x, h1, ?_⟩
    have e := besV_eq h2
    rw [hv] at e
    unfold besP at h2
    simp only [Bool.and_eq_true, decide_eq_true_eq] at h2  -- own
    generalize p % w = u at *
    generalize p / w = v at *
    obtain ⟨⟨a1, a2⟩, a3, a4⟩ := h2
    obtain ⟨X, hX⟩ := Int.eq_ofNat_of_zero_le a1
    obtain ⟨Y, hY⟩ := Int.eq_ofNat_of_zero_le a3
    rw [hX, hY, ← Int.natCast_mul, ← Int.natCast_add] at e
    have e := Int.ofNat.inj e
    obtain ⟨d1, d2⟩ := divmod (w := w) (x := X) (y := Y) (by omega)
    rw [e] at d1 d2
    rw [d1, d2]
    exact ⟨hX, hY⟩
  · rintro ⟨x, hx, h1, h2⟩
    have hb : besP w h p x = true := by
      unfold besP
      simp only [Bool.and_eq_true, decide_eq_true_eq]  -- own
      rw [h1, h2]
      generalize q % w = u at *
      generalize q / w = v at *
      omega
    refine ⟨x, List.mem_filter.mpr ⟨hx, hb⟩, ?_⟩
    unfold besV
    rw [h1, h2, ← Int.natCast_mul, ← Int.natCast_add, Int.toNat_natCast, back]
theorem cells_pix {s : State} (W : WF s) : s.choice.cells = (List.range (s.w * s.h)).map fun p => (p % s.w, p / s.w) := by
  have := cells_map W (fun c => c)
  rw [List.map_id'] at this
  exact this
theorem pix_inj {w p q : Nat} (h : (p % w, p / w) = (q % w, q / w)) : p = q := by
  injection h with h1 h2
  rw [← back p w, ← back q w, h1, h2]
theorem cells_nodup {s : State} (W : WF s) : s.choice.cells.Nodup := by
  rw [cells_pix W]
  exact List.Pairwise.map _ (fun a b hab z => hab (pix_inj z)) List.nodup_range
theorem does_flood {s : State} (W : WF s) (k : Option Clip) (how x y tol kind c : Nat) :
    ((4 < how ∨ 1 < kind ∨ 1 < c ∨ s.w ≤ x ∨ s.h ≤ y) → s.does k (.flood how x y tol kind c) = .error (-1)) ∧
    (¬ (4 < how ∨ 1 < kind ∨ 1 < c ∨ s.w ≤ x ∨ s.h ≤ y) → ∀ rs, Fl (fun p => besL s.w s.h p (stepsL c)) (okF (s.layer.dots.map (·.1)) (y * s.w + x) tol kind) (fl0 (s.w * s.h) (y * s.w + x)) (rs, []) →
      rs.length = s.w * s.h ∧ s.does k (.flood how x y tol kind c) = .ok (withCh s (joinL how s.chosen rs))) := by
  dsimp only [State.does]
  refine ⟨fun h => if_pos h, fun h rs f => ?_⟩
  rw [if_neg h]
  have hc : c ≤ 1 := by omega
  have hx : x < s.w := by omega
  obtain ⟨d1, d2⟩ := divmod (y := y) hx
  have hst : y * s.w + x < s.w * s.h := by
    have : (y + 1) * s.w ≤ s.h * s.w := Nat.mul_le_mul_right _ (by omega)
    rw [Nat.add_mul, Nat.one_mul, Nat.mul_comm s.h] at this
    omega
  obtain ⟨hl, hr⟩ := fl_end hst (fun p o ho => besL_lt (by have := W.w1; omega) ho) f
  refine ⟨hl, ?_⟩
  congr 1
  dsimp only [Sq44.House.step]
  have his : s.choice.is (x, y) = true := by
    unfold Sq44.House.is
    show (decide (x < s.w) && decide (y < s.h)) = true
    rw [decide_eq_true hx, decide_eq_true (by omega)]
    rfl
  rw [if_neg (by rw [his]; simp; omega)]
  show s.take (s.choice.join how _) = _
  rw [take_join W]
  congr 2
  have hat : ∀ p, s.choice.at_ (p % s.w, p / s.w) = colAt (s.layer.dots.map (·.1)) p := fun p => by
    unfold Sq44.House.at_ State.choice colAt
    show ((s.layer.dots.map fun d => d.1).toArray[p / s.w * s.w + p % s.w]?).getD 0 = _
    rw [back, List.getElem?_toArray]
  have hpix : (x, y) = ((y * s.w + x) % s.w, (y * s.w + x) / s.w) := by rw [d1, d2]
  have hok : ∀ p q, decide (Sq44.apart (s.choice.at_ (if kind = 0 then (x, y) else (p % s.w, p / s.w))) (s.choice.at_ (q % s.w, q / s.w)) ≤ tol) = okF (s.layer.dots.map (·.1)) (y * s.w + x) tol kind p q := fun p q => by
    unfold okF
    rw [hat q]
    by_cases e : kind = 0
    · rw [if_pos e, if_pos e, hpix, hat]
    · rw [if_neg e, if_neg e, hat]
  have hlen : s.choice.cells.length = s.w * s.h := by rw [cells_pix W, List.length_map, List.length_range]
  have hfl := spread_is s.choice (c == 1) (fun p q => decide (Sq44.apart (s.choice.at_ (if kind = 0 then (x, y) else p)) (s.choice.at_ q) ≤ tol)) (cells_nodup W) [(x, y)] (s.w * s.h) [(x, y)] (by simp)
    (fun q hq => by rw [List.mem_singleton.mp hq, cells_pix W, hpix]; exact List.mem_map.mpr ⟨_, List.mem_range.mpr hst, rfl⟩) (by rw [hlen]; simp; omega) (fun q hq => hq) (fun q hq => .here hq)
  have key : ∀ q, q < s.w * s.h → (Wy s.choice (c == 1) (fun p q => decide (Sq44.apart (s.choice.at_ (if kind = 0 then (x, y) else p)) (s.choice.at_ q) ≤ tol)) [(x, y)] (q % s.w, q / s.w) ↔ rs[q]? = some true) := by
    have to : ∀ z, Wy s.choice (c == 1) (fun p q => decide (Sq44.apart (s.choice.at_ (if kind = 0 then (x, y) else p)) (s.choice.at_ q) ≤ tol)) [(x, y)] z → ∃ q, q < s.w * s.h ∧ z = (q % s.w, q / s.w) ∧ rs[q]? = some true := by
      intro z hz
      induction hz with
      | here hp => exact ⟨y * s.w + x, hst, by rw [List.mem_singleton.mp hp]; exact hpix, (hr _).mpr .here⟩
      | @step p q _ hq hb hk ih =>
        obtain ⟨a, ha, rfl, hra⟩ := ih
        rw [cells_pix W] at hq
        obtain ⟨b, hb', rfl⟩ := List.mem_map.mp hq
        have hbn := List.mem_range.mp hb'
        refine ⟨b, hbn, rfl, (hr b).mpr (.step ((hr a).mp hra) ((bes_iff W.w1 hc ha hbn).mpr hb) ?_)⟩
        rw [← hok a b]
        exact hk
    have fro : ∀ q, Re (fun p => besL s.w s.h p (stepsL c)) (okF (s.layer.dots.map (·.1)) (y * s.w + x) tol kind) (y * s.w + x) q → q < s.w * s.h ∧ Wy s.choice (c == 1) (fun p q => decide (Sq44.apart (s.choice.at_ (if kind = 0 then (x, y) else p)) (s.choice.at_ q) ≤ tol)) [(x, y)] (q % s.w, q / s.w) := by
      intro q hq
      induction hq with
      | here => exact ⟨hst, .here (by rw [← hpix]; exact List.mem_singleton.mpr rfl)⟩
      | @step p o _ ho hk ih =>
        have hon : o < s.w * s.h := besL_lt (by have := W.w1; omega) ho
        refine ⟨hon, .step ih.2 ?_ ((bes_iff W.w1 hc ih.1 hon).mp ho) ?_⟩
        · rw [cells_pix W]; exact List.mem_map.mpr ⟨o, List.mem_range.mpr hon, rfl⟩
        · show decide _ = true
          rw [hok p o]
          exact hk
    intro q hq
    constructor
    · intro h
      obtain ⟨q', _, e, h'⟩ := to _ h
      rw [pix_inj e]
      exact h'
    · intro h
      exact (fro q ((hr q).mp h)).2
  refine List.ext_getElem? fun q => ?_
  rw [List.getElem?_map]
  by_cases hq : q < s.w * s.h
  · rw [List.getElem?_range hq]
    have hq' : q < rs.length := by rw [hl]; exact hq
    rw [List.getElem?_eq_getElem hq']
    show some _ = some _
    congr 1
    have hm := hfl (q % s.w, q / s.w)
    have hk := key q hq
    rw [List.getElem?_eq_getElem hq'] at hk
    unfold Sq44.House.flood
    show List.contains (s.choice.spread (c == 1) _ (s.w * s.h) [(x, y)]) (q % s.w, q / s.w) = rs[q]
    cases e : rs[q] with
    | true => exact List.contains_iff_mem.mpr (hm.mpr (hk.mpr (by rw [e])))
    | false =>
      rw [Bool.eq_false_iff]
      intro z
      have := hk.mp (hm.mp (List.contains_iff_mem.mp z))
      rw [e] at this
      cases this
  · rw [List.getElem?_eq_none (by rw [List.length_range]; omega), List.getElem?_eq_none (by omega)]
    rfl
end LP
end
section
namespace LP
open Sq50
/-! what is kept aside -/
def ClipR (k : Option Clip) (as : List (Nat × Nat × Dot)) : Prop := (k = none ∧ as = []) ∨ ∃ s0 : State, WF s0 ∧ k = some s0.copied ∧ as = liftL s0
def pasV (s0 : State) (m x y : Nat) : Dot := if x < s0.w ∧ y * s0.w + x < m ∧ mayP s0 (y * s0.w + x) = true then dotP s0 (y * s0.w + x) else (0, 0)
theorem paste_is {s s0 : State} (W : WF s) (W0 : WF s0) : ∀ m, (((List.range m).filter (mayP s0)).map fun p => (p % s0.w, p / s0.w, dotP s0 p)).foldl (pasteT s.w s.h) (List.replicate (s.w * s.h) (0, 0)) = (List.range (s.w * s.h)).map fun q => pasV s0 m (q % s.w) (q / s.w)
  | 0 => by
    show List.replicate (s.w * s.h) (0, 0) = _
    have : List.replicate (s.w * s.h) ((0, 0) : Dot) = (List.range (s.w * s.h)).map fun _ => (0, 0) := by rw [List.map_const', List.length_range]
    rw [this]
    refine List.map_congr_left fun q _ => ?_
    unfold pasV
    rw [if_neg (fun z => absurd z.2.1 (Nat.not_lt_zero _))]
  | m + 1 => by
    have w01 := W0.w1
    have keep : ∀ q, (∀ x y, (x, y) = (q % s.w, q / s.w) → x < s0.w → y * s0.w + x = m → mayP s0 m = true → False) → pasV s0 m (q % s.w) (q / s.w) = pasV s0 (m + 1) (q % s.w) (q / s.w) := fun q h => by
      unfold pasV
      have : (q % s.w < s0.w ∧ q / s.w * s0.w + q % s.w < m ∧ mayP s0 (q / s.w * s0.w + q % s.w) = true) ↔ (q % s.w < s0.w ∧ q / s.w * s0.w + q % s.w < m + 1 ∧ mayP s0 (q / s.w * s0.w + q % s.w) = true) := by
        constructor
        · rintro ⟨z1, z2, z3⟩; exact ⟨z1, by omega, z3⟩
        · rintro ⟨z1, z2, z3⟩
          refine ⟨z1, ?_, z3⟩
          by_cases e : q / s.w * s0.w + q % s.w = m
          · exact (h _ _ rfl z1 e (by rw [e] at z3; exact z3)).elim
          · omega
      simp only [this]
    by_cases c : mayP s0 m = true
    · rw [filt_yes c, List.map_append, List.foldl_append, paste_is W W0 m]
      show pasteT s.w s.h _ (m % s0.w, m / s0.w, dotP s0 m) = _
      unfold pasteT
      by_cases e : m % s0.w < s.w ∧ m / s0.w < s.h
      · rw [if_pos e]
        have ht : m / s0.w * s.w + m % s0.w < s.w * s.h := by
          have : (m / s0.w + 1) * s.w ≤ s.h * s.w := Nat.mul_le_mul_right _ (by have := e.2; omega)
          rw [Nat.add_mul, Nat.one_mul, Nat.mul_comm s.h] at this
          have := e.1
          omega
        obtain ⟨d1, d2⟩ := divmod (y := m / s0.w) e.1
        refine List.ext_getElem? fun q => ?_
        rw [List.getElem?_set]
        by_cases eq : m / s0.w * s.w + m % s0.w = q
        · subst eq
          rw [if_pos rfl, if_pos (by simpa using ht), List.getElem?_map, List.getElem?_range ht]
          show some (dotP s0 m) = some _
          dsimp only
          rw [d1, d2]
          unfold pasV
          rw [back, if_pos ⟨Nat.mod_lt _ w01, Nat.lt_succ_self m, c⟩]
        · rw [if_neg eq, List.getElem?_map, List.getElem?_map]
          by_cases hq : q < s.w * s.h
          · rw [List.getElem?_range hq]
            show some _ = some _
            congr 1
            refine keep q fun x y hxy hx hm _ => eq ?_
            injection hxy with h1 h2
            obtain ⟨b1, b2⟩ := divmod (y := y) hx
            rw [hm] at b1 b2
            rw [b1, b2, h1, h2, back]
          · rw [List.getElem?_eq_none (by simpa using hq)]
            rfl
      · rw [if_neg e]
        refine List.map_congr_left fun q hq => keep q fun x y hxy hx hm _ => e ?_
        injection hxy with h1 h2
        obtain ⟨b1, b2⟩ := divmod (y := y) hx
        rw [hm] at b1 b2
        obtain ⟨m1, m2⟩ := mem_p W.w1 (List.mem_range.mp hq)
        rw [b1, b2, h1, h2]
        exact ⟨m1, m2⟩
    · have c' : mayP s0 m = false := by simpa using c
      rw [filt_no c', paste_is W W0 m]
      exact List.map_congr_left fun q hq => keep q fun x y hxy hx hm hc => c hc
theorem copied_at {s0 : State} (W0 : WF s0) {x y : Nat} (hx : x < s0.w) (hy : y < s0.h) : ((s0.copied.dots[y * s0.copied.w + x]?).getD none).getD (0, 0) = pasV s0 (s0.w * s0.h) x y := by
  have hp : y * s0.w + x < s0.w * s0.h := by
    have : (y + 1) * s0.w ≤ s0.h * s0.w := Nat.mul_le_mul_right _ (by omega)
    rw [Nat.add_mul, Nat.one_mul, Nat.mul_comm s0.h] at this
    omega
  show (((s0.cells.map fun c => if s0.may c.1 c.2 = true then some (s0.at_ s0.layer c.1 c.2) else none)[y * s0.w + x]?).getD none).getD (0, 0) = _
  rw [cells_map W0, List.getElem?_map, List.getElem?_range hp]
  show (if s0.may ((y * s0.w + x) % s0.w) ((y * s0.w + x) / s0.w) = true then some (s0.at_ s0.layer ((y * s0.w + x) % s0.w) ((y * s0.w + x) / s0.w)) else none).getD (0, 0) = _
  rw [may_p W0 hp, at_p]
  show (if mayP s0 (y * s0.w + x) = true then some (dotP s0 (y * s0.w + x)) else none).getD (0, 0) = _
  unfold pasV
  by_cases c : mayP s0 (y * s0.w + x) = true
  · rw [if_pos c, if_pos ⟨hx, hp, c⟩]
    rfl
  · rw [if_neg c, if_neg (fun z => c z.2.2)]
    rfl
theorem may_some {s : State} (W : WF s) : ∃ p, p < s.w * s.h ∧ mayP s p = true := by
  have hn : 0 < s.w * s.h := Nat.mul_pos W.w1 W.h1
  cases e : s.chosen.any (fun b => b) with
  | false =>
    refine ⟨0, hn, ?_⟩
    unfold mayP mayL
    rw [e, List.getElem?_map, List.getElem?_eq_getElem (by rw [W.ch]; exact hn)]
    simp
  | true =>
    obtain ⟨b, hb, hbt⟩ := List.any_eq_true.mp e
    obtain ⟨i, hi, rfl⟩ := List.getElem_of_mem hb  -- own
    refine ⟨i, by rw [← W.ch]; exact hi, ?_⟩
    unfold mayP mayL
    rw [List.getElem?_map, List.getElem?_eq_getElem hi]
    simp [hbt]
theorem lift_some {s : State} (W : WF s) : (liftL s).length ≠ 0 := by
  obtain ⟨p, h1, h2⟩ := may_some W
  unfold liftL
  rw [List.length_map]
  intro z
  have := List.eq_nil_of_length_eq_zero z
  have hm : p ∈ (List.range (s.w * s.h)).filter (mayP s) := List.mem_filter.mpr ⟨List.mem_range.mpr h1, h2⟩
  rw [this] at hm
  exact nomatch hm
theorem does_paste {s : State} (W : WF s) {k : Option Clip} {as : List (Nat × Nat × Dot)} (r : ClipR k as) : s.does k .paste = f_paste s as := by
  dsimp only [State.does, f_paste]
  rcases r with ⟨rfl, rfl⟩ | ⟨s0, W0, rfl, rfl⟩
  · rfl
  · rw [if_neg (lift_some W0)]
    dsimp only [newL]
    by_cases c : LAYERS ≤ s.layers.length
    · rw [if_pos c, if_pos (show 5 ≤ s.layers.length from c)]
    · rw [if_neg c, if_neg (show ¬ 5 ≤ s.layers.length from c), List.append_assoc]
      have e : (s.cells.map fun c => if c.1 < s0.copied.w ∧ c.2 < s0.copied.h then ((s0.copied.dots[c.2 * s0.copied.w + c.1]?).getD none).getD (0, 0) else (0, 0)) = pasteL s (liftL s0) := by
        unfold pasteL liftL
        rw [paste_is W W0, cells_map W]
        refine List.map_congr_left fun q _ => ?_
        dsimp only
        by_cases z : q % s.w < s0.w ∧ q / s.w < s0.h
        · rw [if_pos (show q % s.w < s0.copied.w ∧ q / s.w < s0.copied.h from z), copied_at W0 z.1 z.2]
        · rw [if_neg (show ¬ (q % s.w < s0.copied.w ∧ q / s.w < s0.copied.h) from z)]
          unfold pasV
          rw [if_neg]
          rintro ⟨z1, z2, _⟩
          refine z ⟨z1, ?_⟩
          obtain ⟨b1, b2⟩ := divmod (y := q / s.w) z1
          have := mem_p W0.w1 z2
          rw [b2] at this
          exact this.2
      rw [e]
      rfl
end LP
end
section
namespace LP
open Sq50
/-! each deed leaves a picture as it should be -/
theorem WF.withCh {s : State} (W : WF s) {bs : List Bool} (h : bs.length = s.w * s.h) : WF (withCh s bs) := ⟨W.w1, W.w12, W.h1, W.h12, W.len, W.str, W.way, W.dot, W.n5, W.ids, W.on, W.nx, h⟩
theorem joinL_len (how : Nat) {as bs : List Bool} (h : as.length = bs.length) : (joinL how as bs).length = as.length := by unfold joinL; rw [List.length_map, List.length_zip]; omega
/-- layers that come from those that were -/
theorem WF.layers {s : State} (W : WF s) {ls : List Layer} {on nx : Nat} (hl : ∀ l ∈ ls, l.dots.length = s.w * s.h ∧ l.strong ≤ 255 ∧ l.way ≤ 6 ∧ (∀ d ∈ l.dots, d.1 ≤ 255 ∧ d.2 ≤ 255) ∧ l.id < nx) (h5 : ls.length ≤ 5) (hn : (ls.map (·.id)).Nodup) (ho : on ∈ ls.map (·.id)) : WF { s with layers := ls, on := on, next := nx } :=
  ⟨W.w1, W.w12, W.h1, W.h12, fun l h => (hl l h).1, fun l h => (hl l h).2.1, fun l h => (hl l h).2.2.1, fun l h => (hl l h).2.2.2.1, h5, hn, ho, fun l h => (hl l h).2.2.2.2, W.ch⟩
theorem WF.all {s : State} (W : WF s) : ∀ l ∈ s.layers, l.dots.length = s.w * s.h ∧ l.strong ≤ 255 ∧ l.way ≤ 6 ∧ (∀ d ∈ l.dots, d.1 ≤ 255 ∧ d.2 ≤ 255) ∧ l.id < s.next := fun l h => ⟨W.len l h, W.str l h, W.way l h, W.dot l h, W.nx l h⟩
theorem wf_new {s t : State} (W : WF s) {ds : List Dot} (hl : ds.length = s.w * s.h) (hd : ∀ d ∈ ds, d.1 ≤ 255 ∧ d.2 ≤ 255) (h : newL s ds = .ok t) : WF t := by
  unfold newL at h
  split at h
  · cases h
  · rename_i h5
    cases h
    refine W.layers (on := s.next) (nx := s.next + 1) (fun l hm => ?_) ?_ ?_ ?_
    · rcases List.mem_append.mp hm with hm | hm  -- own
      · rcases List.mem_append.mp hm with hm | hm  -- own
        · have := W.all l (List.mem_of_mem_take hm)
          exact ⟨this.1, this.2.1, this.2.2.1, this.2.2.2.1, by omega⟩
        · rw [List.mem_singleton.mp hm]  -- own
          exact ⟨hl, Nat.le_refl _, Nat.zero_le _, hd, Nat.lt_succ_self _⟩
      · have := W.all l (List.mem_of_mem_drop hm)
        exact ⟨this.1, this.2.1, this.2.2.1, this.2.2.2.1, by omega⟩
    · rw [List.length_append, List.length_append, List.length_take, List.length_drop]  -- own
      simp only [List.length_cons, List.length_nil]  -- own
      omega
    · have hp : (s.layers.take (s.place + 1) ++ [(⟨s.next, true, 255, 0, ds⟩ : Layer)] ++ s.layers.drop (s.place + 1)).Perm (⟨s.next, true, 255, 0, ds⟩ :: s.layers) := by
        have h1 := List.perm_middle (a := (⟨s.next, true, 255, 0, ds⟩ : Layer)) (l₁ := s.layers.take (s.place + 1)) (l₂ := s.layers.drop (s.place + 1))
        rw [List.take_append_drop] at h1
        rw [List.append_assoc]
        exact h1
      refine (hp.map (·.id)).nodup_iff.mpr (List.nodup_cons.mpr ⟨fun z => ?_, W.ids⟩)
      obtain ⟨l, h1, h2⟩ := List.mem_map.mp z
      have := W.nx l h1
      have h2 : l.id = s.next := h2
      omega
    · exact List.mem_map.mpr ⟨_, List.mem_append_left _ (List.mem_append_right _ (List.mem_singleton.mpr rfl)), rfl⟩
theorem recL_len (s : State) (r : Nat) (g : List Nat → Nat) : (recL s r g).length = s.w * s.h := by unfold recL; rw [List.length_map, List.length_range]
theorem recL_ok {s : State} (W : WF s) {r : Nat} (hr : r ≤ 4) {g : List Nat → Nat} (hg : ∀ ns, Win ns → g ns ≤ 255) : ∀ d ∈ recL s r g, d.1 ≤ 255 ∧ d.2 ≤ 255 := fun d hd => by
  unfold recL at hd
  obtain ⟨p, hp, rfl⟩ := List.mem_map.mp hd
  have := dotP_ok W (List.mem_range.mp hp)
  split
  · exact ⟨hg _ (win_ok W p hr), this.2⟩
  · exact this
theorem meanL_ok {ns : List Nat} (h : Win ns) : meanL ns ≤ 255 := near_le (by have := sum_le h.le; omega)
theorem insert_mem {v x : Nat} : ∀ {l : List Nat}, x ∈ Sq45.insert v l → x = v ∨ x ∈ l
  | [], h => .inl (List.mem_singleton.mp h)  -- own
  | a :: l, h => by
    unfold Sq45.insert at h
    split at h
    · exact List.mem_cons.mp h
    · rcases List.mem_cons.mp h with h | h
      · exact .inr (h ▸ List.mem_cons_self ..)
      · rcases insert_mem h with h | h
        · exact .inl h
        · exact .inr (List.mem_cons_of_mem _ h)
theorem sorted_mem {x : Nat} : ∀ (l m : List Nat), x ∈ l.foldl (fun m v => Sq45.insert v m) m → x ∈ l ∨ x ∈ m
  | [], m, h => .inr h
  | v :: l, m, h => by
    rcases sorted_mem l (Sq45.insert v m) h with h | h
    · exact .inl (List.mem_cons_of_mem _ h)
    · rcases insert_mem h with h | h
      · exact .inl (h ▸ List.mem_cons_self ..)
      · exact .inr h
theorem ranked_ok {p q : Nat} {ns : List Nat} (h : Win ns) : Sq45.ranked p q ns ≤ 255 := by
  unfold Sq45.ranked
  cases e : (Sq45.sorted ns)[p * (ns.length - 1) / q]? with
  | none => exact Nat.zero_le _
  | some a =>
    rcases sorted_mem ns [] (List.mem_of_getElem? e) with z | z
    · exact h.le a z
    · exact nomatch z
theorem wf_rearr {s : State} (W : WF s) {w h : Nat} {src : List Nat} (w1 : 1 ≤ w) (w12 : w ≤ 12) (h1 : 1 ≤ h) (h12 : h ≤ 12) (hl : src.length = w * h) (hs : ∀ p ∈ src, p < s.w * s.h) : WF (rearr s w h src) := by
  have hm : ∀ l ∈ (rearr s w h src).layers, ∃ m ∈ s.layers, l = { m with dots := src.map (fun p => nDot p m) } := fun l hl => by
    obtain ⟨m, h1, h2⟩ := List.mem_map.mp hl
    exact ⟨m, h1, h2.symm⟩
  have hid : (rearr s w h src).layers.map (·.id) = s.layers.map (·.id) := by
    unfold rearr
    rw [List.map_map]
    rfl
  refine ⟨w1, w12, h1, h12, fun l h => ?_, fun l h => ?_, fun l h => ?_, fun l h => ?_, ?_, ?_, ?_, fun l h => ?_, ?_⟩
  · obtain ⟨m, h1, rfl⟩ := hm l h; rw [List.length_map]; exact hl
  · obtain ⟨m, h1, rfl⟩ := hm l h; exact W.str m h1
  · obtain ⟨m, h1, rfl⟩ := hm l h; exact W.way m h1
  · obtain ⟨m, h1, rfl⟩ := hm l h
    intro d hd
    obtain ⟨p, hp, rfl⟩ := List.mem_map.mp hd
    unfold nDot
    rw [List.getElem?_eq_getElem (by rw [W.len m h1]; exact hs p hp)]
    exact W.dot m h1 _ (List.getElem_mem _)
  · show (s.layers.map _).length ≤ 5
    rw [List.length_map]; exact W.n5
  · rw [hid]; exact W.ids
  · rw [hid]; exact W.on
  · obtain ⟨m, h1, rfl⟩ := hm l h; exact W.nx m h1
  · show (src.map _).length = w * h
    rw [List.length_map]; exact hl
theorem ite_ok {c : Prop} [Decidable c] {e : Int} {x : State} {t : State} (h : (if c then Except.error e else Except.ok x) = (Except.ok t : Except Int State)) : ¬ c ∧ t = x := by
  split at h
  · cases h
  · rename_i hc
    cases h
    exact ⟨hc, rfl⟩
theorem map_ids {s : State} {f : Layer → Layer} (hf : ∀ l, (f l).id = l.id) : (s.layers.map f).map (·.id) = s.layers.map (·.id) := by
  rw [List.map_map]
  exact List.map_congr_left fun l _ => hf l
theorem wf_drop {s t : State} (W : WF s) {i : Nat} (h : f_drop s [i] = .ok t) : WF t := by
  unfold f_drop at h
  dsimp only at h
  cases q : s.layers.findIdx? (fun l => l.id == i) with
  | none => rw [q] at h; cases h
  | some p =>
    rw [q] at h
    obtain ⟨h1, rfl⟩ := ite_ok h
    obtain ⟨l, hl, hi⟩ := idx_at q
    have hp := (List.getElem?_eq_some_iff.mp hl).1
    have hlen := List.length_eraseIdx_of_lt hp
    have n5 := W.n5
    have sub : (s.layers.eraseIdx p).Sublist s.layers := List.eraseIdx_sublist ..
    refine W.layers (nx := s.next) (fun l hm => W.all l (sub.subset hm)) (by omega) (W.ids.sublist (sub.map _)) ?_
    by_cases c : s.on = i
    · rw [if_pos c]
      cases e : s.layers.eraseIdx p with
      | nil => rw [e] at hlen; simp at hlen; omega
      | cons a r => exact List.mem_map.mpr ⟨a, List.mem_cons_self .., rfl⟩
    · rw [if_neg c]
      obtain ⟨m, hm, em⟩ := List.mem_map.mp W.on
      refine List.mem_map.mpr ⟨m, ?_, em⟩
      rw [← filter_erase W.ids q]
      refine List.mem_filter.mpr ⟨hm, ?_⟩
      have em : m.id = s.on := em
      simpa using fun z => c (by rw [← em, z])
theorem wf_raise {s t : State} (W : WF s) {i : Nat} (h : f_raise s [i] = .ok t) : WF t := by
  unfold f_raise at h
  dsimp only at h
  cases q : s.layers.findIdx? (fun l => l.id == i) with
  | none => rw [q] at h; cases h
  | some p =>
    rw [q] at h
    obtain ⟨h1, rfl⟩ := ite_ok h
    obtain ⟨l, hl, hi⟩ := idx_at q
    obtain ⟨hp, el⟩ := List.getElem?_eq_some_iff.mp hl
    have pm : ((s.layers.eraseIdx p).take (p + 1) ++ [s.layers[p]?.getD (⟨0, false, 0, 0, []⟩ : Layer)] ++ (s.layers.eraseIdx p).drop (p + 1)).Perm s.layers := by
      rw [hl, List.append_assoc]
      have a1 := List.perm_middle (a := l) (l₁ := (s.layers.eraseIdx p).take (p + 1)) (l₂ := (s.layers.eraseIdx p).drop (p + 1))
      rw [List.take_append_drop] at a1
      refine a1.trans ?_
      rw [List.eraseIdx_eq_take_drop_succ]
      refine List.perm_middle.symm.trans ?_
      rw [← el, ← List.drop_eq_getElem_cons hp, List.take_append_drop]
    have n5 := W.n5
    refine W.layers (on := s.on) (nx := s.next) (fun l hm => W.all l (pm.subset hm)) (by rw [pm.length_eq]; exact n5) ((pm.map _).nodup_iff.mpr W.ids) ((pm.map _).mem_iff.mpr W.on)
theorem wf_how {s t : State} (W : WF s) {k : Option Clip} {i e a m : Nat} (h : s.does k (.how i e a m) = .ok t) : WF t := by
  dsimp only [State.does] at h
  split at h
  · cases h
  · rename_i c
    obtain ⟨h1, rfl⟩ := ite_ok h
    have hid : (s.layers.map fun (l : Layer) => if l.id = i then { l with seen := e == 1, strong := a, way := m } else l).map (·.id) = s.layers.map (·.id) := map_ids fun l => by split <;> rfl
    refine W.layers (on := s.on) (nx := s.next) (fun l hm => ?_) (by rw [List.length_map]; exact W.n5) (by rw [hid]; exact W.ids) (by rw [hid]; exact W.on)
    obtain ⟨l0, h0, rfl⟩ := List.mem_map.mp hm
    have := W.all l0 h0
    split
    · exact ⟨this.1, by show a ≤ 255; omega, by show m ≤ 6; omega, this.2.2.2.1, this.2.2.2.2⟩
    · exact this
theorem wf_merge {s t : State} (W : WF s) (h : f_merge s = .ok t) : WF t := by
  unfold f_merge at h
  obtain ⟨h1, rfl⟩ := ite_ok h
  obtain ⟨l, hl, _, el⟩ := place_on W
  have hp := (List.getElem?_eq_some_iff.mp hl).1
  have hp1 : s.place - 1 < s.layers.length := by omega
  have n5 := W.n5
  rw [List.getElem?_eq_getElem hp1]
  show WF { s with layers := s.layers.take (s.place - 1) ++ [(⟨(s.layers[s.place - 1]).id, true, 255, (s.layers[s.place - 1]).way, mergeL s (s.layers[s.place - 1]) s.layer⟩ : Layer)] ++ s.layers.drop (s.place + 1), on := (s.layers[s.place - 1]).id }
  have ha := W.all _ (List.getElem_mem hp1)
  refine W.layers (nx := s.next) (fun l hm => ?_) ?_ ?_ ?_
  · rcases List.mem_append.mp hm with hm | hm  -- own
    · rcases List.mem_append.mp hm with hm | hm  -- own
      · exact W.all l (List.mem_of_mem_take hm)
      · rw [List.mem_singleton.mp hm]  -- own
        refine ⟨by unfold mergeL; rw [List.length_map, List.length_range], Nat.le_refl _, ha.2.2.1, fun d hd => ?_, ha.2.2.2.2⟩
        unfold mergeL at hd
        obtain ⟨p, hp, rfl⟩ := List.mem_map.mp hd
        have hpn := List.mem_range.mp hp
        refine nShow_ok (ok3_fold [s.layers[s.place - 1], s.layer] _ 1 ok3_one fun l hl => ?_)
        rcases List.mem_cons.mp hl with rfl | hl
        · exact lay_ok W (List.getElem_mem hp1) hpn
        · rw [List.mem_singleton.mp hl]; exact lay_ok W (layer_mem W) hpn
    · exact W.all l (List.mem_of_mem_drop hm)
  · rw [List.length_append, List.length_append, List.length_take, List.length_drop]  -- own
    simp only [List.length_cons, List.length_nil]  -- own
    omega
  · have e : (s.layers.take (s.place - 1) ++ [(⟨(s.layers[s.place - 1]).id, true, 255, (s.layers[s.place - 1]).way, mergeL s (s.layers[s.place - 1]) s.layer⟩ : Layer)] ++ s.layers.drop (s.place + 1)).map (·.id) = (s.layers.take (s.place - 1) ++ [s.layers[s.place - 1]] ++ s.layers.drop (s.place + 1)).map (·.id) := by
      rw [List.map_append, List.map_append, List.map_append, List.map_append]
      rfl
    rw [e]
    refine W.ids.sublist (List.Sublist.map _ ?_)
    have e2 : s.layers.take (s.place - 1) ++ [s.layers[s.place - 1]] = s.layers.take s.place := by
      have h3 : s.layers.take (s.place - 1 + 1) = s.layers.take (s.place - 1) ++ [s.layers[s.place - 1]] := by
        rw [List.take_add_one, List.getElem?_eq_getElem hp1]
        rfl
      have h4 : s.place - 1 + 1 = s.place := by omega
      rw [h4] at h3
      exact h3.symm
    rw [e2]
    have e3 : s.layers = s.layers.take s.place ++ s.layers.drop s.place := (List.take_append_drop _ _).symm
    conv => rhs; rw [e3]
    refine List.Sublist.append_left ?_ _
    have e4 : s.layers.drop (s.place + 1) = (s.layers.drop s.place).drop 1 := by rw [List.drop_drop]
    rw [e4]
    exact List.drop_sublist ..
  · exact List.mem_map.mpr ⟨_, List.mem_append_left _ (List.mem_append_right _ (List.mem_singleton.mpr rfl)), rfl⟩
theorem turn_src_lt {s : State} (W : WF s) {k w' h' : Nat} (hk : k ≤ 2) (hw : w' = if k = 2 then s.h else s.w) (hh : h' = if k = 2 then s.w else s.h) : (turnSrc s k w' h').length = w' * h' ∧ ∀ p ∈ turnSrc s k w' h', p < s.w * s.h := by
  constructor
  · unfold turnSrc
    rw [flat_len _ _ w' (fun y _ => by rw [List.length_map, List.length_range]), List.length_range, Nat.mul_comm]
  · intro p hp
    unfold turnSrc at hp
    obtain ⟨y, hy, hp⟩ := List.mem_flatMap.mp hp
    obtain ⟨x, hx, rfl⟩ := List.mem_map.mp hp
    have hy := List.mem_range.mp hy
    have hx := List.mem_range.mp hx
    have go : ∀ a b, a < s.w → b < s.h → b * s.w + a < s.w * s.h := fun a b ha hb => by
      have : (b + 1) * s.w ≤ s.h * s.w := Nat.mul_le_mul_right _ (by omega)
      rw [Nat.add_mul, Nat.one_mul, Nat.mul_comm s.h] at this
      omega
    unfold srcP
    have k3 : k = 0 ∨ k = 1 ∨ k = 2 := by omega
    rcases k3 with rfl | rfl | rfl
    · rw [if_neg (by decide)] at hw hh
      rw [if_pos rfl]
      have := go (s.w - 1 - x) y (by omega) (by omega)
      omega
    · rw [if_neg (by decide)] at hw hh
      rw [if_neg (by decide), if_pos rfl]  -- own
      exact go _ _ (by omega) (by omega)
    · rw [if_pos rfl] at hw hh
      rw [if_neg (by decide), if_neg (by decide)]
      exact go _ _ (by omega) (by omega)
theorem wf_turn {s t : State} (W : WF s) {k : Nat} (h : f_turn s [k] = .ok t) : WF t := by
  unfold f_turn at h
  obtain ⟨h1, rfl⟩ := ite_ok h
  have w1 := W.w1
  have w12 := W.w12
  have h1' := W.h1
  have h12 := W.h12
  obtain ⟨a, b⟩ := turn_src_lt W (k := k) (by omega) rfl rfl
  refine wf_rearr W ?_ ?_ ?_ ?_ a b <;> split <;> omega
theorem wf_crop {s t : State} (W : WF s) (h : f_crop s = .ok t) : WF t := by
  unfold f_crop at h
  dsimp only at h
  obtain ⟨h1, rfl⟩ := ite_ok h
  have w1 := W.w1
  have w12 := W.w12
  have h1' := W.h1
  have h12 := W.h12
  have hs := mark_sorted s.chosen
  have hlt : ∀ p ∈ markL s.chosen, p < s.w * s.h := fun p hp => by
    unfold markL at hp
    have := List.mem_range.mp (List.mem_filter.mp hp).1
    rw [W.ch] at this
    exact this
  generalize markL s.chosen = ms at h1 hs hlt
  cases ms with
  | nil => exact absurd rfl h1
  | cons a r =>
    have hlo : loC s.w (a :: r) < s.w ∧ loC s.w (a :: r) ≤ hiC s.w (a :: r) ∧ hiC s.w (a :: r) < s.w := by
      unfold loC hiC
      obtain ⟨lo, h2⟩ : ∃ lo, ((a :: r).map fun p => p % s.w).min? = some lo := by rw [List.map_cons, List.min?_cons']; exact ⟨_, rfl⟩
      obtain ⟨hi, h3⟩ : ∃ hi, ((a :: r).map fun p => p % s.w).max? = some hi := by rw [List.map_cons, List.max?_cons']; exact ⟨_, rfl⟩
      rw [h2, h3]
      obtain ⟨m1, m2⟩ := List.min?_eq_some_iff.mp h2
      obtain ⟨n1, n2⟩ := List.max?_eq_some_iff.mp h3
      obtain ⟨p, hp, e1⟩ := List.mem_map.mp m1
      obtain ⟨q, hq, e2⟩ := List.mem_map.mp n1
      refine ⟨?_, n2 lo m1, ?_⟩
      · rw [← e1]; exact Nat.mod_lt _ w1
      · rw [← e2]; exact Nat.mod_lt _ w1
    have hla : (a :: r).getLastD 0 ∈ a :: r := by
      have hl : (a :: r).getLastD 0 = (a :: r).getLast (by simp) := by rw [List.getLastD_eq_getLast?, List.getLast?_eq_some_getLast (by simp)]; rfl
      rw [hl]
      exact List.getLast_mem _
    have hb := (mem_p w1 (hlt _ hla)).2
    have hal : a / s.w ≤ (a :: r).getLastD 0 / s.w := by
      refine Nat.div_le_div_right ?_
      rcases List.mem_cons.mp hla with e | e
      · omega
      · exact Nat.le_of_lt ((List.pairwise_cons.mp hs).1 _ e)
    show WF (rearr s (hiC s.w (a :: r) - loC s.w (a :: r) + 1) ((a :: r).getLastD 0 / s.w - a / s.w + 1) (cropSrc s.w (loC s.w (a :: r)) (hiC s.w (a :: r)) (a / s.w) ((a :: r).getLastD 0 / s.w)))
    generalize (a :: r).getLastD 0 / s.w = bt at *
    generalize loC s.w (a :: r) = lo at *
    generalize hiC s.w (a :: r) = hi at *
    generalize a / s.w = tp at *
    obtain ⟨l1, l2, l3⟩ := hlo
    refine wf_rearr W (by omega) (by omega) (by omega) (by omega) ?_ fun p hp => ?_
    · unfold cropSrc
      rw [flat_len _ _ (hi + 1 - lo) (fun y _ => by rw [List.length_map, List.length_range]), List.length_range, Nat.mul_comm]
      congr 1 <;> omega
    · unfold cropSrc at hp
      obtain ⟨j, hj, hp⟩ := List.mem_flatMap.mp hp
      obtain ⟨i, hi', rfl⟩ := List.mem_map.mp hp
      have hj := List.mem_range.mp hj
      have hi' := List.mem_range.mp hi'
      have : (tp + j + 1) * s.w ≤ s.h * s.w := Nat.mul_le_mul_right _ (by omega)
      rw [Nat.add_mul, Nat.one_mul, Nat.mul_comm s.h] at this
      omega
theorem wf_move {s t : State} (W : WF s) {a b : Nat} (h : f_move s [a, b] = .ok t) : WF t := by
  dsimp only [f_move] at h
  obtain ⟨h1, rfl⟩ := ite_ok h
  rw [mvAll_is W a b _ (Nat.le_refl _)]
  dsimp only
  have Wd : WF (setDots s ((List.range (s.w * s.h)).map (mvD s a b (s.w * s.h)))) := by
    refine W.setDots (by rw [List.length_map, List.length_range]) fun d hd => ?_
    obtain ⟨q, hq, rfl⟩ := List.mem_map.mp hd  -- own
    have hq := dotP_ok W (List.mem_range.mp hq)
    unfold mvD
    cases hf : frm s.w s.h a b q with
    | none =>
      dsimp only
      split
      · exact ⟨by decide, by decide⟩
      · exact hq
    | some p =>
      dsimp only
      split
      · exact dotP_ok W (frm_lt W.w1 hf)
      · split
        · exact ⟨by decide, by decide⟩
        · exact hq
  split
  · exact Wd.withCh (by show ((List.range (s.w * s.h)).map _).length = s.w * s.h; rw [List.length_map, List.length_range])
  · exact Wd
theorem paste_ok {s : State} (W : WF s) {k : Option Clip} {as : List (Nat × Nat × Dot)} (r : ClipR k as) : (pasteL s as).length = s.w * s.h ∧ ∀ d ∈ pasteL s as, d.1 ≤ 255 ∧ d.2 ≤ 255 := by
  rcases r with ⟨rfl, rfl⟩ | ⟨s0, W0, rfl, rfl⟩
  · refine ⟨by show (List.replicate (s.w * s.h) _).length = _; rw [List.length_replicate], fun d hd => ?_⟩
    have hd : d ∈ List.replicate (s.w * s.h) ((0, 0) : Dot) := hd
    rw [(List.mem_replicate.mp hd).2]
    exact ⟨by decide, by decide⟩
  · unfold pasteL liftL
    rw [paste_is W W0]
    refine ⟨by rw [List.length_map, List.length_range], fun d hd => ?_⟩
    obtain ⟨q, hq, rfl⟩ := List.mem_map.mp hd  -- own
    unfold pasV
    split
    · rename_i z; exact dotP_ok W0 z.2.1
    · exact ⟨by decide, by decide⟩
theorem does_wf {s t : State} (W : WF s) {k : Option Clip} {as : List (Nat × Nat × Dot)} (r : ClipR k as) {a : Act} (h : s.does k a = .ok t) : WF t := by
  have hch := W.ch
  cases a with
  | layer =>
    rw [does_layer] at h
    exact wf_new W (by rw [List.length_replicate]) (fun d hd => by rw [(List.mem_replicate.mp hd).2]; exact ⟨by decide, by decide⟩) h
  | drop i => rw [does_drop W] at h; exact wf_drop W h
  | raise i => rw [does_raise W] at h; exact wf_raise W h
  | how i e a m => exact wf_how W h
  | work i =>
    dsimp only [State.does] at h
    obtain ⟨h1, rfl⟩ := ite_ok h
    refine W.layers (nx := s.next) W.all W.n5 W.ids ?_
    rw [Bool.not_eq_false] at h1
    obtain ⟨l, h2, h3⟩ := List.any_eq_true.mp h1
    exact List.mem_map.mpr ⟨l, h2, by simpa using h3⟩
  | rect how x y a b =>
    rw [does_rect W] at h
    obtain ⟨h1, rfl⟩ := ite_ok h
    refine W.withCh ?_
    rw [joinL_len _ (by rw [hch]; unfold rectL; rw [List.length_map, List.length_range]), hch]
  | flood how x y tol kind c =>
    dsimp only [State.does] at h
    obtain ⟨h1, rfl⟩ := ite_ok h
    dsimp only [Sq44.House.step]
    have his : s.choice.is (x, y) = true := by
      unfold Sq44.House.is
      show (decide (x < s.w) && decide (y < s.h)) = true
      rw [decide_eq_true (by omega), decide_eq_true (by omega)]
      rfl
    rw [if_neg (by rw [his]; simp; omega)]
    show WF (s.take (s.choice.join how _))
    rw [take_join W]
    refine W.withCh ?_
    rw [joinL_len _ (by rw [hch, List.length_map, List.length_range]), hch]
  | all how =>
    rw [does_all W] at h
    obtain ⟨h1, rfl⟩ := ite_ok h
    refine W.withCh ?_
    rw [joinL_len _ (by rw [hch, List.length_replicate]), hch]
  | grow r =>
    rw [does_grow W] at h
    obtain ⟨h1, rfl⟩ := ite_ok h
    refine W.withCh ?_
    unfold growL
    rw [List.length_map, List.length_range, hch]
  | shrink r =>
    rw [does_shrink W] at h
    obtain ⟨h1, rfl⟩ := ite_ok h
    refine W.withCh ?_
    unfold shrinkL growL
    rw [List.length_map, List.length_map, List.length_range, List.length_map, hch]
  | fill v c =>
    rw [does_fill W] at h
    obtain ⟨h1, rfl⟩ := ite_ok h
    exact W.setDots (becL_len s _) (becL_ok W ⟨by show v ≤ 255; omega, by show c ≤ 255; omega⟩)
  | mean r =>
    rw [does_mean W] at h
    obtain ⟨h1, rfl⟩ := ite_ok h
    exact W.setDots (recL_len s r _) (recL_ok W (by omega) fun ns hn => meanL_ok hn)
  | rank r p q =>
    rw [does_rank W] at h
    obtain ⟨h1, rfl⟩ := ite_ok h
    exact W.setDots (recL_len s r _) (recL_ok W (by omega) fun ns hn => ranked_ok hn)
  | move x y => rw [does_move W] at h; exact wf_move W h
  | cut =>
    rw [does_cut W] at h
    cases h
    exact W.setDots (becL_len s _) (becL_ok W ⟨by decide, by decide⟩)
  | paste =>
    rw [does_paste W r] at h
    unfold f_paste at h
    split at h
    · cases h
    · obtain ⟨h1, h2⟩ := paste_ok W r
      exact wf_new W h1 h2 h
  | merge => rw [does_merge W] at h; exact wf_merge W h
  | crop => rw [does_crop W] at h; exact wf_crop W h
  | turn i => rw [does_turn] at h; exact wf_turn W h
end LP
end
section
namespace LP
open Sq50
theorem insert_perm (v : Nat) : ∀ l : List Nat, (Sq45.insert v l).Perm (v :: l)
  | [] => List.Perm.refl _
  | a :: l => by
    unfold Sq45.insert
    split
    · exact List.Perm.refl _
    · exact ((insert_perm v l).cons a).trans (List.Perm.swap v a l)
theorem insert_sorted (v : Nat) : ∀ l : List Nat, l.Pairwise (· ≤ ·) → (Sq45.insert v l).Pairwise (· ≤ ·)
  | [], _ => List.pairwise_singleton ..
  | a :: l, h => by
    obtain ⟨h1, h2⟩ := List.pairwise_cons.mp h  -- own
    unfold Sq45.insert
    split
    · rename_i c
      refine List.pairwise_cons.mpr ⟨fun x hx => ?_, h⟩
      rcases List.mem_cons.mp hx with rfl | hx  -- own
      · exact c
      · exact Nat.le_trans c (h1 x hx)
    · rename_i c
      refine List.pairwise_cons.mpr ⟨fun x hx => ?_, insert_sorted v l h2⟩
      rcases insert_mem hx with rfl | hx
      · omega
      · exact h1 x hx
theorem sortedF_perm : ∀ l m : List Nat, (l.foldl (fun m v => Sq45.insert v m) m).Perm (l ++ m)
  | [], m => List.Perm.refl _
  | v :: l, m => by
    refine (sortedF_perm l (Sq45.insert v m)).trans ?_
    refine ((insert_perm v m).append_left l).trans ?_
    exact List.perm_middle
theorem sortedF_sorted : ∀ l m : List Nat, m.Pairwise (· ≤ ·) → (l.foldl (fun m v => Sq45.insert v m) m).Pairwise (· ≤ ·)
  | [], m, h => h
  | v :: l, m, h => sortedF_sorted l _ (insert_sorted v m h)
theorem sorted_unique : ∀ {l m : List Int}, l.Perm m → l.Pairwise (· ≤ ·) → m.Pairwise (· ≤ ·) → l = m
  | [], m, hp, _, _ => (List.nil_perm.mp hp).symm ▸ rfl
  | a :: l, [], hp, _, _ => absurd hp.length_eq (by simp)
  | a :: l, b :: m, hp, h1, h2 => by
    obtain ⟨a1, a2⟩ := List.pairwise_cons.mp h1
    obtain ⟨b1, b2⟩ := List.pairwise_cons.mp h2
    have e : a = b := by
      have ha : a ∈ b :: m := hp.subset (List.mem_cons_self ..)
      have hb : b ∈ a :: l := hp.symm.subset (List.mem_cons_self ..)
      rcases List.mem_cons.mp ha with h | h
      · exact h
      · rcases List.mem_cons.mp hb with h' | h'
        · exact h'.symm
        · exact Int.le_antisymm (a1 b h') (b1 a h)
    subst e
    rw [sorted_unique (List.Perm.cons_inv hp) a2 b2]
theorem sorted_is {ns : List Nat} {ms : List Int} (hp : ms.Perm (ns.map fun (b : Nat) => (b : Int))) (hs : ms.Pairwise (· ≤ ·)) : ms = (Sq45.sorted ns).map fun (b : Nat) => (b : Int) := by
  have p1 := sortedF_perm ns []
  rw [List.append_nil] at p1
  have s1 := sortedF_sorted ns [] List.Pairwise.nil
  refine sorted_unique (hp.trans (p1.map _).symm) hs ?_
  exact List.Pairwise.map _ (fun a b h => by omega) s1
theorem sorted_len (ns : List Nat) : (Sq45.sorted ns).length = ns.length := by
  have p1 := sortedF_perm ns []
  rw [List.append_nil] at p1
  exact p1.length_eq
end LP
end
section
set_option maxHeartbeats 4100000
/-! R2: a lambda with parameters and captured names, made in one def and called in another -/
namespace LP
open PySem PySem.Spec PyProof.Rows L2 Evl LamX NdefX
/-- at f: the lambda of the name q, with its captured cells cl and its code object at c -/
def LamO (f : Addr) (q : Str) (ps : Arguments) (b : Expr) (sc : Scope) (cl : List (Str × Addr)) (c : Addr) : HO := .ext fun h => ∃ pm ctv : Value, h.get? f = some (PySem.W.kla_obj "<lambda>" q ps b sc cl pm c ctv)
theorem lamO_ok {P : Program} {w : World} {H : Hp} {h : Heap} {f c : Addr} {q : Str} {ps : Arguments} {b : Expr} {sc : Scope} {cl : List (Str × Addr)} {pm ctv : Value} (e : h.get? f = some (PySem.W.kla_obj "<lambda>" q ps b sc cl pm c ctv)) : ObjOk P w H h f (LamO f q ps b sc cl c) :=
  ⟨⟨pm, ctv, e⟩, ⟨_, e⟩, fun _ _ ⟨p, t, z⟩ k => ⟨p, t, k _ z⟩⟩
theorem lamO_at {P : Program} {w : World} {H : Hp} {h : Heap} {f c : Addr} {q : Str} {ps : Arguments} {b : Expr} {sc : Scope} {cl : List (Str × Addr)} (ok : HOk P w H h) (e : H f = some (LamO f q ps b sc cl c)) : ∃ pm ctv : Value, h.get? f = some (PySem.W.kla_obj "<lambda>" q ps b sc cl pm c ctv) := (ok f _ e).1
/-- all but what stands at p is kept -/
def ExP (p : Addr) (H H' : Hp) : Prop := ∀ a o, a ≠ p → H a = some o → H' a = some o
theorem none_upd {H : Hp} {a b : Addr} {o : HO} (h : upd H a o b = none) : H b = none := by
  by_cases e : b = a
  · rw [e, upd_same] at h; cases h
  · rwa [upd_ne e] at h
/-- a table with one code object more -/
theorem tab_more {H : Hp} {p c : Addr} {q : Str} {ts : Array Value} (pos : Pos) (hp : H p = some (.tbl ts)) (ok : TriplesOk ts.toList) (at_ : ∀ (x : Pos) (v : Value), codeAmong x ts.toList = some v → ∃ d, v = .ref d ∧ H d = some (CodeO d q)) (nc : H c = none) :
    TabS (upd (upd H p (.tbl (ts ++ #[rawInt pos.line, rawInt pos.col, .ref c]))) c (CodeO c q)) p q := by
  have l : (ts ++ #[rawInt pos.line, rawInt pos.col, .ref c]).toList = ts.toList ++ [rawInt pos.line, rawInt pos.col, .ref c] := by simp
  refine ⟨_, (upd_ne (ne_of_none hp nc)).trans upd_same, l ▸ TriplesOk_snoc _ _ _ _ ok, fun x v hv => ?_⟩
  rw [l] at hv
  cases among_app _ ok hv with
  | inr e => exact ⟨c, e, upd_same⟩
  | inl e =>
    obtain ⟨d, rfl, hd⟩ := at_ x v e
    have n1 : d ≠ c := ne_of_none hd nc
    have n2 : d ≠ p := ne_of hd hp (codeO_ne ts)
    exact ⟨d, rfl, by rw [upd_ne n1, upd_ne n2]; exact hd⟩
section
variable {X : Cx} {pins : List (Addr × Obj)} {σ : L2.St} {H : Hp} {s : Shared}  -- own
/-- the lambda's object, just laid behind h -/
theorem lam_laid {h : Heap} {t t' : Nat} {q : Str} {ps : Arguments} {b : Expr} {sc : Scope} {cl : List (Str × Addr)} {pm ctv : Value} {c : Addr} (I : Inv X pins σ H { s with heap := h, toks := t }) :
    Inv X pins σ (upd H h.objs.size (LamO h.objs.size q ps b sc cl c)) { s with heap := h.push (PySem.W.kla_obj "<lambda>" q ps b sc cl pm c ctv), toks := t' } :=
  I.laid (h' := h.push (PySem.W.kla_obj "<lambda>" q ps b sc cl pm c ctv)) (t' := t') (fun _ _ e => Heap.get?_push_of_some _ e) (Nat.le_refl _) (lamO_ok (Heap.get?_push_size _ rfl))
/-- what is known behind the making: f the lambda, c' its code object -/
def tLamN (p : Addr) (q : Str) (mk : Addr → Addr → HO) : TE := fun _ H Q => TabS H p q ∧ ∀ f c' H1, ExP p H H1 → (∀ a, H1 a = none → H a = none) → TabS H1 p q → H f = none → H1 f = some (mk f c') → H1 c' = some (CodeO c' q) → Q (.ref f) H1
theorem pe_lamN {c p : Addr} {q : Str} {ps : Arguments} {b : Expr} {sc : Scope} {pos : Pos} (tb : TabB X.base X.mg c p) (hc : X.env.code = .ref c) (hq : q = X.env.qual ++ "<lambda>") (hdef : defaultsOf ps X.env = ([], []))
    (hfree : ∀ y ∈ sc.names, y.2 = .free → X.env.scope.names.lookup y.1 = some .cell ∨ X.env.scope.names.lookup y.1 = some .free) :
    PE X (.Lambda ps b sc pos) (tLamN p q fun f c' => LamO f q ps b sc (cloFrom X.env.cells sc.names []) c') := by
  subst hq
  refine ⟨fun pins s σ H Q I ⟨⟨ts, hp, ok, at_⟩, k⟩ => PySem.W.kla_eval hdef ?_⟩
  have hcl := closure_ok (env := X.env) (scope := sc) fun y hy e => (hfree y hy e).elim (fun z => I.ok.has _ (.inl z)) fun z => I.ok.has _ (.inr z)
  have gl := I.mod.glob.keeps I.bk
  have cd := tb.code.keeps I.bk
  have bm := tb.bm.keeps I.bk
  have ob : s.heap.get? p = some { cls := .none, data := .fields ts } := I.hok p _ hp
  cases hit : codeAmong pos ts.toList with
  | some v =>
    obtain ⟨d, rfl, hd⟩ := at_ pos v hit
    refine PySem.W.kla_makeFunctionHit hcl I.ok.glob gl hc cd ob ok hit bm fun ctv h' tk kp _ => ?_
    have I1 : Inv X pins σ H { s with heap := h', toks := tk } := I.kept kp
    have nf : H h'.objs.size = none := I1.fresh
    have e1 : ∀ a o, H a = some o → upd H h'.objs.size (LamO h'.objs.size (X.env.qual ++ "<lambda>") ps b sc (cloFrom X.env.cells sc.names []) d) a = some o := fun a o e => (upd_ne (ne_of_none e nf)).trans e
    exact ⟨.ref h'.objs.size, _, lam_laid I1, rfl, k _ d _ (fun a o _ e => e1 a o e) (fun a e => none_upd e) (TabS.ext ⟨ts, hp, ok, at_⟩ e1) nf upd_same (e1 _ _ hd)⟩
  | none =>
    refine PySem.W.kla_makeFunction hcl I.ok.glob gl hc cd ob ok hit tb.gP bm fun d ctv h' tk kp ge lt rc tab => ?_
    obtain ⟨d', oc, vs, tt, ed, r1, r2, r3⟩ := rc
    cases ed
    have nd : H d = none := I.hok.fresh ge
    have I1 := inv_table (t' := tk) (more := #[rawInt pos.line, rawInt pos.col, .ref d]) I hp (fun b o n e => kp b o n e) tab ge ⟨oc, vs, tt, r1, r2, r3⟩
    have T1 := tab_more pos hp ok at_ nd
    have nf := I1.fresh
    have bk : ∀ a, upd (upd H p (.tbl (ts ++ #[rawInt pos.line, rawInt pos.col, .ref d]))) d (CodeO d (X.env.qual ++ "<lambda>")) a = none → H a = none := fun a e => none_upd (none_upd e)
    have e1 : ∀ a o, upd (upd H p (.tbl (ts ++ #[rawInt pos.line, rawInt pos.col, .ref d]))) d (CodeO d (X.env.qual ++ "<lambda>")) a = some o → upd (upd (upd H p (.tbl (ts ++ #[rawInt pos.line, rawInt pos.col, .ref d]))) d (CodeO d (X.env.qual ++ "<lambda>"))) h'.objs.size (LamO h'.objs.size (X.env.qual ++ "<lambda>") ps b sc (cloFrom X.env.cells sc.names []) d) a = some o :=
      fun a o e => (upd_ne (ne_of_none e nf)).trans e
    exact ⟨.ref h'.objs.size, _, lam_laid I1, rfl, k _ d _ (fun a o n e => e1 a o (by rw [upd_ne (ne_of_none e nd), upd_ne n]; exact e)) (fun a e => bk a (none_upd e)) (T1.ext e1) (bk _ nf) upd_same (e1 _ _ upd_same)⟩
/-- cells that no running frame owns hold what they held -/
theorem cells_later {cl : List (Str × Addr)} {fr : List Str} {ws : List (Option V)} (C : CellsAt cl fr ws X.s_0.heap X.H_0) (hx : X.ex = []) (I : Inv X pins σ H s) : CellsAt cl fr ws s.heap H := by
  have no : ∀ b : Addr, b ∉ X.ex := fun b hb => by rw [hx] at hb; cases hb
  have st : ∀ y c v, cl.lookup y = some c → X.s_0.heap.IsCell c v → s.heap.IsCell c v := fun y c v e ⟨o, ho, hd⟩ => by
    obtain ⟨sl, h2⟩ := I.base.any ho (C.all y c e).1 (no c)
    exact ⟨_, h2, hd⟩
  refine ⟨C.len, fun y c e => ?_, C.inj, fun i y e => ?_⟩  -- own
  · obtain ⟨n, v, o, ho, hd⟩ := C.all y c e
    exact ⟨I.base.free c o ho n (no c), v, st y c v e ⟨o, ho, hd⟩⟩
  · obtain ⟨c, hc, hv⟩ := C.has i y e  -- own
    exact ⟨c, hc, fun v ev => let ⟨u, r, z⟩ := hv v ev; ⟨u, r, st y c _ hc z⟩⟩
end
abbrev lamNF (q : Str) (ps : Arguments) (sc : Scope) (cl : List (Str × Addr)) (c : Addr) : NF := ⟨"<lambda>", q, ps, [], sc, cl, c⟩
section
variable {P : Program} {w : World} {K : PySem.W.Frag} {mg : Str → Option Value} {base : Heap} {A : Around} {outer : List Env} {s : Shared} {H : Hp} {f c : Addr} {q : Str} {ps : Arguments} {b : Expr} {sc : Scope} {cl : List (Str × Addr)} {N pn fr : List Str} {ws : List (Option V)} {k : Nat} {tb : TE}
/-- the lambda runs: its body's reading from its parameters and captured values -/
theorem lam_runs {us : List Value} {vs : List V} {Q : VK} (S : NScope N pn fr sc) (hb : ∀ (pm ctv : Value) (us : List Value), us.length = pn.length → bindArgs (PySem.W.kla_fn "<lambda>" q ps b sc cl pm (.ref c) ctv) ⟨us, []⟩ = pure (pn.zip us))
    (hr : Room (k + 1) A) (e0 : Env0 P w K mg base A outer s H) (hf : H f = some (LamO f q ps b sc cl c)) (hc : H c = some (CodeO c q)) (C : CellsAt cl fr ws s.heap H) (r : Vals vs us) (hl : vs.length = pn.length)
    (hbody : Room k (A.deeper (envF (lamNF q ps sc cl c) f s.heap.objs.size)) → PE (ncx CX0 P w K mg base N (lamNF q ps sc cl c) f A outer s H E0) b tb) (h : tb (startF N vs ws) H Q) :
    codeAny (model P w) A (.call (.ref f) ⟨us, []⟩) (CR CX0 outer P w H s Q E0) s := by
  obtain ⟨pm, ctv, ob⟩ := lamO_at e0.hok hf
  have lim : s.heap.NoLimit := e0.mod.nolimit.keeps fun b o e => (e0.bs b o e).1  -- own
  refine PySem.W.kla_callFunE hr.depth ob rfl S.co S.gen rfl (codeO_at e0.hok hc) ?_
  rw [hb pm ctv us (by rw [← r.length, hl])]
  refine wpAny_pure (wpAny_newFunctionEnv S.nocell (fun y hy => S.par y.1 (List.of_mem_zip hy).1) (fun h1 ns sb => ⟨lim.fresh _ sb, PySem.W.kla_codeExpr ?_⟩) S.kind)
  have J : Inv (ncx CX0 P w K mg base N (lamNF q ps sc cl c) f A outer s H E0) [] (startF N vs ws) H { s with heap := h1, toks := s.toks + (pn.zip us).length } :=
    inv_startN (F := lamNF q ps sc cl c) S hr.hd e0 hl r C ns fun a o e => sb.extBut a o (Nat.ne_of_lt (Heap.lt_size e)) (Heap.get?_push_of_some _ e)
  exact wpAny_mono ((hbody (hr.deeper _)).run [] _ _ H Q J h) (fun u s' ⟨v, H', J', rv, z⟩ => ⟨v, H', J'.os, J'.bare, J'.base, J'.hok, rv, z⟩) fun e s' z => z
end
section
variable {X : Cx} {f c : Addr} {q x : Str} {ps : Arguments} {b : Expr} {sc : Scope} {cl : List (Str × Addr)} {N pn fr : List Str} {ws : List (Option V)} {k i : Nat} {tb : TE} {t : TA} {e : Expr} {es : List Expr} {p pos : Pos}
theorem lam_fnAt {pins : List (Addr × Obj)} {σ : L2.St} {H : Hp} {s : Shared} (I : Inv X pins σ H s) (h : H f = some (LamO f q ps b sc cl c)) : PySem.W.FnAt f s.heap := let ⟨_, _, ob⟩ := lamO_at I.hok h; ⟨_, _, _, _, ob⟩
/-- x(..), x a slot that holds the lambda; its cells were filled ahead of this frame -/
theorem pe_callLm (S : NScope N pn fr sc) (hb : ∀ (pm ctv : Value) (us : List Value), us.length = pn.length → bindArgs (PySem.W.kla_fn "<lambda>" q ps b sc cl pm (.ref c) ctv) ⟨us, []⟩ = pure (pn.zip us))
    (C : CellsAt cl fr ws X.s_0.heap X.H_0) (hx : X.ex = []) (hr : Room (k + 1) X.A) (hbody : ∀ (s : Shared) (H : Hp), Room k (X.A.deeper (envF (lamNF q ps sc cl c) f s.heap.objs.size)) → PE (ncx CX0 X.prog X.w X.K X.mg X.base N (lamNF q ps sc cl c) f X.A X.stack s H E0) b tb)
    (hN : X.N[i]? = some x) (hv : Vis X.env.scope x) (ha : PA X (e :: es) t) (he : starEach (e :: es) X.env = (false, eval e X.env) :: starEach es X.env)
    (hd : (x == ("__debug__" : Str)) = false := by decide) (hcd : (x == ("__classdict__" : Str)) = false := by decide) (hpl : (backTo pos (starEach es X.env)).any (·.1) = false := by rfl) :
    PE X (.Call (.Name x p) (e :: es) [] pos) fun σ H Q => (σ[i]? = some (some (.ref f)) ∧ H f = some (LamO f q ps b sc cl c)) ∧ t σ H fun vs H1 => H1 f = some (LamO f q ps b sc cl c) ∧ H1 c = some (CodeO c q) ∧ vs.length = pn.length ∧ tb (startF N vs ws) H1 Q := by
  refine ⟨fun pins s σ H Q I ⟨⟨hs, hf⟩, ht⟩ => wpAny_Call_Name_kw (thn ((pe_var (pos := p) hN hv hd hcd).run pins s σ H (fun v H' => v = .ref f ∧ H' = H) I ⟨_, hs, rfl, rfl⟩) ?_)⟩
  rintro u s1 ⟨v, H', I1, ru, rfl, rfl⟩
  obtain rfl : u = Value.ref f := ru
  refine PySem.W.callWith_F (first := []) (lam_fnAt I1 hf) (thn (ha.run pos pins s1 σ _ _ I1 ht) ?_) he hpl
  rintro us s2 ⟨vs, H2, I2, r, h1, h2, hl, z⟩
  refine ⟨lam_fnAt I2 h1, wpAny_call (codeAny_mono (lam_runs S hb hr I2.env0 h1 h2 (cells_later C hx I2) r hl (hbody s2 H2) z) fun rr s3 y => ?_)⟩
  match rr, y with
  | .ok (.ret _), y => exact I2.after y
end
end LP
end
section
set_option maxHeartbeats 4100000
namespace LP
open PySem PySem.Spec PyProof.Rows L2 Evl LamX NdefX
open Sq50 (State Layer Dot)
/-! rank: the lambda's text -/
def lamE : Expr := match (defBody s_rank).getD 3 (.Pass ⟨0, 0, 0, 0⟩) with
  | .Return (some (.Call _ [_, _, l] _ _)) _ => l
  | _ => .Name "" ⟨0, 0, 0, 0⟩
def lamA : Arguments := match lamE with
  | .Lambda a _ _ _ => a
  | _ => defArgs s_rank
def lamBd : Expr := match lamE with
  | .Lambda _ b _ _ => b
  | _ => lamE
def lamSc : Scope := match lamE with
  | .Lambda _ _ s _ => s
  | _ => defScope s_rank
def lamPs : Pos := match lamE with
  | .Lambda _ _ _ p => p
  | _ => ⟨0, 0, 0, 0⟩
abbrev N_lam : List Str := ["colours", "part", "whole"]
theorem nd_lam : ndefB (defScope s_rank) lamSc ["part", "whole"] = true := by decide +kernel
theorem ns_lam : NScope N_lam ["colours"] ["part", "whole"] lamSc := nscope_by (by decide +kernel)
section
variable {P : Program} {w : World} {K : PySem.W.Frag} {mg : Str → Option Value} {base : Heap}
theorem cr_sortedIK {X : Cx} (hK : X.K = K) : CallR X (.builtin "sorted") (rSortedI K) := by subst hK; exact cr_sortedI
theorem pu_nsubS {σ : L2.St} {H : Hp} {ta tb : TE} {a b : Nat} (ha : Pu ta σ H (nV a)) (hb : Pu tb σ H (nV b)) (h : b ≤ a) : Pu (tOp (rI0 fun i j => .int (i - j)) ta tb) σ H (nV (a - b)) := pu_nsub ha hb h
theorem lam_body (T : Txt K mg) : ∃ tb : TE, (∀ (q : Str) (cl : List (Str × Addr)) (c f : Addr) (A : Around) (outer : List Env) (s : Shared) (H : Hp), PE (ncx CX0 P w K mg base N_lam (lamNF q lamA lamSc cl c) f A outer s H E0) lamBd tb) ∧
    ∀ (a : Addr) (ns : List Nat) (pt wh : Nat) (H : Hp) (Q : VK), H a = some (.lst (nVs ns)) → Win ns → 0 < wh → pt ≤ wh → wh < 2 ^ 64 → (∀ H3, Ex H H3 → Q (nV (Sq45.ranked pt wh ns)) H3) → tb (startF N_lam [.ref a] [some (nV pt), some (nV wh)]) H Q := by
  refine ⟨_, fun q cl c f A outer s H => (pe_ix (ix_listK (K := K) rfl) (pe_callB (cr_sortedIK (K := K) rfl) (by rfl) (T.nb "sorted" (by decide)) (by decide +kernel) (pa_cons (pv 0) pa_nil)) (pe_op op_fdivW (pe_op op_mulW (pv 1) (pe_op op_sub (pe_callB (call_len_seqK (K := K) rfl) (by rfl) (T.nb "len" (by decide)) (by decide +kernel) (pa_cons (pv 0) pa_nil)) pe_int)) (pv 2)) (fun _ _ => rfl)), ?_⟩
  intro a ns pt wh H Q ha wn h0 hle hb k
  have few := wn.few
  have ps := wn.pos
  refine ⟨_, rfl, a, _, rfl, by rw [← nVs_ints]; exact SqL.of ha, fun ns' p hp hs np => ?_⟩
  have en := sorted_is hp hs
  subst en
  have e1 := Ex.new (o := .lst (((Sq45.sorted ns).map fun (b : Nat) => (b : Int)).map V.int)) np
  have hidx : pt * (ns.length - 1) / wh < ns.length := by
    have h1 : pt * (ns.length - 1) ≤ wh * (ns.length - 1) := Nat.mul_le_mul_right _ hle
    have h2 : pt * (ns.length - 1) / wh ≤ wh * (ns.length - 1) / wh := Nat.div_le_div_right h1
    rw [Nat.mul_div_cancel_left _ h0] at h2
    omega
  have hl2 : (2 : Nat) ^ 64 < 2 ^ 100 := by decide
  have hb100 : wh < 2 ^ 100 := by omega
  have hp100 : pt < 2 ^ 100 := by omega
  have hl100 : ns.length - 1 < 2 ^ 100 := by omega
  have hdiv : CDivW ((pt * (ns.length - 1) : Nat) : Int) (wh : Int) := by
    refine ⟨by omega, ?_⟩
    rw [Int.natAbs_natCast]
    have := (Nat.log2_lt (by omega : wh ≠ 0)).mpr hb100
    omega
  refine (pu_is (v' := nV (pt * (ns.length - 1) / wh)) (pu_I (i := ((pt * (ns.length - 1) : Nat) : Int)) (j := (wh : Int)) (pu_nmul pu_v (pu_nsub (pu_is (pu_lenL (K := K) pu_v (SqL.of (e1 _ _ ha))) (by show V.int _ = nV ns.length; rw [nVs_len])) (pu_nc 1) (by omega)) hp100 hl100) pu_v hdiv) (by show V.int _ = V.int _; rw [Int.natCast_ediv])) _ ?_
  have hv : (((Sq45.sorted ns).map fun (b : Nat) => (b : Int)).map V.int)[pt * (ns.length - 1) / wh]? = some (nV (Sq45.ranked pt wh ns)) := by
    have hl : pt * (ns.length - 1) / wh < (Sq45.sorted ns).length := by rw [sorted_len]; exact hidx
    unfold Sq45.ranked
    rw [List.getElem?_map, List.getElem?_map, List.getElem?_eq_getElem hl]
    rfl
  exact ⟨p, _, _, _, rfl, rfl, SqL.of upd_same, atI_nat hv, k _ e1⟩
/-- a def of the module, called where more is known than its promise would say: G, of the very state behind the arguments -/
theorem pe_callSt {X : Cx} {x : Str} {st : Stmt} {g : Addr} {fd : FuncData} {Ng psn : List Str} {k : Nat} {e : Expr} {es : List Expr} {t : TA} {p pos : Pos} (G : L2.St → List V → Hp → VK → Prop) (F : Fun X.K x x st g fd) (Sg : FnScope Ng psn (defScope st)) (hb : Binds X.K fd psn []) (hg : Gl X x) (hm : X.mg x = some (.ref g)) (hr : Room (k + 1) X.A)
    (hlen : ∀ σ vs H Q, G σ vs H Q → vs.length = psn.length)
    (hG : ∀ (cdv : Value) (pins : List (Addr × Obj)) (σ : L2.St) (H : Hp) (s : Shared) (vs : List V) (Q : VK), Inv X pins σ H s → G σ vs H Q → Room k (X.A.deeper (envOfC x (defScope st) s.heap.objs.size g cdv)) →
      ∃ t, PSs (cxOf CX0 X.prog X.w X.K X.mg X.base Ng x (defScope st) g cdv X.A X.stack s H E0).nox (defBody st) t ∧ t { nx := fun _ H' => Q .non H', rt := Q } (L2.start Ng vs) H)
    (ha : PA X (e :: es) t) (hdb : (x == ("__debug__" : Str)) = false) (he : starEach (e :: es) X.env = (false, eval e X.env) :: starEach es X.env) (hpl : (backTo pos (starEach es X.env)).any (·.1) = false) :
    PE X (.Call (.Name x p) (e :: es) [] pos) (fun σ H Q => t σ H fun vs H1 => G σ vs H1 Q) := by
  obtain ⟨_, _, _, _, _, _, cdv, _, _, rfl, lk, hcd⟩ := F.ex
  refine ⟨fun pins s σ H Q I h => wpAny_Call_Name_kw (ld_glob I hg hm (PySem.W.callWith_K (h₀ := X.base) I.ok.mod.kin F.kp (thn (ha.run pos pins s σ H _ I h) ?_) he hpl) hdb)⟩
  rintro us s1 ⟨vs, H1, I1, r, q⟩
  have n := hlen _ _ _ _ q
  have bb := hb s1 us I1.kIn (by rw [List.append_nil, ← r.length, n])
  rw [List.append_nil] at bb
  refine ⟨I1.kIn, wpAny_call (codeAny_mono (run_ofS (CX := CX0) (Q := Q) (E := E0) lk hcd Sg hr I1.env0 bb r n fun hr' => ?_) fun rr s2 y => ?_)⟩
  · obtain ⟨u, u1, u2⟩ := hG cdv pins σ H1 s1 vs Q I1 q hr'
    exact ⟨u, u1.nox, u2⟩
  · match rr, y with
    | .ok (.ret _), y => exact I1.after y
/-- rank's code object and its table -/
structure RankT (T : Txt K mg) (base : Heap) (c Pt : Addr) : Prop where
  cd : ∀ (oc : Value) (od : Option Addr) (kV doc pm : Value) (an : Option Addr) (cdv ct : Value) (osl : Array (Option Value)), K.lookup T.rank.a = some ⟨oc, od, .func (PySem.W.fnOf "rank" "rank" (defArgs s_rank) (defBody s_rank) (defScope s_rank) .none kV doc pm an cdv ct), osl⟩ → cdv = .ref c
  tb : TabB base mg c Pt
abbrev qLam : Str := ("rank" : Str) ++ ".<locals>." ++ "<lambda>"
/-- a deed that may write the table -/
def PicRP (T : Txt K mg) (Pt : Addr) (Z : Addr → Prop) (t : State) (H : Hp) (Q : VK) : Prop := ∀ p H', ExP Pt H H' → TabS H' Pt qLam → Pic T Z H' p t → Q (.ref p) H'
def DresP (T : Txt K mg) (Pt : Addr) (Z : Addr → Prop) (H : Hp) (Q : VK) (E : XK) : Except Int State → Prop
  | .ok t => PicRP T Pt Z t H Q
  | .error e => Rz (cls T e) e H E
def sp_rank (T : Txt K mg) (Pt : Addr) : Sp := fun vs H Q E => ∃ (a m : Addr) (Z : Addr → Prop) (s : State) (ms : List Nat), vs = [.ref a, .ref m] ∧ Pic T Z H a s ∧ WF s ∧ Free Z H ∧ H m = some (.lst (nVs ms)) ∧ ms.length = 3 ∧ (∀ x ∈ ms, x < 2 ^ 64) ∧ TabS H Pt qLam ∧ ¬ Z Pt ∧ DresP T Pt Z H Q E (f_rank s ms)
def G_rank (T : Txt K mg) (cl : List (Str × Addr)) : L2.St → List V → Hp → VK → Prop := fun σ vs H Q => ∃ (pa f c' : Addr) (Z : Addr → Prop) (s : State) (r pt wh : Nat), vs = [.ref pa, nV r, .ref f] ∧ slotAt σ 2 = some (nV pt) ∧ slotAt σ 3 = some (nV wh) ∧ Pic T Z H pa s ∧ WF s ∧ Free Z H ∧ r ≤ 4 ∧ 0 < wh ∧ pt ≤ wh ∧ wh < 2 ^ 64 ∧
  H f = some (LamO f qLam lamA lamBd lamSc cl c') ∧ H c' = some (CodeO c' qLam) ∧ PicR T Z (setDots s (recL s r (Sq45.ranked pt wh))) H Q
theorem ok_rank (T : Txt K mg) {c Pt : Addr} (R : RankT T base c Pt) : FnOk P w K mg base (L2.CX P w) 10 T.rank.a T.rank.fd ["picture", "more"] (sp_rank T Pt) := by
  obtain ⟨oc, od, kV, doc, pm, an, cdv, ct, osl, efd, lk, hcd⟩ := T.rank.F.ex
  have lk2 := lk
  rw [efd] at lk2
  have ec := R.cd _ _ _ _ _ _ _ _ _ lk2
  subst ec
  rw [efd]
  refine fn_of lk2 hcd sc_rank (fun vs H Q E h => ?_) (fun A outer s H vs Q E hr h => ?_)
  · obtain ⟨a, m, Z, s, ms, rfl, _⟩ := h
    rfl
  · obtain ⟨pa, m, Z, st, ms, rfl, hp, W, hF, hm, hn, hms, hT, nZ, k⟩ := h
    obtain ⟨r, pt, wh, rfl⟩ : ∃ r pt wh, ms = [r, pt, wh] := by
      match ms, hn with
      | [r, pt, wh], _ => exact ⟨r, pt, wh, rfl⟩
    dsimp only [f_rank] at k
    obtain ⟨tb, hpe, htb⟩ := lam_body (P := P) (w := w) (base := base) T
    have lam_e := pe_lamN (X := cxOf (L2.CX P w) P w K mg base N_rank "rank" (defScope s_rank) T.rank.a (.ref c) A outer s H E) (q := qLam) (ps := lamA) (b := lamBd) (sc := lamSc) (pos := lamPs) R.tb rfl rfl rfl (ndef_free nd_lam)
    have hGG : ∀ (cdv : Value) (pins : List (Addr × Obj)) (σ : L2.St) (H2 : Hp) (s2 : Shared) (vs : List V) (Q : VK), Inv (cxOf (L2.CX P w) P w K mg base N_rank "rank" (defScope s_rank) T.rank.a (.ref c) A outer s H E) pins σ H2 s2 → G_rank T (cloFrom (cxOf (L2.CX P w) P w K mg base N_rank "rank" (defScope s_rank) T.rank.a (.ref c) A outer s H E).env.cells lamSc.names []) σ vs H2 Q →
        Room 8 ((cxOf (L2.CX P w) P w K mg base N_rank "rank" (defScope s_rank) T.rank.a (.ref c) A outer s H E).A.deeper (envOfC "recoloured" (defScope s_recoloured) s2.heap.objs.size T.recoloured.a cdv)) →
        ∃ t, PSs (XR P w base T cdv (cxOf (L2.CX P w) P w K mg base N_rank "rank" (defScope s_rank) T.rank.a (.ref c) A outer s H E).A (cxOf (L2.CX P w) P w K mg base N_rank "rank" (defScope s_rank) T.rank.a (.ref c) A outer s H E).stack s2 H2 E0) (defBody s_recoloured) t ∧ t { nx := fun _ H' => Q .non H', rt := Q } (L2.start N_recoloured vs) H2 := by
      rintro cdv pins σ H2 s2 vs Q I2 ⟨pa, f, c', Z, s, r, pt, wh, rfl, g2, g3, hp, W, hF, hr4, h0, hle, hb, hf, hc, k⟩ hr2
      have C := cells_of I2 (Caps.made (fr := ["part", "whole"]) (js := [2, 3]) I2.ok (ndef_free nd_lam) (ndef_fr nd_lam) rfl)
      have ews : [2, 3].map (slotAt σ) = [some (nV pt), some (nV wh)] := by
        rw [List.map_cons, List.map_cons, g2, g3]; rfl
      rw [ews] at C
      refine recol_run T hr2 (f := f) (g := Sq45.ranked pt wh) (fun H1 => H1 f = some (LamO f qLam lamA lamBd lamSc (cloFrom (cxOf (L2.CX P w) P w K mg base N_rank "rank" (defScope s_rank) T.rank.a (.ref c) A outer _ _ E).env.cells lamSc.names []) c'))
        (fun vs H1 Q => H1 f = some (LamO f qLam lamA lamBd lamSc (cloFrom (cxOf (L2.CX P w) P w K mg base N_rank "rank" (defScope s_rank) T.rank.a (.ref c) A outer _ _ E).env.cells lamSc.names []) c') ∧ H1 c' = some (CodeO c' qLam) ∧ vs.length = 1 ∧ tb (startF N_lam vs [some (nV pt), some (nV wh)]) H1 Q)
        (fun {e t p pos} ha he => pe_callLm (k := 0) ns_lam (fun pm ctv us hl => match us, hl with | [_], _ => rfl) C rfl (hr2.mono (by decide)) (fun s H _ => hpe _ _ _ _ _ _ _ _) rfl (by first | exact Or.inl rfl | exact Or.inr (Or.inl rfl)) ha he)
        (fun H1 e => e _ _ hf) (fun a ns H1 Q1 e1 h1 wn k1 => ⟨e1 _ _ hf, e1 _ _ hc, rfl, htb a ns pt wh H1 Q1 h1 wn h0 hle hb k1⟩) hp W hF hr4 k
    have rule_recoloured : ∀ {e : Expr} {es : List Expr} {t : TA} {p pos : Pos}, PA (cxOf (L2.CX P w) P w K mg base N_rank "rank" (defScope s_rank) T.rank.a (.ref c) A outer s H E) (e :: es) t → starEach (e :: es) (cxOf (L2.CX P w) P w K mg base N_rank "rank" (defScope s_rank) T.rank.a (.ref c) A outer s H E).env = (false, eval e (cxOf (L2.CX P w) P w K mg base N_rank "rank" (defScope s_rank) T.rank.a (.ref c) A outer s H E).env) :: starEach es (cxOf (L2.CX P w) P w K mg base N_rank "rank" (defScope s_rank) T.rank.a (.ref c) A outer s H E).env →
        (backTo pos (starEach es (cxOf (L2.CX P w) P w K mg base N_rank "rank" (defScope s_rank) T.rank.a (.ref c) A outer s H E).env)).any (·.1) = false → PE (cxOf (L2.CX P w) P w K mg base N_rank "rank" (defScope s_rank) T.rank.a (.ref c) A outer s H E) (.Call (.Name "recoloured" p) (e :: es) [] pos) (fun σ H1 Q => t σ H1 fun vs H2 => G_rank T (cloFrom (cxOf (L2.CX P w) P w K mg base N_rank "rank" (defScope s_rank) T.rank.a (.ref c) A outer s H E).env.cells lamSc.names []) σ vs H2 Q) :=
      fun {e es t p pos} ha he hpl => pe_callSt _ T.recoloured.F sc_recoloured T.recoloured.b (by rfl) T.recoloured.g (hr.mono (by decide)) (fun σ vs H Q ⟨_, _, _, _, _, _, _, _, h, _⟩ => by rw [h]; rfl) hGG ha (by decide) he hpl
    refine ⟨_, (pss_cons (ps_set (i := 2) sc_rank.nd rfl (by first | exact Or.inl rfl | exact Or.inr rfl) (pe_ix ix_list (pv 1) pe_int (fun _ _ => rfl)))
  (pss_cons (ps_set (i := 3) sc_rank.nd rfl (by first | exact Or.inl rfl | exact Or.inr rfl) (pe_ix ix_list (pv 1) pe_int (fun _ _ => rfl)))
  (pss_cons (ps_if (PW.pt (pw_or (pt_cmpR op_gt (pe_ix ix_list (pv 1) pe_int (fun _ _ => rfl)) (pe_glob (by rfl) T.FURTHEST_WINDOW.g T.FURTHEST_WINDOW.r) (nomark _)) (pw_or (pt_cmpR op_eq (pv 3) pe_int (nomark _)) (pw_or1 (pt_cmpR op_gt (pv 2) (pv 3) (nomark _))))))
  (pss_one (ps_raiseR rfl T.CannotBe hr (takes_of rfl rfl rfl rfl)))
  pss_nil)
  (pss_one (ps_ret (rule_recoloured (pa_cons (pv 0) (pa_cons (pe_ix ix_list (pv 1) pe_int (fun _ _ => rfl)) (pa_cons lam_e pa_nil))) rfl rfl)))))), ?_⟩
    refine s_set (pu_more rfl hm rfl) ?_
    refine s_set (pu_more rfl hm rfl) ?_
    refine s_if (pt_or (pt_ngt (pu_more rfl hm rfl) (pu_nc 4)) (fun _ => pt_or (pt_neq (k := 0) pu_v) (fun _ => pt_ngt pu_v pu_v))) (fun e => ?_) fun e => ?_
    · simp only [Bool.or_eq_true, decide_eq_true_eq] at e
      rw [if_pos e] at k
      exact Rz.go k (Ex.refl H)
    · simp only [Bool.or_eq_false_iff, decide_eq_false_iff_not] at e
      rw [if_neg (by omega)] at k
      have hwh : wh < 2 ^ 64 := hms wh (by simp)
      refine ⟨_, rfl, ?_⟩
      refine (pu_more (n := 0) rfl hm rfl) _ ?_
      refine ⟨hT, fun f c' H1 e1 b1 t1 nf hf hc => ?_⟩
      have hk : Keep Z H H1 := fun a o z h => e1 a o (fun q => nZ (q ▸ z)) h
      exact ⟨pa, f, c', Z, st, r, pt, wh, rfl, rfl, rfl, hp.keep hk, W, fun a ha => hF a (b1 a ha), by omega, by omega, by omega, hwh, hf, hc, fun p H2 e2 h2 => k p H2 (fun a o n h => e2 a o (e1 a o n h)) (t1.ext e2) h2⟩
end
end LP
end
section
set_option maxHeartbeats 4100000
/-! R3: a dict display of eighteen pairs, its keys ints, all of it constants and names of the module -/
namespace LP
open PySem PySem.Spec PyProof.Rows L2 Evl
/-- the walk of a display takes up pairs till there are 17 -/
theorem gathers (f : (Option (Sem Value) × Sem Value) → (Option Addr × List (Sem Value × Sem Value)) → Sem (ForInStep (Option Addr × List (Sem Value × Sem Value))))
    (hf : ∀ (p : Sem Value × Sem Value) (run : List (Sem Value × Sem Value)), run.length < 16 → f (some p.1, p.2) (none, run) = pure (.yield (none, run ++ [p]))) (more : List (Option (Sem Value) × Sem Value)) :
    ∀ (ps run : List (Sem Value × Sem Value)), run.length + ps.length ≤ 16 → forIn ((ps.map fun p => (some p.1, p.2)) ++ more) ((none : Option Addr), run) f = forIn more ((none : Option Addr), run ++ ps) f := by
  intro ps
  induction ps with
  | nil => intro run _; rw [List.append_nil]; rfl
  | cons p ps ih =>
    intro run h
    rw [List.length_cons] at h
    have e := ih (run ++ [p]) (by rw [List.length_append, List.length_singleton]; omega)
    rw [List.append_assoc] at e
    rw [List.map_cons, List.cons_append, List.forIn_cons, hf p run (by omega), pure_bind]
    exact e
theorem display18 (ps : List (Sem Value × Sem Value)) (p l : Sem Value × Sem Value) (h : ps.length = 16) :
    dictDisplay ((ps.map fun p => (some p.1, p.2)) ++ [(some p.1, p.2), (some l.1, l.2)]) = (do
      let d ← subDict (ps ++ [p])
      let sub ← holding [.ref d] (subDict [l])
      (holding [.ref d, .ref sub] (mergeMapping d (.ref sub) false)).onRaise fun er => do let _ ← holding [.ref d, er] (runValue (.builtin "proto.let_go" {}))
      pure (.ref d)) := by
  unfold dictDisplay
  dsimp only
  rw [gathers _ (fun p run hr => by
    have n : ((run ++ [(p.1, p.2)]).length == 17) = false := by rw [List.length_append, List.length_singleton]; exact beq_false_of_ne (by omega)
    simp only [n, Bool.false_eq_true, if_false]) _ ps [] (by rw [List.length_nil]; omega)]
  have n17 : ((ps ++ [(p.1, p.2)]).length == 17) = true := by rw [List.length_append, List.length_singleton, h]; rfl
  have ne : (ps ++ [(p.1, p.2)]).isEmpty = false := by simp
  have n1 : (([] ++ [(l.1, l.2)] : List (Sem Value × Sem Value)).length == 17) = false := rfl
  simp only [List.nil_append, List.forIn_cons, List.forIn_nil, n17, if_true, ne, Bool.false_eq_true, if_false]
  simp
/-- a tree that gives v and changes nothing that is known -/
def Still (X : Cx) (t : Sem Value) (v : V) : Prop := ∀ (pins : List (Addr × Obj)) (σ : L2.St) (H : Hp) (s : Shared) (Q : Value → Shared → Prop), Inv X pins σ H s → (∀ u s', Inv X pins σ H s' → RelV v u → Q u s') → wpAny (model X.prog X.w) X.A t Q X.xe s
theorem still_of {X : Cx} {e : Expr} {v : V} (h : PE X e (tC v)) : Still X (eval e X.env) v := fun pins σ H s Q I q => by
  refine thn (h.run pins s σ H (fun y H' => y = v ∧ H' = H) I ⟨rfl, rfl⟩) ?_
  rintro u s' ⟨y, H', I', r, rfl, rfl⟩
  exact q u s' I' r
theorem still_stand {X : Cx} {t : Sem Value} {v : V} {p : Pos} (h : Still X t v) : Still X (do let x ← t; standAt p; pure x) v := fun pins σ H s Q I q =>
  wpAny_bind (h pins σ H s _ I fun u s' I' r => wpAny_bind (wpAny_standAt (wpAny_pure (q u s' I' r))))
abbrev PairT (X : Cx) : List (Sem Value × Sem Value) → List (Key × V) → Prop := Paired fun t kv => Still X t.1 (kV kv.1) ∧ Still X t.2 kv.2
/-- the pairs of a display -/
inductive Prs (X : Cx) : List (Option Expr) → List Expr → List (Key × V) → Prop
  | nil : Prs X [] [] []
  | cons {k v : Expr} {ks : List (Option Expr)} {vs : List Expr} {kvs : List (Key × V)} {i : Int} {u : V} : PE X k (tC (.int i)) → PE X v (tC u) → Prs X ks vs kvs → Prs X (some k :: ks) (v :: vs) ((.inl i, u) :: kvs)
theorem Prs.trees {X : Cx} {pos : Pos} {ks : List (Option Expr)} {vs : List Expr} {kvs : List (Key × V)} (h : Prs X ks vs kvs) : PairT X (pairTrees ks vs X.env pos) kvs ∧ ks.all (·.isSome) = true ∧ ks.length = vs.length := by
  induction h with
  | nil => exact ⟨.nil, rfl, rfl⟩
  | cons hk hv _ ih => exact ⟨.cons ⟨still_of hk, still_stand (still_of hv)⟩ ih.1, ih.2.1, congrArg Nat.succ ih.2.2⟩
theorem pair_split {α β : Type} {F : α → β → Prop} : ∀ {m1 : List β} {l : List α} {m2 : List β}, Paired F l (m1 ++ m2) → ∃ l1 l2, l = l1 ++ l2 ∧ Paired F l1 m1 ∧ Paired F l2 m2
  | [], l, _, h => ⟨[], l, rfl, .nil, h⟩
  | _ :: m1, _, _, .cons h t => let ⟨l1, l2, e, a, b⟩ := pair_split (m1 := m1) t; ⟨_ :: l1, l2, by rw [e]; rfl, .cons h a, b⟩
section
variable {X : Cx} {pins : List (Addr × Obj)} {σ : L2.St} {H : Hp} {s : Shared} {d : Addr} {acc : List (Key × V)}
theorem val_none {k : Key} (h : k ∉ acc.map (·.1)) : valV acc k = none := by
  cases e : valV acc k with
  | none => rfl
  | some v =>
    have a : (acc.any fun kv => decide (kv.1 = k)) = true := by rw [valV_any, e]; rfl
    obtain ⟨kv, hm, hk⟩ := List.any_eq_true.mp a
    exact absurd (List.mem_map.mpr ⟨kv, hm, of_decide_eq_true hk⟩) h
/-- d[k] = v, k new -/
theorem set_pair {A : Around} {E : Value → Shared → Prop} {k : Key} {v : V} {ku vu : Value} {Q : Unit → Shared → Prop} (I : Inv X pins σ H s) (e : H d = some (.dK acc)) (hl : acc.length ≤ 100) (hn : k ∉ acc.map (·.1)) (rk : RelV (kV k) ku) (rv : RelV v vu)
    (q : ∀ s', Inv X pins σ (upd H d (.dK (acc ++ [(k, v)]))) s' → Q () s') : wpAny (model X.prog X.w) A (dictSet d ku vu) Q E s := by
  obtain ⟨_, hd, vs, rel, dd⟩ := dk_of I.hok e
  have len : acc.length = vs.length := Paired.len rel
  refine wpAny_dictSet_pairs (hsz := Nat.le_trans (by omega) (szl (n := 100) (by decide))) (kV_is rk) dd fun h' dd' sb => q _ ?_
  have put := rel.put k rv
  rw [putK_new _ (val_none hn)] at put
  exact d_write I (by rw [e]; exact trivial) sb (let ⟨o, _, _, ho, _⟩ := dd'; ⟨o, ho⟩) (dk_new (szl (by rw [List.length_append, List.length_singleton]; omega)) hd put dd')
/-- the walk over many pairs -/
theorem set_pairs {ts : List (Sem Value × Sem Value)} {kvs : List (Key × V)} (h : PairT X ts kvs) : ∀ {acc : List (Key × V)} {H : Hp} {s : Shared} {Q : PUnit → Shared → Prop}, Inv X pins σ H s → H d = some (.dK acc) → acc.length + kvs.length ≤ 100 → ((acc ++ kvs).map (·.1)).Nodup →
    (∀ s', Inv X pins σ (upd H d (.dK (acc ++ kvs))) s' → Q ⟨⟩ s') →
    wpAny (model X.prog X.w) X.A (forIn ts PUnit.unit fun (x : Sem Value × Sem Value) (_ : PUnit) => (do
      let key1 ← x.1
      let val1 ← holding [key1] x.2
      holding [key1, val1] (dictSet d key1 val1)
      pure (ForInStep.yield PUnit.unit) : Sem (ForInStep PUnit))) Q X.xe s := by
  induction h with
  | nil =>
    intro acc H s Q I e _ _ q
    rw [List.append_nil] at q
    have eq : upd H d (.dK acc) = H := by
      funext b
      by_cases hb : b = d
      · rw [hb, upd_same, e]
      · rw [upd_ne hb]
    rw [eq] at q
    rw [List.forIn_nil]
    exact wpAny_pure (q s I)
  | @cons t kv ts kvs ht tr ih =>
    obtain ⟨k, v⟩ := kv
    intro acc H s Q I e hl hn q
    rw [List.length_cons] at hl
    have fresh : k ∉ acc.map (·.1) := fun hm => by
      rw [List.map_append, List.map_cons] at hn
      exact (List.nodup_append.mp hn).2.2 k hm k (List.mem_cons_self ..) rfl
    have eq : acc ++ [(k, v)] ++ kvs = acc ++ (k, v) :: kvs := by simp
    rw [List.forIn_cons]
    refine wpAny_bind (wpAny_bind (ht.1 pins σ H s _ I fun ku s1 I1 rk => ?_))
    refine wpAny_bind (wpAny_holding (ht.2 pins σ H s1 _ I1 fun vu s2 I2 rv => ?_))
    refine wpAny_bind (wpAny_holding (set_pair I2 e (by omega) fresh rk rv fun s3 I3 => wpAny_pure ?_))
    refine ih I3 upd_same (by rw [List.length_append, List.length_singleton]; omega) (by rw [eq]; exact hn) fun s4 I4 => ?_
    rw [upd_upd, eq] at I4
    exact q s4 I4
/-- sixteen pairs and more: one behind another -/
theorem sub_long {ts : List (Sem Value × Sem Value)} {kvs : List (Key × V)} {Q : Addr → Shared → Prop} (h : PairT X ts kvs) (I : Inv X pins σ H s) (h15 : 15 < kvs.length) (hl : kvs.length ≤ 100) (hn : (kvs.map (·.1)).Nodup)
    (q : ∀ p s', H p = none → Inv X pins σ (upd H p (.dK kvs)) s' → Q p s') : wpAny (model X.prog X.w) X.A (subDict ts) Q X.xe s := by
  have len := Paired.len h
  have I1 := I.laid (a := s.heap.objs.size) (o := .dK []) (h' := s.heap.push { cls := .type "dict", data := .dict #[] }) (t' := s.toks) (fun _ _ z => Heap.get?_push_of_some _ z) (Nat.le_refl _) (dk_empty s.heap I.big)
  unfold subDict
  refine wpAny_bind (wpAny_alloc (wpAny_bind (wpAny_holding ?_)))
  rw [if_neg (by omega)]
  refine wpAny_bind (wpAny_rule (wpAny_bind (set_pairs (acc := []) h I1 upd_same (by rw [List.length_nil]; omega) (by rw [List.nil_append]; exact hn) fun s' I' => wpAny_pure (wpAny_pure (q _ s' I.fresh ?_)))))
  rw [upd_upd, List.nil_append] at I'
  exact I'
/-- one pair -/
theorem sub_one {t : Sem Value × Sem Value} {k : Key} {v : V} {Q : Addr → Shared → Prop} (ht : Still X t.1 (kV k) ∧ Still X t.2 v) (I : Inv X pins σ H s) (q : ∀ p s', H p = none → Inv X pins σ (upd H p (.dK [(k, v)])) s' → Q p s') : wpAny (model X.prog X.w) X.A (subDict [t]) Q X.xe s := by
  have I1 := I.laid (a := s.heap.objs.size) (o := .dK []) (h' := s.heap.push { cls := .type "dict", data := .dict #[] }) (t' := s.toks) (fun _ _ z => Heap.get?_push_of_some _ z) (Nat.le_refl _) (dk_empty s.heap I.big)
  unfold subDict
  refine wpAny_bind (wpAny_alloc (wpAny_bind (wpAny_holding ?_)))
  rw [if_pos (show [t].length ≤ 15 from Nat.le_of_ble_eq_true rfl)]
  refine wpAny_bind (evalPairs_cons (ht.1 pins σ _ _ _ I1 fun ku s1 J1 rk => ht.2 pins σ _ _ _ J1 fun vu s2 J2 rv => evalPairs_nil (wpAny_holding ?_)))
  rw [List.forIn_cons]
  refine wpAny_bind (wpAny_bind (wpAny_bind (set_pair J2 upd_same (by decide) (by simp) rk rv fun s3 J3 => wpAny_pure ?_)))
  dsimp only
  rw [List.forIn_nil]
  refine wpAny_pure (wpAny_pure (wpAny_pure (q _ s3 I.fresh ?_)))
  rw [upd_upd] at J3
  exact J3
theorem keys_kv : ∀ {a : List (Key × V)} {b : List (Key × Value)}, KV a b → b.map (·.1) = a.map (·.1)
  | _, _, .nil => rfl
  | _, _, .cons h t => by rw [List.map_cons, List.map_cons, h.1, keys_kv t]
/-- a dict takes a pair whose key it lacks -/
theorem put_fresh {A : Around} {E : Value → Shared → Prop} {k : Key} {key v : Value} {vs : List (Key × Value)} {Q : Unit → Shared → Prop} (hk : (mixKind X.prog X.w).is k key = true) (dd : s.heap.DictOf (mixKind X.prog X.w) d vs) (hn : k ∉ vs.map (·.1)) (hl : vs.length ≤ 100)
    (q : ∀ h', h'.DictOf (mixKind X.prog X.w) d (vs ++ [(k, v)]) → Heap.SameBut d s.heap h' → Q () { s with heap := h' }) : wpAny (model X.prog X.w) A (dictPut d ((mixKind X.prog X.w).hash k) key v) Q E s := by
  obtain ⟨o, es, ep, ho, ex, hd, ks, prs, nd⟩ := dd
  have len : es.size = vs.length := by rw [← prs.length, Array.length_toList]
  have none_ : es.findIdx? (fun e => (mixKind X.prog X.w).is k e.key) = none := by
    have h := prs.findIdx k
    have h2 : es.findIdx? (fun e => (mixKind X.prog X.w).is k e.key) = es.toList.findIdx? fun e => (mixKind X.prog X.w).is k e.key := by obtain ⟨l⟩ := es; simp
    rw [h2, h, List.findIdx?_eq_none_iff]
    intro kv hm
    exact decide_eq_false fun z => hn (List.mem_map.mpr ⟨kv, hm, z⟩)
  unfold dictPut
  refine wpAny_bind (wpAny_dictFind_of hk ho hd ks ?_)
  rw [none_]
  refine wpAny_updateDictKeys (hz := Nat.le_trans (by omega) (szl (n := 100) (by decide))) ho hd (q _ ?_ (Heap.SameBut.update ..))
  refine ⟨_, _, ep + 1, Heap.get?_update_self _ ho (Obj.isFreed_of_dict (Obj.data_mapDictKeys hd _)), ex.mapDictKeys _, Obj.data_mapDictKeys hd _, ks.push hk _, ?_, ?_⟩
  · rw [Array.toList_push]
    exact prs.append hk _ v
  · rw [List.map_append, List.nodup_append]  -- own
    refine ⟨nd, by simp, fun a ha b hb z => ?_⟩
    have hb : b = k := by simpa using hb
    exact hn (hb ▸ z ▸ ha)
/-- a dict of one pair is merged into another that lacks its key -/
theorem merge_one {A : Around} {E : Value → Shared → Prop} {b : Addr} {k : Key} {v : V} {Q : Unit → Shared → Prop} (I : Inv X pins σ H s) (ed : H d = some (.dK acc)) (eb : H b = some (.dK [(k, v)])) (h0 : 1 < acc.length) (hl : acc.length ≤ 100) (hn : k ∉ acc.map (·.1))
    (q : ∀ s', Inv X pins σ (upd H d (.dK (acc ++ [(k, v)]))) s' → Q () s') : wpAny (model X.prog X.w) A (mergeMapping d (.ref b) false) Q E s := by
  obtain ⟨_, hd, vs, rel, dd⟩ := dk_of I.hok ed
  obtain ⟨_, hb, ws, rel1, db⟩ := dk_of I.hok eb
  have nb : b ≠ d := fun z => by
    rw [z, ed] at eb
    have := congrArg List.length (HO.dK.inj (Option.some.inj eb))
    rw [List.length_singleton] at this
    omega
  have len : acc.length = vs.length := Paired.len rel
  have keys : vs.map (·.1) = acc.map (·.1) := by
    exact keys_kv rel
  cases rel1 with
  | @cons _ w0 _ _ rv rn =>
    cases rn
    obtain ⟨k0, u⟩ := w0
    obtain ⟨ek, rv⟩ := rv
    have ek : k = k0 := ek
    subst ek
    obtain ⟨od, esd, epd, hod, exd, hdd, ksd, prd, ndd⟩ := id dd
    obtain ⟨ob, esb, epb, hob, exb, hdb, ksb, prb, ndb⟩ := id db
    have ne : esd.isEmpty = false := by
      have : esd.size = vs.length := by rw [← prd.length, Array.length_toList]
      rw [Array.isEmpty_eq_false_iff]
      intro z
      rw [z] at this
      have : 0 = vs.length := this
      omega
    obtain ⟨en, rfl⟩ : ∃ en, esb = #[en] := by
      have : esb.toList.length = 1 := prb.length
      match h : esb.toList, this with
      | [en], _ => exact ⟨en, Array.toList_inj.mp (by rw [h])⟩
    have hk : (mixKind X.prog X.w).is k en.key = true ∧ en.val = u := prb.get? (i := 0) rfl rfl
    obtain ⟨k1, hk1, hh⟩ := ksb en (by simp)
    obtain rfl : k1 = k := (mixKind X.prog X.w).inj _ _ _ hk1 hk.1
    unfold mergeMapping
    refine wpAny_bind (wpAny_isInstance db.typeIs F.sub_dict_dict ?_)
    rw [if_pos rfl]
    refine wpAny_bind (wpAny_specialOf db.typeIs F.slot_dict_iter.lookup (wpAny_bind (wpAny_pure ?_)))
    rw [show (some (Value.builtin "dict.__iter__") == some (Value.builtin "dict.__iter__")) = true by decide +kernel]
    dsimp only
    rw [if_neg (by rw [hb]; exact Bool.false_ne_true)]  -- own
    refine wpAny_bind (wpAny_dictEntries hod hdd ?_)  -- own
    rw [ne, if_neg Bool.false_ne_true]
    refine wpAny_bind (wpAny_dictEntries hob hdb (wpAny_bind (wpAny_dictEpoch hob hdb (wpAny_bind ?_))))
    rw [show List.range (#[en] : Array DictEntry).size = [0] from rfl, List.forIn_cons]
    refine wpAny_bind (wpAny_bind (wpAny_dictEntries hob hdb ?_))
    show wpAny _ _ (holding [en.key, en.val] (dictPut d en.hash en.key en.val) >>= _) _ _ _
    rw [hh, hk.2]
    refine wpAny_bind (wpAny_holding (put_fresh hk.1 dd (by rw [keys]; exact hn) (by omega) fun h' dd' sb => ?_))
    have hob' : h'.get? b = some ob := (sb.2 b nb).trans hob
    refine wpAny_bind (wpAny_dictEpoch hob' hdb ?_)
    rw [if_neg (by simp)]
    refine wpAny_pure ?_
    dsimp only
    rw [List.forIn_nil]
    refine wpAny_pure (wpAny_pure (q _ ?_))
    have put : KV (acc ++ [(k1, v)]) (vs ++ [(k1, u)]) := Paired.snoc rel ⟨rfl, rv⟩
    exact d_write I (by rw [ed]; exact trivial) sb (let ⟨o, _, _, ho, _⟩ := dd'; ⟨o, ho⟩) (dk_new (szl (by rw [List.length_append, List.length_singleton]; omega)) hd put dd')
end
/-- {k: v, ..}, eighteen of them -/
def tDispC (kvs : List (Key × V)) : TE := fun _ H Q => ∀ p H', H p = none → Ex H H' → H' p = some (.dK kvs) → Q (.ref p) H'
theorem pe_disp18 {X : Cx} {pos : Pos} {keys : List (Option Expr)} {values : List Expr} {kvs : List (Key × V)} {a b : Key × V} (h : Prs X keys values (kvs ++ [a, b])) (hl : kvs.length = 16) (hn : ((kvs ++ [a, b]).map (·.1)).Nodup) : PE X (.Dict keys values pos) (tDispC (kvs ++ [a, b])) := by
  obtain ⟨tr, hall, hlen⟩ := h.trees (pos := pos)
  obtain ⟨ts, r, e, p1, p2⟩ := pair_split tr
  cases p2 with
  | @cons t1 _ _ _ h1 p2 =>
  cases p2 with
  | @cons t2 _ _ _ h2 p2 =>
  cases p2
  have len := Paired.len p1
  have e3 : kvs ++ [a] ++ [b] = kvs ++ [a, b] := by simp
  have ab : b.1 ∉ (kvs ++ [a]).map (·.1) := fun z => by
    rw [← e3, List.map_append] at hn
    exact (List.nodup_append.mp hn).2.2 _ z b.1 (by simp) rfl
  refine ⟨fun pins s σ H Q I q => ?_⟩  -- own
  rw [arm_eval_Dict, zip_pairTrees keys values X.env pos hall hlen, e, List.map_append]
  show wpAny _ _ (standAt pos >>= fun _ => dictDisplay ((ts.map fun p => (some p.1, p.2)) ++ [(some t1.1, t1.2), (some t2.1, t2.2)])) _ _ _
  rw [display18 ts t1 t2 (by omega)]
  refine wpAny_bind (wpAny_standAt (wpAny_bind ?_))  -- own
  have p17 : PairT X (ts ++ [t1]) (kvs ++ [a]) := Paired.snoc p1 h1
  have n17 : ((kvs ++ [a]).map (·.1)).Nodup := by
    rw [← e3, List.map_append] at hn
    exact (List.nodup_append.mp hn).1
  have l17 : (kvs ++ [a]).length = 17 := by rw [List.length_append, List.length_singleton, hl]
  refine sub_long p17 I (by omega) (by omega) n17 fun d s1 nd I1 => wpAny_bind (wpAny_holding (sub_one h2 I1 fun b' s2 nb I2 => wpAny_bind (wpAny_onRaise (wpAny_holding ?_))))
  have ed : upd (upd H d (.dK (kvs ++ [a]))) b' (.dK [(b.1, b.2)]) d = some (.dK (kvs ++ [a])) := (upd_ne (ne_of_none upd_same nb)).trans upd_same
  refine merge_one I2 ed upd_same (by omega) (by omega) ab fun s3 I3 => wpAny_pure ⟨.ref d, _, I3, rfl, q d _ nd (fun x o hx => ?_) (by rw [upd_same, e3])⟩
  have x1 : x ≠ d := ne_of_none hx nd
  have x2 : x ≠ b' := fun z => by
    rw [z] at hx
    have := none_upd nb
    rw [this] at hx
    cases hx
  rw [upd_ne x1, upd_ne x2, upd_ne x1]
  exact hx
end LP
end
section
set_option maxHeartbeats 4100000
namespace LP
open PySem PySem.Spec PyProof.Rows L2 Evl LamX NdefX
open Sq50 (State Layer Dot)
section
variable {P : Program} {w : World} {K : PySem.W.Frag} {mg : Str → Option Value} {base : Heap}
/-- deeds_on_picture() -/
def deeds16 (T : Txt K mg) : List (Key × V) := [(.inl 0, .ref T.make_layer.a), (.inl 1, .ref T.drop_layer.a), (.inl 2, .ref T.raise_layer.a), (.inl 3, .ref T.set_layer.a), (.inl 4, .ref T.work_on_layer.a), (.inl 5, .ref T.choose_rectangle.a), (.inl 6, .ref T.choose_flood.a), (.inl 7, .ref T.choose_all.a), (.inl 8, .ref T.grow_choice.a), (.inl 9, .ref T.shrink_choice.a), (.inl 10, .ref T.fill.a), (.inl 11, .ref T.smooth.a), (.inl 12, .ref T.rank.a), (.inl 13, .ref T.move.a), (.inl 14, .ref T.cut.a), (.inl 16, .ref T.put_together.a)]
def deedsK (T : Txt K mg) : List (Key × V) := [(.inl 0, .ref T.make_layer.a), (.inl 1, .ref T.drop_layer.a), (.inl 2, .ref T.raise_layer.a), (.inl 3, .ref T.set_layer.a), (.inl 4, .ref T.work_on_layer.a), (.inl 5, .ref T.choose_rectangle.a), (.inl 6, .ref T.choose_flood.a), (.inl 7, .ref T.choose_all.a), (.inl 8, .ref T.grow_choice.a), (.inl 9, .ref T.shrink_choice.a), (.inl 10, .ref T.fill.a), (.inl 11, .ref T.smooth.a), (.inl 12, .ref T.rank.a), (.inl 13, .ref T.move.a), (.inl 14, .ref T.cut.a), (.inl 16, .ref T.put_together.a), (.inl 17, .ref T.crop.a), (.inl 18, .ref T.turn.a)]
def sp_deeds_on_picture (T : Txt K mg) : Sp := fun vs H Q _ => vs = [] ∧ ∀ p H', H p = none → Ex H H' → H' p = some (.dK (deedsK T)) → Q (.ref p) H'
theorem deedsK_nodup (T : Txt K mg) : ((deedsK T).map (·.1)).Nodup := by
  have e : (deedsK T).map (·.1) = ([0, 1, 2, 3, 4, 5, 6, 7, 8, 9, 10, 11, 12, 13, 14, 16, 17, 18] : List Int).map fun i => (.inl i : Key) := rfl
  rw [e]
  exact List.Pairwise.map (R := fun a b => a ≠ b) _ (fun a b hab z => hab (by injection z)) (by decide)
theorem ok_deeds_on_picture (T : Txt K mg) : FnOk P w K mg base CX0 1 T.deeds_on_picture.a T.deeds_on_picture.fd [] (sp_deeds_on_picture T) := by
  refine T.deeds_on_picture.F.ok sc_deeds_on_picture (fun vs H Q E h => ?_) (fun cdv A outer s H vs Q E hr h => ⟨_, (pss_one (ps_ret (pe_disp18 (kvs := deeds16 T) (.cons pe_int (pe_glob (v := .ref T.make_layer.a) (by rfl) T.make_layer.g rfl) (.cons pe_int (pe_glob (v := .ref T.drop_layer.a) (by rfl) T.drop_layer.g rfl) (.cons pe_int (pe_glob (v := .ref T.raise_layer.a) (by rfl) T.raise_layer.g rfl) (.cons pe_int (pe_glob (v := .ref T.set_layer.a) (by rfl) T.set_layer.g rfl) (.cons pe_int (pe_glob (v := .ref T.work_on_layer.a) (by rfl) T.work_on_layer.g rfl) (.cons pe_int (pe_glob (v := .ref T.choose_rectangle.a) (by rfl) T.choose_rectangle.g rfl) (.cons pe_int (pe_glob (v := .ref T.choose_flood.a) (by rfl) T.choose_flood.g rfl) (.cons pe_int (pe_glob (v := .ref T.choose_all.a) (by rfl) T.choose_all.g rfl) (.cons pe_int (pe_glob (v := .ref T.grow_choice.a) (by rfl) T.grow_choice.g rfl) (.cons pe_int (pe_glob (v := .ref T.shrink_choice.a) (by rfl) T.shrink_choice.g rfl) (.cons pe_int (pe_glob (v := .ref T.fill.a) (by rfl) T.fill.g rfl) (.cons pe_int (pe_glob (v := .ref T.smooth.a) (by rfl) T.smooth.g rfl) (.cons pe_int (pe_glob (v := .ref T.rank.a) (by rfl) T.rank.g rfl) (.cons pe_int (pe_glob (v := .ref T.move.a) (by rfl) T.move.g rfl) (.cons (pe_glob (by rfl) T.CUT.g T.CUT.r) (pe_glob (v := .ref T.cut.a) (by rfl) T.cut.g rfl) (.cons pe_int (pe_glob (v := .ref T.put_together.a) (by rfl) T.put_together.g rfl) (.cons pe_int (pe_glob (v := .ref T.crop.a) (by rfl) T.crop.g rfl) (.cons pe_int (pe_glob (v := .ref T.turn.a) (by rfl) T.turn.g rfl) .nil)))))))))))))))))) rfl (deedsK_nodup T)))), ?_⟩)
  · rw [h.1]
    rfl
  · obtain ⟨rfl, k⟩ := h
    exact k
/-- is_told_so(deed, more) -/
def toldL : List Nat := [0, 1, 1, 4, 1, 5, 6, 1, 1, 1, 2, 1, 3, 2, 0, 0, 0, 0, 1]
def toldB (deed n : Nat) : Bool := decide (toldL[deed]? = some n)
def sp_is_told_so (T : Txt K mg) : Sp := fun vs H Q _ => ∃ (deed : Nat) (m : Addr) (ms : List Nat), vs = [nV deed, .ref m] ∧ SqL K H m (nVs ms) ∧ Q (.bl (toldB deed ms.length)) H
theorem told_len (deed : Nat) (h : deed < 19) : toldL[deed]? = some (toldL[deed]?.getD 0) := by
  rw [List.getElem?_eq_getElem (show deed < toldL.length from h)]
  rfl
theorem ok_is_told_so (T : Txt K mg) : FnOk P w K mg base CX0 1 T.is_told_so.a T.is_told_so.fd ["deed", "more"] (sp_is_told_so T) := by
  refine T.is_told_so.F.ok sc_is_told_so (fun vs H Q E h => ?_) (fun cdv A outer s H vs Q E hr h => ⟨_, (pss_one (ps_ret (pe_and (pe_cmpR op_lt (pv 0) (pe_callB call_len_seq (by rfl) (T.nb "len" (by decide)) (by decide +kernel) (pa_cons (pe_glob (by rfl) T.TOLD.g T.TOLD.r) pa_nil)) (nomark _)) (pe_one (pe_cmpR op_eq (pe_callB call_len_seq (by rfl) (T.nb "len" (by decide)) (by decide +kernel) (pa_cons (pv 1) pa_nil)) (pe_ix ix_tup (pe_glob (by rfl) T.TOLD.g T.TOLD.r) (pv 0) (fun _ _ => rfl)) (nomark _)))))), ?_⟩)
  · obtain ⟨deed, m, ms, rfl, _⟩ := h
    rfl
  · obtain ⟨deed, m, ms, rfl, hm, k⟩ := h
    have tt : ∀ n : Nat, (([0, 1, 1, 4, 1, 5, 6, 1, 1, 1, 2, 1, 3, 2, 0, 0, 0, 0, 1] : List Int).map V.int)[n]? = (toldL[n]?).map nV := fun n => by
      rw [show (([0, 1, 1, 4, 1, 5, 6, 1, 1, 1, 2, 1, 3, 2, 0, 0, 0, 0, 1] : List Int).map V.int) = toldL.map nV from rfl, List.getElem?_map]
    refine ⟨_, rfl, T.TOLD.a, _, rfl, .inr (T.TOLD.t H), _, _, rfl, rfl, decide (deed < 19), congrArg V.bl (decide_eq_decide.mpr (by show (deed : Int) < 19 ↔ _; omega)), ?_⟩
    by_cases c : deed < 19
    · refine ifT (decide_eq_true c) ⟨_, rfl, m, _, rfl, .inl hm, _, rfl, T.TOLD.a, _, _, _, rfl, rfl, T.TOLD.t H, atI_nat ((tt deed).trans (by rw [told_len deed c]; rfl)), rfl, ?_⟩
      have e : decide (V.int ((nVs ms).length : Nat) = nV (toldL[deed]?.getD 0)) = toldB deed ms.length := by
        unfold toldB
        obtain ⟨n, hn⟩ : ∃ n, toldL[deed]? = some n := ⟨_, told_len deed c⟩
        rw [hn, nVs_len]
        show decide (V.int (ms.length : Nat) = V.int (n : Nat)) = decide (some n = some ms.length)
        exact decide_eq_decide.mpr ⟨fun z => by injection z with z; congr 1; omega, fun z => by rw [Option.some.inj z]⟩
      show Q (.bl (decide (V.int ((nVs ms).length : Nat) = nV (toldL[deed]?.getD 0)))) H
      rw [e]
      exact k
    · refine ifF (decide_eq_false c) ?_
      have e : toldB deed ms.length = false := by
        unfold toldB
        rw [List.getElem?_eq_none (show toldL.length ≤ deed from Nat.le_of_not_lt c)]
        rfl
      rw [← e]
      exact k
end
end LP
end
section
set_option maxHeartbeats 4100000
namespace LP
open PySem PySem.Spec PyProof.Rows L2 Evl LamX NdefX
open Sq50 (State Layer Dot Clip)
section
variable {P : Program} {w : World} {K : PySem.W.Frag} {mg : Str → Option Value} {base : Heap}
abbrev XA (P : Program) (w : World) (base : Heap) (T : Txt K mg) (cdv : Value) (A : Around) (outer : List Env) (s : Shared) (H : Hp) (E : XK) : Cx := cxOf (L2.CX P w) P w K mg base N_picture_after "picture_after" (defScope s_picture_after) T.picture_after.a cdv A outer s H E
theorem after_run (T : Txt K mg) {cdv : Value} {A : Around} {outer : List Env} {s0 : Shared} {H : Hp} {E : XK} (hr : Room 10 (A.deeper (envOfC "picture_after" (defScope s_picture_after) s0.heap.objs.size T.picture_after.a cdv)))
    {CX' : CXT} {E' : XK} {k : Nat} {f : Addr} {fd : FuncData} {sp : Sp} (F : FnOk P w K mg base CX' k f fd ["picture", "more"] sp) (hk10 : k ≤ 10) (hkp : PySem.W.keepIn K (.ref f) = true) (hb : Binds K fd ["picture", "more"] []) (hx : Passes CX' (XA P w base T cdv A outer s0 H E) E')
    {pa q m : Addr} {deed : Nat} {Q : VK} (hne : deed ≠ 15) (hv : valV (deedsK T) (.inl (deed : Int)) = some (.ref f)) (hsp : ∀ H1, Ex H H1 → sp [.ref pa, .ref m] H1 Q E') :
    ∃ t, PSs (XA P w base T cdv A outer s0 H E) (defBody s_picture_after) t ∧ t { nx := fun _ H' => Q .non H', rt := Q } (L2.start N_picture_after [.ref pa, .ref q, nV deed, .ref m]) H := by
  have rule_doing : ∀ {e : Expr} {es : List Expr} {t : TA} {p pos : Pos}, PA (XA P w base T cdv A outer s0 H E) (e :: es) t → starEach (e :: es) (XA P w base T cdv A outer s0 H E).env = (false, eval e (XA P w base T cdv A outer s0 H E).env) :: starEach es (XA P w base T cdv A outer s0 H E).env → (backTo pos (starEach es (XA P w base T cdv A outer s0 H E).env)).any (·.1) = false →
      PE (XA P w base T cdv A outer s0 H E) (.Call (.Name "doing" p) (e :: es) [] pos) (tCallL 4 f sp [] E' t) := fun {e es t p pos} ha he hpl => pe_callL F (hr.mono hk10) (by rfl) (by first | exact Or.inl rfl | exact Or.inr (Or.inl rfl)) hkp hb .nil hx ha (by decide) (by decide) he hpl
  refine ⟨_, (pss_cons (ps_if (pt_cmpR op_eq (pv 2) (pe_glob (by rfl) T.PASTE.g T.PASTE.r) (nomark _))
  (pss_one (ps_ret (pe_call (ok_paste_layer T) (hr.mono (by decide)) (by rfl) T.paste_layer.g T.paste_layer.F.kp T.paste_layer.b .nil (passes_call (takes_of rfl rfl rfl rfl) (fun _ _ _ _ h => h)) (pa_cons (pv 0) (pa_cons (pv 1) pa_nil)))))
  pss_nil)
  (pss_cons (ps_set (i := 4) sc_picture_after.nd rfl (by first | exact Or.inl rfl | exact Or.inr rfl) (pe_dget (hu_of hr) (pe_call0 (ok_deeds_on_picture T) (hr.mono (by decide)) (by rfl) T.deeds_on_picture.g T.deeds_on_picture.F.kp T.deeds_on_picture.b .nil pass0) (pv 2) (fun _ _ => rfl)))
  (pss_one (ps_ret (rule_doing (pa_cons (pv 0) (pa_cons (pv 3) pa_nil)) rfl rfl))))), ?_⟩
  refine s_if (pt_neq (k := 15) pu_v) (fun e => absurd (of_decide_eq_true e) hne) fun e => ?_
  refine ⟨rfl, fun d H1 nd e1 h1 => ?_⟩
  refine ⟨_, rfl, d, .ref f, rfl, .inl ⟨deedsK T, .inl (deed : Int), .inl h1, rfl, hv.symm⟩, ?_⟩
  exact ⟨rfl, paC pu_v (paC pu_v pa0) _ (hsp H1 e1)⟩
theorem paste_run (T : Txt K mg) {cdv : Value} {A : Around} {outer : List Env} {s0 : Shared} {H : Hp} {E : XK} (hr : Room 10 (A.deeper (envOfC "picture_after" (defScope s_picture_after) s0.heap.objs.size T.picture_after.a cdv)))
    {pa q m : Addr} {Q : VK} (hsp : ∀ H1, Ex H H1 → sp_paste_layer T [.ref pa, .ref q] H1 Q E) :
    ∃ t, PSs (XA P w base T cdv A outer s0 H E) (defBody s_picture_after) t ∧ t { nx := fun _ H' => Q .non H', rt := Q } (L2.start N_picture_after [.ref pa, .ref q, nV 15, .ref m]) H := by
  have rule_doing : ∀ {e : Expr} {es : List Expr} {t : TA} {p pos : Pos}, PA (XA P w base T cdv A outer s0 H E) (e :: es) t → starEach (e :: es) (XA P w base T cdv A outer s0 H E).env = (false, eval e (XA P w base T cdv A outer s0 H E).env) :: starEach es (XA P w base T cdv A outer s0 H E).env → (backTo pos (starEach es (XA P w base T cdv A outer s0 H E).env)).any (·.1) = false →
      PE (XA P w base T cdv A outer s0 H E) (.Call (.Name "doing" p) (e :: es) [] pos) (tCallL 4 T.cut.a (sp_cut T) [] E0 t) := fun {e es t p pos} ha he hpl => pe_callL (ok_cut T) (hr.mono (by decide)) (by rfl) (by first | exact Or.inl rfl | exact Or.inr (Or.inl rfl)) T.cut.F.kp T.cut.b .nil pass0 ha (by decide) (by decide) he hpl
  refine ⟨_, (pss_cons (ps_if (pt_cmpR op_eq (pv 2) (pe_glob (by rfl) T.PASTE.g T.PASTE.r) (nomark _))
  (pss_one (ps_ret (pe_call (ok_paste_layer T) (hr.mono (by decide)) (by rfl) T.paste_layer.g T.paste_layer.F.kp T.paste_layer.b .nil (passes_call (takes_of rfl rfl rfl rfl) (fun _ _ _ _ h => h)) (pa_cons (pv 0) (pa_cons (pv 1) pa_nil)))))
  pss_nil)
  (pss_cons (ps_set (i := 4) sc_picture_after.nd rfl (by first | exact Or.inl rfl | exact Or.inr rfl) (pe_dget (hu_of hr) (pe_call0 (ok_deeds_on_picture T) (hr.mono (by decide)) (by rfl) T.deeds_on_picture.g T.deeds_on_picture.F.kp T.deeds_on_picture.b .nil pass0) (pv 2) (fun _ _ => rfl)))
  (pss_one (ps_ret (rule_doing (pa_cons (pv 0) (pa_cons (pv 3) pa_nil)) rfl rfl))))), ?_⟩
  refine s_if (b := true) (pt_is (pt_neq (k := 15) pu_v) rfl) (fun e => ?_) fun e => nomatch e
  refine c_call (paC pu_v (paC pu_v pa0)) ?_
  exact hsp H (Ex.refl H)
theorem dresP {T : Txt K mg} {Pt : Addr} {Z : Addr → Prop} {H H1 : Hp} {Q : VK} {E : XK} {r : Except Int State} (d : DresP T Pt Z H Q E r) (t : TabS H Pt qLam) (e : Ex H H1) : Dres T Z H1 Q E r := by
  cases r with
  | error x => exact fun d' H' e' h' => d d' H' (e.trans e') h'
  | ok s => exact fun p H' e' h' => d p H' (fun a o _ h => e' a o (e a o h)) (t.ext fun b o h => e' b o (e b o h)) h'
theorem dresP2 {T : Txt K mg} {Pt : Addr} {Z : Addr → Prop} {H H1 : Hp} {Q : VK} {E : XK} {r : Except Int State} (d : DresP T Pt Z H Q E r) (e : Ex H H1) : DresP T Pt Z H1 Q E r := by
  cases r with
  | error x => exact fun d' H' e' h' => d d' H' (e.trans e') h'
  | ok s => exact fun p H' e' t' h' => d p H' (fun a o n h => e' a o n (e a o h)) t' h'
/-- picture_after(picture, aside, deed, more) -/
def sp_picture_after (T : Txt K mg) (Pt : Addr) : Sp := fun vs H Q E => ∃ (pa q m : Addr) (Z : Addr → Prop) (s : State) (k : Option Clip) (as : List (Nat × Nat × Dot)) (deed : Nat) (ms : List Nat) (a : Sq50.Act), vs = [.ref pa, .ref q, nV deed, .ref m] ∧ Pic T Z H pa s ∧ WF s ∧ Free Z H ∧ AsideAt Z H q as ∧ ClipR k as ∧ H m = some (.lst (nVs ms)) ∧
  Sq50.actOf deed ms = some a ∧ (∀ x ∈ ms, x < 2 ^ 64) ∧ TabS H Pt qLam ∧ ¬ Z Pt ∧ DresP T Pt Z H Q E (s.does k a)
theorem ok_picture_after (T : Txt K mg) {c Pt : Addr} (R : RankT T base c Pt) : FnOk P w K mg base (L2.CX P w) 11 T.picture_after.a T.picture_after.fd ["picture", "aside", "deed", "more"] (sp_picture_after T Pt) := by
  refine T.picture_after.F.okX sc_picture_after (fun vs H Q E h => ?_) (fun cdv A outer s0 H vs Q E hr h => ?_)
  · obtain ⟨pa, q, m, Z, s, k, as, deed, ms, a, rfl, _⟩ := h
    rfl
  · obtain ⟨pa, q, m, Z, s, k, as, deed, ms, a, rfl, hp, W, hF, hq, hc, hm, ha, hms, hT, nZ, kk⟩ := h
    have ps : Passes (L2.CX P w) (XA P w base T cdv A outer s0 H E) E := passes_call (takes_of rfl rfl rfl rfl) (fun _ _ _ _ h => h)
    have go : ∀ {f : State → List Nat → Except Int State} {n : Nat}, ms.length = n → s.does k a = f s ms → ∀ H1, Ex H H1 → spDeed T n f [.ref pa, .ref m] H1 Q E := fun hn hf H1 e1 => ⟨pa, m, Z, s, ms, rfl, hp.keep (e1.keep Z), W, hF.ex e1, e1 _ _ hm, hn, by rw [← hf]; exact dresP kk hT e1⟩
    unfold Sq50.actOf at ha
    split at ha
    · cases ha
      exact after_run T hr (ok_make_layer T) (by decide) T.make_layer.F.kp T.make_layer.b ps (by decide) rfl fun H1 e1 => ⟨pa, _, Z, s, rfl, hp.keep (e1.keep Z), W, hF.ex e1, by rw [← does_layer k]; exact dresP kk hT e1⟩
    · cases ha
      exact after_run T hr (ok_drop_layer T) (by decide) T.drop_layer.F.kp T.drop_layer.b ps (by decide) rfl (go rfl (does_drop W k _))
    · cases ha
      exact after_run T hr (ok_raise_layer T) (by decide) T.raise_layer.F.kp T.raise_layer.b ps (by decide) rfl (go rfl (does_raise W k _))
    · cases ha
      exact after_run T hr (ok_set_layer T) (by decide) T.set_layer.F.kp T.set_layer.b ps (by decide) rfl (go rfl (does_how W k _ _ _ _))
    · cases ha
      exact after_run T hr (ok_work_on_layer T) (by decide) T.work_on_layer.F.kp T.work_on_layer.b ps (by decide) rfl (go rfl (does_work k _))
    · cases ha
      exact after_run T hr (ok_choose_rectangle T) (by decide) T.choose_rectangle.F.kp T.choose_rectangle.b ps (by decide) rfl (go rfl (does_rect W k _ _ _ _ _))
    · cases ha
      obtain ⟨f1, f2⟩ := does_flood W k _ _ _ _ _ _
      refine after_run T hr (ok_choose_flood T) (by decide) T.choose_flood.F.kp T.choose_flood.b ps (by decide) rfl fun H1 e1 => ⟨pa, m, Z, s, _, _, _, _, _, _, rfl, hp.keep (e1.keep Z), W, hF.ex e1, e1 _ _ hm, fun hb => ?_, fun hb rs fl => ?_⟩
      · rw [f1 hb] at kk
        exact fun d' H' e' h' => kk d' H' (e1.trans e') h'
      · obtain ⟨g1, g2⟩ := f2 hb rs fl
        rw [g2] at kk
        exact ⟨g1, dresP (r := .ok _) kk hT e1⟩
    · cases ha
      exact after_run T hr (ok_choose_all T) (by decide) T.choose_all.F.kp T.choose_all.b ps (by decide) rfl (go rfl (does_all W k _))
    · cases ha
      exact after_run T hr (ok_grow_choice T) (by decide) T.grow_choice.F.kp T.grow_choice.b ps (by decide) rfl (go rfl (does_grow W k _))
    · cases ha
      exact after_run T hr (ok_shrink_choice T) (by decide) T.shrink_choice.F.kp T.shrink_choice.b ps (by decide) rfl (go rfl (does_shrink W k _))
    · cases ha
      exact after_run T hr (ok_fill T) (by decide) T.fill.F.kp T.fill.b ps (by decide) rfl (go rfl (does_fill W k _ _))
    · cases ha
      exact after_run T hr (ok_smooth T) (by decide) T.smooth.F.kp T.smooth.b ps (by decide) rfl (go rfl (does_mean W k _))
    · cases ha
      exact after_run T hr (ok_rank T R) (by decide) T.rank.F.kp T.rank.b ps (by decide) rfl fun H1 e1 => ⟨pa, m, Z, s, _, rfl, hp.keep (e1.keep Z), W, hF.ex e1, e1 _ _ hm, rfl, hms, hT.ext e1, nZ, by rw [← does_rank W k]; exact dresP2 kk e1⟩
    · cases ha
      exact after_run T hr (ok_move T) (by decide) T.move.F.kp T.move.b ps (by decide) rfl (go rfl (does_move W k _ _))
    · cases ha
      rw [does_cut W] at kk
      exact after_run T hr (ok_cut T) (by decide) T.cut.F.kp T.cut.b pass0 (by decide) rfl fun H1 e1 => ⟨pa, _, Z, s, rfl, hp.keep (e1.keep Z), W, hF.ex e1, dresP (r := .ok _) kk hT e1⟩
    · cases ha
      exact paste_run T hr fun H1 e1 => ⟨pa, q, Z, s, as, rfl, hp.keep (e1.keep Z), W, hF.ex e1, hq.keep (e1.keep Z), by rw [← does_paste W hc]; exact dresP kk hT e1⟩
    · cases ha
      exact after_run T hr (ok_put_together T) (by decide) T.put_together.F.kp T.put_together.b ps (by decide) rfl fun H1 e1 => ⟨pa, _, Z, s, rfl, hp.keep (e1.keep Z), W, hF.ex e1, by rw [← does_merge W k]; exact dresP kk hT e1⟩
    · cases ha
      exact after_run T hr (ok_crop T) (by decide) T.crop.F.kp T.crop.b ps (by decide) rfl fun H1 e1 => ⟨pa, _, Z, s, rfl, hp.keep (e1.keep Z), W, hF.ex e1, by rw [← does_crop W k]; exact dresP kk hT e1⟩
    · cases ha
      exact after_run T hr (ok_turn T) (by decide) T.turn.F.kp T.turn.b ps (by decide) rfl (go rfl (does_turn k _))
    · cases ha
end
end LP
end
section
set_option maxHeartbeats 4100000
namespace LP
open PySem PySem.Spec PyProof.Rows L2 Evl LamX NdefX
open Sq50 (State Layer Dot Clip House)
/-! what a desk may change: M, beside it Z that stays as it is; both grow apart -/
structure Stp (Pt : Addr) (Z M : Addr → Prop) (H : Hp) (Z' M' : Addr → Prop) (H' : Hp) : Prop where
  keep : ∀ x o, ¬ M x → H x = some o → H' x = some o
  new : ∀ x, M' x → M x ∨ H x = none
  old : ∀ x, M x → M' x
  sub : ∀ x, Z x → H x ≠ none → Z' x
  le : ∀ x, Z' x → Z x
  back : ∀ x, H' x = none → H x = none
  free : Free Z H → Free Z' H'
  tab : TabS H Pt qLam → TabS H' Pt qLam
  apart : (∀ x, M x → ¬ Z x) → ∀ x, M' x → ¬ Z' x
section
variable {Pt : Addr} {Z Z' Z'' M M' M'' : Addr → Prop} {H H' H'' : Hp}
theorem Stp.refl : Stp Pt Z M H Z M H := ⟨fun _ _ _ h => h, fun _ h => .inl h, fun _ h => h, fun _ h _ => h, fun _ h => h, fun _ h => h, id, id, id⟩
theorem Stp.trans (a : Stp Pt Z M H Z' M' H') (b : Stp Pt Z' M' H' Z'' M'' H'') : Stp Pt Z M H Z'' M'' H'' where
  keep x o n h := by
    refine b.keep x o (fun m => ?_) (a.keep x o n h)
    rcases a.new x m with z | z
    · exact n z
    · rw [z] at h; cases h
  new x m := by
    rcases b.new x m with z | z
    · exact a.new x z
    · exact .inr (a.back x z)
  old x m := b.old x (a.old x m)
  sub x z n := b.sub x (a.sub x z n) fun q => n (a.back x q)
  le x z := a.le x (b.le x z)
  back x h := a.back x (b.back x h)
  free f := b.free (a.free f)
  tab t := b.tab (a.tab t)
  apart p := b.apart (a.apart p)
theorem Stp.ex (e : Ex H H') : Stp Pt Z M H Z M H' := ⟨fun x o _ h => e x o h, fun _ h => .inl h, fun _ h => h, fun _ h _ => h, fun _ h => h, fun _ h => e.back h, fun f => f.ex e, fun t => t.ext e, id⟩
/-- a list or an instance of M is written -/
def Soft : HO → Prop
  | .lst _ => True
  | .ins _ _ _ => True
  | _ => False
theorem soft_code {o : HO} {c : Addr} {q : Str} (h : Soft o) : o ≠ CodeO c q := fun z => by rw [z] at h; exact h
theorem tab_upd {x : Addr} {o o' : HO} {q : Str} (t : TabS H Pt q) (h : H x = some o) (s : Soft o) : TabS (upd H x o') Pt q := by
  obtain ⟨ps, h1, h2, h3⟩ := t
  have np : Pt ≠ x := fun z => by rw [z, h] at h1; cases h1; exact s
  refine ⟨ps, (upd_ne np).trans h1, h2, fun pos cv hc => ?_⟩
  obtain ⟨c, e, hcc⟩ := h3 pos cv hc
  exact ⟨c, e, (upd_ne (fun z => soft_code s (by rw [z, h] at hcc; exact Option.some.inj hcc))).trans hcc⟩
theorem Stp.upd {x : Addr} {o o' : HO} (m : M x) (h : H x = some o) (s : Soft o) : Stp Pt Z M H Z M (L2.upd H x o') where
  keep y u n hy := (upd_ne (fun z : y = x => n (z ▸ m))).trans hy
  new _ h := .inl h
  old _ h := h
  sub _ h _ := h
  le _ h := h
  back y hy := none_upd hy
  free f y hy := f y (none_upd hy)
  tab t := tab_upd t h s
  apart p := p
/-- a new thing at p, of M from now on -/
theorem Stp.made {p : Addr} (n : H p = none) (e : Ex H H') (hp : H' p ≠ none) : Stp Pt Z M H (But Z p) (fun x => M x ∨ x = p) H' where
  keep x o _ h := e x o h
  new x h := h.elim .inl fun z => .inr (z ▸ n)
  old _ h := .inl h
  sub x z h := ⟨z, fun q => h (q ▸ n)⟩
  le _ h := h.1
  back _ h := e.back h
  free f x h := ⟨f x (e.back h), fun q => hp (q ▸ h)⟩
  tab t := t.ext e
  apart p x h z := h.elim (fun m => p x m z.1) fun q => z.2 q
/-- the table at Pt alone has changed -/
theorem Stp.exp (m : M Pt) (e : ExP Pt H H') (t : TabS H' Pt qLam) : Stp Pt Z M H Z M H' := by
  have bk : ∀ x, H' x = none → H x = none := fun x h => by
    cases q : H x with
    | none => rfl
    | some o =>
      by_cases c : x = Pt
      · obtain ⟨ps, h1, _⟩ := t
        rw [c, h1] at h; cases h
      · rw [e x o c q] at h; cases h
  exact ⟨fun x o n h => e x o (fun z => n (z ▸ m)) h, fun _ h => .inl h, fun _ h => h, fun _ h _ => h, fun _ h => h, bk, fun f x h => f x (bk x h), fun _ => t, id⟩
theorem Stp.keepZ (st : Stp Pt Z M H Z' M' H') (ap : ∀ x, M x → ¬ Z x) : Keep Z' H H' := fun x o z h => st.keep x o (fun m => ap x m (st.le x z)) h
theorem Stp.at_ (st : Stp Pt Z M H Z' M' H') (ap : ∀ x, M x → ¬ Z x) {a : Addr} {o : HO} (h : At Z H a o) : At Z' H' a o := (h.imp st.sub).keep (st.keepZ ap)
end
/-! entries of the history, deeds recorded -/
section
variable {K : PySem.W.Frag} {mg : Str → Option Value}
def EntAt (T : Txt K mg) (Z : Addr → Prop) (H : Hp) (v : V) (x : State × Nat) : Prop := ∃ t p, v = .ref t ∧ At Z H t (.tup [.ref p, nV x.2]) ∧ Pic T Z H p x.1
def RecAt (Z : Addr → Prop) (H : Hp) (v : V) (a : Sq50.Act) : Prop := ∃ (t m : Addr) (deed : Nat) (ms : List Nat), v = .ref t ∧ At Z H t (.tup [nV deed, .ref m]) ∧ NatsAt Z H m ms ∧ Sq50.actOf deed ms = some a ∧ ∀ x ∈ ms, x < 2 ^ 64
def hisF (b : Nat) (k : Addr) (sp : Nat) (u : Addr) : List (Str × V) := [("budget", nV b), ("kept", .ref k), ("spent", nV sp), ("undone", .ref u)]
def deskF (p h q : Addr) (rec : Bool) (rc : Addr) : List (Str × V) := [("picture", .ref p), ("history", .ref h), ("aside", .ref q), ("recording", .bl rec), ("recorded", .ref rc)]
def costs (l : List (State × Nat)) : Nat := (l.map (·.2)).sum
def HisAt (T : Txt K mg) (Z M : Addr → Prop) (H : Hp) (a : Addr) (b : Nat) (pa fu : List (State × Nat)) : Prop := ∃ dx k u ks us, H a = some (.ins T.History.a dx (hisF b k (costs pa) u)) ∧ H k = some (.lst ks) ∧ H u = some (.lst us) ∧
  Paired (EntAt T Z H) ks pa.reverse ∧ Paired (EntAt T Z H) us fu.reverse ∧ M a ∧ M k ∧ M u ∧ k ≠ u
structure Ground (Pt : Addr) (Z M : Addr → Prop) (H : Hp) : Prop where
  free : Free Z H
  apart : ∀ x, M x → ¬ Z x
  has : ∀ x, M x → H x ≠ none
  tab : TabS H Pt qLam
  mp : M Pt
def DeskAt (T : Txt K mg) (Pt : Addr) (Z M : Addr → Prop) (H : Hp) (d rc : Addr) (g : House) : Prop := ∃ dd p ha q as rs, H d = some (.ins T.Desk.a dd (deskF p ha q g.recording rc)) ∧ Pic T Z H p g.now ∧ HisAt T Z M H ha g.budget g.past g.future ∧ AsideAt Z H q as ∧ ClipR g.clip as ∧
  H rc = some (.lst rs) ∧ Paired (RecAt Z H) rs g.kept ∧ M d ∧ d ≠ ha ∧ ¬ M rc ∧ ¬ Z rc ∧ Ground Pt Z M H
variable {T : Txt K mg} {Pt : Addr} {Z Z' M M' : Addr → Prop} {H H' : Hp} {a d rc : Addr} {v : V}
theorem EntAt.imp {x : State × Nat} (k : ∀ b, Z b → H b ≠ none → Z' b) (h : EntAt T Z H v x) : EntAt T Z' H v x := by obtain ⟨t, p, e, x, y⟩ := h; exact ⟨t, p, e, x.imp k, y.imp k⟩
theorem EntAt.keep {x : State × Nat} (k : Keep Z H H') (h : EntAt T Z H v x) : EntAt T Z H' v x := by obtain ⟨t, p, e, x, y⟩ := h; exact ⟨t, p, e, x.keep k, y.keep k⟩
theorem RecAt.imp {x : Sq50.Act} (k : ∀ b, Z b → H b ≠ none → Z' b) (h : RecAt Z H v x) : RecAt Z' H v x := by obtain ⟨t, m, dd, ms, e, x, y, z⟩ := h; exact ⟨t, m, dd, ms, e, x.imp k, y.imp k, z⟩
theorem RecAt.keep {x : Sq50.Act} (k : Keep Z H H') (h : RecAt Z H v x) : RecAt Z H' v x := by obtain ⟨t, m, dd, ms, e, x, y, z⟩ := h; exact ⟨t, m, dd, ms, e, x.keep k, y.keep k, z⟩
theorem EntAt.stp {x : State × Nat} (st : Stp Pt Z M H Z' M' H') (ap : ∀ x, M x → ¬ Z x) (h : EntAt T Z H v x) : EntAt T Z' H' v x := (h.imp st.sub).keep (st.keepZ ap)
theorem RecAt.stp {x : Sq50.Act} (st : Stp Pt Z M H Z' M' H') (ap : ∀ x, M x → ¬ Z x) (h : RecAt Z H v x) : RecAt Z' H' v x := (h.imp st.sub).keep (st.keepZ ap)
theorem pic_stp {s : State} (st : Stp Pt Z M H Z' M' H') (ap : ∀ x, M x → ¬ Z x) (h : Pic T Z H a s) : Pic T Z' H' a s := (h.imp st.sub).keep (st.keepZ ap)
theorem Ground.stp (g : Ground Pt Z M H) (st : Stp Pt Z M H Z' M' H') (has : ∀ x, M' x → H' x ≠ none) : Ground Pt Z' M' H' := ⟨st.free g.free, st.apart g.apart, has, st.tab g.tab, st.old _ g.mp⟩
/-- nothing of it goes -/
theorem Ground.ex (g : Ground Pt Z M H) (e : Ex H H') : Ground Pt Z M H' := g.stp (Stp.ex e) fun x m h => g.has x m (e.back h)
theorem Ground.upd (g : Ground Pt Z M H) {x : Addr} {o o' : HO} (m : M x) (h : H x = some o) (s : Soft o) : Ground Pt Z M (L2.upd H x o') := g.stp (Stp.upd m h s) fun y my hy => g.has y my (none_upd hy)
theorem Ground.made (g : Ground Pt Z M H) {p : Addr} (n : H p = none) (e : Ex H H') (hp : H' p ≠ none) : Ground Pt (But Z p) (fun x => M x ∨ x = p) H' := g.stp (Stp.made n e hp) fun x m hx => m.elim (fun z => g.has x z (e.back hx)) fun z => hp (z ▸ hx)
theorem Ground.exp (g : Ground Pt Z M H) (e : ExP Pt H H') (t : TabS H' Pt qLam) : Ground Pt Z M H' := g.stp (Stp.exp g.mp e t) fun x m hx => g.has x m ((Stp.exp (Z := Z) g.mp e t).back x hx)
end
end LP
end
section
set_option maxHeartbeats 4100000
namespace LP
open PySem PySem.Spec PyProof.Rows L2 Evl LamX NdefX
open Sq50 (State Layer Dot Clip House)
/-! as many of the latest as there's room for -/
theorem room_take : ∀ (l : List (State × Nat)) (b m : Nat), m ≤ l.length → costs (l.take m) ≤ b → (m < l.length → b < costs (l.take (m + 1))) → Sq50.room b l = l.take m
  | [], b, m, _, _, _ => by simp [Sq50.room]
  | x :: l, b, 0, _, _, h2 => by
    have := h2 (Nat.succ_pos _)
    have e : costs ((x :: l).take (0 + 1)) = x.2 := by simp [costs]
    rw [e] at this
    show (if b < x.2 then [] else x :: Sq50.room (b - x.2) l) = []
    rw [if_pos this]
  | x :: l, b, m + 1, hm, h1, h2 => by
    have e : ∀ n, costs ((x :: l).take (n + 1)) = x.2 + costs (l.take n) := fun n => by simp [costs]
    rw [e] at h1
    show (if b < x.2 then [] else x :: Sq50.room (b - x.2) l) = x :: l.take m
    rw [if_neg (by omega), room_take l (b - x.2) m (by simpa using hm) (by omega) fun hl => ?_]
    have := h2 (by simpa using hl)
    rw [e] at this
    omega
theorem costs_app (a b : List (State × Nat)) : costs (a ++ b) = costs a + costs b := by unfold costs; rw [List.map_append, List.sum_append]
theorem costs_rev (a : List (State × Nat)) : costs a.reverse = costs a := by unfold costs; rw [List.map_reverse, List.sum_reverse]
theorem costs_drop {l : List (State × Nat)} {i : Nat} {x : State × Nat} (h : l[i]? = some x) : costs (l.drop i) = x.2 + costs (l.drop (i + 1)) := by
  obtain ⟨hi, rfl⟩ := List.getElem?_eq_some_iff.mp h
  rw [List.drop_eq_getElem_cons hi]
  unfold costs
  rw [List.map_cons, List.sum_cons]  -- own
/-- the oldest go first until the budget is met -/
theorem room_drop {l : List (State × Nat)} {b f : Nat} (hf : f ≤ l.length) (h1 : costs (l.reverse.drop f) ≤ b) (h2 : 0 < f → b < costs (l.reverse.drop (f - 1))) : (Sq50.room b l).reverse = l.reverse.drop f := by
  have e : ∀ n, n ≤ l.length → costs (l.take n) = costs (l.reverse.drop (l.length - n)) := fun n hn => by rw [← costs_rev, List.reverse_take]
  rw [room_take l b (l.length - f) (by omega) (by rw [e _ (by omega)]; have : l.length - (l.length - f) = f := by omega
                                                  rw [this]; exact h1) fun hl => ?_]
  · rw [List.reverse_take]
    congr 1
    omega
  · rw [e _ (by omega)]
    have : l.length - (l.length - f + 1) = f - 1 := by omega
    rw [this]
    exact h2 (by omega)
section
variable {P : Program} {w : World} {K : PySem.W.Frag} {mg : Str → Option Value} {base : Heap}
theorem hf_budget (b : Nat) (k : Addr) (sp : Nat) (u : Addr) : (hisF b k sp u).lookup ("budget" : Str) = some (nV b) := lkH
theorem hf_kept (b : Nat) (k : Addr) (sp : Nat) (u : Addr) : (hisF b k sp u).lookup ("kept" : Str) = some (.ref k) := (lkP (by decide +kernel)).trans lkH
theorem hf_spent (b : Nat) (k : Addr) (sp : Nat) (u : Addr) : (hisF b k sp u).lookup ("spent" : Str) = some (nV sp) := (lkP (by decide +kernel)).trans ((lkP (by decide +kernel)).trans lkH)
theorem hf_undone (b : Nat) (k : Addr) (sp : Nat) (u : Addr) : (hisF b k sp u).lookup ("undone" : Str) = some (.ref u) := (lkP (by decide +kernel)).trans ((lkP (by decide +kernel)).trans ((lkP (by decide +kernel)).trans lkH))
theorem hf_few (b : Nat) (k : Addr) (sp : Nat) (u : Addr) : (hisF b k sp u).length < 1000 := by show 4 < 1000; decide
theorem lk_none {f : Str} : ∀ {l : List (Str × V)}, (l.all fun g => !(f == g.1)) = true → l.lookup f = none
  | [], _ => rfl
  | (g, v) :: l, h => by
    rw [List.all_cons, Bool.and_eq_true] at h  -- own
    exact (lkP (by simpa using h.1)).trans (lk_none h.2)
theorem hf_m {f : Str} (b : Nat) (k : Addr) (sp : Nat) (u : Addr) (h : (((["budget", "kept", "spent", "undone"] : List Str)).all fun g => !(f == g)) = true) : (hisF b k sp u).lookup f = none := lk_none h
theorem putS {f : Str} {v x : V} {r : List (Str × V)} : putF f v ((f, x) :: r) = (f, v) :: r := if_pos rfl
theorem his_kept (b : Nat) (k : Addr) (sp : Nat) (u k' : Addr) : putF "kept" (.ref k') (hisF b k sp u) = hisF b k' sp u := by
  unfold hisF
  rw [putN (by decide +kernel), putS]
theorem his_spent (b : Nat) (k : Addr) (sp sp' : Nat) (u : Addr) : putF "spent" (nV sp') (hisF b k sp u) = hisF b k sp' u := by
  unfold hisF
  rw [putN (by decide +kernel), putN (by decide +kernel), putS]
theorem his_undone (b : Nat) (k : Addr) (sp : Nat) (u u' : Addr) : putF "undone" (.ref u') (hisF b k sp u) = hisF b k sp u' := by
  unfold hisF
  rw [putN (by decide +kernel), putN (by decide +kernel), putN (by decide +kernel), putS]
theorem his_new (b : Nat) (k u : Addr) : putF "undone" (.ref u) (putF "spent" (nV 0) (putF "kept" (.ref k) (putF "budget" (nV b) []))) = hisF b k 0 u := by
  repeat (first | rw [putE] | rw [putN (by decide +kernel)])
  rfl
/-- History.__init__(self, budget) -/
def sp_History_init (T : Txt K mg) : Sp := fun vs H Q _ => ∃ (p dx : Addr) (b : Nat), vs = [.ref p, nV b] ∧ H p = some (.ins T.History.a dx []) ∧ ∀ k u H', H k = none → H u = none → k ≠ u → (∀ x o, x ≠ p → H x = some o → H' x = some o) → (∀ x, H' x = none → H x = none) →
  H' p = some (.ins T.History.a dx (hisF b k 0 u)) → H' k = some (.lst []) → H' u = some (.lst []) → Q .non H'
theorem ok_History_init (T : Txt K mg) : FnOk P w K mg base CX0 1 T.History.i T.History.fd ["self", "budget"] (sp_History_init T) := by
  refine T.History.F.ok sc_History_init (fun vs H Q E h => ?_) (fun cdv A outer s H vs Q E hr h => ⟨_, (pss_cons (ps_fld (pv 0) (pv 1) rfl)
  (pss_cons (ps_fld (pv 0) (pe_lst pa_nil) rfl)
  (pss_cons (ps_fld (pv 0) pe_int rfl)
  (pss_one (ps_fld (pv 0) (pe_lst pa_nil) rfl))))), ?_⟩)
  · obtain ⟨p, dx, b, rfl, _⟩ := h
    rfl
  · obtain ⟨p, dx, b, rfl, hp, q⟩ := h
    have c := T.History.cl
    refine ⟨_, rfl, _, rfl, p, _, dx, _, rfl, hp, c, T.History.no _ (by decide), by decide, ?_⟩
    refine ⟨Nat.zero_le _, fun k nk => ?_⟩
    have npk : p ≠ k := ne_of_none upd_same nk
    refine ⟨_, rfl, p, _, dx, _, rfl, (upd_ne npk).trans upd_same, c, T.History.no _ (by decide), few (fewS few0), ?_⟩
    refine ⟨_, rfl, p, _, dx, _, rfl, upd_same, c, T.History.no _ (by decide), few (fewS (fewS few0)), ?_⟩
    refine ⟨Nat.zero_le _, fun u nu => ?_⟩
    have npu : p ≠ u := ne_of_none upd_same nu
    have nku : k ≠ u := fun z => by
      rw [← z, upd_ne npk.symm, upd_ne npk.symm, upd_same] at nu
      cases nu
    refine ⟨_, rfl, p, _, dx, _, rfl, (upd_ne npu).trans upd_same, c, T.History.no _ (by decide), few (fewS (fewS (fewS few0))), ?_⟩
    have kH : H k = none := none_upd nk
    have uH : H u = none := none_upd (none_upd (none_upd (none_upd nu)))
    refine q k u _ kH uH nku (fun x o nx hx => ?_) (fun x hx => none_upd (none_upd (none_upd (none_upd (none_upd (none_upd hx)))))) ?_ ?_ ?_
    · rw [upd_ne nx, upd_ne (ne_of_none hx uH), upd_ne nx, upd_ne nx, upd_ne (ne_of_none hx kH), upd_ne nx]
      exact hx
    · rw [upd_same]
      exact congrArg (fun f => some (HO.ins T.History.a dx f)) (his_new b k u)
    · rw [upd_ne npk.symm, upd_ne nku, upd_ne npk.symm, upd_ne npk.symm, upd_same]
    · rw [upd_ne npu.symm, upd_same]
theorem szM {n : Nat} (h : n ≤ 16000000) : n ≤ sizeLine := Nat.le_trans h (by decide)
theorem stM {n : Nat} (h : n < 16000000) : n < sizeLine := Nat.lt_of_lt_of_le h (by decide)
/-- History.keep(self, picture, price) -/
def sp_History_keep (T : Txt K mg) (Pt : Addr) : Sp := fun vs H Q _ => ∃ (a p : Addr) (n : Nat) (Z M : Addr → Prop) (b : Nat) (pa fu : List (State × Nat)) (s : State), vs = [.ref a, .ref p, nV n] ∧ HisAt T Z M H a b pa fu ∧ Ground Pt Z M H ∧ Pic T Z H p s ∧ pa.length ≤ 2000000 ∧
  ∀ Z' M' H', Stp Pt Z M H Z' M' H' → Ground Pt Z' M' H' → HisAt T Z' M' H' a b (Sq50.room b ((s, n) :: pa)) fu → Q .non H'
theorem ok_History_keep (T : Txt K mg) (Pt : Addr) : FnOk P w K mg base CX0 1 T.History_keep.a T.History_keep.fd ["self", "picture", "price"] (sp_History_keep T Pt) := by
  refine T.History_keep.F.ok sc_History_keep (fun vs H Q E h => ?_) (fun cdv A outer s0 H vs Q E hr h => ⟨_, (pss_cons (ps_expr (pe_bm PySem.F.plainAttrs_list PySem.F.slot_list_append PySem.F.type_list_append mt_append (pe_fld (pv 0) rfl) (pa_cons (pe_tup (pa_cons (pv 1) (pa_cons (pv 2) pa_nil))) pa_nil)))
  (pss_cons (ps_fldaug (pv 0) (pv 2) in_add)
  (pss_cons (ps_set (i := 3) sc_History_keep.nd rfl (by first | exact Or.inl rfl | exact Or.inr rfl) pe_int)
  (pss_cons (ps_while PassesOwn.never (pt_cmpR op_gt (pe_fld (pv 0) rfl) (pe_fld (pv 0) rfl) (nomark _))
  (pss_cons (ps_fldaug (pv 0) (pe_ix ix_tup (pe_ix ix_list (pe_fld (pv 0) rfl) (pv 3) (fun _ _ => rfl)) pe_int (fun _ _ => rfl)) in_sub)
    (pss_one (ps_aug (i := 3) sc_History_keep.nd rfl (by first | exact Or.inl rfl | exact Or.inr rfl) pe_int ip_add))))
  (pss_one (ps_fld (pv 0) (pe_slice sl_list (pe_fld (pv 0) rfl) (po_some (pv 3)) po_none) rfl)))))), ?_⟩)
  · obtain ⟨a, p, n, Z, M, b, pa, fu, s, rfl, _⟩ := h
    rfl
  · obtain ⟨a, p, n, Z, M, b, pa, fu, s, rfl, ⟨dx, k, u, ks, us, ha, hk, hu, pk, pu, ma, mk, mu, nku⟩, G, hp, hlen, q⟩ := h
    have c := T.History.cl
    have hkl := Paired.len pk
    rw [List.length_reverse] at hkl
    have nka : k ≠ a := ne_of hk ha (by intro z; cases z)
    have nua : u ≠ a := ne_of hu ha (by intro z; cases z)
    have fld : ∀ (H' : Hp) (σ : L2.St) (f : Str) (v : V) (k' : Addr) (sp : Nat), H' a = some (.ins T.History.a dx (hisF b k' sp u)) → σ[0]? = some (some (.ref a)) → f ∈ (["budget", "kept", "spent", "undone"] : List Str) → (hisF b k' sp u).lookup f = some v → Pu (tFld K (tVar 0) f) σ H' v :=
      fun H' σ f v k' sp e hs hf hv => pu_fld (pu_var hs) e c (T.History.no f hf) hv
    -- self.kept.append((picture, price))
    refine ⟨_, rfl, a, _, dx, _, _, rfl, ha, c, T.History.no _ (by decide), hf_kept _ _ _ _, .inl ⟨rfl, _, SqL.of hk⟩, ?_⟩
    refine ⟨_, rfl, _, rfl, by show 2 ≤ sizeLine; decide, fun t nt => ?_⟩
    have et := Ex.new (o := .tup [.ref p, nV n]) nt
    refine ⟨k, ks, _, rfl, rfl, et _ _ hk, stM (by omega), ?_⟩
    have nak : a ≠ k := nka.symm
    -- self.spent += price
    have h2a : upd (upd H t (.tup [.ref p, nV n])) k (.lst (ks ++ [.ref t])) a = some (.ins T.History.a dx (hisF b k (costs pa) u)) := (upd_ne nak).trans (et _ _ ha)
    refine ⟨_, rfl, a, _, dx, _, _, rfl, h2a, c, T.History.no _ (by decide), hf_spent _ _ _ _, _, rfl, _, _, rfl, rfl, dx, _, h2a, hf_few _ _ _ _, ?_⟩
    have e0 : V.int ((costs pa : Nat) + (n : Nat) : Int) = nV (costs pa + n) := by show V.int _ = V.int _; rw [Int.natCast_add]
    rw [e0, his_spent]
    generalize eH2 : upd (upd H t (.tup [.ref p, nV n])) k (.lst (ks ++ [.ref t])) = H2 at h2a
    have hk2 : H2 k = some (.lst (ks ++ [.ref t])) := by rw [← eH2, upd_same]
    have hu2 : H2 u = some (.lst us) := by rw [← eH2, upd_ne nku.symm]; exact et _ _ hu
    have st2 : Stp Pt Z M H Z M H2 := eH2 ▸ (Stp.ex et).trans (Stp.upd mk (et _ _ hk) trivial)
    have G2 : Ground Pt Z M H2 := eH2 ▸ (G.ex et).upd mk (et _ _ hk) trivial
    have zt : Z t := G.free t nt
    have nkt : t ≠ k := ne_of (H := upd H t (.tup [.ref p, nV n])) upd_same (et _ _ hk) (by intro z; cases z)
    have pk2 : Paired (EntAt T Z H2) (ks ++ [.ref t]) ((s, n) :: pa).reverse := by
      rw [List.reverse_cons]
      refine Paired.snoc (Paired.imp (fun _ _ z => z.stp st2 G.apart) pk) ⟨t, p, rfl, ⟨zt, ?_⟩, pic_stp st2 G.apart hp⟩
      rw [← eH2, upd_ne nkt, upd_same]
    have pu2 : Paired (EntAt T Z H2) us fu.reverse := Paired.imp (fun _ _ z => z.stp st2 G.apart) pu
    generalize eL : ((s, n) :: pa).reverse = L at pk2
    have hL : costs L = costs pa + n := by rw [← eL, costs_rev]; simp [costs]; omega
    have hLl : L.length = ks.length + 1 := by have := Paired.len pk2; rw [← this, List.length_append, List.length_singleton]
    have e1 : nV (costs pa + n) = nV (costs L) := by rw [hL]
    -- first = 0, then the walk
    refine ⟨fun m σ H' => ∃ f : Nat, m = L.length - f ∧ f ≤ L.length ∧ σ = [some (.ref a), some (.ref p), some (nV n), some (nV f)] ∧ H' = upd H2 a (.ins T.History.a dx (hisF b k (costs (L.drop f)) u)) ∧ (0 < f → b < costs (L.drop (f - 1))), ⟨L.length, 0, rfl, Nat.zero_le _, rfl, by rw [List.drop_zero, ← hL], fun z => absurd z (Nat.lt_irrefl _)⟩, ?_⟩
    rintro m σ H' ⟨f, rfl, hf, rfl, rfl, hmin⟩
    have h3a : upd H2 a (.ins T.History.a dx (hisF b k (costs (L.drop f)) u)) a = some (.ins T.History.a dx (hisF b k (costs (L.drop f)) u)) := upd_same
    have h3k : upd H2 a (.ins T.History.a dx (hisF b k (costs (L.drop f)) u)) k = some (.lst (ks ++ [.ref t])) := (upd_ne nka).trans hk2
    refine (pt_ngt (pu_fld pu_v h3a c (T.History.no _ (by decide)) (hf_spent _ _ _ _)) (pu_fld pu_v h3a c (T.History.no _ (by decide)) (hf_budget _ _ _ _))) _ ?_
    by_cases hb : b < costs (L.drop f)
    · refine ifT (decide_eq_true hb) ?_
      have hfl : f < L.length := by
        rcases Nat.lt_or_ge f L.length with z | z
        · exact z
        · rw [List.drop_of_length_le z] at hb
          exact absurd hb (Nat.not_lt_zero _)
      obtain ⟨x, hx⟩ : ∃ x, L[f]? = some x := ⟨_, List.getElem?_eq_getElem hfl⟩
      obtain ⟨v, hv, t1, p1, rfl, ht1, hp1⟩ := Paired.get pk2 hx
      have cd := costs_drop hx
      have nt1 : t1 ≠ a := ne_of ht1.h h2a (by intro z; cases z)
      refine ⟨_, fun σ' H'' h => h, ?_⟩
      refine ⟨_, rfl, a, _, dx, _, _, rfl, h3a, c, T.History.no _ (by decide), hf_spent _ _ _ _, ?_⟩
      refine ⟨_, rfl, a, _, dx, _, _, rfl, h3a, c, T.History.no _ (by decide), hf_kept _ _ _ _, _, rfl, k, _, _, _, rfl, rfl, SqL.of h3k, atI_nat hv, t1, _, _, _, rfl, rfl, SqT.of ((upd_ne nt1).trans ht1.h), rfl, _, _, rfl, rfl, dx, _, h3a, hf_few _ _ _ _, ?_⟩
      have e4 : V.int ((costs (L.drop f) : Nat) - (x.2 : Nat) : Int) = nV (costs (L.drop (f + 1))) := by show V.int _ = V.int _; congr 1; omega
      rw [e4, his_spent, upd_upd]
      refine ⟨_, rfl, _, _, rfl, rfl, L.length - (f + 1), by omega, f + 1, rfl, by omega, ?_, rfl, fun _ => by rw [Nat.add_sub_cancel]; exact hb⟩
      rfl
    · refine ifF (decide_eq_false hb) ?_
      -- self.kept = self.kept[first:]
      generalize eH3 : upd H2 a (.ins T.History.a dx (hisF b k (costs (L.drop f)) u)) = H3 at h3a h3k
      have st3 : Stp Pt Z M H Z M H3 := eH3 ▸ st2.trans (Stp.upd ma h2a trivial)
      have G3 : Ground Pt Z M H3 := eH3 ▸ G2.upd ma h2a trivial
      refine ⟨_, rfl, a, _, dx, _, _, rfl, h3a, c, T.History.no _ (by decide), hf_kept _ _ _ _, po_n pu_v ⟨k, _, rfl, SqL.of h3k, fun k' nk' => ?_⟩⟩
      rw [cut_lo]
      have ek := Ex.new (o := .lst ((ks ++ [V.ref t]).drop f)) nk'
      refine ⟨_, rfl, a, _, dx, _, rfl, ek _ _ h3a, c, T.History.no _ (by decide), hf_few _ _ _ _, ?_⟩
      rw [his_kept]
      have nk'a : a ≠ k' := ne_of_none h3a nk'
      have nuk' : u ≠ k' := ne_of_none (show H3 u = some (.lst us) by rw [← eH3, upd_ne nua]; exact hu2) nk'
      have m4 : (fun x => M x ∨ x = k') a := .inl ma
      have st4 : Stp Pt Z M H3 (But Z k') (fun x => M x ∨ x = k') (upd H3 k' (.lst ((ks ++ [V.ref t]).drop f))) := Stp.made nk' ek (by rw [upd_same]; intro z; cases z)
      have G4 := G3.made nk' ek (by rw [upd_same]; intro z; cases z)
      have st5 := (Stp.upd (Pt := Pt) (Z := But Z k') (M := fun x => M x ∨ x = k') (o' := .ins T.History.a dx (hisF b k' (costs (L.drop f)) u)) m4 (ek _ _ h3a) trivial)
      have G5 := G4.upd (o' := .ins T.History.a dx (hisF b k' (costs (L.drop f)) u)) m4 (ek _ _ h3a) trivial
      have stA : Stp Pt Z M H2 (But Z k') (fun x => M x ∨ x = k') _ := ((eH3 ▸ Stp.upd ma h2a trivial : Stp Pt Z M H2 Z M H3).trans st4).trans st5
      refine q _ _ _ ((st3.trans st4).trans st5) G5 ?_
      have er : (Sq50.room b ((s, n) :: pa)).reverse = L.drop f := by
        rw [← eL]
        refine room_drop ?_ ?_ ?_
        · have := hf; rw [← eL, List.length_reverse] at this; exact this
        · rw [eL]; omega
        · rw [eL]; exact hmin
      have ec : costs (L.drop f) = costs (Sq50.room b ((s, n) :: pa)) := by rw [← er, costs_rev]
      refine ⟨dx, k', u, (ks ++ [V.ref t]).drop f, us, by rw [upd_same, ec], by rw [upd_ne nk'a.symm, upd_same], ?_, ?_, Paired.imp (fun _ _ z => z.stp stA G2.apart) pu2, m4, .inr rfl, .inl mu, nuk'.symm⟩
      · rw [upd_ne nua, upd_ne nuk', ← eH3, upd_ne nua]
        exact hu2
      · rw [er]
        exact Paired.drop f (Paired.imp (fun _ _ z => z.stp stA G2.apart) pk2)
/-- History.deed_done(self, picture, price) -/
def sp_History_deed_done (T : Txt K mg) (Pt : Addr) : Sp := fun vs H Q _ => ∃ (a p : Addr) (n : Nat) (Z M : Addr → Prop) (b : Nat) (pa fu : List (State × Nat)) (s : State), vs = [.ref a, .ref p, nV n] ∧ HisAt T Z M H a b pa fu ∧ Ground Pt Z M H ∧ Pic T Z H p s ∧ pa.length ≤ 2000000 ∧
  ∀ Z' M' H', Stp Pt Z M H Z' M' H' → Ground Pt Z' M' H' → HisAt T Z' M' H' a b (Sq50.room b ((s, n) :: pa)) [] → Q .non H'
theorem ok_History_deed_done (T : Txt K mg) (Pt : Addr) : FnOk P w K mg base CX0 2 T.History_deed_done.a T.History_deed_done.fd ["self", "picture", "price"] (sp_History_deed_done T Pt) := by
  refine T.History_deed_done.F.ok sc_History_deed_done (fun vs H Q E h => ?_) (fun cdv A outer s0 H vs Q E hr h => ⟨_, (pss_cons (ps_fld (pv 0) (pe_lst pa_nil) rfl)
  (pss_one (ps_expr (pe_meth (pv 0) T.History.cl T.History_keep.m (ok_History_keep T Pt) (hr.mono (by decide)) T.History_keep.b .nil pass0 (pa_cons (pv 1) (pa_cons (pv 2) pa_nil)))))), ?_⟩)
  · obtain ⟨a, p, n, Z, M, b, pa, fu, s, rfl, _⟩ := h
    rfl
  · obtain ⟨a, p, n, Z, M, b, pa, fu, s, rfl, ⟨dx, k, u, ks, us, ha, hk, hu, pk, pu, ma, mk, mu, nku⟩, G, hp, hlen, q⟩ := h
    have c := T.History.cl
    have nka : k ≠ a := ne_of hk ha (by intro z; cases z)
    refine ⟨Nat.zero_le _, fun u' nu => ?_⟩
    have eu := Ex.new (o := .lst []) nu
    have nau : a ≠ u' := ne_of_none ha nu
    have nku' : k ≠ u' := ne_of_none hk nu
    refine ⟨_, rfl, a, _, dx, _, rfl, eu _ _ ha, c, T.History.no _ (by decide), hf_few _ _ _ _, ?_⟩
    rw [his_undone]
    have m1 : (fun x => M x ∨ x = u') a := .inl ma
    have st1 : Stp Pt Z M H (But Z u') (fun x => M x ∨ x = u') (upd H u' (.lst [])) := Stp.made nu eu (by rw [upd_same]; intro z; cases z)
    have G1 := G.made nu eu (by rw [upd_same]; intro z; cases z)
    have st2 := st1.trans (Stp.upd (Pt := Pt) (Z := But Z u') (M := fun x => M x ∨ x = u') (o' := .ins T.History.a dx (hisF b k (costs pa) u')) m1 (eu _ _ ha) trivial)
    have G2 := G1.upd (o' := .ins T.History.a dx (hisF b k (costs pa) u')) m1 (eu _ _ ha) trivial
    have hH : HisAt T (But Z u') (fun x => M x ∨ x = u') (upd (upd H u' (.lst [])) a (.ins T.History.a dx (hisF b k (costs pa) u'))) a b pa [] :=
      ⟨dx, k, u', ks, [], upd_same, by rw [upd_ne nka]; exact eu _ _ hk, by rw [upd_ne nau.symm, upd_same], Paired.imp (fun _ _ z => z.stp st2 G.apart) pk, .nil, m1, .inl mk, .inr rfl, nku'⟩
    refine ⟨_, rfl, a, dx, _, rfl, upd_same, hf_m _ _ _ _ (by decide +kernel), paC pu_v (paC pu_v pa0) _ ?_⟩
    exact ⟨a, p, n, _, _, b, pa, [], s, rfl, hH, G2, pic_stp st2 G.apart hp, hlen, fun Z' M' H' st g h => q Z' M' H' (st2.trans st) g h⟩
end
end LP
end
section
set_option maxHeartbeats 4100000
namespace LP
open PySem PySem.Spec PyProof.Rows L2 Evl LamX NdefX
open Sq50 (State Layer Dot Clip House)
section
variable {P : Program} {w : World} {K : PySem.W.Frag} {mg : Str → Option Value} {base : Heap}
theorem last_of {α β : Type} {F : α → β → Prop} {l : List α} {m : List β} {b : β} (p : Paired F l (m ++ [b])) : ∃ l' a, l = l' ++ [a] ∧ Paired F l' m ∧ F a b := by
  obtain ⟨l1, l2, e, p1, p2⟩ := pair_split p
  cases p2 with
  | cons h t => cases t; exact ⟨l1, _, e, p1, h⟩
theorem last_get {α : Type} (l : List α) (a : α) : (l ++ [a])[(l ++ [a]).length - 1]? = some a := by simp
/-- History.step_back(self, picture) -/
def sp_History_step_back (T : Txt K mg) (Pt : Addr) : Sp := fun vs H Q E => ∃ (a p : Addr) (Z M : Addr → Prop) (b : Nat) (pa fu : List (State × Nat)) (s : State), vs = [.ref a, .ref p] ∧ HisAt T Z M H a b pa fu ∧ Ground Pt Z M H ∧ Pic T Z H p s ∧ fu.length ≤ 2000000 ∧
  (pa = [] → Rz T.C_NotNow (-6) H E) ∧ ∀ x l, pa = x :: l → ∀ q Z' M' H', Stp Pt Z M H Z' M' H' → Ground Pt Z' M' H' → HisAt T Z' M' H' a b l ((s, x.2) :: fu) → Pic T Z' H' q x.1 → Q (.ref q) H'
theorem ok_History_step_back (T : Txt K mg) (Pt : Addr) : FnOk P w K mg base (L2.CX P w) 4 T.History_step_back.a T.History_step_back.fd ["self", "picture"] (sp_History_step_back T Pt) := by
  refine T.History_step_back.F.okX sc_History_step_back (fun vs H Q E h => ?_) (fun cdv A outer s0 H vs Q E hr h => ⟨_, (pss_cons (ps_if (pt_cmpR op_eq (pe_callB call_len_seq (by rfl) (T.nb "len" (by decide)) (by decide +kernel) (pa_cons (pe_fld (pv 0) rfl) pa_nil)) pe_int (nomark _))
  (pss_one (ps_raiseR rfl T.NotNow hr (takes_of rfl rfl rfl rfl)))
  pss_nil)
  (pss_cons (ps_set (i := 2) sc_History_step_back.nd rfl (by first | exact Or.inl rfl | exact Or.inr rfl) (pe_bm0 PySem.F.plainAttrs_list PySem.F.slot_list_pop PySem.F.type_list_pop mt_pop (pe_fld (pv 0) rfl)))
  (pss_cons (ps_fldaug (pv 0) (pe_ix ix_tup (pv 2) pe_int (fun _ _ => rfl)) in_sub)
  (pss_cons (ps_expr (pe_bm PySem.F.plainAttrs_list PySem.F.slot_list_append PySem.F.type_list_append mt_append (pe_fld (pv 0) rfl) (pa_cons (pe_tup (pa_cons (pv 1) (pa_cons (pe_ix ix_tup (pv 2) pe_int (fun _ _ => rfl)) pa_nil))) pa_nil)))
  (pss_one (ps_ret (pe_ix ix_tup (pv 2) pe_int (fun _ _ => rfl)))))))), ?_⟩)
  · obtain ⟨a, p, Z, M, b, pa, fu, s, rfl, _⟩ := h
    rfl
  · obtain ⟨a, p, Z, M, b, pa, fu, s, rfl, ⟨dx, k, u, ks, us, ha, hk, hu, pk, pu, ma, mk, mu, nku⟩, G, hp, hlen, q1, q2⟩ := h
    have c := T.History.cl
    have nka : k ≠ a := ne_of hk ha (by intro z; cases z)
    have nua : u ≠ a := ne_of hu ha (by intro z; cases z)
    have hkl := Paired.len pk
    rw [List.length_reverse] at hkl
    have hul := Paired.len pu
    rw [List.length_reverse] at hul
    refine s_if (pt_neq (a := pa.length) (k := 0) (pu_is (pu_lenL (pu_fld pu_v ha c (T.History.no _ (by decide)) (hf_kept _ _ _ _)) (SqL.of hk)) (by show V.int _ = V.int _; rw [hkl]))) (fun e => ?_) fun e => ?_
    · exact (q1 (List.length_eq_zero_iff.mp (of_decide_eq_true e))).go (Ex.refl H)
    · cases pa with
      | nil => exact absurd rfl (of_decide_eq_false e)
      | cons x l =>
        rw [List.reverse_cons] at pk
        obtain ⟨ks', v, rfl, pk', t1, p1, rfl, ht1, hp1⟩ := last_of pk
        have nt1k : t1 ≠ k := ne_of ht1.h hk (by intro z; cases z)
        have nt1a : t1 ≠ a := ne_of ht1.h ha (by intro z; cases z)
        have nt1u : t1 ≠ u := ne_of ht1.h hu (by intro z; cases z)
        -- state = self.kept.pop()
        refine ⟨_, rfl, a, _, dx, _, _, rfl, ha, c, T.History.no _ (by decide), hf_kept _ _ _ _, .inl ⟨rfl, _, SqL.of hk⟩, k, _, _, rfl, rfl, hk, last_get _ _, ?_⟩
        rw [List.dropLast_concat]
        have st1 : Stp Pt Z M H Z M (upd H k (.lst ks')) := Stp.upd mk hk trivial
        have G1 := G.upd (o' := .lst ks') mk hk trivial
        have h1a : upd H k (.lst ks') a = some (.ins T.History.a dx (hisF b k (costs (x :: l)) u)) := (upd_ne nka.symm).trans ha
        have h1t : upd H k (.lst ks') t1 = some (.tup [.ref p1, nV x.2]) := (upd_ne nt1k).trans ht1.h
        -- self.spent -= state[1]
        refine ⟨_, rfl, a, _, dx, _, _, rfl, h1a, c, T.History.no _ (by decide), hf_spent _ _ _ _, ?_⟩
        refine pu_ixT (n := 1) pu_v pu_c (SqT.of h1t) rfl rfl _ ?_
        refine ⟨_, _, rfl, rfl, dx, _, h1a, hf_few _ _ _ _, ?_⟩
        have e4 : V.int ((costs (x :: l) : Nat) - (x.2 : Nat) : Int) = nV (costs l) := by
          show V.int _ = V.int _
          have : costs (x :: l) = x.2 + costs l := by simp [costs]
          congr 1
          omega
        rw [e4, his_spent]
        have st2 := st1.trans (Stp.upd (Pt := Pt) (Z := Z) (M := M) (o' := .ins T.History.a dx (hisF b k (costs l) u)) ma h1a trivial)
        have G2 := G1.upd (o' := .ins T.History.a dx (hisF b k (costs l) u)) ma h1a trivial
        generalize eH2 : upd (upd H k (.lst ks')) a (.ins T.History.a dx (hisF b k (costs l) u)) = H2 at st2 G2
        have h2a : H2 a = some (.ins T.History.a dx (hisF b k (costs l) u)) := by rw [← eH2, upd_same]
        have h2k : H2 k = some (.lst ks') := by rw [← eH2, upd_ne nka, upd_same]
        have h2u : H2 u = some (.lst us) := by rw [← eH2, upd_ne nua, upd_ne nku.symm]; exact hu
        have h2t : H2 t1 = some (.tup [.ref p1, nV x.2]) := by rw [← eH2, upd_ne nt1a]; exact h1t
        -- self.undone.append((picture, state[1]))
        refine ⟨_, rfl, a, _, dx, _, _, rfl, h2a, c, T.History.no _ (by decide), hf_undone _ _ _ _, .inl ⟨rfl, _, SqL.of h2u⟩, ?_⟩
        refine ⟨_, rfl, pu_ixT (n := 1) pu_v pu_c (SqT.of h2t) rfl rfl _ ⟨by show 2 ≤ sizeLine; decide, fun t nt => ?_⟩⟩
        have et := Ex.new (o := .tup [.ref p, nV x.2]) nt
        refine ⟨u, us, _, rfl, rfl, et _ _ h2u, stM (by omega), ?_⟩
        have st3 := (st2.trans (Stp.ex et)).trans (Stp.upd (Pt := Pt) (Z := Z) (M := M) (o' := .lst (us ++ [V.ref t])) mu (et _ _ h2u) trivial)
        have G3 := (G2.ex et).upd (o' := .lst (us ++ [V.ref t])) mu (et _ _ h2u) trivial
        have ntu : t ≠ u := ne_of (H := upd H2 t (.tup [.ref p, nV x.2])) upd_same (et _ _ h2u) (by intro z; cases z)
        have zt : Z t := G2.free t nt
        -- return state[0]
        refine pu_ixT (n := 0) pu_v pu_c (SqT.of ((upd_ne nt1u).trans (et _ _ h2t))) rfl rfl _ ?_
        refine q2 x l rfl p1 Z M _ st3 G3 ?_ (pic_stp st3 G.apart hp1)
        refine ⟨dx, k, u, ks', us ++ [V.ref t], (upd_ne nua.symm).trans (et _ _ h2a), (upd_ne nku).trans (et _ _ h2k), upd_same, Paired.imp (fun _ _ z => z.stp st3 G.apart) pk', ?_, ma, mk, mu, nku⟩
        rw [List.reverse_cons]
        exact Paired.snoc (Paired.imp (fun _ _ z => z.stp st3 G.apart) pu) ⟨t, p, rfl, ⟨zt, (upd_ne ntu).trans upd_same⟩, pic_stp st3 G.apart hp⟩
/-- History.step_on(self, picture) -/
def sp_History_step_on (T : Txt K mg) (Pt : Addr) : Sp := fun vs H Q E => ∃ (a p : Addr) (Z M : Addr → Prop) (b : Nat) (pa fu : List (State × Nat)) (s : State), vs = [.ref a, .ref p] ∧ HisAt T Z M H a b pa fu ∧ Ground Pt Z M H ∧ Pic T Z H p s ∧ pa.length ≤ 2000000 ∧
  (fu = [] → Rz T.C_NotNow (-6) H E) ∧ ∀ x l, fu = x :: l → ∀ q Z' M' H', Stp Pt Z M H Z' M' H' → Ground Pt Z' M' H' → HisAt T Z' M' H' a b (Sq50.room b ((s, x.2) :: pa)) l → Pic T Z' H' q x.1 → Q (.ref q) H'
theorem ok_History_step_on (T : Txt K mg) (Pt : Addr) : FnOk P w K mg base (L2.CX P w) 4 T.History_step_on.a T.History_step_on.fd ["self", "picture"] (sp_History_step_on T Pt) := by
  refine T.History_step_on.F.okX sc_History_step_on (fun vs H Q E h => ?_) (fun cdv A outer s0 H vs Q E hr h => ⟨_, (pss_cons (ps_if (pt_cmpR op_eq (pe_callB call_len_seq (by rfl) (T.nb "len" (by decide)) (by decide +kernel) (pa_cons (pe_fld (pv 0) rfl) pa_nil)) pe_int (nomark _))
  (pss_one (ps_raiseR rfl T.NotNow hr (takes_of rfl rfl rfl rfl)))
  pss_nil)
  (pss_cons (ps_set (i := 2) sc_History_step_on.nd rfl (by first | exact Or.inl rfl | exact Or.inr rfl) (pe_bm0 PySem.F.plainAttrs_list PySem.F.slot_list_pop PySem.F.type_list_pop mt_pop (pe_fld (pv 0) rfl)))
  (pss_cons (ps_expr (pe_meth (pv 0) T.History.cl T.History_keep.m (ok_History_keep T Pt) (hr.mono (by decide)) T.History_keep.b .nil pass0 (pa_cons (pv 1) (pa_cons (pe_ix ix_tup (pv 2) pe_int (fun _ _ => rfl)) pa_nil))))
  (pss_one (ps_ret (pe_ix ix_tup (pv 2) pe_int (fun _ _ => rfl))))))), ?_⟩)
  · obtain ⟨a, p, Z, M, b, pa, fu, s, rfl, _⟩ := h
    rfl
  · obtain ⟨a, p, Z, M, b, pa, fu, s, rfl, ⟨dx, k, u, ks, us, ha, hk, hu, pk, pu, ma, mk, mu, nku⟩, G, hp, hlen, q1, q2⟩ := h
    have c := T.History.cl
    have nka : k ≠ a := ne_of hk ha (by intro z; cases z)
    have nua : u ≠ a := ne_of hu ha (by intro z; cases z)
    have hul := Paired.len pu
    rw [List.length_reverse] at hul
    refine s_if (pt_neq (a := fu.length) (k := 0) (pu_is (pu_lenL (pu_fld pu_v ha c (T.History.no _ (by decide)) (hf_undone _ _ _ _)) (SqL.of hu)) (by show V.int _ = V.int _; rw [hul]))) (fun e => ?_) fun e => ?_
    · exact (q1 (List.length_eq_zero_iff.mp (of_decide_eq_true e))).go (Ex.refl H)
    · cases fu with
      | nil => exact absurd rfl (of_decide_eq_false e)
      | cons x l =>
        rw [List.reverse_cons] at pu
        obtain ⟨us', v, rfl, pu', t1, p1, rfl, ht1, hp1⟩ := last_of pu
        have nt1u : t1 ≠ u := ne_of ht1.h hu (by intro z; cases z)
        refine ⟨_, rfl, a, _, dx, _, _, rfl, ha, c, T.History.no _ (by decide), hf_undone _ _ _ _, .inl ⟨rfl, _, SqL.of hu⟩, u, _, _, rfl, rfl, hu, last_get _ _, ?_⟩
        rw [List.dropLast_concat]
        have st1 : Stp Pt Z M H Z M (upd H u (.lst us')) := Stp.upd mu hu trivial
        have G1 := G.upd (o' := .lst us') mu hu trivial
        have h1a : upd H u (.lst us') a = some (.ins T.History.a dx (hisF b k (costs pa) u)) := (upd_ne nua.symm).trans ha
        have h1t : upd H u (.lst us') t1 = some (.tup [.ref p1, nV x.2]) := (upd_ne nt1u).trans ht1.h
        have hH : HisAt T Z M (upd H u (.lst us')) a b pa l := ⟨dx, k, u, ks, us', h1a, (upd_ne nku).trans hk, upd_same, Paired.imp (fun _ _ z => z.stp st1 G.apart) pk, Paired.imp (fun _ _ z => z.stp st1 G.apart) pu', ma, mk, mu, nku⟩
        refine ⟨_, rfl, a, dx, _, rfl, h1a, hf_m _ _ _ _ (by decide +kernel), paC pu_v (paC (pu_ixT (n := 1) pu_v pu_c (SqT.of h1t) rfl rfl) pa0) _ ?_⟩
        refine ⟨a, p, x.2, Z, M, b, pa, l, s, rfl, hH, G1, pic_stp st1 G.apart hp, hlen, fun Z' M' H' st g h => ?_⟩
        have h2 : At Z' H' t1 (.tup [.ref p1, nV x.2]) := (st1.trans st).at_ G.apart ht1
        refine pu_ixT (n := 0) pu_v pu_c h2.st rfl rfl _ ?_
        exact q2 x l rfl p1 Z' M' H' (st1.trans st) g h (pic_stp (st1.trans st) G.apart hp1)
/-- History.counts(self) -/
def sp_History_counts (T : Txt K mg) : Sp := fun vs H Q _ => ∃ (a : Addr) (Z M : Addr → Prop) (b : Nat) (pa fu : List (State × Nat)), vs = [.ref a] ∧ HisAt T Z M H a b pa fu ∧ ∀ p H', H p = none → Ex H H' → H' p = some (.lst [nV pa.length, nV fu.length]) → Q (.ref p) H'
theorem ok_History_counts (T : Txt K mg) : FnOk P w K mg base CX0 1 T.History_counts.a T.History_counts.fd ["self"] (sp_History_counts T) := by
  refine T.History_counts.F.ok sc_History_counts (fun vs H Q E h => ?_) (fun cdv A outer s0 H vs Q E hr h => ⟨_, (pss_one (ps_ret (pe_lst (pa_cons (pe_callB call_len_seq (by rfl) (T.nb "len" (by decide)) (by decide +kernel) (pa_cons (pe_fld (pv 0) rfl) pa_nil)) (pa_cons (pe_callB call_len_seq (by rfl) (T.nb "len" (by decide)) (by decide +kernel) (pa_cons (pe_fld (pv 0) rfl) pa_nil)) pa_nil))))), ?_⟩)
  · obtain ⟨a, Z, M, b, pa, fu, rfl, _⟩ := h
    rfl
  · obtain ⟨a, Z, M, b, pa, fu, rfl, ⟨dx, k, u, ks, us, ha, hk, hu, pk, pu, ma, mk, mu, nku⟩, q⟩ := h
    have c := T.History.cl
    have hkl := Paired.len pk
    have hul := Paired.len pu
    rw [List.length_reverse] at hkl hul
    refine c_lst (vs := [nV pa.length, nV fu.length]) (paC (pu_is (pu_lenL (pu_fld pu_v ha c (T.History.no _ (by decide)) (hf_kept _ _ _ _)) (SqL.of hk)) (by show V.int _ = V.int _; rw [hkl])) (paC (pu_is (pu_lenL (pu_fld pu_v ha c (T.History.no _ (by decide)) (hf_undone _ _ _ _)) (SqL.of hu)) (by show V.int _ = V.int _; rw [hul])) pa0)) (Nat.le_of_ble_eq_true rfl) fun p np => ?_
    exact q p _ np (Ex.new np) upd_same
end
end LP
end
section
set_option maxHeartbeats 4100000
namespace LP
open PySem PySem.Spec PyProof.Rows L2 Evl LamX NdefX
open Sq50 (State Layer Dot Clip House)
/-! what holds of a house -/
structure HInv (g : House) (n : Nat) : Prop where
  wf : WF g.now
  wp : ∀ x ∈ g.past, WF x.1 ∧ 1 ≤ x.2
  wu : ∀ x ∈ g.future, WF x.1 ∧ 1 ≤ x.2
  sum : costs g.past ≤ g.budget
  bud : g.budget ≤ 1000000
  fut : g.future.length ≤ n
  rcd : g.kept.length ≤ 40
theorem len_costs : ∀ {l : List (State × Nat)}, (∀ x ∈ l, 1 ≤ x.2) → l.length ≤ costs l
  | [], _ => Nat.zero_le _
  | x :: l, h => by
    have h1 := h x (List.mem_cons_self ..)  -- own
    have h2 := len_costs (l := l) fun y hy => h y (List.mem_cons_of_mem _ hy)
    have e : costs (x :: l) = x.2 + costs l := by unfold costs; rw [List.map_cons, List.sum_cons]
    rw [e, List.length_cons]
    omega
theorem HInv.pl {g : House} {n : Nat} (h : HInv g n) : g.past.length ≤ 1000000 := Nat.le_trans (len_costs fun x hx => (h.wp x hx).2) (Nat.le_trans h.sum h.bud)
/-- a desk's step, seen from outside -/
structure DStp (Z M : Addr → Prop) (rc : Addr) (H : Hp) (Z' M' : Addr → Prop) (rc' : Addr) (H' : Hp) : Prop where
  keep : ∀ x o, ¬ M x → x ≠ rc → H x = some o → H' x = some o
  new : ∀ x, M' x ∨ x = rc' → M x ∨ x = rc ∨ H x = none
  le : ∀ x, Z' x → Z x
  back : ∀ x, H' x = none → H x = none
section
variable {K : PySem.W.Frag} {mg : Str → Option Value} {T : Txt K mg} {Pt : Addr} {Z Z' M M' : Addr → Prop} {H H' : Hp} {a d rc rc' : Addr} {g : House}
theorem Stp.out (st : Stp Pt Z M H Z' M' H') : DStp Z M rc H Z' M' rc H' := ⟨fun x o n _ h => st.keep x o n h, fun x h => h.elim (fun m => (st.new x m).elim .inl fun z => .inr (.inr z)) fun z => .inr (.inl z), st.le, st.back⟩
theorem HisAt.stp {b : Nat} {pa fu : List (State × Nat)} (h : HisAt T Z M H a b pa fu) (st : Stp Pt Z M H Z' M' H') (ap : ∀ x, M x → ¬ Z x) (kp : ∀ x o, M x → H x = some o → H' x = some o) : HisAt T Z' M' H' a b pa fu := by
  obtain ⟨dx, k, u, ks, us, ha, hk, hu, pk, pu, ma, mk, mu, nku⟩ := h
  exact ⟨dx, k, u, ks, us, kp _ _ ma ha, kp _ _ mk hk, kp _ _ mu hu, Paired.imp (fun _ _ z => z.stp st ap) pk, Paired.imp (fun _ _ z => z.stp st ap) pu, st.old _ ma, st.old _ mk, st.old _ mu, nku⟩
theorem HisAt.ex {b : Nat} {pa fu : List (State × Nat)} (h : HisAt T Z M H a b pa fu) (e : Ex H H') : HisAt T Z M H' a b pa fu := by
  obtain ⟨dx, k, u, ks, us, ha, hk, hu, pk, pu, ma, mk, mu, nku⟩ := h
  exact ⟨dx, k, u, ks, us, e _ _ ha, e _ _ hk, e _ _ hu, Paired.imp (fun _ _ z => z.keep (e.keep Z)) pk, Paired.imp (fun _ _ z => z.keep (e.keep Z)) pu, ma, mk, mu, nku⟩
theorem DeskAt.ex (h : DeskAt T Pt Z M H d rc g) (e : Ex H H') : DeskAt T Pt Z M H' d rc g := by
  obtain ⟨dd, p, ha, q, as, rs, hd, hp, hh, hq, hc, hr, pr, md, nd, nr, zr, G⟩ := h
  exact ⟨dd, p, ha, q, as, rs, e _ _ hd, hp.keep (e.keep Z), hh.ex e, hq.keep (e.keep Z), hc, e _ _ hr, Paired.imp (fun _ _ z => z.keep (e.keep Z)) pr, md, nd, nr, zr, G.ex e⟩
/-- a new list of ints -/
def RInts (l : List Int) (H : Hp) (Q : VK) : Prop := ∀ p H', H p = none → Ex H H' → H' p = some (.lst (l.map V.int)) → Q (.ref p) H'
/-- what is answered, and the desk behind it -/
def DRes (T : Txt K mg) (Pt : Addr) (Z M : Addr → Prop) (H : Hp) (d rc : Addr) (Q : VK) (g : House) (l : List Int) : Prop := ∀ p Z' M' rc' H', H p = none → DStp Z M rc H Z' M' rc' H' → DeskAt T Pt Z' M' H' d rc' g → H' p = some (.lst (l.map V.int)) → Q (.ref p) H'
theorem DRes.ex {Q : VK} {l : List Int} (h : DeskAt T Pt Z M H d rc g) (r : DRes T Pt Z M H d rc Q g l) : RInts l H Q := fun p H' n e h' => r p Z M rc H' n (Stp.ex (Pt := Pt) e).out (h.ex e) h'
theorem df_picture (p h q : Addr) (b : Bool) (rc : Addr) : (deskF p h q b rc).lookup ("picture" : Str) = some (.ref p) := lkH
theorem df_history (p h q : Addr) (b : Bool) (rc : Addr) : (deskF p h q b rc).lookup ("history" : Str) = some (.ref h) := (lkP (by decide +kernel)).trans lkH
theorem df_aside (p h q : Addr) (b : Bool) (rc : Addr) : (deskF p h q b rc).lookup ("aside" : Str) = some (.ref q) := (lkP (by decide +kernel)).trans ((lkP (by decide +kernel)).trans lkH)
theorem df_recording (p h q : Addr) (b : Bool) (rc : Addr) : (deskF p h q b rc).lookup ("recording" : Str) = some (.bl b) := (lkP (by decide +kernel)).trans ((lkP (by decide +kernel)).trans ((lkP (by decide +kernel)).trans lkH))
theorem df_recorded (p h q : Addr) (b : Bool) (rc : Addr) : (deskF p h q b rc).lookup ("recorded" : Str) = some (.ref rc) := (lkP (by decide +kernel)).trans ((lkP (by decide +kernel)).trans ((lkP (by decide +kernel)).trans ((lkP (by decide +kernel)).trans lkH)))
theorem df_few (p h q : Addr) (b : Bool) (rc : Addr) : (deskF p h q b rc).length < 1000 := by show 5 < 1000; decide
theorem df_m {f : Str} (p h q : Addr) (b : Bool) (rc : Addr) (hf : ((["picture", "history", "aside", "recording", "recorded"] : List Str).all fun g => !(f == g)) = true) : (deskF p h q b rc).lookup f = none := lk_none hf
theorem desk_picture (p h q : Addr) (b : Bool) (rc p' : Addr) : putF "picture" (.ref p') (deskF p h q b rc) = deskF p' h q b rc := by unfold deskF; rw [putS]
theorem desk_history (p h q : Addr) (b : Bool) (rc p' : Addr) : putF "history" (.ref p') (deskF p h q b rc) = deskF p p' q b rc := by unfold deskF; rw [putN (by decide +kernel), putS]
theorem desk_aside (p h q : Addr) (b : Bool) (rc p' : Addr) : putF "aside" (.ref p') (deskF p h q b rc) = deskF p h p' b rc := by unfold deskF; rw [putN (by decide +kernel), putN (by decide +kernel), putS]
theorem desk_recording (p h q : Addr) (b : Bool) (rc : Addr) (b' : Bool) : putF "recording" (.bl b') (deskF p h q b rc) = deskF p h q b' rc := by unfold deskF; rw [putN (by decide +kernel), putN (by decide +kernel), putN (by decide +kernel), putS]
theorem desk_recorded (p h q : Addr) (b : Bool) (rc p' : Addr) : putF "recorded" (.ref p') (deskF p h q b rc) = deskF p h q b p' := by unfold deskF; rw [putN (by decide +kernel), putN (by decide +kernel), putN (by decide +kernel), putN (by decide +kernel), putS]
theorem desk_new (p h q : Addr) (b : Bool) (rc : Addr) : putF "recorded" (.ref rc) (putF "recording" (.bl b) (putF "aside" (.ref q) (putF "history" (.ref h) (putF "picture" (.ref p) [])))) = deskF p h q b rc := by
  repeat (first | rw [putE] | rw [putN (by decide +kernel)])
  rfl
end
section
variable {P : Program} {w : World} {K : PySem.W.Frag} {mg : Str → Option Value} {base : Heap}
/-- Desk.places(self, y) -/
def sp_Desk_places (T : Txt K mg) (Pt : Addr) : Sp := fun vs H Q E => ∃ (d y : Nat) (Z M : Addr → Prop) (rc : Addr) (g : House), vs = [.ref d, nV y] ∧ DeskAt T Pt Z M H d rc g ∧ WF g.now ∧
  (g.now.h ≤ y → Rz T.C_CannotBe (-1) H E) ∧ (y < g.now.h → RNats ((List.range g.now.w).map fun x => y * g.now.w + x) H Q)
theorem ok_Desk_places (T : Txt K mg) (Pt : Addr) : FnOk P w K mg base (L2.CX P w) 4 T.Desk_places.a T.Desk_places.fd ["self", "y"] (sp_Desk_places T Pt) := by
  refine T.Desk_places.F.okX sc_Desk_places (fun vs H Q E h => ?_) (fun cdv A outer s0 H vs Q E hr h => ⟨_, (pss_cons (ps_if (pt_cmpR op_ge (pv 1) (pe_fld (pe_fld (pv 0) rfl) rfl) (nomark _))
  (pss_one (ps_raiseR rfl T.CannotBe hr (takes_of rfl rfl rfl rfl)))
  pss_nil)
  (pss_one (ps_ret (pe_listRg rfl (by rfl) (T.nb "list" (by decide)) (prg_2 (by rfl) (T.nb "range" (by decide)) (pe_op op_mul (pv 1) (pe_fld (pe_fld (pv 0) rfl) rfl)) (pe_op op_mul (pe_op op_add (pv 1) pe_int) (pe_fld (pe_fld (pv 0) rfl) rfl))))))), ?_⟩)
  · obtain ⟨d, y, Z, M, rc, g, rfl, _⟩ := h
    rfl
  · obtain ⟨d, y, Z, M, rc, g, rfl, ⟨dd, p, ha, q, as, rs, hd, ⟨dx, ql, cc, hp, _, _⟩, _⟩, W, q1, q2⟩ := h
    have c := T.Desk.cl
    have w12 := W.w12
    have h12 := W.h12
    have pw : ∀ (σ : L2.St), σ[0]? = some (some (.ref d)) → Pu (tFld K (tFld K (tVar 0) "picture") "w") σ H (nV g.now.w) := fun σ hs => pu_fld (pu_fld (pu_var hs) hd c (T.Desk.no _ (by decide)) (df_picture _ _ _ _ _)) hp.h T.Picture.cl (T.Picture.no _ (by decide)) (pf_w _ _ _)
    refine s_if (pt_nge pu_v (pu_fld (pu_fld pu_v hd c (T.Desk.no _ (by decide)) (df_picture _ _ _ _ _)) hp.h T.Picture.cl (T.Picture.no _ (by decide)) (pf_h _ _ _))) (fun e => ?_) fun e => ?_
    · exact (q1 (of_decide_eq_true e)).go (Ex.refl H)
    · have hy : y < g.now.h := Nat.lt_of_not_le (of_decide_eq_false e)
      refine (pu_nmulS pu_v (pw _ rfl) (by omega)) _ ?_
      refine (pu_nmulS (pu_nadd pu_v (pu_nc 1)) (pw _ rfl) (by omega)) _ ?_
      have hm : (y + 1) * g.now.w ≤ 12 * 12 := Nat.mul_le_mul (by omega) w12
      have hs : (y + 1) * g.now.w = y * g.now.w + g.now.w := by rw [Nat.add_mul, Nat.one_mul]
      refine ⟨_, _, rfl, rfl, ⟨by omega, by omega, by omega, by omega, szl (by omega)⟩, fun r nr => q2 hy r _ nr (Ex.new nr) ?_⟩
      rw [upd_same]
      congr 2
      unfold rgV nVs
      rw [List.map_map]
      have e3 : ((((y + 1) * g.now.w : Nat) : Int) - ((y * g.now.w : Nat) : Int)).toNat = g.now.w := by omega
      rw [e3]
      refine List.map_congr_left fun x _ => ?_  -- own
      show V.int _ = V.int _
      rw [Int.natCast_add]
/-- rows of numbers: what is shown, owned, chosen -/
def rowOf (w : Nat) (f : Nat → Dot) : List Int := (w : Int) :: (List.range w).flatMap fun x => [((f x).1 : Int), ((f x).2 : Int)]
theorem row_take {w i : Nat} (f : Nat → Dot) (h : i < w) : ((List.range w).take (i + 1)).flatMap (fun x => [((f x).1 : Int), ((f x).2 : Int)]) = ((List.range w).take i).flatMap (fun x => [((f x).1 : Int), ((f x).2 : Int)]) ++ [((f i).1 : Int), ((f i).2 : Int)] := by
  rw [List.take_add_one, List.getElem?_range h, List.flatMap_append]
  simp
theorem row_tlen {w i : Nat} (f : Nat → Dot) : (((List.range w).take i).flatMap (fun x => [((f x).1 : Int), ((f x).2 : Int)])).length ≤ 2 * w := by
  rw [List.length_flatMap]
  have : ((List.range w).take i).map (fun x => ([((f x).1 : Int), ((f x).2 : Int)] : List Int).length) = ((List.range w).take i).map fun _ => 2 := rfl
  rw [this, List.map_const', List.sum_replicate_nat, List.length_take, List.length_range]
  have : min i w * 2 ≤ w * 2 := Nat.mul_le_mul_right _ (Nat.min_le_right ..)
  omega
/-- Desk.row(self, y) -/
def sp_Desk_row (T : Txt K mg) (Pt : Addr) : Sp := fun vs H Q E => ∃ (d y : Nat) (Z M : Addr → Prop) (rc : Addr) (g : House), vs = [.ref d, nV y] ∧ DeskAt T Pt Z M H d rc g ∧ WF g.now ∧
  (g.now.h ≤ y → Rz T.C_CannotBe (-1) H E) ∧ (y < g.now.h → RInts (rowOf g.now.w fun x => g.now.shown x y) H Q)
theorem ok_Desk_row (T : Txt K mg) (Pt : Addr) : FnOk P w K mg base (L2.CX P w) 5 T.Desk_row.a T.Desk_row.fd ["self", "y"] (sp_Desk_row T Pt) := by
  refine T.Desk_row.F.okX sc_Desk_row (fun vs H Q E h => ?_) (fun cdv A outer s0 H vs Q E hr h => ⟨_, (pss_cons (ps_set (i := 2) sc_Desk_row.nd rfl (by first | exact Or.inl rfl | exact Or.inr rfl) (pe_lst (pa_cons (pe_fld (pe_fld (pv 0) rfl) rfl) pa_nil)))
  (pss_cons (ps_for (passes_of rfl) rfl (pi_list (pe_meth (pv 0) T.Desk.cl T.Desk_places.m (ok_Desk_places T Pt) (hr.mono (by decide)) T.Desk_places.b .nil (passes_call (takes_of rfl rfl rfl rfl) (fun _ _ _ _ h => h)) (pa_cons (pv 1) pa_nil))) (pg_name (i := 3) sc_Desk_row.nd rfl (by first | exact Or.inl rfl | exact Or.inr rfl))
  (pss_one (ps_expr (pe_bm PySem.F.plainAttrs_list PySem.F.slot_list_extend PySem.F.type_list_extend mt_extendT (pv 2) (pa_cons (pe_call (ok_shown_dot T) (hr.mono (by decide)) (by rfl) T.shown_dot.g T.shown_dot.F.kp T.shown_dot.b .nil pass0 (pa_cons (pe_fld (pe_fld (pv 0) rfl) rfl) (pa_cons (pv 3) pa_nil))) pa_nil)))))
  (pss_one (ps_ret (pv 2))))), ?_⟩)
  · obtain ⟨d, y, Z, M, rc, g, rfl, _⟩ := h
    rfl
  · obtain ⟨d, y, Z, M, rc, g, rfl, D, W, q1, q2⟩ := h
    obtain ⟨dd, p, ha, q, as, rs, hd, hp, _⟩ := id D
    obtain ⟨dx, ql, cc, hpa, hl, _⟩ := id hp
    have c := T.Desk.cl
    have w12 := W.w12
    refine ⟨_, rfl, d, _, dd, _, _, rfl, hd, c, T.Desk.no _ (by decide), df_picture _ _ _ _ _, p, _, dx, _, _, rfl, hpa.h, T.Picture.cl, T.Picture.no _ (by decide), pf_w _ _ _, by show 1 ≤ sizeLine; decide, fun L nL => ?_⟩
    have eL := Ex.new (o := .lst [nV g.now.w]) nL
    refine ⟨_, rfl, d, dd, _, rfl, eL _ _ hd, df_m _ _ _ _ _ (by decide +kernel), paC pu_v pa0 _ ⟨d, y, Z, M, rc, g, rfl, D.ex eL, W, fun e d' H' e' h' => q1 e d' H' (eL.trans e') h', fun hy S H2 nS e2 h2 => ?_⟩⟩
    have nSL : S ≠ L := fun z => by rw [z, upd_same] at nS; cases nS
    refine ⟨S, rfl, ⟨_, SqL.of h2⟩, ?_⟩
    refine for_it walk_list (fun i σ H' => ∃ x, σ = [some (.ref d), some (nV y), some (.ref L), x] ∧ Ex H H' ∧ H' S = some (.lst (nVs ((List.range g.now.w).map fun x => y * g.now.w + x))) ∧ H' L = some (.lst (((g.now.w : Int) :: ((List.range g.now.w).take i).flatMap fun x => [((g.now.shown x y).1 : Int), ((g.now.shown x y).2 : Int)]).map V.int)))
      ⟨none, rfl, eL.trans e2, h2, e2 _ _ upd_same⟩ (fun i σ H' _ ⟨_, _, _, h, _⟩ => SqL.of h) ?_ ?_
    · rintro i v σ H3 H4 hi ⟨x, rfl, e3, s3, l3⟩ ⟨rfl, hv⟩
      rw [nVs_len, List.length_map, List.length_range] at hi
      obtain ⟨n, hn, rfl⟩ := nVs_get hv
      rw [List.getElem?_map, List.getElem?_range hi] at hn
      obtain rfl : y * g.now.w + i = n := Option.some.inj hn
      have hN : y * g.now.w + i < g.now.w * g.now.h := by
        have := Nat.mul_le_mul_right g.now.w (show y + 1 ≤ g.now.h from hy)
        rw [Nat.add_mul, Nat.one_mul, Nat.mul_comm g.now.h] at this
        omega
      refine ⟨_, rfl, .inl ⟨rfl, _, SqL.of l3⟩, ?_⟩
      have hp4 := hp.keep (e3.keep Z)
      obtain ⟨dx4, ql4, cc4, hpa4, hl4, _⟩ := id hp4
      refine c_call (paC (pu_fld (pu_fld pu_v (e3 _ _ hd) c (T.Desk.no _ (by decide)) (df_picture _ _ _ _ _)) hpa4.h T.Picture.cl (T.Picture.no _ (by decide)) (pf_layers _ _ _)) (paC pu_v pa0)) ⟨ql4, y * g.now.w + i, Z, g.now.layers, rfl, hl4, fun l hm => lay_ok W hm hN, W.n5, fun t H5 nt e5 h5 => ?_⟩
      rw [← shown_p W hi hy] at h5
      have hlen := row_tlen (w := g.now.w) (i := i) fun x => g.now.shown x y
      refine ⟨L, t, _, _, rfl, rfl, e5 _ _ l3, h5, szl (by simp only [List.length_map, List.length_cons, List.length_nil]; omega), ?_⟩
      refine ⟨_, rfl, Ex.mut (e3.trans e5) nL, (upd_ne nSL).trans (e5 _ _ s3), ?_⟩
      rw [upd_same, row_take (fun x => g.now.shown x y) hi]
      simp
    · rintro σ H3 ⟨x, rfl, e3, s3, l3⟩
      rw [nVs_len, List.length_map, List.length_range, List.take_of_length_le (by rw [List.length_range]; exact Nat.le_refl _)] at l3
      exact ⟨_, rfl, q2 hy L H3 nL e3 l3⟩
/-- Desk.own(self, y) -/
def sp_Desk_own (T : Txt K mg) (Pt : Addr) : Sp := fun vs H Q E => ∃ (d y : Nat) (Z M : Addr → Prop) (rc : Addr) (g : House), vs = [.ref d, nV y] ∧ DeskAt T Pt Z M H d rc g ∧ WF g.now ∧
  (g.now.h ≤ y → Rz T.C_CannotBe (-1) H E) ∧ (y < g.now.h → RInts (rowOf g.now.w fun x => g.now.at_ g.now.layer x y) H Q)
theorem ok_Desk_own (T : Txt K mg) (Pt : Addr) : FnOk P w K mg base (L2.CX P w) 7 T.Desk_own.a T.Desk_own.fd ["self", "y"] (sp_Desk_own T Pt) := by
  refine T.Desk_own.F.okX sc_Desk_own (fun vs H Q E h => ?_) (fun cdv A outer s0 H vs Q E hr h => ⟨_, (pss_cons (ps_set (i := 2) sc_Desk_own.nd rfl (by first | exact Or.inl rfl | exact Or.inr rfl) (pe_call (ok_worked_dots T) (hr.mono (by decide)) (by rfl) T.worked_dots.g T.worked_dots.F.kp T.worked_dots.b .nil pass0 (pa_cons (pe_fld (pv 0) rfl) pa_nil)))
  (pss_cons (ps_set (i := 3) sc_Desk_own.nd rfl (by first | exact Or.inl rfl | exact Or.inr rfl) (pe_lst (pa_cons (pe_fld (pe_fld (pv 0) rfl) rfl) pa_nil)))
  (pss_cons (ps_for (passes_of rfl) rfl (pi_list (pe_meth (pv 0) T.Desk.cl T.Desk_places.m (ok_Desk_places T Pt) (hr.mono (by decide)) T.Desk_places.b .nil (passes_call (takes_of rfl rfl rfl rfl) (fun _ _ _ _ h => h)) (pa_cons (pv 1) pa_nil))) (pg_name (i := 4) sc_Desk_own.nd rfl (by first | exact Or.inl rfl | exact Or.inr rfl))
  (pss_one (ps_expr (pe_bm PySem.F.plainAttrs_list PySem.F.slot_list_extend PySem.F.type_list_extend mt_extendT (pv 3) (pa_cons (pe_ix ix_list (pv 2) (pv 4) (fun _ _ => rfl)) pa_nil)))))
  (pss_one (ps_ret (pv 3)))))), ?_⟩)
  · obtain ⟨d, y, Z, M, rc, g, rfl, _⟩ := h
    rfl
  · obtain ⟨d, y, Z, M, rc, g, rfl, D, W, q1, q2⟩ := h
    obtain ⟨dd, p, ha, q, as, rs, hd, hp, _⟩ := id D
    have c := T.Desk.cl
    have w12 := W.w12
    -- dots
    refine c_call (paC (pu_fld pu_v hd c (T.Desk.no _ (by decide)) (df_picture _ _ _ _ _)) pa0) ⟨p, Z, g.now, rfl, hp, W, fun qd H1 e1 h1 => ?_⟩
    obtain ⟨dx, ql, cc, hpa, hl, _⟩ := hp.keep (e1.keep Z)
    refine ⟨_, rfl, d, _, dd, _, _, rfl, e1 _ _ hd, c, T.Desk.no _ (by decide), df_picture _ _ _ _ _, p, _, dx, _, _, rfl, hpa.h, T.Picture.cl, T.Picture.no _ (by decide), pf_w _ _ _, by show 1 ≤ sizeLine; decide, fun L nL => ?_⟩
    have eL := Ex.new (o := .lst [nV g.now.w]) nL
    have e1L := e1.trans eL
    have nLH : H L = none := e1.back nL
    refine ⟨_, rfl, d, dd, _, rfl, e1L _ _ hd, df_m _ _ _ _ _ (by decide +kernel), paC pu_v pa0 _ ⟨d, y, Z, M, rc, g, rfl, D.ex e1L, W, fun e d' H' e' h' => q1 e d' H' (e1L.trans e') h', fun hy S H2 nS e2 h2 => ?_⟩⟩
    have nSL : S ≠ L := fun z => by rw [z, upd_same] at nS; cases nS
    -- the dots, none of them the answer
    obtain ⟨vs, hqd, pr⟩ := h1
    have nqL : qd ≠ L := ne_of_none hqd.h nL
    have hdots : Paired (fun v (dt : Dot) => ∃ a, v = .ref a ∧ a ≠ L ∧ H1 a = some (.tup [nV dt.1, nV dt.2])) vs g.now.layer.dots := Paired.imp (fun v dt z => by obtain ⟨a, rfl, za⟩ := z; exact ⟨a, rfl, ne_of_none za.h nL, za.h⟩) pr
    refine ⟨S, rfl, ⟨_, SqL.of h2⟩, ?_⟩
    refine for_it walk_list (fun i σ H' => ∃ x, σ = [some (.ref d), some (nV y), some (.ref qd), some (.ref L), x] ∧ Ex H H' ∧ (∀ a o, a ≠ L → H1 a = some o → H' a = some o) ∧ H' S = some (.lst (nVs ((List.range g.now.w).map fun x => y * g.now.w + x))) ∧ H' L = some (.lst (((g.now.w : Int) :: ((List.range g.now.w).take i).flatMap fun x => [((g.now.at_ g.now.layer x y).1 : Int), ((g.now.at_ g.now.layer x y).2 : Int)]).map V.int)))
      ⟨none, rfl, e1L.trans e2, fun a o _ h => e2 _ _ (eL _ _ h), h2, e2 _ _ upd_same⟩ (fun i σ H' _ ⟨_, _, _, _, h, _⟩ => SqL.of h) ?_ ?_
    · rintro i v σ H3 H4 hi ⟨x, rfl, e3, k3, s3, l3⟩ ⟨rfl, hv⟩
      rw [nVs_len, List.length_map, List.length_range] at hi
      obtain ⟨n, hn, rfl⟩ := nVs_get hv
      rw [List.getElem?_map, List.getElem?_range hi] at hn
      obtain rfl : y * g.now.w + i = n := Option.some.inj hn
      have hN : y * g.now.w + i < g.now.w * g.now.h := by
        have := Nat.mul_le_mul_right g.now.w (show y + 1 ≤ g.now.h from hy)
        rw [Nat.add_mul, Nat.one_mul, Nat.mul_comm g.now.h] at this
        omega
      obtain ⟨v, hv2, a, rfl, na, h1a⟩ := Paired.get hdots (dotP_get W hN)
      have ed : g.now.at_ g.now.layer i y = dotP g.now (y * g.now.w + i) := rfl
      refine ⟨_, rfl, .inl ⟨rfl, _, SqL.of l3⟩, ?_⟩
      refine pu_ixL (n := y * g.now.w + i) pu_v pu_v (SqL.of (k3 _ _ nqL hqd.h)) rfl hv2 _ ?_
      have hlen := row_tlen (w := g.now.w) (i := i) fun x => g.now.at_ g.now.layer x y
      refine ⟨L, a, _, _, rfl, rfl, l3, k3 _ _ na h1a, szl (by simp only [List.length_map, List.length_cons, List.length_nil]; omega), ?_⟩
      refine ⟨_, rfl, Ex.mut e3 nLH, fun b o nb hb => (upd_ne nb).trans (k3 b o nb hb), (upd_ne nSL).trans s3, ?_⟩
      rw [upd_same, row_take (fun x => g.now.at_ g.now.layer x y) hi, ed]
      simp
    · rintro σ H3 ⟨x, rfl, e3, k3, s3, l3⟩
      rw [nVs_len, List.length_map, List.length_range, List.take_of_length_le (by rw [List.length_range]; exact Nat.le_refl _)] at l3
      exact ⟨_, rfl, q2 hy L H3 nLH e3 l3⟩
end
end LP
end
section
set_option maxHeartbeats 4100000
namespace LP
open PySem PySem.Spec PyProof.Rows L2 Evl LamX NdefX
open Sq50 (State Layer Dot Clip House)
section
variable {P : Program} {w : World} {K : PySem.W.Frag} {mg : Str → Option Value} {base : Heap}
/-- Desk.chosen_row(self, y) -/
def choOf (s : State) (y : Nat) : List Int := (s.w : Int) :: (List.range s.w).map fun x => if s.is x y = true then 1 else 0
def sp_Desk_chosen_row (T : Txt K mg) (Pt : Addr) : Sp := fun vs H Q E => ∃ (d y : Nat) (Z M : Addr → Prop) (rc : Addr) (g : House), vs = [.ref d, nV y] ∧ DeskAt T Pt Z M H d rc g ∧ WF g.now ∧
  (g.now.h ≤ y → Rz T.C_CannotBe (-1) H E) ∧ (y < g.now.h → RInts (choOf g.now y) H Q)
theorem ok_Desk_chosen_row (T : Txt K mg) (Pt : Addr) : FnOk P w K mg base (L2.CX P w) 5 T.Desk_chosen_row.a T.Desk_chosen_row.fd ["self", "y"] (sp_Desk_chosen_row T Pt) := by
  refine T.Desk_chosen_row.F.okX sc_Desk_chosen_row (fun vs H Q E h => ?_) (fun cdv A outer s0 H vs Q E hr h => ⟨_, (pss_one (ps_ret (pe_op op_cat (pe_lst (pa_cons (pe_fld (pe_fld (pv 0) rfl) rfl) pa_nil)) (pe_lc (own := [("place", 2)]) (g := (gName 2)) rfl sc_Desk_chosen_row.nd (pi_list (pe_meth (pv 0) T.Desk.cl T.Desk_places.m (ok_Desk_places T Pt) (hr.mono (by decide)) T.Desk_places.b .nil (passes_call (takes_of rfl rfl rfl rfl) (fun _ _ _ _ h => h)) (pa_cons (pv 1) pa_nil))) (blkOk_by (own := [("place", 2)]) (N := N_Desk_chosen_row) (sc := defScope s_Desk_chosen_row) (by decide +kernel)) (fun _ _ _ _ _ => (pg_name (i := 2) sc_Desk_chosen_row.nd rfl (by first | exact Or.inl rfl | exact Or.inr rfl))) (fun _ _ _ _ _ => pts_nil) (fun _ _ _ _ _ => (pe_ix (ix_listK (K := K) rfl) (pe_fldK (K := K) rfl (pe_fldK (K := K) rfl (pv 0) rfl) rfl) (pv 2) (fun _ _ => rfl))))))), ?_⟩)
  · obtain ⟨d, y, Z, M, rc, g, rfl, _⟩ := h
    rfl
  · obtain ⟨d, y, Z, M, rc, g, rfl, D, W, q1, q2⟩ := h
    obtain ⟨dd, p, ha, q, as, rs, hd, hp, _⟩ := id D
    obtain ⟨dx, ql, cc, hpa, hl, hch⟩ := id hp
    have c := T.Desk.cl
    have w12 := W.w12
    refine ⟨_, rfl, d, _, dd, _, _, rfl, hd, c, T.Desk.no _ (by decide), df_picture _ _ _ _ _, p, _, dx, _, _, rfl, hpa.h, T.Picture.cl, T.Picture.no _ (by decide), pf_w _ _ _, by show 1 ≤ sizeLine; decide, fun L nL => ?_⟩
    have eL := Ex.new (o := .lst [nV g.now.w]) nL
    refine ⟨_, rfl, d, dd, _, rfl, eL _ _ hd, df_m _ _ _ _ _ (by decide +kernel), paC pu_v pa0 _ ⟨d, y, Z, M, rc, g, rfl, D.ex eL, W, fun e d' H' e' h' => q1 e d' H' (eL.trans e') h', fun hy S H2 nS e2 h2 => ?_⟩⟩
    have e02 := eL.trans e2
    refine ⟨S, rfl, ⟨_, SqL.of h2⟩, fun C nC => ?_⟩
    refine lcV walk_list (fun _ => true) (fun i => bV (g.now.is i y)) (by rw [nVs_len, List.length_map, List.length_range]; omega) nC (fun H' e => SqL.of (e _ _ h2)) ?_ ?_
    · rintro i x H3 H4 R S2 hi e3 ⟨rfl, hv⟩ hR _
      rw [nVs_len, List.length_map, List.length_range] at hi
      obtain ⟨n, hn, rfl⟩ := nVs_get hv
      rw [List.getElem?_map, List.getElem?_range hi] at hn
      obtain rfl : y * g.now.w + i = n := Option.some.inj hn
      have hN : y * g.now.w + i < g.now.w * g.now.h := by
        have := Nat.mul_le_mul_right g.now.w (show y + 1 ≤ g.now.h from hy)
        rw [Nat.add_mul, Nat.one_mul, Nat.mul_comm g.now.h] at this
        omega
      have e03 := e02.trans e3
      refine ⟨rfl, ?_⟩
      refine pu_ixL (n := y * g.now.w + i) (pu_fld (pu_fld pu_v (e03 _ _ hd) c (T.Desk.no _ (by decide)) (df_picture _ _ _ _ _)) (e03 _ _ hpa.h) T.Picture.cl (T.Picture.no _ (by decide)) (pf_chosen _ _ _)) pu_v (SqL.of (e03 _ _ hch.h)) rfl ?_ _ (hR rfl _ (Ex.refl _))
      show (bVs g.now.chosen)[y * g.now.w + i]? = some (bV ((g.now.chosen[y * g.now.w + i]?).getD false))
      unfold bVs
      rw [List.getElem?_map, List.getElem?_eq_getElem (by rw [W.ch]; exact hN)]
      rfl
    · intro H3 e3 h3
      rw [given_all, nVs_len, List.length_map, List.length_range] at h3
      have e03 := e02.trans e3
      refine ⟨L, C, _, _, rfl, rfl, e3 _ _ (e2 _ _ upd_same), h3, szl (by simp only [List.length_map, List.length_cons, List.length_nil, List.length_range]; omega), fun r nr => ?_⟩
      refine q2 hy r _ (e03.back nr) (e03.trans (Ex.new nr)) ?_
      rw [upd_same]
      congr 2
      unfold choOf
      rw [List.map_cons, List.map_map]
      show [nV g.now.w] ++ _ = _
      rw [List.singleton_append]
      congr 1
      refine List.map_congr_left fun x _ => ?_  -- own
      show bV (g.now.is x y) = V.int (if g.now.is x y = true then 1 else 0)
      cases g.now.is x y <;> rfl
/-- Desk.listed(self) -/
def lisOf (s : State) : List Int := (s.on : Int) :: (s.w : Int) :: (s.h : Int) :: (s.layers.length : Int) :: s.layers.flatMap fun l => [(l.id : Int), ((if l.seen = true then 1 else 0 : Nat) : Int), (l.strong : Int), (l.way : Int)]
def sp_Desk_listed (T : Txt K mg) (Pt : Addr) : Sp := fun vs H Q E => ∃ (d : Addr) (Z M : Addr → Prop) (rc : Addr) (g : House), vs = [.ref d] ∧ DeskAt T Pt Z M H d rc g ∧ WF g.now ∧ RInts (lisOf g.now) H Q
theorem lis_take {ls : List Layer} {i : Nat} {l : Layer} (h : ls[i]? = some l) : (ls.take (i + 1)).flatMap (fun l => [(l.id : Int), ((if l.seen = true then 1 else 0 : Nat) : Int), (l.strong : Int), (l.way : Int)]) = (ls.take i).flatMap (fun l => [(l.id : Int), ((if l.seen = true then 1 else 0 : Nat) : Int), (l.strong : Int), (l.way : Int)]) ++ [(l.id : Int), ((if l.seen = true then 1 else 0 : Nat) : Int), (l.strong : Int), (l.way : Int)] := by
  rw [List.take_add_one, h, List.flatMap_append]
  simp
theorem lis_len {ls : List Layer} {i : Nat} : ((ls.take i).flatMap (fun l => [(l.id : Int), ((if l.seen = true then 1 else 0 : Nat) : Int), (l.strong : Int), (l.way : Int)])).length ≤ 4 * ls.length := by
  rw [List.length_flatMap]
  have : (ls.take i).map (fun l => ([(l.id : Int), ((if l.seen = true then 1 else 0 : Nat) : Int), (l.strong : Int), (l.way : Int)] : List Int).length) = (ls.take i).map fun _ => 4 := rfl
  rw [this, List.map_const', List.sum_replicate_nat, List.length_take]
  have : min i ls.length * 4 ≤ ls.length * 4 := Nat.mul_le_mul_right _ (Nat.min_le_right ..)
  omega
theorem ok_Desk_listed (T : Txt K mg) (Pt : Addr) : FnOk P w K mg base CX0 1 T.Desk_listed.a T.Desk_listed.fd ["self"] (sp_Desk_listed T Pt) := by
  refine T.Desk_listed.F.ok sc_Desk_listed (fun vs H Q E h => ?_) (fun cdv A outer s0 H vs Q E hr h => ⟨_, (pss_cons (ps_set (i := 1) sc_Desk_listed.nd rfl (by first | exact Or.inl rfl | exact Or.inr rfl) (pe_fld (pv 0) rfl))
  (pss_cons (ps_set (i := 2) sc_Desk_listed.nd rfl (by first | exact Or.inl rfl | exact Or.inr rfl) (pe_lst (pa_cons (pe_fld (pv 1) rfl) (pa_cons (pe_fld (pv 1) rfl) (pa_cons (pe_fld (pv 1) rfl) (pa_cons (pe_callB call_len_seq (by rfl) (T.nb "len" (by decide)) (by decide +kernel) (pa_cons (pe_fld (pv 1) rfl) pa_nil)) pa_nil))))))
  (pss_cons (ps_for PassesOwn.never rfl (pi_list (pe_fld (pv 1) rfl)) (pg_name (i := 3) sc_Desk_listed.nd rfl (by first | exact Or.inl rfl | exact Or.inr rfl))
  (pss_one (ps_expr (pe_bm PySem.F.plainAttrs_list PySem.F.slot_list_extend PySem.F.type_list_extend mt_extend (pv 2) (pa_cons (pe_lst (pa_cons (pe_fld (pv 3) rfl) (pa_cons (pe_fld (pv 3) rfl) (pa_cons (pe_fld (pv 3) rfl) (pa_cons (pe_fld (pv 3) rfl) pa_nil))))) pa_nil)))))
  (pss_one (ps_ret (pv 2)))))), ?_⟩)
  · obtain ⟨d, Z, M, rc, g, rfl, _⟩ := h
    rfl
  · obtain ⟨d, Z, M, rc, g, rfl, D, W, q2⟩ := h
    obtain ⟨dd, p, ha, q, as, rs, hd, hp, _⟩ := id D
    obtain ⟨dx, ql, cc, hpa, ⟨ls, hql, prl⟩, hch⟩ := id hp
    have hll := Paired.len prl
    have n5 := W.n5
    have c := T.Desk.cl
    have pc := T.Picture.cl
    refine s_set (pu_fld pu_v hd c (T.Desk.no _ (by decide)) (df_picture _ _ _ _ _)) ?_
    refine ⟨_, rfl, p, _, dx, _, _, rfl, hpa.h, pc, T.Picture.no _ (by decide), pf_worked _ _ _, _, rfl, p, _, dx, _, _, rfl, hpa.h, pc, T.Picture.no _ (by decide), pf_w _ _ _, _, rfl, p, _, dx, _, _, rfl, hpa.h, pc, T.Picture.no _ (by decide), pf_h _ _ _, _, rfl, p, _, dx, _, _, rfl, hpa.h, pc, T.Picture.no _ (by decide), pf_layers _ _ _, ql, _, rfl, .inl (SqL.of hql.h), by show 4 ≤ sizeLine; decide, fun L nL => ?_⟩
    have eL := Ex.new (o := .lst [nV g.now.on, nV g.now.w, nV g.now.h, .int (ls.length : Nat)]) nL
    have nqL : ql ≠ L := ne_of_none hql.h nL
    refine ⟨_, rfl, p, _, dx, _, _, rfl, eL _ _ hpa.h, pc, T.Picture.no _ (by decide), pf_layers _ _ _, ql, rfl, ⟨_, SqL.of (eL _ _ hql.h)⟩, ?_⟩
    refine for_it walk_list (fun i σ H' => ∃ x, σ = [some (.ref d), some (.ref p), some (.ref L), x] ∧ Ex H H' ∧ H' L = some (.lst (((g.now.on : Int) :: (g.now.w : Int) :: (g.now.h : Int) :: (g.now.layers.length : Int) :: (g.now.layers.take i).flatMap fun l => [(l.id : Int), ((if l.seen = true then 1 else 0 : Nat) : Int), (l.strong : Int), (l.way : Int)]).map V.int)))
      ⟨none, rfl, eL, by rw [upd_same, hll]; rfl⟩ (fun i σ H' _ ⟨_, _, e, _⟩ => SqL.of (e _ _ hql.h)) ?_ ?_
    · rintro i v σ H3 H4 hi ⟨x, rfl, e3, l3⟩ ⟨rfl, hv⟩
      obtain ⟨l, hl, hla⟩ := Paired.get' prl hv
      obtain ⟨a, da, qa, rfl, hla, _⟩ := hla.keep (e3.keep Z)
      have lc := T.Layer.cl
      refine ⟨_, rfl, .inl ⟨rfl, _, SqL.of l3⟩, ?_⟩
      refine ⟨_, rfl, a, _, da, _, _, rfl, hla.h, lc, T.Layer.no _ (by decide), lf_number _ _, _, rfl, a, _, da, _, _, rfl, hla.h, lc, T.Layer.no _ (by decide), lf_seen _ _, _, rfl, a, _, da, _, _, rfl, hla.h, lc, T.Layer.no _ (by decide), lf_strong _ _, _, rfl, a, _, da, _, _, rfl, hla.h, lc, T.Layer.no _ (by decide), lf_way _ _, by show 4 ≤ sizeLine; decide, fun r nr => ?_⟩
      have er := Ex.new (o := .lst [nV l.id, bV l.seen, nV l.strong, nV l.way]) nr
      have hlen := lis_len (ls := g.now.layers) (i := i)
      refine ⟨L, r, _, _, rfl, rfl, er _ _ l3, upd_same, szl (by simp only [List.length_map, List.length_cons, List.length_nil]; omega), ?_⟩
      refine ⟨_, rfl, Ex.mut (e3.trans er) nL, ?_⟩
      rw [upd_same, lis_take hl]
      congr 2
      rw [show bV l.seen = nV (if l.seen = true then 1 else 0) by cases l.seen <;> rfl]
      simp only [List.map_cons, List.map_append, List.cons_append, List.map_nil]
    · rintro σ H3 ⟨x, rfl, e3, l3⟩
      rw [hll, List.take_length] at l3
      exact ⟨_, rfl, q2 L H3 nL e3 l3⟩
/-- Desk.history_told(self) -/
def sp_Desk_history_told (T : Txt K mg) (Pt : Addr) : Sp := fun vs H Q E => ∃ (d : Addr) (Z M : Addr → Prop) (rc : Addr) (g : House), vs = [.ref d] ∧ DeskAt T Pt Z M H d rc g ∧ RInts [(g.past.length : Int), (costs g.past : Int), (g.future.length : Int), (g.kept.length : Int)] H Q
theorem ok_Desk_history_told (T : Txt K mg) (Pt : Addr) : FnOk P w K mg base CX0 1 T.Desk_history_told.a T.Desk_history_told.fd ["self"] (sp_Desk_history_told T Pt) := by
  refine T.Desk_history_told.F.ok sc_Desk_history_told (fun vs H Q E h => ?_) (fun cdv A outer s0 H vs Q E hr h => ⟨_, (pss_cons (ps_set (i := 1) sc_Desk_history_told.nd rfl (by first | exact Or.inl rfl | exact Or.inr rfl) (pe_fld (pv 0) rfl))
  (pss_one (ps_ret (pe_lst (pa_cons (pe_callB call_len_seq (by rfl) (T.nb "len" (by decide)) (by decide +kernel) (pa_cons (pe_fld (pv 1) rfl) pa_nil)) (pa_cons (pe_fld (pv 1) rfl) (pa_cons (pe_callB call_len_seq (by rfl) (T.nb "len" (by decide)) (by decide +kernel) (pa_cons (pe_fld (pv 1) rfl) pa_nil)) (pa_cons (pe_callB call_len_seq (by rfl) (T.nb "len" (by decide)) (by decide +kernel) (pa_cons (pe_fld (pv 0) rfl) pa_nil)) pa_nil)))))))), ?_⟩)
  · obtain ⟨d, Z, M, rc, g, rfl, _⟩ := h
    rfl
  · obtain ⟨d, Z, M, rc, g, rfl, D, q2⟩ := h
    obtain ⟨dd, p, hA, q, as, rs, hd, hp, ⟨dx, k, u, ks, us, ha, hk, hu, pk, pu, ma, mk, mu, nku⟩, hq, hc, hr, pr, _⟩ := id D
    have c := T.Desk.cl
    have hc' := T.History.cl
    have hkl := Paired.len pk
    have hul := Paired.len pu
    have hrl := Paired.len pr
    rw [List.length_reverse] at hkl hul
    refine s_set (pu_fld pu_v hd c (T.Desk.no _ (by decide)) (df_history _ _ _ _ _)) ?_
    refine ⟨_, rfl, hA, _, dx, _, _, rfl, ha, hc', T.History.no _ (by decide), hf_kept _ _ _ _, k, _, rfl, .inl (SqL.of hk), _, rfl, hA, _, dx, _, _, rfl, ha, hc', T.History.no _ (by decide), hf_spent _ _ _ _, _, rfl, hA, _, dx, _, _, rfl, ha, hc', T.History.no _ (by decide), hf_undone _ _ _ _, u, _, rfl, .inl (SqL.of hu), _, rfl, d, _, dd, _, _, rfl, hd, c, T.Desk.no _ (by decide), df_recorded _ _ _ _ _, rc, _, rfl, .inl (SqL.of hr), by show 4 ≤ sizeLine; decide, fun L nL => q2 L _ nL (Ex.new nL) ?_⟩
    rw [upd_same, hkl, hul, hrl]
    rfl
end
end LP
end
section
set_option maxHeartbeats 4100000
namespace LP
open PySem PySem.Spec PyProof.Rows L2 Evl LamX NdefX
open Sq50 (State Layer Dot Clip House)
section
variable {P : Program} {w : World} {K : PySem.W.Frag} {mg : Str → Option Value} {base : Heap}
theorem aside_stp {Pt : Addr} {Z Z' M M' : Addr → Prop} {H H' : Hp} {a : Addr} {as : List (Nat × Nat × Dot)} (st : Stp Pt Z M H Z' M' H') (ap : ∀ x, M x → ¬ Z x) (h : AsideAt Z H a as) : AsideAt Z' H' a as := (h.imp st.sub).keep (st.keepZ ap)
/-- behind a step that left the deeds recorded -/
theorem rc_stp {Pt : Addr} {Z Z' M M' : Addr → Prop} {H H' : Hp} {rc : Addr} {rs : List V} (st : Stp Pt Z M H Z' M' H') (hr : H rc = some (.lst rs)) (nr : ¬ M rc) (zr : ¬ Z rc) : H' rc = some (.lst rs) ∧ ¬ M' rc ∧ ¬ Z' rc :=
  ⟨st.keep _ _ nr hr, (fun m => (st.new _ m).elim nr (fun z => absurd (hr.symm.trans z) (by simp))), fun z => zr (st.le _ z)⟩
theorem count_some {α : Type} : ∀ (l : List Nat) (f : Nat → Bool) (v : Nat → α), ((l.map fun p => if f p = true then some (v p) else none).filter fun d => d.isSome).length = (l.filter f).length
  | [], _, _ => rfl
  | a :: l, f, v => by
    rw [List.map_cons, List.filter_cons, List.filter_cons]
    cases h : f a with
    | true => simp [count_some l f v]
    | false => simp [count_some l f v]
theorem lift_count {s : State} (W : WF s) : (s.copied.dots.filter fun d => d.isSome).length = (liftL s).length := by
  unfold Sq50.State.copied
  show ((s.cells.map fun c => if s.may c.1 c.2 = true then some (s.at_ s.layer c.1 c.2) else none).filter fun d => d.isSome).length = _
  rw [cells_map W, count_some (List.range (s.w * s.h)) (fun p => s.may (p % s.w) (p / s.w)) (fun p => s.at_ s.layer (p % s.w) (p / s.w))]
  unfold liftL
  rw [List.length_map]
  congr 1
  refine List.filter_congr fun p hp => ?_  -- own
  rw [may_p W (List.mem_range.mp hp)]
  rfl
theorem HisAt.upd {T : Txt K mg} {Z M : Addr → Prop} {H : Hp} {a d C dx : Addr} {b : Nat} {pa fu : List (State × Nat)} {fs : List (Str × V)} {o' : HO} (h : HisAt T Z M H a b pa fu) (hd : H d = some (.ins C dx fs)) (nd : d ≠ a) (nz : ¬ Z d) : HisAt T Z M (L2.upd H d o') a b pa fu := by
  obtain ⟨dx, k, u, ks, us, ha, hk, hu, pk, pu, ma, mk, mu, nku⟩ := h
  have kp : Keep Z H (L2.upd H d o') := fun x o z hx => (upd_ne (fun e : x = d => nz (e ▸ z))).trans hx
  exact ⟨dx, k, u, ks, us, (upd_ne nd.symm).trans ha, (upd_ne (ne_of hk hd (by intro z; cases z))).trans hk, (upd_ne (ne_of hu hd (by intro z; cases z))).trans hu, Paired.imp (fun _ _ z => z.keep kp) pk, Paired.imp (fun _ _ z => z.keep kp) pu, ma, mk, mu, nku⟩
/-! the history's part of what a desk may change -/
section
variable {T : Txt K mg} {Pt : Addr} {Z Z' M M' : Addr → Prop} {H H' : Hp} {a d C dx : Addr} {b : Nat} {pa fu : List (State × Nat)} {fs : List (Str × V)}
theorem HisAt.but (h : HisAt T Z M H a b pa fu) (hd : H d = some (.ins C dx fs)) (nd : d ≠ a) : HisAt T Z (fun x => M x ∧ x ≠ d) H a b pa fu := by
  obtain ⟨dx, k, u, ks, us, ha, hk, hu, pk, pu, ma, mk, mu, nku⟩ := h
  exact ⟨dx, k, u, ks, us, ha, hk, hu, pk, pu, ⟨ma, nd.symm⟩, ⟨mk, ne_of hk hd (by intro z; cases z)⟩, ⟨mu, ne_of hu hd (by intro z; cases z)⟩, nku⟩
theorem HisAt.wide (h : HisAt T Z M H a b pa fu) : HisAt T Z (fun x => M x ∨ x = d) H a b pa fu := by
  obtain ⟨dx, k, u, ks, us, ha, hk, hu, pk, pu, ma, mk, mu, nku⟩ := h
  exact ⟨dx, k, u, ks, us, ha, hk, hu, pk, pu, .inl ma, .inl mk, .inl mu, nku⟩
theorem Ground.but (g : Ground Pt Z M H) (hd : H d = some (.ins C dx fs)) : Ground Pt Z (fun x => M x ∧ x ≠ d) H := ⟨g.free, fun x m => g.apart x m.1, fun x m => g.has x m.1, g.tab, g.mp, fun z => by
  obtain ⟨ps, h, _⟩ := g.tab
  rw [z, hd] at h
  cases h⟩
theorem Ground.wide (g : Ground Pt Z M H) (nz : ¬ Z d) (nn : H d ≠ none) : Ground Pt Z (fun x => M x ∨ x = d) H := ⟨g.free, fun x m => m.elim (g.apart x) fun e => e ▸ nz, fun x m => m.elim (g.has x) fun e => e ▸ nn, g.tab, .inl g.mp⟩
theorem Stp.but (st : Stp Pt Z (fun x => M x ∧ x ≠ d) H Z' M' H') (md : M d) : Stp Pt Z M H Z' (fun x => M' x ∨ x = d) H' where
  keep x o n h := st.keep x o (fun m => n m.1) h
  new x m := m.elim (fun m => (st.new x m).elim (fun z => .inl z.1) .inr) fun e => .inl (e ▸ md)
  old x m := by
    by_cases e : x = d
    · exact .inr e
    · exact .inl (st.old x ⟨m, e⟩)
  sub := st.sub
  le := st.le
  back := st.back
  free := st.free
  tab := st.tab
  apart p x m z := m.elim (fun m => st.apart (fun y hy => p y hy.1) x m z) fun e => p x (e ▸ md) (st.le x z)
end
/-- Desk.copy_dots(self) -/
def sp_Desk_copy_dots (T : Txt K mg) (Pt : Addr) : Sp := fun vs H Q E => ∃ (d : Addr) (Z M : Addr → Prop) (rc : Addr) (g : House), vs = [.ref d] ∧ DeskAt T Pt Z M H d rc g ∧ WF g.now ∧ DRes T Pt Z M H d rc Q { g with clip := some g.now.copied } [((g.now.copied.dots.filter fun d => d.isSome).length : Int)]
theorem ok_Desk_copy_dots (T : Txt K mg) (Pt : Addr) : FnOk P w K mg base CX0 8 T.Desk_copy_dots.a T.Desk_copy_dots.fd ["self"] (sp_Desk_copy_dots T Pt) := by
  refine T.Desk_copy_dots.F.ok sc_Desk_copy_dots (fun vs H Q E h => ?_) (fun cdv A outer s0 H vs Q E hr h => ⟨_, (pss_cons (ps_fld (pv 0) (pe_call (ok_lifted T) (hr.mono (by decide)) (by rfl) T.lifted.g T.lifted.F.kp T.lifted.b .nil pass0 (pa_cons (pe_fld (pv 0) rfl) pa_nil)) rfl)
  (pss_one (ps_ret (pe_lst (pa_cons (pe_callB call_len_seq (by rfl) (T.nb "len" (by decide)) (by decide +kernel) (pa_cons (pe_fld (pv 0) rfl) pa_nil)) pa_nil))))), ?_⟩)
  · obtain ⟨d, Z, M, rc, g, rfl, _⟩ := h
    rfl
  · obtain ⟨d, Z, M, rc, g, rfl, ⟨dd, p, hA, q, as, rs, hd, hp, hh, hq, hc, hr, pr, md, nd, nr, zr, G⟩, W, k⟩ := h
    have c := T.Desk.cl
    refine c_call (paC (pu_fld pu_v hd c (T.Desk.no _ (by decide)) (df_picture _ _ _ _ _)) pa0) ⟨p, Z, g.now, rfl, hp, W, G.free, fun q' H1 nq e1 h1 => ?_⟩
    refine ⟨_, rfl, d, _, dd, _, rfl, e1 _ _ hd, c, T.Desk.no _ (by decide), df_few _ _ _ _ _, ?_⟩
    rw [desk_aside]
    have st1 : Stp Pt Z M H Z M H1 := Stp.ex e1
    have st2 := st1.trans (Stp.upd (Pt := Pt) (Z := Z) (M := M) (o' := .ins T.Desk.a dd (deskF p hA q' g.recording rc)) md (e1 _ _ hd) trivial)
    have G2 := (G.ex e1).upd (o' := .ins T.Desk.a dd (deskF p hA q' g.recording rc)) md (e1 _ _ hd) trivial
    obtain ⟨vs1, hq1, pr1⟩ := id h1
    have nqd : q' ≠ d := (ne_of_none hd nq).symm
    have hl1 := Paired.len pr1
    refine ⟨_, rfl, d, _, dd, _, _, rfl, upd_same, c, T.Desk.no _ (by decide), df_aside _ _ _ _ _, q', _, rfl, .inl (SqL.of ((upd_ne nqd).trans hq1.h)), by show 1 ≤ sizeLine; decide, fun L nL => ?_⟩
    have eL := Ex.new (o := .lst [V.int (vs1.length : Nat)]) nL
    have st3 := st2.trans (Stp.ex eL)
    obtain ⟨hr3, nr3, zr3⟩ := rc_stp st3 hr nr zr
    have kpd : Keep Z H1 (upd H1 d (.ins T.Desk.a dd (deskF p hA q' g.recording rc))) := fun a o z ha => (upd_ne (fun e : a = d => G.apart d md (e ▸ z))).trans ha
    refine k L Z M rc _ (e1.back (none_upd nL)) st3.out ⟨dd, p, hA, q', liftL g.now, rs, eL _ _ upd_same, pic_stp st3 G.apart hp, ?_, (h1.keep kpd).keep (eL.keep Z), .inr ⟨g.now, W, rfl, rfl⟩, hr3, Paired.imp (fun _ _ z => z.stp st3 G.apart) pr, md, nd, nr3, zr3, G2.ex eL⟩ ?_
    · exact ((hh.ex e1).upd (e1 _ _ hd) nd (G.apart d md)).ex eL
    · rw [upd_same, hl1, lift_count W]
      rfl
/-- Desk.start_recording(self) -/
def sp_Desk_start_recording (T : Txt K mg) (Pt : Addr) : Sp := fun vs H Q E => ∃ (d : Addr) (Z M : Addr → Prop) (rc : Addr) (g : House), vs = [.ref d] ∧ DeskAt T Pt Z M H d rc g ∧ DRes T Pt Z M H d rc Q { g with recording := true, kept := [] } [0]
theorem ok_Desk_start_recording (T : Txt K mg) (Pt : Addr) : FnOk P w K mg base CX0 1 T.Desk_start_recording.a T.Desk_start_recording.fd ["self"] (sp_Desk_start_recording T Pt) := by
  refine T.Desk_start_recording.F.ok sc_Desk_start_recording (fun vs H Q E h => ?_) (fun cdv A outer s0 H vs Q E hr h => ⟨_, (pss_cons (ps_fld (pv 0) pe_bl rfl)
  (pss_cons (ps_fld (pv 0) (pe_lst pa_nil) rfl)
  (pss_one (ps_ret (pe_lst (pa_cons pe_int pa_nil)))))), ?_⟩)
  · obtain ⟨d, Z, M, rc, g, rfl, _⟩ := h
    rfl
  · obtain ⟨d, Z, M, rc, g, rfl, ⟨dd, p, hA, q, as, rs, hd, hp, hh, hq, hc, hr, pr, md, nd, nr, zr, G⟩, k⟩ := h
    have c := T.Desk.cl
    have nz := G.apart d md
    refine ⟨_, rfl, d, _, dd, _, rfl, hd, c, T.Desk.no _ (by decide), df_few _ _ _ _ _, ?_⟩
    rw [desk_recording]
    have st1 : Stp Pt Z M H Z M (upd H d (.ins T.Desk.a dd (deskF p hA q true rc))) := Stp.upd md hd trivial
    have G1 := G.upd (o' := .ins T.Desk.a dd (deskF p hA q true rc)) md hd trivial
    refine ⟨Nat.zero_le _, fun rc' n' => ?_⟩
    have e2 := Ex.new (o := .lst []) n'
    refine ⟨_, rfl, d, _, dd, _, rfl, e2 _ _ upd_same, c, T.Desk.no _ (by decide), df_few _ _ _ _ _, ?_⟩
    rw [desk_recorded]
    have ndr : d ≠ rc' := ne_of_none (o := .ins T.Desk.a dd (deskF p hA q true rc)) upd_same n'
    have nH : H rc' = none := none_upd n'
    have st2 := (st1.trans (Stp.ex e2)).trans (Stp.upd (Pt := Pt) (Z := Z) (M := M) (o' := .ins T.Desk.a dd (deskF p hA q true rc')) md (e2 _ _ upd_same) trivial)
    have G2 := (G1.ex e2).upd (o' := .ins T.Desk.a dd (deskF p hA q true rc')) md (e2 _ _ upd_same) trivial
    refine ⟨by show 1 ≤ sizeLine; decide, fun L nL => ?_⟩
    have eL := Ex.new (o := .lst [V.int 0]) nL
    have st3 := st2.trans (Stp.ex eL)
    have G3 := G2.ex eL
    generalize eH3 : upd (upd (upd (upd H d (.ins T.Desk.a dd (deskF p hA q true rc))) rc' (.lst [])) d (.ins T.Desk.a dd (deskF p hA q true rc'))) L (.lst [V.int 0]) = H3 at st3 G3
    have h3r : H3 rc' = some (.lst []) := by rw [← eH3]; exact eL _ _ ((upd_ne ndr.symm).trans upd_same)
    have h3d : H3 d = some (.ins T.Desk.a dd (deskF p hA q true rc')) := by rw [← eH3]; exact eL _ _ upd_same
    have nM : ¬ M rc' := fun m => G.has _ m nH
    -- what is aside of the new list
    have im : ∀ x, Z x → H x ≠ none → But Z rc' x := fun x z n => ⟨z, fun e => n (e ▸ nH)⟩
    have kp : Keep (But Z rc') H H3 := fun x o z h => st3.keep x o (fun m => G.apart x m z.1) h
    have out : DStp Z M rc H (But Z rc') M rc' H3 := ⟨fun x o n _ h => st3.keep x o n h, fun x h => h.elim .inl fun z => .inr (.inr (z ▸ nH)), fun _ z => z.1, st3.back⟩
    have hh3 : HisAt T (But Z rc') M H3 hA g.budget g.past g.future := by
      obtain ⟨dx, kk, u, ks, us, ha, hk, hu, pk, pu, ma, mk, mu, nku⟩ := hh
      have g1 : ∀ x o, x ≠ d → H x = some o → H3 x = some o := fun x o nx hx => by rw [← eH3]; exact eL _ _ ((upd_ne nx).trans (e2 _ _ ((upd_ne nx).trans hx)))
      exact ⟨dx, kk, u, ks, us, g1 _ _ nd.symm ha, g1 _ _ (ne_of hk hd (by intro z; cases z)) hk, g1 _ _ (ne_of hu hd (by intro z; cases z)) hu, Paired.imp (fun _ _ z => (z.imp im).keep kp) pk, Paired.imp (fun _ _ z => (z.imp im).keep kp) pu, ma, mk, mu, nku⟩
    refine k L (But Z rc') M rc' H3 (none_upd (none_upd (none_upd nL))) out ⟨dd, p, hA, q, as, [], h3d, (hp.imp im).keep kp, hh3, (hq.imp im).keep kp, hc, h3r, .nil, md, nd, nM, fun z => z.2 rfl, ⟨fun x hx => ⟨G3.free x hx, fun e => ?_⟩, fun x m z => G3.apart x m z.1, G3.has, G3.tab, G3.mp⟩⟩ (by rw [← eH3, upd_same]; rfl)
    rw [e, h3r] at hx
    cases hx
/-- Desk.stop_recording(self) -/
def sp_Desk_stop_recording (T : Txt K mg) (Pt : Addr) : Sp := fun vs H Q E => ∃ (d : Addr) (Z M : Addr → Prop) (rc : Addr) (g : House), vs = [.ref d] ∧ DeskAt T Pt Z M H d rc g ∧ DRes T Pt Z M H d rc Q { g with recording := false } [(g.kept.length : Int)]
theorem ok_Desk_stop_recording (T : Txt K mg) (Pt : Addr) : FnOk P w K mg base CX0 1 T.Desk_stop_recording.a T.Desk_stop_recording.fd ["self"] (sp_Desk_stop_recording T Pt) := by
  refine T.Desk_stop_recording.F.ok sc_Desk_stop_recording (fun vs H Q E h => ?_) (fun cdv A outer s0 H vs Q E hr h => ⟨_, (pss_cons (ps_fld (pv 0) pe_bl rfl)
  (pss_one (ps_ret (pe_lst (pa_cons (pe_callB call_len_seq (by rfl) (T.nb "len" (by decide)) (by decide +kernel) (pa_cons (pe_fld (pv 0) rfl) pa_nil)) pa_nil))))), ?_⟩)
  · obtain ⟨d, Z, M, rc, g, rfl, _⟩ := h
    rfl
  · obtain ⟨d, Z, M, rc, g, rfl, ⟨dd, p, hA, q, as, rs, hd, hp, hh, hq, hc, hr, pr, md, nd, nr, zr, G⟩, k⟩ := h
    have c := T.Desk.cl
    have hrl := Paired.len pr
    refine ⟨_, rfl, d, _, dd, _, rfl, hd, c, T.Desk.no _ (by decide), df_few _ _ _ _ _, ?_⟩
    rw [desk_recording]
    have st1 : Stp Pt Z M H Z M (upd H d (.ins T.Desk.a dd (deskF p hA q false rc))) := Stp.upd md hd trivial
    have G1 := G.upd (o' := .ins T.Desk.a dd (deskF p hA q false rc)) md hd trivial
    obtain ⟨hr1, nr1, zr1⟩ := rc_stp st1 hr nr zr
    refine ⟨_, rfl, d, _, dd, _, _, rfl, upd_same, c, T.Desk.no _ (by decide), df_recorded _ _ _ _ _, rc, _, rfl, .inl (SqL.of hr1), by show 1 ≤ sizeLine; decide, fun L nL => ?_⟩
    have eL := Ex.new (o := .lst [V.int (rs.length : Nat)]) nL
    have st3 := st1.trans (Stp.ex eL)
    obtain ⟨hr3, nr3, zr3⟩ := rc_stp st3 hr nr zr
    refine k L Z M rc _ (none_upd nL) st3.out ⟨dd, p, hA, q, as, rs, eL _ _ upd_same, pic_stp st3 G.apart hp, (hh.upd hd nd (G.apart d md)).ex eL, aside_stp st3 G.apart hq, hc, hr3, Paired.imp (fun _ _ z => z.stp st3 G.apart) pr, md, nd, nr3, zr3, G1.ex eL⟩ ?_
    rw [upd_same, hrl]
    rfl
/-- Desk.undo(self) -/
def sp_Desk_undo (T : Txt K mg) (Pt : Addr) : Sp := fun vs H Q E => ∃ (d : Addr) (Z M : Addr → Prop) (rc : Addr) (g : House), vs = [.ref d] ∧ DeskAt T Pt Z M H d rc g ∧ g.future.length ≤ 2000000 ∧
  (g.past = [] → Rz T.C_NotNow (-6) H E) ∧ ∀ x l, g.past = x :: l → DRes T Pt Z M H d rc Q { g with now := x.1, past := l, future := (g.now, x.2) :: g.future } [(l.length : Int), ((g.future.length + 1 : Nat) : Int)]
theorem ok_Desk_undo (T : Txt K mg) (Pt : Addr) : FnOk P w K mg base (L2.CX P w) 5 T.Desk_undo.a T.Desk_undo.fd ["self"] (sp_Desk_undo T Pt) := by
  refine T.Desk_undo.F.okX sc_Desk_undo (fun vs H Q E h => ?_) (fun cdv A outer s0 H vs Q E hr h => ⟨_, (pss_cons (ps_fld (pv 0) (pe_meth (pe_fld (pv 0) rfl) T.History.cl T.History_step_back.m (ok_History_step_back T Pt) (hr.mono (by decide)) T.History_step_back.b .nil (passes_call (takes_of rfl rfl rfl rfl) (fun _ _ _ _ h => h)) (pa_cons (pe_fld (pv 0) rfl) pa_nil)) rfl)
  (pss_one (ps_ret (pe_meth0 (pe_fld (pv 0) rfl) T.History.cl T.History_counts.m (ok_History_counts T) (hr.mono (by decide)) T.History_counts.b .nil pass0)))), ?_⟩)
  · obtain ⟨d, Z, M, rc, g, rfl, _⟩ := h
    rfl
  · obtain ⟨d, Z, M, rc, g, rfl, ⟨dd, p, hA, q, as, rs, hd, hp, hh, hq, hc, hr, pr, md, nd, nr, zr, G⟩, hfl, k1, k2⟩ := h
    have c := T.Desk.cl
    obtain ⟨dx, kk, u, ks, us, ha, _⟩ := id hh
    refine ⟨_, rfl, d, _, dd, _, _, rfl, hd, c, T.Desk.no _ (by decide), df_history _ _ _ _ _, hA, dx, _, rfl, ha, hf_m _ _ _ _ (by decide +kernel), ?_⟩
    refine (paC (pu_fld pu_v hd c (T.Desk.no _ (by decide)) (df_picture _ _ _ _ _)) pa0) _ ⟨hA, p, Z, _, g.budget, g.past, g.future, g.now, rfl, hh.but hd nd, G.but hd, hp, hfl, k1, fun x l e q1 Z1 M1 H1 st1 G1 h1 hp1 => ?_⟩
    have h1d : H1 d = some (.ins T.Desk.a dd (deskF p hA q g.recording rc)) := st1.keep d _ (fun m => m.2 rfl) hd
    have stW := st1.but md
    have nz1 : ¬ Z1 d := fun z => G.apart d md (st1.le d z)
    have GW := G1.wide nz1 (by rw [h1d]; intro z; cases z)
    have md1 : (fun x => M1 x ∨ x = d) d := .inr rfl
    refine ⟨_, rfl, d, _, dd, _, rfl, h1d, c, T.Desk.no _ (by decide), df_few _ _ _ _ _, ?_⟩
    rw [desk_picture]
    have st2 := stW.trans (Stp.upd (Pt := Pt) (Z := Z1) (M := fun x => M1 x ∨ x = d) (o' := .ins T.Desk.a dd (deskF q1 hA q g.recording rc)) md1 h1d trivial)
    have G2 := GW.upd (o' := .ins T.Desk.a dd (deskF q1 hA q g.recording rc)) md1 h1d trivial
    have hh2 : HisAt T Z1 (fun x => M1 x ∨ x = d) (upd H1 d (.ins T.Desk.a dd (deskF q1 hA q g.recording rc))) hA g.budget l ((g.now, x.2) :: g.future) := (h1.wide (d := d)).upd h1d nd nz1
    obtain ⟨dx2, k2', u2, ks2, us2, ha2, _⟩ := id hh2
    refine ⟨_, rfl, d, _, dd, _, _, rfl, upd_same, c, T.Desk.no _ (by decide), df_history _ _ _ _ _, hA, dx2, _, rfl, ha2, hf_m _ _ _ _ (by decide +kernel), hA, Z1, _, g.budget, l, (g.now, x.2) :: g.future, rfl, hh2, fun L H3 nL e3 h3 => ?_⟩
    have st3 := st2.trans (Stp.ex e3)
    obtain ⟨hr3, nr3, zr3⟩ := rc_stp st3 hr nr zr
    have kpd : Keep Z1 H1 (upd H1 d (.ins T.Desk.a dd (deskF q1 hA q g.recording rc))) := fun a o z ha => (upd_ne (fun e : a = d => nz1 (e ▸ z))).trans ha
    exact k2 x l e L Z1 _ rc H3 (st2.back L nL) st3.out ⟨dd, q1, hA, q, as, rs, e3 _ _ upd_same, (hp1.keep kpd).keep (e3.keep Z1), hh2.ex e3, aside_stp st3 G.apart hq, hc, hr3, Paired.imp (fun _ _ z => z.stp st3 G.apart) pr, md1, nd, nr3, zr3, G2.ex e3⟩ h3
/-- Desk.redo(self) -/
def sp_Desk_redo (T : Txt K mg) (Pt : Addr) : Sp := fun vs H Q E => ∃ (d : Addr) (Z M : Addr → Prop) (rc : Addr) (g : House), vs = [.ref d] ∧ DeskAt T Pt Z M H d rc g ∧ g.past.length ≤ 2000000 ∧
  (g.future = [] → Rz T.C_NotNow (-6) H E) ∧ ∀ x l, g.future = x :: l → DRes T Pt Z M H d rc Q { g with now := x.1, past := Sq50.room g.budget ((g.now, x.2) :: g.past), future := l } [((Sq50.room g.budget ((g.now, x.2) :: g.past)).length : Int), (l.length : Int)]
theorem ok_Desk_redo (T : Txt K mg) (Pt : Addr) : FnOk P w K mg base (L2.CX P w) 5 T.Desk_redo.a T.Desk_redo.fd ["self"] (sp_Desk_redo T Pt) := by
  refine T.Desk_redo.F.okX sc_Desk_redo (fun vs H Q E h => ?_) (fun cdv A outer s0 H vs Q E hr h => ⟨_, (pss_cons (ps_fld (pv 0) (pe_meth (pe_fld (pv 0) rfl) T.History.cl T.History_step_on.m (ok_History_step_on T Pt) (hr.mono (by decide)) T.History_step_on.b .nil (passes_call (takes_of rfl rfl rfl rfl) (fun _ _ _ _ h => h)) (pa_cons (pe_fld (pv 0) rfl) pa_nil)) rfl)
  (pss_one (ps_ret (pe_meth0 (pe_fld (pv 0) rfl) T.History.cl T.History_counts.m (ok_History_counts T) (hr.mono (by decide)) T.History_counts.b .nil pass0)))), ?_⟩)
  · obtain ⟨d, Z, M, rc, g, rfl, _⟩ := h
    rfl
  · obtain ⟨d, Z, M, rc, g, rfl, ⟨dd, p, hA, q, as, rs, hd, hp, hh, hq, hc, hr, pr, md, nd, nr, zr, G⟩, hfl, k1, k2⟩ := h
    have c := T.Desk.cl
    obtain ⟨dx, kk, u, ks, us, ha, _⟩ := id hh
    refine ⟨_, rfl, d, _, dd, _, _, rfl, hd, c, T.Desk.no _ (by decide), df_history _ _ _ _ _, hA, dx, _, rfl, ha, hf_m _ _ _ _ (by decide +kernel), ?_⟩
    refine (paC (pu_fld pu_v hd c (T.Desk.no _ (by decide)) (df_picture _ _ _ _ _)) pa0) _ ⟨hA, p, Z, _, g.budget, g.past, g.future, g.now, rfl, hh.but hd nd, G.but hd, hp, hfl, k1, fun x l e q1 Z1 M1 H1 st1 G1 h1 hp1 => ?_⟩
    have h1d : H1 d = some (.ins T.Desk.a dd (deskF p hA q g.recording rc)) := st1.keep d _ (fun m => m.2 rfl) hd
    have stW := st1.but md
    have nz1 : ¬ Z1 d := fun z => G.apart d md (st1.le d z)
    have GW := G1.wide nz1 (by rw [h1d]; intro z; cases z)
    have md1 : (fun x => M1 x ∨ x = d) d := .inr rfl
    refine ⟨_, rfl, d, _, dd, _, rfl, h1d, c, T.Desk.no _ (by decide), df_few _ _ _ _ _, ?_⟩
    rw [desk_picture]
    have st2 := stW.trans (Stp.upd (Pt := Pt) (Z := Z1) (M := fun x => M1 x ∨ x = d) (o' := .ins T.Desk.a dd (deskF q1 hA q g.recording rc)) md1 h1d trivial)
    have G2 := GW.upd (o' := .ins T.Desk.a dd (deskF q1 hA q g.recording rc)) md1 h1d trivial
    have hh2 : HisAt T Z1 (fun x => M1 x ∨ x = d) (upd H1 d (.ins T.Desk.a dd (deskF q1 hA q g.recording rc))) hA g.budget (Sq50.room g.budget ((g.now, x.2) :: g.past)) l := (h1.wide (d := d)).upd h1d nd nz1
    obtain ⟨dx2, k2', u2, ks2, us2, ha2, _⟩ := id hh2
    refine ⟨_, rfl, d, _, dd, _, _, rfl, upd_same, c, T.Desk.no _ (by decide), df_history _ _ _ _ _, hA, dx2, _, rfl, ha2, hf_m _ _ _ _ (by decide +kernel), hA, Z1, _, g.budget, Sq50.room g.budget ((g.now, x.2) :: g.past), l, rfl, hh2, fun L H3 nL e3 h3 => ?_⟩
    have st3 := st2.trans (Stp.ex e3)
    obtain ⟨hr3, nr3, zr3⟩ := rc_stp st3 hr nr zr
    have kpd : Keep Z1 H1 (upd H1 d (.ins T.Desk.a dd (deskF q1 hA q g.recording rc))) := fun a o z ha => (upd_ne (fun e : a = d => nz1 (e ▸ z))).trans ha
    exact k2 x l e L Z1 _ rc H3 (st2.back L nL) st3.out ⟨dd, q1, hA, q, as, rs, e3 _ _ upd_same, (hp1.keep kpd).keep (e3.keep Z1), hh2.ex e3, aside_stp st3 G.apart hq, hc, hr3, Paired.imp (fun _ _ z => z.stp st3 G.apart) pr, md1, nd, nr3, zr3, G2.ex e3⟩ h3
end
end LP
end
section
set_option maxHeartbeats 4100000
namespace LP
open PySem PySem.Spec PyProof.Rows L2 Evl LamX NdefX
open Sq50 (State Layer Dot Clip House)
/-! a deed done -/
def doneG (g : House) (a : Sq50.Act) (t : State) : House := { g with now := t, past := Sq50.room g.budget ((g.now, costN g.now t) :: g.past), future := [], clip := if a = .cut then some g.now.copied else g.clip }
theorem room_mem : ∀ (b : Nat) (l : List (State × Nat)), ∀ x ∈ Sq50.room b l, x ∈ l
  | _, [], x, h => by cases h
  | b, y :: l, x, h => by
    have h : x ∈ (if b < y.2 then [] else y :: Sq50.room (b - y.2) l) := h
    split at h
    · cases h
    · rcases List.mem_cons.mp h with rfl | h  -- own
      · exact List.mem_cons_self ..
      · exact List.mem_cons_of_mem _ (room_mem _ _ x h)
theorem room_costs : ∀ (b : Nat) (l : List (State × Nat)), costs (Sq50.room b l) ≤ b
  | _, [] => Nat.zero_le _
  | b, y :: l => by
    show costs (if b < y.2 then [] else y :: Sq50.room (b - y.2) l) ≤ b
    split
    · exact Nat.zero_le _
    · have := room_costs (b - y.2) l
      have e : costs (y :: Sq50.room (b - y.2) l) = y.2 + costs (Sq50.room (b - y.2) l) := by unfold costs; rw [List.map_cons, List.sum_cons]
      rw [e]
      omega
theorem HInv.done {g : House} {n : Nat} (h : HInv g n) {as : List (Nat × Nat × Dot)} (r : ClipR g.clip as) {a : Sq50.Act} {t : State} (hd : g.now.does g.clip a = .ok t) : HInv (doneG g a t) n := by
  refine ⟨does_wf h.wf r hd, fun x hx => ?_, fun x hx => (nomatch (show x ∈ ([] : List (State × Nat)) from hx)), room_costs _ _, h.bud, Nat.zero_le _, h.rcd⟩
  rcases List.mem_cons.mp (room_mem _ _ x hx) with rfl | hx
  · exact ⟨h.wf, Nat.le_add_right _ _⟩
  · exact h.wp x hx
theorem cut_iff {deed : Nat} {ms : List Nat} {a : Sq50.Act} (h : Sq50.actOf deed ms = some a) : deed = 14 ↔ a = .cut := by
  unfold Sq50.actOf at h
  split at h <;> first | (cases h; simp) | cases h
section
variable {P : Program} {w : World} {K : PySem.W.Frag} {mg : Str → Option Value} {base : Heap}
theorem HisAt.exp {T : Txt K mg} {Pt : Addr} {Z M : Addr → Prop} {H H' : Hp} {a : Addr} {b : Nat} {pa fu : List (State × Nat)} (h : HisAt T Z M H a b pa fu) (e : ExP Pt H H') (t : TabS H Pt qLam) (nz : ¬ Z Pt) : HisAt T Z M H' a b pa fu := by
  obtain ⟨dx, k, u, ks, us, ha, hk, hu, pk, pu, ma, mk, mu, nku⟩ := h
  obtain ⟨ps, hp, _⟩ := t
  have kp : Keep Z H H' := fun x o z hx => e x o (fun q => nz (q ▸ z)) hx
  exact ⟨dx, k, u, ks, us, e _ _ (ne_of ha hp (by intro z; cases z)) ha, e _ _ (ne_of hk hp (by intro z; cases z)) hk, e _ _ (ne_of hu hp (by intro z; cases z)) hu, Paired.imp (fun _ _ z => z.keep kp) pk, Paired.imp (fun _ _ z => z.keep kp) pu, ma, mk, mu, nku⟩
/-- Desk.do_deed(self, deed, more) -/
def Done (T : Txt K mg) (Pt : Addr) (Z M : Addr → Prop) (H : Hp) (d rc : Addr) (g : House) (a : Sq50.Act) (Q : VK) (E : XK) : Except Int State → Prop
  | .error e => Rz (cls T e) e H E
  | .ok t => ∀ Z' M' H', Stp Pt Z M H Z' M' H' → DeskAt T Pt Z' M' H' d rc (doneG g a t) → Q (nV (costN g.now t)) H'
def sp_Desk_do_deed (T : Txt K mg) (Pt : Addr) : Sp := fun vs H Q E => ∃ (d m : Addr) (deed : Nat) (ms : List Nat) (a : Sq50.Act) (Z M : Addr → Prop) (rc : Addr) (g : House), vs = [.ref d, nV deed, .ref m] ∧ DeskAt T Pt Z M H d rc g ∧ WF g.now ∧ g.past.length ≤ 2000000 ∧ H m = some (.lst (nVs ms)) ∧ Sq50.actOf deed ms = some a ∧ (∀ x ∈ ms, x < 2 ^ 64) ∧
  Done T Pt Z M H d rc g a Q E (g.now.does g.clip a)
theorem ok_Desk_do_deed (T : Txt K mg) {c Pt : Addr} (R : RankT T base c Pt) : FnOk P w K mg base (L2.CX P w) 12 T.Desk_do_deed.a T.Desk_do_deed.fd ["self", "deed", "more"] (sp_Desk_do_deed T Pt) := by
  refine T.Desk_do_deed.F.okX sc_Desk_do_deed (fun vs H Q E h => ?_) (fun cdv A outer s0 H vs Q E hr h => ⟨_, (pss_cons (ps_set (i := 3) sc_Desk_do_deed.nd rfl (by first | exact Or.inl rfl | exact Or.inr rfl) (pe_fld (pv 0) rfl))
  (pss_cons (ps_set (i := 4) sc_Desk_do_deed.nd rfl (by first | exact Or.inl rfl | exact Or.inr rfl) (pe_call (ok_picture_after T R) (hr.mono (by decide)) (by rfl) T.picture_after.g T.picture_after.F.kp T.picture_after.b .nil (passes_call (takes_of rfl rfl rfl rfl) (fun _ _ _ _ h => h)) (pa_cons (pv 3) (pa_cons (pe_fld (pv 0) rfl) (pa_cons (pv 1) (pa_cons (pv 2) pa_nil))))))
  (pss_cons (ps_set (i := 5) sc_Desk_do_deed.nd rfl (by first | exact Or.inl rfl | exact Or.inr rfl) (pe_call (ok_cost T) (hr.mono (by decide)) (by rfl) T.cost.g T.cost.F.kp T.cost.b .nil pass0 (pa_cons (pv 3) (pa_cons (pv 4) pa_nil))))
  (pss_cons (ps_expr (pe_meth (pe_fld (pv 0) rfl) T.History.cl T.History_deed_done.m (ok_History_deed_done T Pt) (hr.mono (by decide)) T.History_deed_done.b .nil pass0 (pa_cons (pv 3) (pa_cons (pv 5) pa_nil))))
  (pss_cons (ps_fld (pv 0) (pv 4) rfl)
  (pss_cons (ps_if (pt_cmpR op_eq (pv 1) (pe_glob (by rfl) T.CUT.g T.CUT.r) (nomark _))
  (pss_one (ps_fld (pv 0) (pe_call (ok_lifted T) (hr.mono (by decide)) (by rfl) T.lifted.g T.lifted.F.kp T.lifted.b .nil pass0 (pa_cons (pv 3) pa_nil)) rfl))
  pss_nil)
  (pss_one (ps_ret (pv 5))))))))), ?_⟩)
  · obtain ⟨d, m, deed, ms, a, Z, M, rc, g, rfl, _⟩ := h
    rfl
  · obtain ⟨d, m, deed, ms, a, Z, M, rc, g, rfl, ⟨dd, p, hA, q, as, rs, hd, hp, hh, hq, hc, hr', pr, md, nd, nr, zr, G⟩, W, hpl, hm, hact, hms, k⟩ := h
    have cl := T.Desk.cl
    have nzP : ¬ Z Pt := G.apart Pt G.mp
    have ndP : d ≠ Pt := by obtain ⟨ps, hp, _⟩ := G.tab; exact ne_of hd hp (by intro z; cases z)
    refine s_set (pu_fld pu_v hd cl (T.Desk.no _ (by decide)) (df_picture _ _ _ _ _)) ?_
    refine c_call (paC pu_v (paC (pu_fld pu_v hd cl (T.Desk.no _ (by decide)) (df_aside _ _ _ _ _)) (paC pu_v (paC pu_v pa0)))) ⟨p, q, m, Z, g.now, g.clip, as, deed, ms, a, rfl, hp, W, G.free, hq, hc, hm, hact, hms, G.tab, nzP, ?_⟩
    cases hdo : g.now.does g.clip a with
    | error e => rw [hdo] at k; exact k
    | ok t =>
      rw [hdo] at k
      have Wt := does_wf W hc hdo
      intro pt H1 e1 t1 hpt
      have st1 : Stp Pt Z M H Z M H1 := Stp.exp G.mp e1 t1
      have G1 : Ground Pt Z M H1 := G.exp e1 t1
      have h1d := e1 _ _ ndP hd
      have kp1 : Keep Z H H1 := fun x o z hx => e1 x o (fun q => nzP (q ▸ z)) hx
      -- price
      refine c_call (paC pu_v (paC pu_v pa0)) ⟨p, pt, Z, Z, g.now, t, rfl, hp.keep kp1, hpt, W, Wt, fun H2 e2 => ?_⟩
      have st2 := st1.trans (Stp.ex e2)
      have G2 := G1.ex e2
      have h2d := e2 _ _ h1d
      have hh2 := (hh.exp e1 G.tab nzP).ex e2
      obtain ⟨dxh, kk, u, ks, us, ha2, _⟩ := id hh2
      -- the history
      refine ⟨_, rfl, d, _, dd, _, _, rfl, h2d, cl, T.Desk.no _ (by decide), df_history _ _ _ _ _, hA, dxh, _, rfl, ha2, hf_m _ _ _ _ (by decide +kernel), ?_⟩
      refine (paC pu_v (paC pu_v pa0)) _ ⟨hA, p, costN g.now t, Z, _, g.budget, g.past, g.future, g.now, rfl, hh2.but h2d nd, G2.but h2d, (hp.keep kp1).keep (e2.keep Z), hpl, fun Z3 M3 H3 st3 G3 h3 => ?_⟩
      have h3d := st3.keep d _ (fun mm => mm.2 rfl) h2d
      have stW := st2.trans (st3.but md)
      have nz3 : ¬ Z3 d := fun z => G.apart d md (st3.le d z)
      have GW := G3.wide nz3 (by rw [h3d]; intro z; cases z)
      have md3 : (fun x => M3 x ∨ x = d) d := .inr rfl
      -- self.picture = after
      refine ⟨_, rfl, _, rfl, d, _, dd, _, rfl, h3d, cl, T.Desk.no _ (by decide), df_few _ _ _ _ _, ?_⟩
      rw [desk_picture]
      have st4 := stW.trans (Stp.upd (Pt := Pt) (Z := Z3) (M := fun x => M3 x ∨ x = d) (o' := .ins T.Desk.a dd (deskF pt hA q g.recording rc)) md3 h3d trivial)
      have G4 := GW.upd (o' := .ins T.Desk.a dd (deskF pt hA q g.recording rc)) md3 h3d trivial
      have hh4 : HisAt T Z3 (fun x => M3 x ∨ x = d) (upd H3 d (.ins T.Desk.a dd (deskF pt hA q g.recording rc))) hA g.budget (Sq50.room g.budget ((g.now, costN g.now t) :: g.past)) [] := (h3.wide (d := d)).upd h3d nd nz3
      obtain ⟨hr4, nr4, zr4⟩ := rc_stp st4 hr' nr zr
      have hpt4 : Pic T Z3 (upd H3 d (.ins T.Desk.a dd (deskF pt hA q g.recording rc))) pt t := by
        have s5 := ((Stp.ex e2 : Stp Pt Z M H1 Z M H2).trans (st3.but md)).trans (Stp.upd (Pt := Pt) (Z := Z3) (M := fun x => M3 x ∨ x = d) (o' := .ins T.Desk.a dd (deskF pt hA q g.recording rc)) md3 h3d trivial)
        exact pic_stp s5 G1.apart hpt
      refine s_if (pt_neq (k := 14) pu_v) (fun e => ?_) fun e => ?_
      · have ec : a = .cut := (cut_iff hact).mp (of_decide_eq_true e)
        refine c_call (paC pu_v pa0) ⟨p, Z3, g.now, rfl, pic_stp st4 G.apart hp, W, G4.free, fun q' H5 nq e5 h5 => ?_⟩
        have h5d := e5 _ _ (upd_same (H := H3) (a := d) (o := .ins T.Desk.a dd (deskF pt hA q g.recording rc)))
        refine ⟨_, rfl, d, _, dd, _, rfl, h5d, cl, T.Desk.no _ (by decide), df_few _ _ _ _ _, ?_⟩
        rw [desk_aside]
        have st6 := (st4.trans (Stp.ex e5)).trans (Stp.upd (Pt := Pt) (Z := Z3) (M := fun x => M3 x ∨ x = d) (o' := .ins T.Desk.a dd (deskF pt hA q' g.recording rc)) md3 h5d trivial)
        have G6 := (G4.ex e5).upd (o' := .ins T.Desk.a dd (deskF pt hA q' g.recording rc)) md3 h5d trivial
        obtain ⟨hr6, nr6, zr6⟩ := rc_stp st6 hr' nr zr
        have kpd : Keep Z3 H5 (upd H5 d (.ins T.Desk.a dd (deskF pt hA q' g.recording rc))) := fun x o z hx => (upd_ne (fun e : x = d => nz3 (e ▸ z))).trans hx
        refine ⟨_, rfl, k Z3 _ _ st6 ⟨dd, pt, hA, q', liftL g.now, rs, upd_same, (hpt4.keep (e5.keep Z3)).keep kpd, (hh4.ex e5).upd h5d nd nz3, h5.keep kpd, ?_, hr6, Paired.imp (fun _ _ z => z.stp st6 G.apart) pr, md3, nd, nr6, zr6, G6⟩⟩
        show ClipR (if a = .cut then some g.now.copied else g.clip) _
        rw [if_pos ec]
        exact .inr ⟨g.now, W, rfl, rfl⟩
      · have ec : a ≠ .cut := fun z => of_decide_eq_false e ((cut_iff hact).mpr z)
        refine ⟨_, rfl, k Z3 _ _ st4 ⟨dd, pt, hA, q, as, rs, upd_same, hpt4, hh4, aside_stp st4 G.apart hq, ?_, hr4, Paired.imp (fun _ _ z => z.stp st4 G.apart) pr, md3, nd, nr4, zr4, G4⟩⟩
        show ClipR (if a = .cut then some g.now.copied else g.clip) _
        rw [if_neg ec]
        exact hc
end
end LP
end
section
set_option maxHeartbeats 4100000
namespace LP
open PySem PySem.Spec PyProof.Rows L2 Evl LamX NdefX
open Sq50 (State Layer Dot Clip House)
theorem told_iff (deed : Nat) (ms : List Nat) : decide (toldL[deed]? = some ms.length) = (Sq50.actOf deed ms).isSome := match deed, ms with
  | 0, [] => rfl
  | 0, _ :: _ => by simp [toldL, Sq50.actOf]
  | 1, [] => rfl
  | 1, [_] => rfl
  | 1, _ :: _ :: _ => by simp [toldL, Sq50.actOf]
  | 2, [] => rfl
  | 2, [_] => rfl
  | 2, _ :: _ :: _ => by simp [toldL, Sq50.actOf]
  | 3, [] => rfl
  | 3, [_] => rfl
  | 3, [_, _] => rfl
  | 3, [_, _, _] => rfl
  | 3, [_, _, _, _] => rfl
  | 3, _ :: _ :: _ :: _ :: _ :: _ => by simp [toldL, Sq50.actOf]
  | 4, [] => rfl
  | 4, [_] => rfl
  | 4, _ :: _ :: _ => by simp [toldL, Sq50.actOf]
  | 5, [] => rfl
  | 5, [_] => rfl
  | 5, [_, _] => rfl
  | 5, [_, _, _] => rfl
  | 5, [_, _, _, _] => rfl
  | 5, [_, _, _, _, _] => rfl
  | 5, _ :: _ :: _ :: _ :: _ :: _ :: _ => by simp [toldL, Sq50.actOf]
  | 6, [] => rfl
  | 6, [_] => rfl
  | 6, [_, _] => rfl
  | 6, [_, _, _] => rfl
  | 6, [_, _, _, _] => rfl
  | 6, [_, _, _, _, _] => rfl
  | 6, [_, _, _, _, _, _] => rfl
  | 6, _ :: _ :: _ :: _ :: _ :: _ :: _ :: _ => by simp [toldL, Sq50.actOf]
  | 7, [] => rfl
  | 7, [_] => rfl
  | 7, _ :: _ :: _ => by simp [toldL, Sq50.actOf]
  | 8, [] => rfl
  | 8, [_] => rfl
  | 8, _ :: _ :: _ => by simp [toldL, Sq50.actOf]
  | 9, [] => rfl
  | 9, [_] => rfl
  | 9, _ :: _ :: _ => by simp [toldL, Sq50.actOf]
  | 10, [] => rfl
  | 10, [_] => rfl
  | 10, [_, _] => rfl
  | 10, _ :: _ :: _ :: _ => by simp [toldL, Sq50.actOf]
  | 11, [] => rfl
  | 11, [_] => rfl
  | 11, _ :: _ :: _ => by simp [toldL, Sq50.actOf]
  | 12, [] => rfl
  | 12, [_] => rfl
  | 12, [_, _] => rfl
  | 12, [_, _, _] => rfl
  | 12, _ :: _ :: _ :: _ :: _ => by simp [toldL, Sq50.actOf]
  | 13, [] => rfl
  | 13, [_] => rfl
  | 13, [_, _] => rfl
  | 13, _ :: _ :: _ :: _ => by simp [toldL, Sq50.actOf]
  | 14, [] => rfl
  | 14, _ :: _ => by simp [toldL, Sq50.actOf]
  | 15, [] => rfl
  | 15, _ :: _ => by simp [toldL, Sq50.actOf]
  | 16, [] => rfl
  | 16, _ :: _ => by simp [toldL, Sq50.actOf]
  | 17, [] => rfl
  | 17, _ :: _ => by simp [toldL, Sq50.actOf]
  | 18, [] => rfl
  | 18, [_] => rfl
  | 18, _ :: _ :: _ => by simp [toldL, Sq50.actOf]
  | n + 19, l => by simp [toldL, Sq50.actOf]
section
variable {P : Program} {w : World} {K : PySem.W.Frag} {mg : Str → Option Value} {base : Heap}
/-- a deed that was done is recorded, if it's recording -/
def recG (g : House) (a : Sq50.Act) (t : State) : House := { doneG g a t with kept := if g.recording = true then g.kept ++ [a] else g.kept }
/-- Desk.act(self, deed, more) -/
def Acted (T : Txt K mg) (Pt : Addr) (Z M : Addr → Prop) (H : Hp) (d rc : Addr) (g : House) (Q : VK) (E : XK) : Option Sq50.Act → Prop
  | none => Rz T.C_NotSoTold (-3) H E
  | some a => (g.recording = true ∧ 40 ≤ g.kept.length → Rz T.C_TooMany (-5) H E) ∧ (¬ (g.recording = true ∧ 40 ≤ g.kept.length) → (∀ e, g.now.does g.clip a = .error e → Rz (cls T e) e H E) ∧
    ∀ t, g.now.does g.clip a = .ok t → DRes T Pt Z M H d rc Q (recG g a t) [(costN g.now t : Int), ((Sq50.room g.budget ((g.now, costN g.now t) :: g.past)).length : Int)])
def sp_Desk_act (T : Txt K mg) (Pt : Addr) : Sp := fun vs H Q E => ∃ (d m : Addr) (deed : Nat) (ms : List Nat) (Z M : Addr → Prop) (rc : Addr) (g : House), vs = [.ref d, nV deed, .ref m] ∧ DeskAt T Pt Z M H d rc g ∧ WF g.now ∧ g.past.length ≤ 2000000 ∧ g.kept.length ≤ 40 ∧ NatsAt Z H m ms ∧ (∀ x ∈ ms, x < 2 ^ 64) ∧
  Acted T Pt Z M H d rc g Q E (Sq50.actOf deed ms)
theorem ok_Desk_act (T : Txt K mg) {c Pt : Addr} (R : RankT T base c Pt) : FnOk P w K mg base (L2.CX P w) 13 T.Desk_act.a T.Desk_act.fd ["self", "deed", "more"] (sp_Desk_act T Pt) := by
  refine T.Desk_act.F.okX sc_Desk_act (fun vs H Q E h => ?_) (fun cdv A outer s0 H vs Q E hr h => ⟨_, (pss_cons (ps_if (pt_not (pt_val (pe_call (ok_is_told_so T) (hr.mono (by decide)) (by rfl) T.is_told_so.g T.is_told_so.F.kp T.is_told_so.b .nil pass0 (pa_cons (pv 1) (pa_cons (pv 2) pa_nil)))))
  (pss_one (ps_raiseR rfl T.NotSoTold hr (takes_of rfl rfl rfl rfl)))
  pss_nil)
  (pss_cons (ps_if (PW.pt (pw_and (pt_val (pe_fld (pv 0) rfl)) (pw_and1 (pt_cmpR op_ge (pe_callB call_len_seq (by rfl) (T.nb "len" (by decide)) (by decide +kernel) (pa_cons (pe_fld (pv 0) rfl) pa_nil)) (pe_glob (by rfl) T.MOST_RECORDED.g T.MOST_RECORDED.r) (nomark _)))))
  (pss_one (ps_raiseR rfl T.TooMany hr (takes_of rfl rfl rfl rfl)))
  pss_nil)
  (pss_cons (ps_set (i := 3) sc_Desk_act.nd rfl (by first | exact Or.inl rfl | exact Or.inr rfl) (pe_meth (pv 0) T.Desk.cl T.Desk_do_deed.m (ok_Desk_do_deed T R) (hr.mono (by decide)) T.Desk_do_deed.b .nil (passes_call (takes_of rfl rfl rfl rfl) (fun _ _ _ _ h => h)) (pa_cons (pv 1) (pa_cons (pv 2) pa_nil))))
  (pss_cons (ps_if (pt_val (pe_fld (pv 0) rfl))
  (pss_one (ps_expr (pe_bm PySem.F.plainAttrs_list PySem.F.slot_list_append PySem.F.type_list_append mt_append (pe_fld (pv 0) rfl) (pa_cons (pe_tup (pa_cons (pv 1) (pa_cons (pv 2) pa_nil))) pa_nil))))
  pss_nil)
  (pss_one (ps_ret (pe_lst (pa_cons (pv 3) (pa_cons (pe_callB call_len_seq (by rfl) (T.nb "len" (by decide)) (by decide +kernel) (pa_cons (pe_fld (pe_fld (pv 0) rfl) rfl) pa_nil)) pa_nil))))))))), ?_⟩)
  · obtain ⟨d, m, deed, ms, Z, M, rc, g, rfl, _⟩ := h
    rfl
  · obtain ⟨d, m, deed, ms, Z, M, rc, g, rfl, D, W, hpl, hkl, hm, hms, k⟩ := h
    obtain ⟨dd, p, hA, q, as, rs, hd, hp, hh, hq, hc, hr', pr, md, nd, nr, zr, G⟩ := id D
    have cl := T.Desk.cl
    have hrl := Paired.len pr
    refine ⟨_, rfl, _, rfl, deed, m, ms, rfl, SqL.of hm.h, _, rfl, ?_⟩
    rw [show toldB deed ms.length = (Sq50.actOf deed ms).isSome from told_iff deed ms]
    cases ha : Sq50.actOf deed ms with
    | none => rw [ha] at k; exact ifT rfl (Rz.go k (Ex.refl H))
    | some a =>
      rw [ha] at k
      refine ifF rfl ?_
      have hrecl : (rs.length : Int) = (g.kept.length : Nat) := by rw [hrl]
      refine s_if (b := g.recording && decide (40 ≤ g.kept.length)) (pt_and (pt_B (pu_fld pu_v hd cl (T.Desk.no _ (by decide)) (df_recording _ _ _ _ _))) fun _ => pt_nge (pu_is (pu_lenL (pu_fld pu_v hd cl (T.Desk.no _ (by decide)) (df_recorded _ _ _ _ _)) (SqL.of hr')) (congrArg V.int hrecl)) (pu_nc 40)) (fun e => ?_) fun e => ?_
      · simp only [Bool.and_eq_true, decide_eq_true_eq] at e
        exact Rz.go (k.1 e) (Ex.refl H)
      · have hno : ¬ (g.recording = true ∧ 40 ≤ g.kept.length) := fun z => by rw [z.1, decide_eq_true z.2] at e; cases e
        obtain ⟨k1, k2⟩ := k.2 hno
        refine ⟨_, rfl, d, dd, _, rfl, hd, df_m _ _ _ _ _ (by decide +kernel), (paC pu_v (paC pu_v pa0)) _ ⟨d, m, deed, ms, a, Z, M, rc, g, rfl, D, W, hpl, hm.h, ha, hms, ?_⟩⟩
        cases hdo : g.now.does g.clip a with
        | error e => exact k1 e hdo
        | ok t =>
          have k3 := k2 t hdo
          intro Z1 M1 H1 st1 D1
          obtain ⟨dd1, p1, hA1, q1, as1, rs1, hd1, hp1, hh1, hq1, hc1, hr1, pr1, md1, nd1, nr1, zr1, G1⟩ := id D1
          have hrl1 := Paired.len pr1
          have hkl1 : (doneG g a t).kept.length = g.kept.length := rfl
          -- the deed is recorded
          have last : ∀ (H2 : Hp) (g2 : House) (D2 : DeskAt T Pt Z1 M1 H2 d rc g2) (e2 : g2.past = (doneG g a t).past) (k4 : DRes T Pt Z M H d rc Q g2 [(costN g.now t : Int), ((Sq50.room g.budget ((g.now, costN g.now t) :: g.past)).length : Int)]) (o2 : DStp Z M rc H Z1 M1 rc H2),
              tRet (tLst (tCons (tVar 3) (tCons (tCB (fun xs H Q => ∃ p ys, xs = [.ref p] ∧ (SqL K H p ys ∨ SqT K H p ys) ∧ Q (.int ys.length) H) (tCons (tFld K (tFld K (tVar 0) "history") "kept") tNil)) tNil))) { nx := fun _ H' => Q .non H', rt := Q } [some (.ref d), some (nV deed), some (.ref m), some (nV (costN g.now t))] H2 := by
            intro H2 g2 D2 e2 k4 o2
            obtain ⟨dd2, p2, hA2, q2, as2, rs2, hd2, hp2, hh2, hq2, hc2, hr2, pr2, md2, nd2, nr2, zr2, G2⟩ := id D2
            obtain ⟨dx, kk, u, ks, us, ha2, hk2, hu2, pk, pu, _⟩ := id hh2
            have hkk := Paired.len pk
            rw [List.length_reverse, e2] at hkk
            refine ⟨_, rfl, _, rfl, d, _, dd2, _, _, rfl, hd2, cl, T.Desk.no _ (by decide), df_history _ _ _ _ _, hA2, _, dx, _, _, rfl, ha2, T.History.cl, T.History.no _ (by decide), hf_kept _ _ _ _, kk, _, rfl, .inl (SqL.of hk2), by show 2 ≤ sizeLine; decide, fun L nL => ?_⟩
            have eL := Ex.new (o := .lst [nV (costN g.now t), V.int (ks.length : Nat)]) nL
            refine k4 L Z1 M1 rc _ (o2.back L nL) ⟨fun x o n n' h => eL _ _ (o2.keep x o n n' h), o2.new, o2.le, fun x h => o2.back x (eL.back h)⟩ (D2.ex eL) ?_
            rw [upd_same, hkk]
            rfl
          refine s_if (b := g.recording) (pt_B (pu_fld pu_v hd1 cl (T.Desk.no _ (by decide)) (df_recording _ _ _ _ _))) (fun e => ?_) fun e => ?_
          · refine ⟨_, rfl, d, _, dd1, _, _, rfl, hd1, cl, T.Desk.no _ (by decide), df_recorded _ _ _ _ _, .inl ⟨rfl, _, SqL.of hr1⟩, _, rfl, _, rfl, by show 2 ≤ sizeLine; decide, fun t1 nt => ?_⟩
            have et := Ex.new (o := .tup [nV deed, .ref m]) nt
            refine ⟨rc, rs1, _, rfl, rfl, et _ _ hr1, stM (by omega), ?_⟩
            have zt : Z1 t1 := G1.free t1 nt
            have ntr : t1 ≠ rc := fun z => zr1 (z ▸ zt)
            have kp : Keep Z1 H1 (upd (upd H1 t1 (.tup [nV deed, .ref m])) rc (.lst (rs1 ++ [V.ref t1]))) := fun x o z hx => (upd_ne (fun e : x = rc => zr1 (e ▸ z))).trans (et _ _ hx)
            have nrd : rc ≠ d := ne_of hr1 hd1 (by intro z; cases z)
            have hm1 : NatsAt Z1 H1 m ms := st1.at_ G.apart hm
            have o2 : DStp Z M rc H Z1 M1 rc (upd (upd H1 t1 (.tup [nV deed, .ref m])) rc (.lst (rs1 ++ [V.ref t1]))) := ⟨fun x o n n' h => (upd_ne n').trans (et _ _ (st1.keep x o n h)), st1.out.new, st1.le, fun x h => st1.back x (none_upd (none_upd h))⟩
            refine last _ (recG g a t) ⟨dd1, p1, hA1, q1, as1, rs1 ++ [V.ref t1], (upd_ne nrd.symm).trans (et _ _ hd1), hp1.keep kp, ?_, hq1.keep kp, hc1, upd_same, ?_, md1, nd1, nr1, zr1, ?_⟩ rfl k3 o2
            · obtain ⟨dx, kk, u, ks, us, ha2, hk2, hu2, pk, pu, ma, mk, mu, nku⟩ := hh1
              have n1 : ∀ x, M1 x → x ≠ rc := fun x mx z => nr1 (z ▸ mx)
              exact ⟨dx, kk, u, ks, us, (upd_ne (n1 _ ma)).trans (et _ _ ha2), (upd_ne (n1 _ mk)).trans (et _ _ hk2), (upd_ne (n1 _ mu)).trans (et _ _ hu2), Paired.imp (fun _ _ z => z.keep kp) pk, Paired.imp (fun _ _ z => z.keep kp) pu, ma, mk, mu, nku⟩
            · show Paired _ _ (if g.recording = true then g.kept ++ [a] else g.kept)
              rw [if_pos e]
              exact Paired.snoc (Paired.imp (fun _ _ z => z.keep kp) pr1) ⟨t1, m, deed, ms, rfl, ⟨zt, (upd_ne ntr).trans upd_same⟩, hm1.keep kp, ha, hms⟩
            · have Ge := G1.ex et
              exact ⟨fun x hx => Ge.free x (none_upd hx), Ge.apart, fun x mx hx => Ge.has x mx (none_upd hx), tab_upd Ge.tab (et _ _ hr1) trivial, Ge.mp⟩
          · refine last H1 (recG g a t) ?_ rfl k3 st1.out
            have er : recG g a t = doneG g a t := by
              unfold recG
              rw [e]
              rfl
            rw [er]
            exact D1
end
end LP
end
section
set_option maxHeartbeats 4100000
namespace LP
open PySem PySem.Spec PyProof.Rows L2 Evl LamX NdefX
open Sq50 (State Layer Dot Clip House)
section
variable {P : Program} {w : World} {K : PySem.W.Frag} {mg : Str → Option Value} {base : Heap}
theorem cls_te (T : Txt K mg) (e : Int) : PySem.W.exmOne K (.ref (cls T e)) (.ref T.R) = some true := by
  unfold cls
  split
  · exact T.CannotBe.te
  · split
    · exact T.NoSuchLayer.te
    · split
      · exact T.NotSoTold.te
      · split
        · exact T.TooMany.te
        · exact T.NotNow.te
theorem cls_ans (T : Txt K mg) (e : Int) : AnsC K (cls T e) := by
  unfold cls
  split
  · exact ansC_of T.CannotBe
  · split
    · exact ansC_of T.NoSuchLayer
    · split
      · exact ansC_of T.NotSoTold
      · split
        · exact ansC_of T.TooMany
        · exact ansC_of T.NotNow
/-- Desk.try_deed(self, deed, more) -/
def sp_Desk_try_deed (T : Txt K mg) (Pt : Addr) : Sp := fun vs H Q _ => ∃ (d m : Addr) (deed : Nat) (ms : List Nat) (a : Sq50.Act) (Z M : Addr → Prop) (rc : Addr) (g : House), vs = [.ref d, nV deed, .ref m] ∧ DeskAt T Pt Z M H d rc g ∧ WF g.now ∧ g.past.length ≤ 2000000 ∧ H m = some (.lst (nVs ms)) ∧ Sq50.actOf deed ms = some a ∧ (∀ x ∈ ms, x < 2 ^ 64) ∧
  (∀ e, g.now.does g.clip a = .error e → ∀ H', Ex H H' → Q (.bl false) H') ∧ ∀ t, g.now.does g.clip a = .ok t → ∀ Z' M' H', Stp Pt Z M H Z' M' H' → DeskAt T Pt Z' M' H' d rc (doneG g a t) → Q (.bl true) H'
theorem ok_Desk_try_deed (T : Txt K mg) {c Pt : Addr} (R : RankT T base c Pt) : FnOk P w K mg base CX0 13 T.Desk_try_deed.a T.Desk_try_deed.fd ["self", "deed", "more"] (sp_Desk_try_deed T Pt) := by
  refine T.Desk_try_deed.F.ok sc_Desk_try_deed (fun vs H Q E h => ?_) (fun cdv A outer s0 H vs Q E hr h => ⟨_, pss_cons (ps_try_only (c := .ref T.R) (tb := fun W => tDrop (tMeth T.Desk.a "do_deed" (sp_Desk_do_deed T Pt) [] (fun cls d H' => ∀ σ', W cls d σ' H') (tVar 0) (tCons (tVar 1) (tCons (tVar 2) tNil))))
      (ts := fun _ _ _ => tRet (tC (.bl false))) (Wout := fun _ _ _ _ => False) rfl rfl ⟨rfl, by decide, Or.inl T.CannotBe.gR⟩ L2.takes0
      (fun W pn xe tk _ => pss_one (ps_expr (by exact pe_meth (pv 0) T.Desk.cl T.Desk_do_deed.m (ok_Desk_do_deed T R) hr T.Desk_do_deed.b .nil (passes_call tk (fun cls d σ H h => h σ)) (pa_cons (pv 1) (pa_cons (pv 2) pa_nil)))))
      (fun a oe cls d pn _ _ => pss_one (ps_ret pe_bl)))
    (pss_one (ps_ret pe_bl)), ?_⟩)
  · obtain ⟨d, m, deed, ms, a, Z, M, rc, g, rfl, _⟩ := h
    rfl
  · obtain ⟨d, m, deed, ms, a, Z, M, rc, g, rfl, D, W, hpl, hm, hact, hms, k1, k2⟩ := h
    obtain ⟨dd, p, hA, q, as, rs, hd, _⟩ := id D
    refine ⟨_, rfl, d, dd, _, rfl, hd, df_m _ _ _ _ _ (by decide +kernel), (paC pu_v (paC pu_v pa0)) _ ⟨d, m, deed, ms, a, Z, M, rc, g, rfl, D, W, hpl, hm, hact, hms, ?_⟩⟩
    cases hdo : g.now.does g.clip a with
    | error e => exact fun d' H' e' h' σ' => ⟨true, cls_te T e, fun _ a _ => k1 e hdo H' e', fun z => nomatch z⟩
    | ok t => exact fun Z' M' H' st D' => k2 t hdo Z' M' H' st D'
/-! what is played -/
def playG (g : House) : List Sq50.Act → House × Nat
  | [] => (g, 0)
  | a :: l => match g.now.does g.clip a with
    | .error _ => (g, 0)
    | .ok t => ((playG (doneG g a t) l).1, (playG (doneG g a t) l).2 + 1)
theorem acts_ok {g : House} {a : Sq50.Act} {t : State} (h : g.now.does g.clip a = .ok t) : g.acts a = .ok (recG g a t, costN g.now t) := by
  unfold Sq50.House.acts
  rw [h]
  rfl
theorem acts_no {g : House} {a : Sq50.Act} {e : Int} (h : g.now.does g.clip a = .error e) : g.acts a = .error e := by
  unfold Sq50.House.acts
  rw [h]
  rfl
theorem rec_no {g : House} {a : Sq50.Act} {t : State} (h : g.recording = false) : recG g a t = doneG g a t := by
  unfold recG
  rw [h]
  rfl
theorem plays_eq : ∀ (l : List Sq50.Act) (g : House), g.recording = false → g.plays l = playG g l
  | [], _, _ => rfl
  | a :: l, g, h => by
    unfold Sq50.House.plays playG
    cases hd : g.now.does g.clip a with
    | error e => rw [acts_no hd]
    | ok t =>
      rw [acts_ok hd]
      show ((Sq50.House.plays (recG g a t) l).1, (Sq50.House.plays (recG g a t) l).2 + 1) = _
      rw [rec_no h, plays_eq l (doneG g a t) h]
theorem play_ok {g : House} {a : Sq50.Act} {t : State} {l : List Sq50.Act} (h : g.now.does g.clip a = .ok t) : playG g (a :: l) = ((playG (doneG g a t) l).1, (playG (doneG g a t) l).2 + 1) := by
  show (match g.now.does g.clip a with
    | .error _ => (g, 0)
    | .ok t => ((playG (doneG g a t) l).1, (playG (doneG g a t) l).2 + 1)) = _
  rw [h]
theorem play_no {g : House} {a : Sq50.Act} {e : Int} {l : List Sq50.Act} (h : g.now.does g.clip a = .error e) : playG g (a :: l) = (g, 0) := by
  show (match g.now.does g.clip a with
    | .error _ => (g, 0)
    | .ok t => ((playG (doneG g a t) l).1, (playG (doneG g a t) l).2 + 1)) = _
  rw [h]
/-- Desk.play_recorded(self) -/
def sp_Desk_play_recorded (T : Txt K mg) (Pt : Addr) : Sp := fun vs H Q E => ∃ (d : Addr) (n : Nat) (Z M : Addr → Prop) (rc : Addr) (g : House), vs = [.ref d] ∧ DeskAt T Pt Z M H d rc g ∧ HInv g n ∧
  (g.recording = true → Rz T.C_NotNow (-6) H E) ∧ (g.recording = false → DRes T Pt Z M H d rc Q (playG g g.kept).1 [((playG g g.kept).2 : Int), ((playG g g.kept).1.past.length : Int)])
theorem ok_Desk_play_recorded (T : Txt K mg) {c Pt : Addr} (R : RankT T base c Pt) : FnOk P w K mg base (L2.CX P w) 14 T.Desk_play_recorded.a T.Desk_play_recorded.fd ["self"] (sp_Desk_play_recorded T Pt) := by
  refine T.Desk_play_recorded.F.okX sc_Desk_play_recorded (fun vs H Q E h => ?_) (fun cdv A outer s0 H vs Q E hr h => ⟨_, (pss_cons (ps_if (pt_val (pe_fld (pv 0) rfl))
  (pss_one (ps_raiseR rfl T.NotNow hr (takes_of rfl rfl rfl rfl)))
  pss_nil)
  (pss_cons (ps_set (i := 1) sc_Desk_play_recorded.nd rfl (by first | exact Or.inl rfl | exact Or.inr rfl) pe_int)
  (pss_cons (ps_for (passes_of rfl) rfl (pi_list (pe_fld (pv 0) rfl)) (pg_tup rfl (pgs_cons (pg_name (i := 2) sc_Desk_play_recorded.nd rfl (by first | exact Or.inl rfl | exact Or.inr rfl)) (pgs_cons (pg_name (i := 3) sc_Desk_play_recorded.nd rfl (by first | exact Or.inl rfl | exact Or.inr rfl)) pgs_nil)))
  (pss_cons (ps_if (pt_not (pt_val (pe_meth (pv 0) T.Desk.cl T.Desk_try_deed.m (ok_Desk_try_deed T R) (hr.mono (by decide)) T.Desk_try_deed.b .nil pass0 (pa_cons (pv 2) (pa_cons (pv 3) pa_nil)))))
    (pss_one ps_break)
    pss_nil)
    (pss_one (ps_aug (i := 1) sc_Desk_play_recorded.nd rfl (by first | exact Or.inl rfl | exact Or.inr rfl) pe_int ip_add))))
  (pss_one (ps_ret (pe_lst (pa_cons (pv 1) (pa_cons (pe_callB call_len_seq (by rfl) (T.nb "len" (by decide)) (by decide +kernel) (pa_cons (pe_fld (pe_fld (pv 0) rfl) rfl) pa_nil)) pa_nil)))))))), ?_⟩)
  · obtain ⟨d, n, Z, M, rc, g, rfl, _⟩ := h
    rfl
  · obtain ⟨d, n, Z, M, rc, g, rfl, D, HI, k1, k2⟩ := h
    obtain ⟨dd, p, hA, q, as, rs, hd, hp, hh, hq, hc, hr', pr, md, nd, nr, zr, G⟩ := id D
    have cl := T.Desk.cl
    have hrl := Paired.len pr
    refine s_if (b := g.recording) (pt_B (pu_fld pu_v hd cl (T.Desk.no _ (by decide)) (df_recording _ _ _ _ _))) (fun e => Rz.go (k1 e) (Ex.refl H)) fun e => ?_
    have k3 := k2 e
    refine ⟨_, rfl, d, _, dd, _, _, rfl, hd, cl, T.Desk.no _ (by decide), df_recorded _ _ _ _ _, rc, rfl, ⟨_, SqL.of hr'⟩, ?_⟩
    -- the answer
    have last : ∀ (σ : L2.St) (H2 : Hp) (Z2 M2 : Addr → Prop) (g2 : House) (i : Nat) (D2 : DeskAt T Pt Z2 M2 H2 d rc g2) (st2 : Stp Pt Z M H Z2 M2 H2) (e2 : playG g g.kept = (g2, i)) (h0 : σ[0]? = some (some (.ref d))) (h1 : σ[1]? = some (some (nV i))),
        tRet (tLst (tCons (tVar 1) (tCons (tCB (fun xs H Q => ∃ p ys, xs = [.ref p] ∧ (SqL K H p ys ∨ SqT K H p ys) ∧ Q (.int ys.length) H) (tCons (tFld K (tFld K (tVar 0) "history") "kept") tNil)) tNil))) { nx := fun _ H' => Q .non H', rt := Q } σ H2 := by
      intro σ H2 Z2 M2 g2 i D2 st2 e2 h0 h1
      obtain ⟨dd2, p2, hA2, q2, as2, rs2, hd2, hp2, hh2, hq2, hc2, hr2, pr2, md2, nd2, nr2, zr2, G2⟩ := id D2
      obtain ⟨dx, kk, u, ks, us, ha2, hk2, hu2, pk, pu, _⟩ := id hh2
      have hkk := Paired.len pk
      rw [List.length_reverse] at hkk
      rw [e2] at k3
      refine ⟨_, h1, _, h0, d, _, dd2, _, _, rfl, hd2, cl, T.Desk.no _ (by decide), df_history _ _ _ _ _, hA2, _, dx, _, _, rfl, ha2, T.History.cl, T.History.no _ (by decide), hf_kept _ _ _ _, kk, _, rfl, .inl (SqL.of hk2), by show 2 ≤ sizeLine; decide, fun L nL => ?_⟩
      have eL := Ex.new (o := .lst [nV i, V.int (ks.length : Nat)]) nL
      refine k3 L Z2 M2 rc _ (st2.back L nL) (st2.trans (Stp.ex eL)).out (D2.ex eL) ?_
      rw [upd_same, hkk]
      rfl
    refine for_it (walk_list (xs := rs)) (fun i σ H' => ∃ x y Z' M' g', σ = [some (.ref d), some (nV i), x, y] ∧ Stp Pt Z M H Z' M' H' ∧ DeskAt T Pt Z' M' H' d rc g' ∧ HInv g' n ∧ g'.recording = false ∧ g'.kept = g.kept ∧ playG g g.kept = ((playG g' (g.kept.drop i)).1, (playG g' (g.kept.drop i)).2 + i))
      ⟨none, none, Z, M, g, rfl, Stp.refl, D, HI, e, rfl, rfl⟩ ?_ ?_ ?_
    · rintro i σ H' _ ⟨_, _, Z', M', g', _, st, _⟩
      exact SqL.of (st.keep _ _ nr hr')
    · rintro i v σ H1 H2 hi ⟨x, y, Z1, M1, g1, rfl, st1, D1, HI1, hrec, hkept, hpl⟩ ⟨rfl, hv⟩
      obtain ⟨a, ha, hra⟩ := Paired.get' pr hv
      obtain ⟨t, m, deed, ms, rfl, ht, hm, hact, hms⟩ := hra.stp st1 G.apart
      have ed : g.kept.drop i = a :: g.kept.drop (i + 1) := by
        obtain ⟨hl, rfl⟩ := List.getElem?_eq_some_iff.mp ha
        exact List.drop_eq_getElem_cons hl
      rw [ed] at hpl
      obtain ⟨dd1, p1, hA1, q1, as1, rs1, hd1, _, _, _, hc1, _⟩ := id D1
      refine ⟨t, _, rfl, ht.st, rfl, _, _, rfl, _, _, rfl, rfl, ?_⟩
      refine ⟨_, rfl, d, dd1, _, rfl, hd1, df_m _ _ _ _ _ (by decide +kernel), (paC pu_v (paC pu_v pa0)) _ ⟨d, m, deed, ms, a, Z1, M1, rc, g1, rfl, D1, HI1.wf, Nat.le_trans HI1.pl (by decide), hm.h, hact, hms, fun er hdo H3 e3 => ?_, fun tt hdo Z3 M3 H3 st3 D3 => ?_⟩⟩
      · refine ⟨_, rfl, ifT rfl ?_⟩
        refine last _ H3 Z1 M1 g1 i (D1.ex e3) (st1.trans (Stp.ex e3)) ?_ rfl rfl
        rw [hpl, play_no hdo, Nat.zero_add]
      · refine ⟨_, rfl, ifF rfl ?_⟩
        refine ⟨_, rfl, _, _, rfl, rfl, ?_⟩
        refine ⟨some (nV deed), some (.ref m), Z3, M3, doneG g1 a tt, ?_, st1.trans st3, D3, HI1.done hc1 hdo, hrec, hkept, ?_⟩
        · rfl
        · rw [hpl]
          rw [play_ok hdo]
          dsimp only
          rw [show (playG (doneG g1 a tt) (g.kept.drop (i + 1))).2 + 1 + i = (playG (doneG g1 a tt) (g.kept.drop (i + 1))).2 + (i + 1) by omega]
    · rintro σ H1 ⟨x, y, Z1, M1, g1, rfl, st1, D1, HI1, hrec, hkept, hpl⟩
      rw [hrl, List.drop_length] at hpl
      refine last _ H1 Z1 M1 g1 rs.length D1 st1 ?_ rfl rfl
      rw [hpl, hrl]
      simp [playG]
end
end LP
end
section
set_option maxHeartbeats 4100000
namespace LP
open PySem PySem.Spec PyProof.Rows L2 Evl LamX NdefX
open Sq50 (State Layer Dot Clip House)
/-- all but d stays -/
structure BStp (Pt d : Addr) (H H' : Hp) : Prop where
  keep : ∀ y o, y ≠ d → H y = some o → H' y = some o
  back : ∀ y, H' y = none → H y = none
  tab : TabS H Pt qLam → TabS H' Pt qLam
section
variable {Pt d : Addr} {H H' H'' : Hp}
theorem BStp.trans (a : BStp Pt d H H') (b : BStp Pt d H' H'') : BStp Pt d H H'' := ⟨fun y o n h => b.keep y o n (a.keep y o n h), fun y h => a.back y (b.back y h), fun t => b.tab (a.tab t)⟩
theorem BStp.ex (e : Ex H H') : BStp Pt d H H' := ⟨fun y o _ h => e y o h, fun y h => e.back h, fun t => t.ext e⟩
theorem BStp.upd {o o' : HO} (h : H d = some o) (s : Soft o) : BStp Pt d H (L2.upd H d o') := ⟨fun y u n hy => (upd_ne n).trans hy, fun y hy => none_upd hy, fun t => tab_upd t h s⟩
end
def FsOk (fs : List (Str × V)) : Prop := fs = [] ∨ ∃ p hA q r rc, fs = deskF p hA q r rc
theorem FsOk.len {fs : List (Str × V)} (h : FsOk fs) : fs.length ≤ 5 := by
  rcases h with rfl | ⟨p, hA, q, r, rc, rfl⟩
  · exact Nat.zero_le _
  · exact Nat.le_refl _
theorem desk_all {fs : List (Str × V)} (h : FsOk fs) (p hA q rc : Addr) : putF "recorded" (.ref rc) (putF "recording" (.bl false) (putF "aside" (.ref q) (putF "history" (.ref hA) (putF "picture" (.ref p) fs)))) = deskF p hA q false rc := by
  rcases h with rfl | ⟨p', hA', q', r', rc', rfl⟩
  · exact desk_new p hA q false rc
  · rw [desk_picture, desk_history, desk_aside, desk_recording, desk_recorded]
section
variable {P : Program} {w : World} {K : PySem.W.Frag} {mg : Str → Option Value} {base : Heap}
def bad1 (w h b : Nat) : Prop := w = 0 ∨ 12 < w ∨ h = 0 ∨ 12 < h ∨ 1000000 < b
def bad3 (w h : Nat) (cs : List Nat) : Prop := cs.length ≠ w * h ∨ (cs.any fun c => decide (255 < c)) = true
instance (w h b : Nat) : Decidable (bad1 w h b) := by unfold bad1; infer_instance
instance (w h : Nat) (cs : List Nat) : Decidable (bad3 w h cs) := by unfold bad3; infer_instance
theorem first_wf {w h : Nat} {cs : List Nat} (h1 : ¬ bad1 w h 0) (h3 : ¬ bad3 w h cs) : WF (firstS w h cs) := by
  unfold bad1 at h1
  unfold bad3 at h3
  have hl : cs.length = w * h := by omega
  refine ⟨by show 1 ≤ w; omega, by show w ≤ 12; omega, by show 1 ≤ h; omega, by show h ≤ 12; omega, fun l hl' => ?_, fun l hl' => ?_, fun l hl' => ?_, fun l hl' d hd => ?_, by show 1 ≤ 5; decide, by show ([0] : List Nat).Nodup; simp, by show 0 ∈ [0]; simp, fun l hl' => ?_, by show (List.replicate (w * h) false).length = w * h; rw [List.length_replicate]⟩
  all_goals (have e : l = ⟨0, true, 255, 0, cs.map fun c => (c, 255)⟩ := by simpa [firstS] using hl')
  all_goals subst e
  · show (cs.map fun c => (c, 255)).length = w * h
    rw [List.length_map, hl]
  · exact Nat.le_refl _
  · exact Nat.zero_le _
  · obtain ⟨c, hc, rfl⟩ := List.mem_map.mp hd
    refine ⟨?_, Nat.le_refl _⟩
    rcases Nat.lt_or_ge 255 c with z | z
    · exact absurd (Or.inr (List.any_eq_true.mpr ⟨c, hc, decide_eq_true z⟩)) h3
    · exact z
  · exact Nat.zero_lt_one
/-- Desk.begin(self, w, h, budget, colours) -/
def sp_Desk_begin (T : Txt K mg) (Pt : Addr) : Sp := fun vs H Q E => ∃ (d c dd : Addr) (w h b : Nat) (cs : List Nat) (fs : List (Str × V)) (Z M : Addr → Prop), vs = [.ref d, nV w, nV h, nV b, .ref c] ∧ H c = some (.lst (nVs cs)) ∧ H d = some (.ins T.Desk.a dd fs) ∧ FsOk fs ∧ Ground Pt Z M H ∧ M d ∧ w < 2 ^ 64 ∧ h < 2 ^ 64 ∧
  (bad1 w h b → Rz T.C_CannotBe (-1) H E) ∧ (¬ bad1 w h b → bad3 w h cs → Rz T.C_NotSoTold (-3) H E) ∧ (¬ bad1 w h b → ¬ bad3 w h cs → ∀ p Z' M' rc' H', H p = none → DStp Z M d H Z' M' rc' H' → DeskAt T Pt Z' M' H' d rc' (Sq50.begun w h b cs) → H' p = some (.lst [.int 0]) → Q (.ref p) H')
theorem ok_Desk_begin (T : Txt K mg) (Pt : Addr) : FnOk P w K mg base (L2.CX P w) 5 T.Desk_begin.a T.Desk_begin.fd ["self", "w", "h", "budget", "colours"] (sp_Desk_begin T Pt) := by
  refine T.Desk_begin.F.okX sc_Desk_begin (fun vs H Q E h => ?_) (fun cdv A outer s0 H vs Q E hr h => ⟨_, (pss_cons (ps_if (PW.pt (pw_or (pt_cmpR op_lt (pe_callB (call_min2 rfl) (by rfl) (T.nb "min" (by decide)) (by decide +kernel) (pa_cons (pv 1) (pa_cons (pv 2) pa_nil))) pe_int (nomark _)) (pw_or (pt_cmpR op_gt (pe_callB (call_max2 rfl) (by rfl) (T.nb "max" (by decide)) (by decide +kernel) (pa_cons (pv 1) (pa_cons (pv 2) pa_nil))) (pe_glob (by rfl) T.LONGEST_SIDE.g T.LONGEST_SIDE.r) (nomark _)) (pw_or1 (pt_cmpR op_gt (pv 3) (pe_glob (by rfl) T.MOST_BUDGET.g T.MOST_BUDGET.r) (nomark _))))))
  (pss_one (ps_raiseR rfl T.CannotBe hr (takes_of rfl rfl rfl rfl)))
  pss_nil)
  (pss_cons (ps_if (PW.pt (pw_or (pt_cmpR op_ne (pe_callB call_len_seq (by rfl) (T.nb "len" (by decide)) (by decide +kernel) (pa_cons (pv 4) pa_nil)) (pe_op op_mul (pv 1) (pv 2)) (nomark _)) (pw_or1 (pt_cmpR op_gt (pe_callB (cr_max rfl) (by rfl) (T.nb "max" (by decide)) (by decide +kernel) (pa_cons (pv 4) pa_nil)) pe_int (nomark _)))))
  (pss_one (ps_raiseR rfl T.NotSoTold hr (takes_of rfl rfl rfl rfl)))
  pss_nil)
  (pss_cons (ps_fld (pv 0) (pe_call (ok_first_picture T) (hr.mono (by decide)) (by rfl) T.first_picture.g T.first_picture.F.kp T.first_picture.b .nil pass0 (pa_cons (pv 1) (pa_cons (pv 2) (pa_cons (pv 4) pa_nil)))) rfl)
  (pss_cons (ps_fld (pv 0) (pe_make T.History.mks (ok_History_init T) (hr.mono (by decide)) (by rfl) T.History.g T.History.b .nil pass0 (pa_cons (pv 3) pa_nil)) rfl)
  (pss_cons (ps_fld (pv 0) (pe_lst pa_nil) rfl)
  (pss_cons (ps_fld (pv 0) pe_bl rfl)
  (pss_cons (ps_fld (pv 0) (pe_lst pa_nil) rfl)
  (pss_one (ps_ret (pe_lst (pa_cons pe_int pa_nil))))))))))), ?_⟩)
  · obtain ⟨d, c, dd, w, h, b, cs, fs, Z, M, rfl, _⟩ := h
    rfl
  · obtain ⟨d, c, dd, w, h, b, cs, fs, Z, M, rfl, hc, hd, ff, G, md, hw64, hh64, k1, k2, k3⟩ := h
    have cl := T.Desk.cl
    have fl := ff.len
    have nzd := G.apart d md
    refine s_if (b := decide (bad1 w h b)) (pt_is (pt_or (pt_cmp (pu_min2 pu_v pu_v) pu_c) fun _ => pt_or (pt_cmp (pu_max2 pu_v pu_v) pu_c) fun _ => pt_cmp pu_v pu_c) ?_) (fun e => Rz.go (k1 (of_decide_eq_true e)) (Ex.refl H)) fun e => ?_
    · refine Bool.eq_iff_iff.mpr (Iff.trans ?_ decide_eq_true_iff.symm)
      show _ ↔ (w = 0 ∨ 12 < w ∨ h = 0 ∨ 12 < h ∨ 1000000 < b)
      simp only [Bool.or_eq_true, decide_eq_true_eq]
      omega
    · have n1 : ¬ bad1 w h b := of_decide_eq_false e
      have n1' := n1
      unfold bad1 at n1'
      have hpos : 0 < w * h := Nat.mul_pos (by omega) (by omega)
      refine s_if (b := decide (bad3 w h cs)) (pt_is (b := (!decide ((cs.length : Int) = ((w * h : Nat) : Int))) || (cs.any fun c => decide (255 < c))) (pt_or (pt_test (pu_ne (pu_is (pu_lenL (K := K) pu_v (SqL.of hc)) (by show V.int _ = V.int _; rw [nVs_len])) (pu_nmulS pu_v pu_v hw64))) fun e1 => ?_) ?_) (fun e => Rz.go (k2 n1 (of_decide_eq_true e)) (Ex.refl H)) fun e => ?_
      · intro Q' q'
        have hl : cs.length = w * h := by
          have := of_decide_eq_true (by simpa using e1)
          omega
        refine ⟨_, rfl, c, cs.map fun (b : Nat) => (b : Int), rfl, by rw [← nVs_ints]; exact SqL.of hc, by rw [List.length_map]; omega, fun m hm hmax => ?_⟩
        refine ⟨_, _, rfl, rfl, _, rfl, ?_⟩
        have em : decide ((255 : Int) < m) = (cs.any fun c => decide (255 < c)) := by
          rw [Bool.eq_iff_iff, decide_eq_true_eq, List.any_eq_true]
          obtain ⟨x, hx, rfl⟩ := List.mem_map.mp hm  -- own
          constructor
          · intro z
            exact ⟨x, hx, decide_eq_true (by omega)⟩
          · rintro ⟨y, hy, z⟩
            have := hmax y (List.mem_map.mpr ⟨y, hy, rfl⟩)
            have := of_decide_eq_true z
            omega
        rw [em]
        exact q'
      · refine Bool.eq_iff_iff.mpr (Iff.trans ?_ decide_eq_true_iff.symm)
        show _ ↔ (cs.length ≠ w * h ∨ (cs.any fun c => decide (255 < c)) = true)
        simp only [Bool.or_eq_true, decide_eq_true_eq, Bool.not_eq_true', decide_eq_false_iff_not]
        constructor
        · rintro (z | z)
          · exact .inl (by omega)
          · exact .inr z
        · rintro (z | z)
          · exact .inl (by omega)
          · exact .inr z
      · have n3 : ¬ bad3 w h cs := of_decide_eq_false e
        have n3' := n3
        unfold bad3 at n3'
        have hcl : cs.length = w * h := by omega
        have hm12 : w * h ≤ 12 * 12 := Nat.mul_le_mul (by omega) (by omega)
        -- self.picture
        refine c_call (paC pu_v (paC pu_v (paC pu_v pa0))) ⟨w, h, c, cs, Z, rfl, SqL.of hc, by omega, by omega, by omega, G.free, fun p H1 e1 h1 => ?_⟩
        have h1d := e1 _ _ hd
        refine ⟨_, rfl, d, _, dd, _, rfl, h1d, cl, T.Desk.no _ (by decide), by omega, ?_⟩
        have b2 : BStp Pt d H1 (upd H1 d (.ins T.Desk.a dd (putF "picture" (.ref p) fs))) := BStp.upd h1d trivial
        generalize eH2 : upd H1 d (.ins T.Desk.a dd (putF "picture" (.ref p) fs)) = H2 at b2
        have h2d : H2 d = some (.ins T.Desk.a dd (putF "picture" (.ref p) fs)) := by rw [← eH2, upd_same]
        -- self.history
        refine ⟨_, rfl, fun x dx nx ndx nex => ?_⟩
        have nxd : d ≠ x := ne_of_none h2d nx
        refine ⟨x, dx, b, rfl, upd_same, fun k u H3 nk nu nku kp3 bk3 h3x h3k h3u => ⟨rfl, ?_⟩⟩
        have e23 : Ex H2 H3 := fun y o hy => kp3 y o (ne_of_none hy nx) ((upd_ne (ne_of_none hy nx)).trans ((upd_ne (ne_of_none hy ndx)).trans hy))
        have nk2 : H2 k = none := none_upd (none_upd nk)
        have nu2 : H2 u = none := none_upd (none_upd nu)
        have nxk : x ≠ k := ne_of_none upd_same nk
        have nxu : x ≠ u := ne_of_none upd_same nu
        have h3d := e23 _ _ h2d
        refine ⟨_, rfl, d, _, dd, _, rfl, h3d, cl, T.Desk.no _ (by decide), few (fewS fl), ?_⟩
        have b4 := (BStp.ex (Pt := Pt) (d := d) e23).trans (BStp.upd (o' := .ins T.Desk.a dd (putF "history" (.ref x) (putF "picture" (.ref p) fs))) h3d trivial)
        generalize eH4 : upd H3 d (.ins T.Desk.a dd (putF "history" (.ref x) (putF "picture" (.ref p) fs))) = H4 at b4
        have h4d : H4 d = some (.ins T.Desk.a dd (putF "history" (.ref x) (putF "picture" (.ref p) fs))) := by rw [← eH4, upd_same]
        have n4 : ∀ y o, y ≠ d → H3 y = some o → H4 y = some o := fun y o n hy => by rw [← eH4]; exact (upd_ne n).trans hy
        have h4x := n4 _ _ nxd.symm h3x
        have ndk : k ≠ d := (ne_of_none h2d nk2).symm
        have ndu : u ≠ d := (ne_of_none h2d nu2).symm
        have h4k := n4 _ _ ndk h3k
        have h4u := n4 _ _ ndu h3u
        -- self.aside
        refine ⟨Nat.zero_le _, fun q nq => ?_⟩
        have e5 := Ex.new (o := .lst []) nq
        have ndq : d ≠ q := ne_of_none h4d nq
        refine ⟨_, rfl, d, _, dd, _, rfl, e5 _ _ h4d, cl, T.Desk.no _ (by decide), few (fewS (fewS fl)), ?_⟩
        -- self.recording
        refine ⟨_, rfl, d, _, dd, _, rfl, upd_same, cl, T.Desk.no _ (by decide), few (fewS (fewS (fewS fl))), ?_⟩
        rw [upd_upd]
        have b7 := (BStp.ex (Pt := Pt) (d := d) e5).trans (BStp.upd (o' := .ins T.Desk.a dd (putF "recording" (.bl false) (putF "aside" (.ref q) (putF "history" (.ref x) (putF "picture" (.ref p) fs))))) (e5 _ _ h4d) trivial)
        generalize eH7 : upd (upd H4 q (.lst [])) d (.ins T.Desk.a dd (putF "recording" (.bl false) (putF "aside" (.ref q) (putF "history" (.ref x) (putF "picture" (.ref p) fs))))) = H7 at b7
        have h7d : H7 d = some (.ins T.Desk.a dd (putF "recording" (.bl false) (putF "aside" (.ref q) (putF "history" (.ref x) (putF "picture" (.ref p) fs))))) := by rw [← eH7, upd_same]
        have h7q : H7 q = some (.lst []) := by rw [← eH7]; exact (upd_ne ndq.symm).trans upd_same
        -- self.recorded
        refine ⟨Nat.zero_le _, fun r nr => ?_⟩
        have e8 := Ex.new (o := .lst []) nr
        have ndr : d ≠ r := ne_of_none h7d nr
        refine ⟨_, rfl, d, _, dd, _, rfl, e8 _ _ h7d, cl, T.Desk.no _ (by decide), few (fewS (fewS (fewS (fewS fl)))), ?_⟩
        rw [desk_all ff]
        have b9 := (BStp.ex (Pt := Pt) (d := d) e8).trans (BStp.upd (o' := .ins T.Desk.a dd (deskF p x q false r)) (e8 _ _ h7d) trivial)
        generalize eH9 : upd (upd H7 r (.lst [])) d (.ins T.Desk.a dd (deskF p x q false r)) = H9 at b9
        have h9d : H9 d = some (.ins T.Desk.a dd (deskF p x q false r)) := by rw [← eH9, upd_same]
        have h9r : H9 r = some (.lst []) := by rw [← eH9]; exact (upd_ne ndr.symm).trans upd_same
        refine ⟨by show 1 ≤ sizeLine; decide, fun L nL => ?_⟩
        have eL := Ex.new (o := .lst [V.int 0]) nL
        have bL := b9.trans (BStp.ex (Pt := Pt) (d := d) eL)
        have bA := b2.trans (b4.trans (b7.trans bL))
        have bAll := (BStp.ex (Pt := Pt) (d := d) e1).trans bA
        have b4L := b7.trans bL
        have bPre := (BStp.ex (Pt := Pt) (d := d) e1).trans (b2.trans (b4.trans (b7.trans b9)))
        generalize eHL : upd H9 L (.lst [V.int 0]) = HL at bA bAll bL b4L
        have hLL : HL L = some (.lst [V.int 0]) := by rw [← eHL, upd_same]
        have hLd : HL d = some (.ins T.Desk.a dd (deskF p x q false r)) := by rw [← eHL]; exact eL _ _ h9d
        have hLr : HL r = some (.lst []) := by rw [← eHL]; exact eL _ _ h9r
        have hLx := b4L.keep _ _ nxd.symm h4x
        have hLk := b4L.keep _ _ ndk h4k
        have hLu := b4L.keep _ _ ndu h4u
        have hLq := bL.keep _ _ ndq.symm h7q
        have nr4 : H4 r = none := b7.back r nr
        have nxr : x ≠ r := ne_of_none h4x nr4
        have nkr : k ≠ r := ne_of_none h4k nr4
        have nur : u ≠ r := ne_of_none h4u nr4
        have nxq : x ≠ q := ne_of_none h4x nq
        have nkq : k ≠ q := ne_of_none h4k nq
        have nuq : u ≠ q := ne_of_none h4u nq
        have nqr : q ≠ r := ne_of_none h7q nr
        have r1 : H1 r = none := b2.back _ (b4.back _ nr4)
        have q1 : H1 q = none := b2.back _ (b4.back _ nq)
        have x1 : H1 x = none := b2.back _ nx
        have k1' : H1 k = none := b2.back _ nk2
        have u1 : H1 u = none := b2.back _ nu2
        have fr := e1.back r1
        have fq := e1.back q1
        have fx := e1.back x1
        have fk := e1.back k1'
        have fu := e1.back u1
        have im : ∀ y, Z y → H1 y ≠ none → (Z y ∧ y ≠ x ∧ y ≠ k ∧ y ≠ u ∧ y ≠ r) := fun y z n => ⟨z, fun e => n (e ▸ x1), fun e => n (e ▸ k1'), fun e => n (e ▸ u1), fun e => n (e ▸ r1)⟩
        have kp : Keep (fun y => Z y ∧ y ≠ x ∧ y ≠ k ∧ y ≠ u ∧ y ≠ r) H1 HL := fun y o z hy => bA.keep y o (fun e => nzd (e ▸ z.1)) hy
        have hpic : Pic T (fun y => Z y ∧ y ≠ x ∧ y ≠ k ∧ y ≠ u ∧ y ≠ r) HL p (firstS w h cs) := (h1.imp im).keep kp
        have gr : Ground Pt (fun y => Z y ∧ y ≠ x ∧ y ≠ k ∧ y ≠ u ∧ y ≠ r) (fun y => M y ∨ y = x ∨ y = k ∨ y = u) HL := by
          refine ⟨fun y hy => ⟨G.free y (bAll.back y hy), fun e => ?_, fun e => ?_, fun e => ?_, fun e => ?_⟩, fun y m z => ?_, fun y m hy => ?_, bAll.tab G.tab, .inl G.mp⟩
          · rw [e, hLx] at hy; cases hy
          · rw [e, hLk] at hy; cases hy
          · rw [e, hLu] at hy; cases hy
          · rw [e, hLr] at hy; cases hy
          · rcases m with m | m | m | m
            · exact G.apart y m z.1
            · exact z.2.1 m
            · exact z.2.2.1 m
            · exact z.2.2.2.1 m
          · rcases m with m | m | m | m
            · exact G.has y m (bAll.back y hy)
            · rw [m, hLx] at hy; cases hy
            · rw [m, hLk] at hy; cases hy
            · rw [m, hLu] at hy; cases hy
        refine k3 n1 n3 L _ _ r HL (bPre.back L nL) ?_ ⟨dd, p, x, q, [], [], hLd, hpic, ⟨dx, k, u, [], [], hLx, hLk, hLu, .nil, .nil, .inr (.inl rfl), .inr (.inr (.inl rfl)), .inr (.inr (.inr rfl)), nku⟩, ⟨[], ⟨⟨G.free q fq, nxq.symm, nkq.symm, nuq.symm, nqr⟩, hLq⟩, .nil⟩, .inl ⟨rfl, rfl⟩, hLr, .nil, .inl md, nxd, ?_, fun z => z.2.2.2.2 rfl, gr⟩ hLL
        · refine ⟨fun y o n n' hy => bAll.keep y o n' hy, fun y m => ?_, fun _ z => z.1, bAll.back⟩
          rcases m with (m | m | m | m) | m
          · exact .inl m
          · exact .inr (.inr (m ▸ fx))
          · exact .inr (.inr (m ▸ fk))
          · exact .inr (.inr (m ▸ fu))
          · exact .inr (.inr (m ▸ fr))
        · rintro (m | m | m | m)
          · exact G.has r m fr
          · exact nxr m.symm
          · exact nkr m.symm
          · exact nur m.symm
/-- Desk.__init__(self) -/
def sp_Desk_init (T : Txt K mg) (Pt : Addr) : Sp := fun vs H Q _ => ∃ (d dd : Addr) (Z M : Addr → Prop), vs = [.ref d] ∧ H d = some (.ins T.Desk.a dd []) ∧ Ground Pt Z M H ∧ M d ∧ ∀ Z' M' rc' H', DStp Z M d H Z' M' rc' H' → DeskAt T Pt Z' M' H' d rc' Sq50.fresh → Q .non H'
theorem ok_Desk_init (T : Txt K mg) (Pt : Addr) : FnOk P w K mg base CX0 6 T.Desk.i T.Desk.fd ["self"] (sp_Desk_init T Pt) := by
  refine T.Desk.F.ok sc_Desk_init (fun vs H Q E h => ?_) (fun cdv A outer s0 H vs Q E hr h => ⟨_, (pss_one (ps_expr (pe_meth (pv 0) T.Desk.cl T.Desk_begin.m (ok_Desk_begin T Pt) (hr.mono (by decide)) T.Desk_begin.b .nil passL (pa_cons pe_int (pa_cons pe_int (pa_cons pe_int (pa_cons (pe_lst (pa_cons pe_int pa_nil)) pa_nil))))))), ?_⟩)
  · obtain ⟨d, dd, Z, M, rfl, _⟩ := h
    rfl
  · obtain ⟨d, dd, Z, M, rfl, hd, G, md, k⟩ := h
    refine ⟨_, rfl, d, dd, _, rfl, hd, rfl, by show 1 ≤ sizeLine; decide, fun c nc => ?_⟩
    have ec := Ex.new (o := .lst [V.int 0]) nc
    have g1 : ¬ bad1 1 1 100 := by unfold bad1; omega
    have g3 : ¬ bad3 1 1 [0] := by unfold bad3; decide
    refine ⟨d, c, dd, 1, 1, 100, [0], [], Z, M, rfl, upd_same, ec _ _ hd, .inl rfl, G.ex ec, md, by decide, by decide, fun z => absurd z g1, fun _ z => absurd z g3, fun _ _ p Z' M' rc' H' np st D h => ?_⟩
    refine k Z' M' rc' H' ⟨fun x o n n' hx => st.keep x o n n' (ec _ _ hx), fun x m => ?_, st.le, fun x hx => none_upd (st.back x hx)⟩ D
    rcases st.new x m with z | z | z
    · exact .inl z
    · exact .inr (.inl z)
    · exact .inr (.inr (none_upd z))
end
end LP
end
section
set_option maxHeartbeats 4100000
namespace LP
open PySem PySem.Spec PyProof.Rows L2 Evl LamX NdefX
open Sq50 (State Layer Dot Clip House)
/-! a call, told in one row of numbers -/
def enc : Sq50.Call → List Nat
  | .begin_ w h b l => 1 :: w :: h :: b :: l.length :: l
  | .act op l => 2 :: op :: l.length :: l
  | .undo => [3]
  | .redo => [4]
  | .row y => [5, y]
  | .own y => [6, y]
  | .chosen y => [7, y]
  | .list => [8]
  | .history => [9]
  | .copy => [10]
  | .record => [11]
  | .halt_ => [12]
  | .play => [13]
structure CallOk (c : Sq50.Call) : Prop where
  len : (enc c).length ≤ 2000
  all : ∀ x ∈ enc c, x < 2 ^ 64
/-! what is due, refusals apart -/
def stepE (g : House) : Sq50.Call → Except Int (House × List Int)
  | .begin_ w h b l => if bad1 w h b then .error (-1) else if bad3 w h l then .error (-3) else .ok (Sq50.begun w h b l, [0])
  | .act op l => match Sq50.actOf op l with
    | none => .error (-3)
    | some a => if g.recording = true ∧ 40 ≤ g.kept.length then .error (-5) else match g.now.does g.clip a with
      | .error e => .error e
      | .ok t => .ok (recG g a t, [(costN g.now t : Int), ((Sq50.room g.budget ((g.now, costN g.now t) :: g.past)).length : Int)])
  | .undo => match g.past with
    | [] => .error (-6)
    | x :: l => .ok ({ g with now := x.1, past := l, future := (g.now, x.2) :: g.future }, [(l.length : Int), ((g.future.length + 1 : Nat) : Int)])
  | .redo => match g.future with
    | [] => .error (-6)
    | x :: l => .ok ({ g with now := x.1, past := Sq50.room g.budget ((g.now, x.2) :: g.past), future := l }, [((Sq50.room g.budget ((g.now, x.2) :: g.past)).length : Int), (l.length : Int)])
  | .row y => if g.now.h ≤ y then .error (-1) else .ok (g, rowOf g.now.w fun x => g.now.shown x y)
  | .own y => if g.now.h ≤ y then .error (-1) else .ok (g, rowOf g.now.w fun x => g.now.at_ g.now.layer x y)
  | .chosen y => if g.now.h ≤ y then .error (-1) else .ok (g, choOf g.now y)
  | .list => .ok (g, lisOf g.now)
  | .history => .ok (g, [(g.past.length : Int), (costs g.past : Int), (g.future.length : Int), (g.kept.length : Int)])
  | .copy => .ok ({ g with clip := some g.now.copied }, [((g.now.copied.dots.filter fun d => d.isSome).length : Int)])
  | .record => .ok ({ g with recording := true, kept := [] }, [0])
  | .halt_ => .ok ({ g with recording := false }, [(g.kept.length : Int)])
  | .play => if g.recording = true then .error (-6) else .ok ((playG g g.kept).1, [((playG g g.kept).2 : Int), ((playG g g.kept).1.past.length : Int)])
def aft (g : House) (c : Sq50.Call) : House × List Int := ((g.step c).1, (g.step c).2.value :: (g.step c).2.out)
def fin (g : House) : Except Int (House × List Int) → House × List Int
  | .error e => (g, [e])
  | .ok x => x
theorem ints_flat (l : List Nat) (f : Nat → Dot) : Sq50.ints (l.flatMap fun x => [(f x).1, (f x).2]) = l.flatMap fun x => [((f x).1 : Int), ((f x).2 : Int)] := by
  unfold Sq50.ints
  rw [List.map_flatMap]
  rfl
theorem aft_eq (g : House) (c : Sq50.Call) : aft g c = fin g (stepE g c) := by
  cases c with
  | begin_ w h b l =>
    show (((g.step (.begin_ w h b l)).1, (g.step (.begin_ w h b l)).2.value :: (g.step (.begin_ w h b l)).2.out) : House × List Int) = _
    have e : g.step (.begin_ w h b l) = if bad1 w h b then (g, Sq50.says (-1)) else if bad3 w h l then (g, Sq50.says (-3)) else (Sq50.begun w h b l, Sq50.says 0) := by
      unfold Sq50.House.step
      simp only [bad1, bad3, show Sq50.SIDE = 12 from rfl, show Sq50.BUDGET = 1000000 from rfl]
    rw [e]
    dsimp only [stepE]
    split
    · rfl
    · split <;> rfl
  | act op l =>
    show (((g.step (.act op l)).1, (g.step (.act op l)).2.value :: (g.step (.act op l)).2.out) : House × List Int) = _
    dsimp only [stepE, Sq50.House.step]
    cases Sq50.actOf op l with
    | none => rfl
    | some a =>
      dsimp only
      by_cases c : g.recording = true ∧ 40 ≤ g.kept.length
      · rw [if_pos c, if_pos (show g.recording = true ∧ Sq50.RECORD ≤ g.kept.length from c)]
        rfl
      · rw [if_neg c, if_neg (show ¬ (g.recording = true ∧ Sq50.RECORD ≤ g.kept.length) from c)]
        cases hd : g.now.does g.clip a with
        | error e => rw [acts_no hd]; rfl
        | ok t => rw [acts_ok hd]; rfl
  | undo =>
    dsimp only [aft, stepE, Sq50.House.step, Sq50.House.undo]
    cases g.past <;> rfl
  | redo =>
    dsimp only [aft, stepE, Sq50.House.step, Sq50.House.redo]
    cases g.future <;> rfl
  | row y =>
    dsimp only [aft, stepE, Sq50.House.step]
    split
    · rfl
    · dsimp only [fin]
      rw [ints_flat (List.range g.now.w) fun x => g.now.shown x y]
      rfl
  | own y =>
    dsimp only [aft, stepE, Sq50.House.step]
    split
    · rfl
    · dsimp only [fin]
      rw [ints_flat (List.range g.now.w) fun x => g.now.at_ g.now.layer x y]
      rfl
  | chosen y =>
    dsimp only [aft, stepE, Sq50.House.step]
    split
    · rfl
    · dsimp only [fin]
      unfold choOf Sq50.ints
      rw [List.map_map]
      congr 3
      refine funext fun x => ?_
      show ((if g.now.is x y = true then 1 else 0 : Nat) : Int) = _
      split <;> rfl
  | list =>
    dsimp only [aft, stepE, Sq50.House.step]
    dsimp only [fin]
    unfold lisOf Sq50.ints
    rw [List.map_append, List.map_flatMap]
    rfl
  | history => rfl
  | copy => rfl
  | record => rfl
  | halt_ => rfl
  | play =>
    dsimp only [aft, stepE, Sq50.House.step]
    split
    · rfl
    · rename_i h
      rw [plays_eq g.kept g (by simpa using h)]
      rfl
theorem clip_done {g : House} {a : Sq50.Act} {t : State} (W : WF g.now) (h : ∃ as, ClipR g.clip as) : ∃ as, ClipR (doneG g a t).clip as := by
  by_cases c : a = .cut
  · refine ⟨liftL g.now, ?_⟩
    show ClipR (if a = .cut then some g.now.copied else g.clip) _
    rw [if_pos c]
    exact .inr ⟨g.now, W, rfl, rfl⟩
  · obtain ⟨as, h⟩ := h
    refine ⟨as, ?_⟩
    show ClipR (if a = .cut then some g.now.copied else g.clip) _
    rw [if_neg c]
    exact h
theorem HInv.play {n : Nat} : ∀ {l : List Sq50.Act} {g : House}, HInv g n → (∃ as, ClipR g.clip as) → HInv (playG g l).1 n
  | [], _, h, _ => h
  | a :: l, g, h, hc => by
    cases hd : g.now.does g.clip a with
    | error e => rw [play_no hd]; exact h
    | ok t =>
      rw [play_ok hd]
      obtain ⟨as, r⟩ := id hc
      exact HInv.play (h.done r hd) (clip_done h.wf hc)
theorem HInv.more {g : House} {n m : Nat} (h : HInv g n) (e : n ≤ m) : HInv g m := ⟨h.wf, h.wp, h.wu, h.sum, h.bud, Nat.le_trans h.fut e, h.rcd⟩
theorem costs_cons (x : State × Nat) (l : List (State × Nat)) : costs (x :: l) = x.2 + costs l := by unfold costs; rw [List.map_cons, List.sum_cons]
/-- what holds of a house holds behind each call -/
theorem HInv.step {g : House} {n : Nat} (h : HInv g n) (hc : ∃ as, ClipR g.clip as) : ∀ {c : Sq50.Call} {x : House × List Int}, stepE g c = .ok x → HInv x.1 (n + 1)
  | .begin_ w h' b l, x, e => by
    dsimp only [stepE] at e
    split at e
    · cases e
    · split at e
      · cases e
      · rename_i h1 h3
        cases e
        have h1' := h1
        unfold bad1 at h1'
        exact ⟨first_wf (by unfold bad1; omega) h3, fun x hx => (nomatch (show x ∈ ([] : List (State × Nat)) from hx)), fun x hx => (nomatch (show x ∈ ([] : List (State × Nat)) from hx)), Nat.zero_le _, by show b ≤ 1000000; omega, Nat.zero_le _, Nat.zero_le _⟩
  | .act op l, x, e => by
    dsimp only [stepE] at e
    split at e
    · cases e
    · split at e
      · cases e
      · rename_i a ha hr
        split at e
        · cases e
        · rename_i t hd
          cases e
          obtain ⟨as, r⟩ := hc
          have q := h.done r hd
          have hk := h.rcd
          refine ⟨q.wf, q.wp, q.wu, q.sum, q.bud, Nat.zero_le _, ?_⟩
          show (if g.recording = true then g.kept ++ [a] else g.kept).length ≤ 40
          split
          · rename_i hrec
            rw [List.length_append, List.length_singleton]  -- own
            have : ¬ 40 ≤ g.kept.length := fun z => hr ⟨hrec, z⟩
            omega
          · exact hk
  | .undo, x, e => by
    dsimp only [stepE] at e
    split at e
    · cases e
    · rename_i y l hp
      cases e
      have h1 := h.wp y (by rw [hp]; exact List.mem_cons_self ..)
      have hs := h.sum
      have hf := h.fut
      rw [hp, costs_cons] at hs
      refine ⟨h1.1, fun z hz => h.wp z (by rw [hp]; exact List.mem_cons_of_mem _ hz), fun z hz => ?_, by show costs l ≤ g.budget; omega, h.bud, by show ((g.now, y.2) :: g.future).length ≤ n + 1; rw [List.length_cons]; omega, h.rcd⟩
      rcases List.mem_cons.mp hz with rfl | hz  -- own
      · exact ⟨h.wf, h1.2⟩
      · exact h.wu z hz
  | .redo, x, e => by
    dsimp only [stepE] at e
    split at e
    · cases e
    · rename_i y l hp
      cases e
      have h1 := h.wu y (by rw [hp]; exact List.mem_cons_self ..)
      have hf := h.fut
      rw [hp, List.length_cons] at hf
      refine ⟨h1.1, fun z hz => ?_, fun z hz => h.wu z (by rw [hp]; exact List.mem_cons_of_mem _ hz), room_costs _ _, h.bud, by show l.length ≤ n + 1; omega, h.rcd⟩
      rcases List.mem_cons.mp (room_mem _ _ z hz) with rfl | hz
      · exact ⟨h.wf, h1.2⟩
      · exact h.wp z hz
  | .row y, x, e => by
    dsimp only [stepE] at e
    split at e
    · cases e
    · cases e; exact h.more (Nat.le_succ n)
  | .own y, x, e => by
    dsimp only [stepE] at e
    split at e
    · cases e
    · cases e; exact h.more (Nat.le_succ n)
  | .chosen y, x, e => by
    dsimp only [stepE] at e
    split at e
    · cases e
    · cases e; exact h.more (Nat.le_succ n)
  | .list, x, e => by cases e; exact h.more (Nat.le_succ n)
  | .history, x, e => by cases e; exact h.more (Nat.le_succ n)
  | .copy, x, e => by cases e; exact ⟨h.wf, h.wp, h.wu, h.sum, h.bud, Nat.le_succ_of_le h.fut, h.rcd⟩
  | .record, x, e => by cases e; exact ⟨h.wf, h.wp, h.wu, h.sum, h.bud, Nat.le_succ_of_le h.fut, Nat.zero_le _⟩
  | .halt_, x, e => by cases e; exact ⟨h.wf, h.wp, h.wu, h.sum, h.bud, Nat.le_succ_of_le h.fut, h.rcd⟩
  | .play, x, e => by
    dsimp only [stepE] at e
    split at e
    · cases e
    · cases e; exact (HInv.play h hc).more (Nat.le_succ n)
theorem HInv.aft {g : House} {n : Nat} (h : HInv g n) (hc : ∃ as, ClipR g.clip as) (c : Sq50.Call) : HInv (aft g c).1 (n + 1) := by
  rw [aft_eq]
  cases e : stepE g c with
  | error z => exact h.more (Nat.le_succ n)
  | ok x => exact h.step hc e
end LP
end
section
set_option maxHeartbeats 4100000
namespace LP
open PySem PySem.Spec PyProof.Rows L2 Evl LamX NdefX
open Sq50 (State Layer Dot Clip House)
section
variable {P : Program} {w : World} {K : PySem.W.Frag} {mg : Str → Option Value} {base : Heap}
theorem pu_ixD {σ : L2.St} {H : Hp} {ta tb : TE} {a : Addr} {k : Int} {v : V} {f : Int → Option V} (ha : Pu ta σ H (.ref a)) (hb : Pu tb σ H (.int k)) (d : IntD K a f) (e : f k = some v) : Pu (tOp (rIxI K) ta tb) σ H v := fun _ q => ha _ (hb _ ⟨a, f, k, v, rfl, rfl, d, e, q⟩)
def num (c : Sq50.Call) : Nat := (enc c).headD 0
/-- how many numbers stand behind it, a list apart -/
def plainN : Sq50.Call → Nat
  | .begin_ _ _ _ _ => 3
  | .act _ _ => 1
  | .row _ => 1
  | .own _ => 1
  | .chosen _ => 1
  | _ => 0
def listL : Sq50.Call → Option (List Nat)
  | .begin_ _ _ _ l => some l
  | .act _ l => some l
  | _ => none
theorem enc_hd (c : Sq50.Call) : (enc c)[0]? = some (num c) := by cases c <;> rfl
theorem num_plain (T : Txt K mg) (c : Sq50.Call) : plain [(1, 3), (2, 1), (3, 0), (4, 0), (5, 1), (6, 1), (7, 1), (8, 0), (9, 0), (10, 0), (11, 0), (12, 0), (13, 0)] (num c : Int) = some (nV (plainN c)) := by cases c <;> rfl
theorem num_list (c : Sq50.Call) : inV (nV (num c)) [V.int 1, V.int 2] = (listL c).isSome := by cases c <;> rfl
theorem enc_none {c : Sq50.Call} (h : listL c = none) : (enc c).length = 1 + plainN c := by cases c <;> first | rfl | cases h
theorem enc_some {c : Sq50.Call} {l : List Nat} (h : listL c = some l) : (enc c)[1 + plainN c]? = some l.length ∧ (enc c).length = 1 + plainN c + 1 + l.length := by
  cases c with
  | begin_ w h' b l' => cases h; exact ⟨rfl, by show l.length + 1 + 1 + 1 + 1 + 1 = 1 + 3 + 1 + l.length; omega⟩
  | act op l' => cases h; exact ⟨rfl, by show l.length + 1 + 1 + 1 = 1 + 1 + 1 + l.length; omega⟩
  | _ => cases h
theorem at_mid {a b c : List Nat} {i n : Nat} (h : b[i]? = some n) : (nVs (a ++ b ++ c))[a.length + i]? = some (nV n) := by
  have hi := (List.getElem?_eq_some_iff.mp h).1
  unfold nVs
  rw [List.getElem?_map, List.append_assoc, List.getElem?_append_right (Nat.le_add_right ..), Nat.add_sub_cancel_left, List.getElem?_append_left hi, h]
  rfl
/-- call_end(calls, place) -/
def sp_call_end (T : Txt K mg) : Sp := fun vs H Q _ => ∃ (ca : Addr) (pre post : List Nat) (c : Sq50.Call), vs = [.ref ca, nV pre.length] ∧ SqL K H ca (nVs (pre ++ enc c ++ post)) ∧ Q (nV (pre.length + (enc c).length)) H
theorem ok_call_end (T : Txt K mg) : FnOk P w K mg base CX0 1 T.call_end.a T.call_end.fd ["calls", "place"] (sp_call_end T) := by
  refine T.call_end.F.ok sc_call_end (fun vs H Q E h => ?_) (fun cdv A outer s0 H vs Q E hr h => ⟨_, (pss_cons (ps_set (i := 2) sc_call_end.nd rfl (by first | exact Or.inl rfl | exact Or.inr rfl) (pe_op op_add (pe_op op_add (pv 1) pe_int) (pe_ix ix_intd (pe_glob (by rfl) T.PLAIN.g T.PLAIN.r) (pe_ix ix_list (pv 0) (pv 1) (fun _ _ => rfl)) (fun _ _ => rfl))))
  (pss_cons (ps_if (pt_cmpR op_in_seq (pe_ix ix_list (pv 0) (pv 1) (fun _ _ => rfl)) (pe_glob (by rfl) T.WITH_LIST.g T.WITH_LIST.r) rfl)
  (pss_one (ps_aug (i := 2) sc_call_end.nd rfl (by first | exact Or.inl rfl | exact Or.inr rfl) (pe_op op_add pe_int (pe_ix ix_list (pv 0) (pv 2) (fun _ _ => rfl))) ip_add))
  pss_nil)
  (pss_one (ps_ret (pv 2))))), ?_⟩)
  · obtain ⟨ca, pre, post, c, rfl, _⟩ := h
    rfl
  · obtain ⟨ca, pre, post, c, rfl, hs, k⟩ := h
    have h0 : (nVs (pre ++ enc c ++ post))[pre.length]? = some (nV (num c)) := at_mid (i := 0) (enc_hd c)
    refine s_set (pu_nadd (pu_nadd pu_v (pu_nc 1)) (pu_ixD pu_c (pu_ixL pu_v pu_v hs rfl h0) T.PLAIN.d (num_plain T c))) ?_
    refine pu_ixL (σ := [some (.ref ca), some (nV pre.length), some (nV (pre.length + 1 + plainN c))]) pu_v pu_v hs rfl h0 _ ⟨T.WITH_LIST.a, _, rfl, .inr (T.WITH_LIST.t H), rfl, rfl, _, rfl, ?_⟩
    rw [show inV (nV (num c)) (([1, 2] : List Int).map V.int) = (listL c).isSome from num_list c]
    cases hl : listL c with
    | none =>
      refine ifF rfl ⟨_, rfl, ?_⟩
      have := enc_none hl
      show Q (nV (pre.length + 1 + plainN c)) H
      rw [show pre.length + 1 + plainN c = pre.length + (enc c).length by omega]
      exact k
    | some l =>
      obtain ⟨h1, h2⟩ := enc_some hl
      refine ifT rfl ⟨_, rfl, ?_⟩
      refine pu_add (i := 1) (j := (l.length : Int)) pu_c (pu_ixL (n := pre.length + (1 + plainN c)) pu_v pu_v hs (by show ((pre.length + 1 + plainN c : Nat) : Int) = _; congr 1; omega) (at_mid h1)) _ ⟨_, _, rfl, rfl, _, rfl, ?_⟩
      show Q (V.int (((pre.length + 1 + plainN c : Nat) : Int) + (1 + (l.length : Int)))) H
      rw [show (((pre.length + 1 + plainN c : Nat) : Int) + (1 + (l.length : Int))) = ((pre.length + (enc c).length : Nat) : Int) by omega]
      exact k
/-- what is answered, or refused -/
def Res (T : Txt K mg) (Pt : Addr) (Z M : Addr → Prop) (H : Hp) (d rc : Addr) (Q : VK) (E : XK) : Except Int (House × List Int) → Prop
  | .error e => Rz (cls T e) e H E
  | .ok x => DRes T Pt Z M H d rc Q x.1 x.2
def rowC (n y : Nat) : Sq50.Call := if n = 5 then .row y else if n = 6 then .own y else .chosen y
def bareC (n : Nat) : Sq50.Call := if n = 3 then .undo else if n = 4 then .redo else if n = 8 then .list else if n = 9 then .history else if n = 10 then .copy else if n = 11 then .record else if n = 12 then .halt_ else .play
/-- row_call(desk, number, y) -/
def sp_row_call (T : Txt K mg) (Pt : Addr) : Sp := fun vs H Q E => ∃ (d n y : Nat) (Z M : Addr → Prop) (rc : Addr) (g : House), vs = [.ref d, nV n, nV y] ∧ DeskAt T Pt Z M H d rc g ∧ WF g.now ∧ Res T Pt Z M H d rc Q E (stepE g (rowC n y))
theorem ok_row_call (T : Txt K mg) (Pt : Addr) : FnOk P w K mg base (L2.CX P w) 8 T.row_call.a T.row_call.fd ["desk", "number", "y"] (sp_row_call T Pt) := by
  refine T.row_call.F.okX sc_row_call (fun vs H Q E h => ?_) (fun cdv A outer s0 H vs Q E hr h => ⟨_, (pss_cons (ps_if (pt_cmpR op_eq (pv 1) pe_int (nomark _))
  (pss_one (ps_ret (pe_meth (pv 0) T.Desk.cl T.Desk_row.m (ok_Desk_row T Pt) (hr.mono (by decide)) T.Desk_row.b .nil (passes_call (takes_of rfl rfl rfl rfl) (fun _ _ _ _ h => h)) (pa_cons (pv 2) pa_nil))))
  pss_nil)
  (pss_cons (ps_if (pt_cmpR op_eq (pv 1) pe_int (nomark _))
  (pss_one (ps_ret (pe_meth (pv 0) T.Desk.cl T.Desk_own.m (ok_Desk_own T Pt) (hr.mono (by decide)) T.Desk_own.b .nil (passes_call (takes_of rfl rfl rfl rfl) (fun _ _ _ _ h => h)) (pa_cons (pv 2) pa_nil))))
  pss_nil)
  (pss_one (ps_ret (pe_meth (pv 0) T.Desk.cl T.Desk_chosen_row.m (ok_Desk_chosen_row T Pt) (hr.mono (by decide)) T.Desk_chosen_row.b .nil (passes_call (takes_of rfl rfl rfl rfl) (fun _ _ _ _ h => h)) (pa_cons (pv 2) pa_nil)))))), ?_⟩)
  · obtain ⟨d, n, y, Z, M, rc, g, rfl, _⟩ := h
    rfl
  · obtain ⟨d, n, y, Z, M, rc, g, rfl, D, W, k⟩ := h
    obtain ⟨dd, p, ha, q, as, rs, hd, _⟩ := id D
    refine s_if (pt_neq (k := 5) pu_v) (fun e => ?_) fun e => ?_
    · have e := of_decide_eq_true e
      unfold rowC at k
      rw [if_pos e] at k
      refine ⟨_, rfl, d, dd, _, rfl, hd, df_m _ _ _ _ _ (by decide +kernel), paC pu_v pa0 _ ⟨d, y, Z, M, rc, g, rfl, D, W, fun z => ?_, fun z => ?_⟩⟩
      · dsimp only [stepE] at k
        rw [if_pos z] at k
        exact k
      · dsimp only [stepE] at k
        rw [if_neg (Nat.not_le.mpr z)] at k
        exact DRes.ex D k
    · have e := of_decide_eq_false e
      unfold rowC at k
      rw [if_neg e] at k
      refine s_if (pt_neq (k := 6) pu_v) (fun e => ?_) fun e => ?_
      · have e := of_decide_eq_true e
        rw [if_pos e] at k
        refine ⟨_, rfl, d, dd, _, rfl, hd, df_m _ _ _ _ _ (by decide +kernel), paC pu_v pa0 _ ⟨d, y, Z, M, rc, g, rfl, D, W, fun z => ?_, fun z => ?_⟩⟩
        · dsimp only [stepE] at k
          rw [if_pos z] at k
          exact k
        · dsimp only [stepE] at k
          rw [if_neg (Nat.not_le.mpr z)] at k
          exact DRes.ex D k
      · have e := of_decide_eq_false e
        rw [if_neg e] at k
        refine ⟨_, rfl, d, dd, _, rfl, hd, df_m _ _ _ _ _ (by decide +kernel), paC pu_v pa0 _ ⟨d, y, Z, M, rc, g, rfl, D, W, fun z => ?_, fun z => ?_⟩⟩
        · dsimp only [stepE] at k
          rw [if_pos z] at k
          exact k
        · dsimp only [stepE] at k
          rw [if_neg (Nat.not_le.mpr z)] at k
          exact DRes.ex D k
/-- bare_call(desk, number) -/
def sp_bare_call (T : Txt K mg) (Pt : Addr) : Sp := fun vs H Q E => ∃ (d n m : Nat) (Z M : Addr → Prop) (rc : Addr) (g : House), vs = [.ref d, nV n] ∧ DeskAt T Pt Z M H d rc g ∧ HInv g m ∧ m ≤ 1000 ∧ Res T Pt Z M H d rc Q E (stepE g (bareC n))
theorem ok_bare_call (T : Txt K mg) {c Pt : Addr} (R : RankT T base c Pt) : FnOk P w K mg base (L2.CX P w) 15 T.bare_call.a T.bare_call.fd ["desk", "number"] (sp_bare_call T Pt) := by
  refine T.bare_call.F.okX sc_bare_call (fun vs H Q E h => ?_) (fun cdv A outer s0 H vs Q E hr h => ⟨_, (pss_cons (ps_if (pt_cmpR op_eq (pv 1) pe_int (nomark _))
  (pss_one (ps_ret (pe_meth0 (pv 0) T.Desk.cl T.Desk_undo.m (ok_Desk_undo T Pt) (hr.mono (by decide)) T.Desk_undo.b .nil (passes_call (takes_of rfl rfl rfl rfl) (fun _ _ _ _ h => h)))))
  pss_nil)
  (pss_cons (ps_if (pt_cmpR op_eq (pv 1) pe_int (nomark _))
  (pss_one (ps_ret (pe_meth0 (pv 0) T.Desk.cl T.Desk_redo.m (ok_Desk_redo T Pt) (hr.mono (by decide)) T.Desk_redo.b .nil (passes_call (takes_of rfl rfl rfl rfl) (fun _ _ _ _ h => h)))))
  pss_nil)
  (pss_cons (ps_if (pt_cmpR op_eq (pv 1) pe_int (nomark _))
  (pss_one (ps_ret (pe_meth0 (pv 0) T.Desk.cl T.Desk_listed.m (ok_Desk_listed T Pt) (hr.mono (by decide)) T.Desk_listed.b .nil pass0)))
  pss_nil)
  (pss_cons (ps_if (pt_cmpR op_eq (pv 1) pe_int (nomark _))
  (pss_one (ps_ret (pe_meth0 (pv 0) T.Desk.cl T.Desk_history_told.m (ok_Desk_history_told T Pt) (hr.mono (by decide)) T.Desk_history_told.b .nil pass0)))
  pss_nil)
  (pss_cons (ps_if (pt_cmpR op_eq (pv 1) pe_int (nomark _))
  (pss_one (ps_ret (pe_meth0 (pv 0) T.Desk.cl T.Desk_copy_dots.m (ok_Desk_copy_dots T Pt) (hr.mono (by decide)) T.Desk_copy_dots.b .nil pass0)))
  pss_nil)
  (pss_cons (ps_if (pt_cmpR op_eq (pv 1) pe_int (nomark _))
  (pss_one (ps_ret (pe_meth0 (pv 0) T.Desk.cl T.Desk_start_recording.m (ok_Desk_start_recording T Pt) (hr.mono (by decide)) T.Desk_start_recording.b .nil pass0)))
  pss_nil)
  (pss_cons (ps_if (pt_cmpR op_eq (pv 1) pe_int (nomark _))
  (pss_one (ps_ret (pe_meth0 (pv 0) T.Desk.cl T.Desk_stop_recording.m (ok_Desk_stop_recording T Pt) (hr.mono (by decide)) T.Desk_stop_recording.b .nil pass0)))
  pss_nil)
  (pss_one (ps_ret (pe_meth0 (pv 0) T.Desk.cl T.Desk_play_recorded.m (ok_Desk_play_recorded T R) (hr.mono (by decide)) T.Desk_play_recorded.b .nil (passes_call (takes_of rfl rfl rfl rfl) (fun _ _ _ _ h => h)))))))))))), ?_⟩)
  · obtain ⟨d, n, m, Z, M, rc, g, rfl, _⟩ := h
    rfl
  · obtain ⟨d, n, m, Z, M, rc, g, rfl, D, HI, hm, k⟩ := h
    obtain ⟨dd, p, ha, q, as, rs, hd, _⟩ := id D
    have hf := HI.fut
    have hp := HI.pl
    unfold bareC at k
    refine s_if (pt_neq (k := 3) pu_v) (fun e => ?_) fun e => ?_
    · rw [if_pos (of_decide_eq_true e)] at k
      refine ⟨_, rfl, d, dd, _, rfl, hd, df_m _ _ _ _ _ (by decide +kernel), d, Z, M, rc, g, rfl, D, by omega, fun z => ?_, fun x l z => ?_⟩
      · dsimp only [stepE] at k
        rw [z] at k
        exact k
      · dsimp only [stepE] at k
        rw [z] at k
        exact k
    rw [if_neg (of_decide_eq_false e)] at k
    refine s_if (pt_neq (k := 4) pu_v) (fun e => ?_) fun e => ?_
    · rw [if_pos (of_decide_eq_true e)] at k
      refine ⟨_, rfl, d, dd, _, rfl, hd, df_m _ _ _ _ _ (by decide +kernel), d, Z, M, rc, g, rfl, D, by omega, fun z => ?_, fun x l z => ?_⟩
      · dsimp only [stepE] at k
        rw [z] at k
        exact k
      · dsimp only [stepE] at k
        rw [z] at k
        exact k
    rw [if_neg (of_decide_eq_false e)] at k
    refine s_if (pt_neq (k := 8) pu_v) (fun e => ?_) fun e => ?_
    · rw [if_pos (of_decide_eq_true e)] at k
      exact ⟨_, rfl, d, dd, _, rfl, hd, df_m _ _ _ _ _ (by decide +kernel), d, Z, M, rc, g, rfl, D, HI.wf, DRes.ex D k⟩
    rw [if_neg (of_decide_eq_false e)] at k
    refine s_if (pt_neq (k := 9) pu_v) (fun e => ?_) fun e => ?_
    · rw [if_pos (of_decide_eq_true e)] at k
      exact ⟨_, rfl, d, dd, _, rfl, hd, df_m _ _ _ _ _ (by decide +kernel), d, Z, M, rc, g, rfl, D, DRes.ex D k⟩
    rw [if_neg (of_decide_eq_false e)] at k
    refine s_if (pt_neq (k := 10) pu_v) (fun e => ?_) fun e => ?_
    · rw [if_pos (of_decide_eq_true e)] at k
      exact ⟨_, rfl, d, dd, _, rfl, hd, df_m _ _ _ _ _ (by decide +kernel), d, Z, M, rc, g, rfl, D, HI.wf, k⟩
    rw [if_neg (of_decide_eq_false e)] at k
    refine s_if (pt_neq (k := 11) pu_v) (fun e => ?_) fun e => ?_
    · rw [if_pos (of_decide_eq_true e)] at k
      exact ⟨_, rfl, d, dd, _, rfl, hd, df_m _ _ _ _ _ (by decide +kernel), d, Z, M, rc, g, rfl, D, k⟩
    rw [if_neg (of_decide_eq_false e)] at k
    refine s_if (pt_neq (k := 12) pu_v) (fun e => ?_) fun e => ?_
    · rw [if_pos (of_decide_eq_true e)] at k
      exact ⟨_, rfl, d, dd, _, rfl, hd, df_m _ _ _ _ _ (by decide +kernel), d, Z, M, rc, g, rfl, D, k⟩
    rw [if_neg (of_decide_eq_false e)] at k
    refine ⟨_, rfl, d, dd, _, rfl, hd, df_m _ _ _ _ _ (by decide +kernel), d, m, Z, M, rc, g, rfl, D, HI, fun z => ?_, fun z => ?_⟩
    · dsimp only [stepE] at k
      rw [if_pos z] at k
      exact k
    · dsimp only [stepE] at k
      rw [if_neg (by rw [z]; exact Bool.false_ne_true)] at k
      exact k
end
end LP
end
section
set_option maxHeartbeats 4100000
namespace LP
open PySem PySem.Spec PyProof.Rows L2 Evl LamX NdefX
open Sq50 (State Layer Dot Clip House)
section
variable {P : Program} {w : World} {K : PySem.W.Frag} {mg : Str → Option Value} {base : Heap}
theorem Rz.back {C : Addr} {n : Int} {H H' : Hp} {E : XK} (z : Rz C n H E) (e : Ex H H') : Rz C n H' E := fun d H2 e2 h => z d H2 (e.trans e2) h
theorem DStp.pre {Z M Z' M' : Addr → Prop} {H H1 H' : Hp} {rc rc' : Addr} (e : Ex H H1) (st : DStp Z M rc H1 Z' M' rc' H') : DStp Z M rc H Z' M' rc' H' := ⟨fun x o n n' h => st.keep x o n n' (e x o h), fun x m => (st.new x m).elim .inl fun z => z.elim (fun z => .inr (.inl z)) fun z => .inr (.inr (e.back z)), st.le, fun x h => e.back (st.back x h)⟩
theorem Res.back {T : Txt K mg} {Pt : Addr} {Z M : Addr → Prop} {H H' : Hp} {d rc : Addr} {Q : VK} {E : XK} (e : Ex H H') : ∀ {x : Except Int (House × List Int)}, Res T Pt Z M H d rc Q E x → Res T Pt Z M H' d rc Q E x
  | .error n, k => Rz.back k e
  | .ok x, k => fun p Z' M' rc' H2 np st D h => k p Z' M' rc' H2 (e.back np) (DStp.pre e st) D h
theorem plain_bare : ∀ {c : Sq50.Call}, num c ≠ 1 → num c ≠ 2 → plainN c ≠ 1 → bareC (num c) = c
  | .begin_ _ _ _ _, h, _, _ => absurd rfl h
  | .act _ _, _, h, _ => absurd rfl h
  | .row _, _, _, h => absurd rfl h
  | .own _, _, _, h => absurd rfl h
  | .chosen _, _, _, h => absurd rfl h
  | .undo, _, _, _ => rfl
  | .redo, _, _, _ => rfl
  | .list, _, _, _ => rfl
  | .history, _, _, _ => rfl
  | .copy, _, _, _ => rfl
  | .record, _, _, _ => rfl
  | .halt_, _, _, _ => rfl
  | .play, _, _, _ => rfl
theorem plain_row : ∀ {c : Sq50.Call}, num c ≠ 2 → plainN c = 1 → ∃ y, (enc c)[1]? = some y ∧ rowC (num c) y = c
  | .row y, _, _ => ⟨y, rfl, rfl⟩
  | .own y, _, _ => ⟨y, rfl, rfl⟩
  | .chosen y, _, _ => ⟨y, rfl, rfl⟩
  | .act _ _, h, _ => absurd rfl h
theorem is_begin : ∀ {c : Sq50.Call}, num c = 1 → ∃ w h b l, c = .begin_ w h b l
  | .begin_ w h b l, _ => ⟨w, h, b, l, rfl⟩
theorem is_act : ∀ {c : Sq50.Call}, num c = 2 → ∃ op l, c = .act op l
  | .act op l, _ => ⟨op, l, rfl⟩
theorem nVs_at {l : List Nat} {i n : Nat} (h : l[i]? = some n) : (nVs l)[i]? = some (nV n) := by
  unfold nVs
  rw [List.getElem?_map, h]
  rfl
/-- call_on(desk, call) -/
def sp_call_on (T : Txt K mg) (Pt : Addr) : Sp := fun vs H Q E => ∃ (d ca m : Nat) (c : Sq50.Call) (Z M : Addr → Prop) (rc : Addr) (g : House), vs = [.ref d, .ref ca] ∧ DeskAt T Pt Z M H d rc g ∧ HInv g m ∧ m ≤ 1000 ∧ H ca = some (.lst (nVs (enc c))) ∧ CallOk c ∧ Res T Pt Z M H d rc Q E (stepE g c)
theorem ok_call_on (T : Txt K mg) {c Pt : Addr} (R : RankT T base c Pt) : FnOk P w K mg base (L2.CX P w) 16 T.call_on.a T.call_on.fd ["desk", "call"] (sp_call_on T Pt) := by
  refine T.call_on.F.okX sc_call_on (fun vs H Q E h => ?_) (fun cdv A outer s0 H vs Q E hr h => ⟨_, (pss_cons (ps_set (i := 2) sc_call_on.nd rfl (by first | exact Or.inl rfl | exact Or.inr rfl) (pe_ix ix_list (pv 1) pe_int (fun _ _ => rfl)))
  (pss_cons (ps_if (pt_cmpR op_eq (pv 2) pe_int (nomark _))
  (pss_one (ps_ret (pe_meth (pv 0) T.Desk.cl T.Desk_begin.m (ok_Desk_begin T Pt) (hr.mono (by decide)) T.Desk_begin.b .nil (passes_call (takes_of rfl rfl rfl rfl) (fun _ _ _ _ h => h)) (pa_cons (pe_ix ix_list (pv 1) pe_int (fun _ _ => rfl)) (pa_cons (pe_ix ix_list (pv 1) pe_int (fun _ _ => rfl)) (pa_cons (pe_ix ix_list (pv 1) pe_int (fun _ _ => rfl)) (pa_cons (pe_slice sl_list (pv 1) (po_some pe_int) po_none) pa_nil)))))))
  pss_nil)
  (pss_cons (ps_if (pt_cmpR op_eq (pv 2) pe_int (nomark _))
  (pss_one (ps_ret (pe_meth (pv 0) T.Desk.cl T.Desk_act.m (ok_Desk_act T R) (hr.mono (by decide)) T.Desk_act.b .nil (passes_call (takes_of rfl rfl rfl rfl) (fun _ _ _ _ h => h)) (pa_cons (pe_ix ix_list (pv 1) pe_int (fun _ _ => rfl)) (pa_cons (pe_slice sl_list (pv 1) (po_some pe_int) po_none) pa_nil)))))
  pss_nil)
  (pss_cons (ps_if (pt_cmpR op_eq (pe_ix ix_intd (pe_glob (by rfl) T.PLAIN.g T.PLAIN.r) (pv 2) (fun _ _ => rfl)) pe_int (nomark _))
  (pss_one (ps_ret (pe_call (ok_row_call T Pt) (hr.mono (by decide)) (by rfl) T.row_call.g T.row_call.F.kp T.row_call.b .nil (passes_call (takes_of rfl rfl rfl rfl) (fun _ _ _ _ h => h)) (pa_cons (pv 0) (pa_cons (pv 2) (pa_cons (pe_ix ix_list (pv 1) pe_int (fun _ _ => rfl)) pa_nil))))))
  pss_nil)
  (pss_one (ps_ret (pe_call (ok_bare_call T R) (hr.mono (by decide)) (by rfl) T.bare_call.g T.bare_call.F.kp T.bare_call.b .nil (passes_call (takes_of rfl rfl rfl rfl) (fun _ _ _ _ h => h)) (pa_cons (pv 0) (pa_cons (pv 2) pa_nil))))))))), ?_⟩)
  · obtain ⟨d, ca, m, c, Z, M, rc, g, rfl, _⟩ := h
    rfl
  · obtain ⟨d, ca, m, c, Z, M, rc, g, rfl, D, HI, hm, hca, ok, k⟩ := h
    obtain ⟨dd, p, ha, q, as, rs, hd, _, _, _, _, _, _, md, _, _, _, G⟩ := id D
    have hs := SqL.of (K := K) hca
    refine s_set (pu_ixL pu_v pu_c hs (n := 0) rfl (nVs_at (enc_hd c))) ?_
    refine s_if (pt_neq (a := num c) (k := 1) pu_v) (fun e => ?_) fun e => ?_
    · obtain ⟨w', h', b, l, rfl⟩ := is_begin (of_decide_eq_true e)
      have hw : w' < 2 ^ 64 := ok.all w' (by simp [enc])
      have hh : h' < 2 ^ 64 := ok.all h' (by simp [enc])
      refine ⟨_, rfl, d, dd, _, rfl, hd, df_m _ _ _ _ _ (by decide +kernel), ?_⟩
      refine pu_ixL (n := 1) pu_v pu_c hs rfl (nVs_at rfl) _ (pu_ixL (n := 2) pu_v pu_c hs rfl (nVs_at rfl) _ (pu_ixL (n := 3) pu_v pu_c hs rfl (nVs_at rfl) _ ⟨_, rfl, po_n (n := 5) pu_c ⟨ca, _, rfl, hs, fun S nS => ?_⟩⟩))
      rw [cut_lo]
      have eS := Ex.new (o := .lst ((nVs (enc (.begin_ w' h' b l))).drop 5)) nS
      refine ⟨d, S, dd, w', h', b, l, _, Z, M, rfl, upd_same, eS _ _ hd, .inr ⟨p, ha, q, _, rc, rfl⟩, G.ex eS, md, hw, hh, fun z => ?_, fun z z' => ?_, fun z z' p' Z' M' rc' H' np st D' h' => ?_⟩
      · dsimp only [stepE] at k
        rw [if_pos z] at k
        exact Rz.back k eS
      · dsimp only [stepE] at k
        rw [if_neg z, if_pos z'] at k
        exact Rz.back k eS
      · dsimp only [stepE] at k
        rw [if_neg z, if_neg z'] at k
        refine k p' Z' M' rc' H' (eS.back np) (DStp.pre eS ⟨fun x o n _ hx => st.keep x o n (fun e => n (e ▸ md)) hx, fun x m => ?_, st.le, st.back⟩) D' h'
        rcases st.new x m with m | m | m
        · exact .inl m
        · exact .inl (m ▸ md)
        · exact .inr (.inr m)
    · have n1 := of_decide_eq_false e
      refine s_if (pt_neq (a := num c) (k := 2) pu_v) (fun e => ?_) fun e => ?_
      · obtain ⟨op, l, rfl⟩ := is_act (of_decide_eq_true e)
        refine ⟨_, rfl, d, dd, _, rfl, hd, df_m _ _ _ _ _ (by decide +kernel), ?_⟩
        refine pu_ixL (n := 1) pu_v pu_c hs rfl (nVs_at rfl) _ ⟨_, rfl, po_n (n := 3) pu_c ⟨ca, _, rfl, hs, fun S nS => ?_⟩⟩
        rw [cut_lo]
        have eS := Ex.new (o := .lst ((nVs (enc (.act op l))).drop 3)) nS
        have hl : ∀ x ∈ l, x < 2 ^ 64 := fun x hx => ok.all x (by simp [enc, hx])
        refine ⟨d, S, op, l, Z, M, rc, g, rfl, D.ex eS, HI.wf, Nat.le_trans HI.pl (by decide), HI.rcd, ⟨G.free S nS, upd_same⟩, hl, ?_⟩
        have k' := Res.back eS k
        dsimp only [stepE] at k'
        cases ha : Sq50.actOf op l with
        | none => rw [ha] at k'; exact k'
        | some a =>
          rw [ha] at k'
          dsimp only at k'
          refine ⟨fun z => ?_, fun z => ⟨fun e he => ?_, fun t ht => ?_⟩⟩
          · rw [if_pos z] at k'
            exact k'
          · rw [if_neg z, he] at k'
            exact k'
          · rw [if_neg z, ht] at k'
            exact k'
      · have n2 := of_decide_eq_false e
        refine s_if (b := decide (plainN c = 1)) (pt_neq (k := 1) (pu_ixD pu_c pu_v T.PLAIN.d (num_plain T c))) (fun e => ?_) fun e => ?_
        · obtain ⟨y, hy, hc⟩ := plain_row n2 (of_decide_eq_true e)
          refine c_call (paC pu_v (paC pu_v (paC (pu_ixL (n := 1) pu_v pu_c hs rfl (nVs_at hy)) pa0))) ⟨d, num c, y, Z, M, rc, g, rfl, D, HI.wf, ?_⟩
          rw [hc]
          exact k
        · refine c_call (paC pu_v (paC pu_v pa0)) ⟨d, num c, m, Z, M, rc, g, rfl, D, HI, hm, ?_⟩
          rw [plain_bare n1 n2 (of_decide_eq_false e)]
          exact k
/-- answer_to(desk, call) -/
def sp_answer_to (T : Txt K mg) (Pt : Addr) : Sp := fun vs H Q E => ∃ (d ca m : Nat) (c : Sq50.Call) (Z M : Addr → Prop) (rc : Addr) (g : House), vs = [.ref d, .ref ca] ∧ DeskAt T Pt Z M H d rc g ∧ HInv g m ∧ m ≤ 1000 ∧ H ca = some (.lst (nVs (enc c))) ∧ CallOk c ∧ DRes T Pt Z M H d rc Q (aft g c).1 (aft g c).2
theorem ok_answer_to (T : Txt K mg) {c Pt : Addr} (R : RankT T base c Pt) : FnOk P w K mg base CX0 17 T.answer_to.a T.answer_to.fd ["desk", "call"] (sp_answer_to T Pt) := by
  refine T.answer_to.F.ok sc_answer_to (fun vs H Q E h => ?_) (fun cdv A outer s0 H vs Q E hr h => ⟨_, pss_one (ps_try_as (i := 2) (c := .ref T.R) (tb := fun W => tRet (tCallS (sp_call_on T Pt) (WE W) (tCons (tVar 0) (tCons (tVar 1) tNil))))
      (ts := fun a cls d => tRet (tLst (tCons (tAns K a cls d (tVar 2)) tNil))) (Wout := fun _ _ _ _ => False) rfl rfl sc_answer_to.nd rfl rfl ⟨rfl, by decide, Or.inl T.CannotBe.gR⟩ L2.takes0
      (fun W pn xe tk _ => pss_one (ps_ret (by exact pe_callS (ok_call_on T R) hr (by rfl) T.call_on.g T.call_on.F.kp T.call_on.b (passAt tk) (pa_cons (pv 0) (pa_cons (pv 1) pa_nil)))))
      (fun a oe cls d pn hz hf => pss_one (ps_ret (pe_lst (pa_cons (pe_answer hz hf (pv 2)) pa_nil))))), ?_⟩)
  · obtain ⟨d, ca, m, c, Z, M, rc, g, rfl, _⟩ := h
    rfl
  · obtain ⟨d, ca, m, c, Z, M, rc, g, rfl, D, HI, hm, hca, ok, k⟩ := h
    rw [aft_eq] at k
    refine ⟨_, rfl, _, rfl, d, ca, m, c, Z, M, rc, g, rfl, D, HI, hm, hca, ok, ?_⟩
    cases hst : stepE g c with
    | error e =>
      rw [hst] at k
      intro d' H' e' h'
      refine ⟨true, cls_te T e, fun _ a na => ?_, fun z => nomatch z⟩
      refine ⟨_, rfl, rfl, _, d', _, rfl, cls_ans T e, rfl, h', by show 1 ≤ sizeLine; decide, fun L nL => ?_⟩
      exact DRes.ex D k L _ (e'.back nL) (e'.trans (Ex.new nL)) upd_same
    | ok x =>
      rw [hst] at k
      exact k
end
end LP
end
section
set_option maxHeartbeats 4100000
namespace LP
open PySem PySem.Spec PyProof.Rows L2 Evl LamX NdefX
open Sq50 (State Layer Dot Clip House)
/-! all that is told -/
def tells : House → List Sq50.Call → List Int
  | _, [] => []
  | g, c :: l => ((aft g c).2.length : Int) :: ((aft g c).2 ++ tells (aft g c).1 l)
section
variable {P : Program} {w : World} {K : PySem.W.Frag} {mg : Str → Option Value} {base : Heap}
section
variable {T : Txt K mg} {Pt : Addr} {Z Z' M M' : Addr → Prop} {H H' : Hp} {d rc D : Addr} {g : House}
theorem DeskAt.move (h : DeskAt T Pt Z M H d rc g) (im : ∀ b, Z b → H b ≠ none → Z' b) (kp : Keep Z' H H') (km : ∀ x o, M x ∨ x = rc → H x = some o → H' x = some o) (zr : ¬ Z' rc) (G' : Ground Pt Z' M H') : DeskAt T Pt Z' M H' d rc g := by
  obtain ⟨dd, p, ha, q, as, rs, hd, hp, ⟨dx, k, u, ks, us, h1, hk, hu, pk, pu, ma, mk, mu, nku⟩, hq, hc, hr, pr, md, nd, nr, zr', G⟩ := h
  exact ⟨dd, p, ha, q, as, rs, km _ _ (.inl md) hd, (hp.imp im).keep kp, ⟨dx, k, u, ks, us, km _ _ (.inl ma) h1, km _ _ (.inl mk) hk, km _ _ (.inl mu) hu, Paired.imp (fun _ _ z => (z.imp im).keep kp) pk, Paired.imp (fun _ _ z => (z.imp im).keep kp) pu, ma, mk, mu, nku⟩, (hq.imp im).keep kp, hc, km _ _ (.inr rfl) hr, Paired.imp (fun _ _ z => (z.imp im).keep kp) pr, md, nd, nr, zr, G'⟩
theorem DeskAt.ground (h : DeskAt T Pt Z M H d rc g) : Ground Pt Z M H := by
  obtain ⟨dd, p, ha, q, as, rs, hd, hp, hh, hq, hc, hr, pr, md, nd, nr, zr', G⟩ := h
  exact G
theorem DeskAt.has_rc (h : DeskAt T Pt Z M H d rc g) : H rc ≠ none := by
  obtain ⟨dd, p, ha, q, as, rs, hd, hp, hh, hq, hc, hr, pr, md, nd, nr, zr', G⟩ := h
  rw [hr]
  intro z
  cases z
theorem DeskAt.clip (h : DeskAt T Pt Z M H d rc g) : ∃ as, ClipR g.clip as := by
  obtain ⟨dd, p, ha, q, as, rs, hd, hp, hh, hq, hc, _⟩ := h
  exact ⟨as, hc⟩
/-- a new list at D, none of the desk's -/
theorem DeskAt.told (h : DeskAt T Pt Z M H d rc g) (n : H D = none) (xs : List V) : DeskAt T Pt (But Z D) M (upd H D (.lst xs)) d rc g := by
  have G := h.ground
  have e := Ex.new (o := .lst xs) n
  have zr : ¬ Z rc := by
    obtain ⟨dd, p, ha, q, as, rs, hd, hp, hh, hq, hc, hr, pr, md, nd, nr, zr', G⟩ := h
    exact zr'
  refine h.move (fun b z hb => ⟨z, fun e => hb (e ▸ n)⟩) (e.keep _) (fun x o _ hx => e x o hx) (fun z => zr z.1) ⟨fun x hx => ⟨G.free x (none_upd hx), fun e => ?_⟩, fun x m z => G.apart x m z.1, fun x m hx => G.has x m (none_upd hx), G.tab.ext e, G.mp⟩
  rw [e, upd_same] at hx
  cases hx
/-- the list at D is written -/
theorem DeskAt.tell {xs ys : List V} (h : DeskAt T Pt Z M H d rc g) (hD : H D = some (.lst xs)) (nM : ¬ M D) (nr : D ≠ rc) (nZ : ¬ Z D) : DeskAt T Pt Z M (upd H D (.lst ys)) d rc g := by
  have G := h.ground
  have zr : ¬ Z rc := by
    obtain ⟨dd, p, ha, q, as, rs, hd, hp, hh, hq, hc, hr, pr, md, nd, nr, zr', G⟩ := h
    exact zr'
  refine h.move (fun b z _ => z) (fun x o z hx => (upd_ne (fun e : x = D => nZ (e ▸ z))).trans hx) (fun x o m hx => (upd_ne (fun e : x = D => ?_)).trans hx) zr ⟨fun x hx => G.free x (none_upd hx), G.apart, fun x m hx => G.has x m (none_upd hx), tab_upd G.tab hD trivial, G.mp⟩
  rcases m with m | m
  · exact nM (e ▸ m)
  · exact nr (e.symm.trans m)
end
theorem pt_nlt {σ : L2.St} {H : Hp} {ta tb : TE} {a b : Nat} (ha : Pu ta σ H (nV a)) (hb : Pu tb σ H (nV b)) : PuT (tTest (tOp (rI0 fun i j => .bl (decide (i < j))) ta tb)) σ H (decide (a < b)) := pt_is (pt_cmp ha hb) (by
  by_cases h : a < b
  · rw [decide_eq_true h, decide_eq_true (by omega)]
  · rw [decide_eq_false h, decide_eq_false (by omega)])
theorem mid_cut (a b c : List Nat) : ((nVs (a ++ b ++ c)).drop a.length).take b.length = nVs b := by
  unfold nVs
  rw [List.map_append, List.map_append, List.append_assoc, List.drop_left' (by rw [List.length_map]), List.take_left' (by rw [List.length_map])]
theorem sq_keep {H H' : Hp} {a : Addr} {xs : List V} (h : SqL K H a xs) (k : ∀ o, H a = some o → H' a = some o) : SqL K H' a xs := by
  rcases h with (h | ⟨o, h⟩) | h  -- own
  · exact .inl (.inl (k _ h))
  · exact .inl (.inr ⟨o, k _ h⟩)
  · exact .inr h
theorem hinv_fresh : HInv Sq50.fresh 0 := ⟨first_wf (w := 1) (h := 1) (cs := [0]) (by unfold bad1; omega) (by unfold bad3; decide), fun x hx => (nomatch (show x ∈ ([] : List (State × Nat)) from hx)), fun x hx => (nomatch (show x ∈ ([] : List (State × Nat)) from hx)), Nat.zero_le _, by show 100 ≤ 1000000; decide, Nat.zero_le _, Nat.zero_le _⟩
theorem enc_pos (c : Sq50.Call) : 0 < (enc c).length := by cases c <;> exact Nat.succ_pos _
/-- answers(calls) -/
def sp_answers (T : Txt K mg) (Pt : Addr) : Sp := fun vs H Q _ => ∃ (ca : Addr) (cs : List Sq50.Call) (M : Addr → Prop) (Z : Addr → Prop), vs = [.ref ca] ∧ SqL K H ca (nVs (cs.flatMap enc)) ∧ Ground Pt Z M H ∧ ¬ M ca ∧ cs.length ≤ 120 ∧ (∀ c ∈ cs, CallOk c) ∧ (tells Sq50.fresh cs).length ≤ 10000000 ∧
  ∀ p H', (∀ x o, ¬ M x → H x = some o → H' x = some o) → H p = none → H' p = some (.lst ((tells Sq50.fresh cs).map V.int)) → Q (.ref p) H'
theorem ok_answers (T : Txt K mg) {c Pt : Addr} (R : RankT T base c Pt) : FnOk P w K mg base CX0 18 T.answers.a T.answers.fd ["calls"] (sp_answers T Pt) := by
  refine T.answers.F.ok sc_answers (fun vs H Q E h => ?_) (fun cdv A outer s0 H vs Q E hr h => ⟨_, (pss_cons (ps_set (i := 1) sc_answers.nd rfl (by first | exact Or.inl rfl | exact Or.inr rfl) (pe_make0 T.Desk.mks (ok_Desk_init T Pt) (hr.mono (by decide)) (by rfl) T.Desk.g T.Desk.b .nil pass0))
  (pss_cons (ps_set (i := 2) sc_answers.nd rfl (by first | exact Or.inl rfl | exact Or.inr rfl) (pe_lst pa_nil))
  (pss_cons (ps_set (i := 3) sc_answers.nd rfl (by first | exact Or.inl rfl | exact Or.inr rfl) pe_int)
  (pss_cons (ps_while PassesOwn.never (pt_cmpR op_lt (pv 3) (pe_callB call_len_seq (by rfl) (T.nb "len" (by decide)) (by decide +kernel) (pa_cons (pv 0) pa_nil)) (nomark _))
  (pss_cons (ps_set (i := 4) sc_answers.nd rfl (by first | exact Or.inl rfl | exact Or.inr rfl) (pe_call (ok_call_end T) (hr.mono (by decide)) (by rfl) T.call_end.g T.call_end.F.kp T.call_end.b .nil pass0 (pa_cons (pv 0) (pa_cons (pv 3) pa_nil))))
    (pss_cons (ps_set (i := 5) sc_answers.nd rfl (by first | exact Or.inl rfl | exact Or.inr rfl) (pe_call (ok_answer_to T R) (hr.mono (by decide)) (by rfl) T.answer_to.g T.answer_to.F.kp T.answer_to.b .nil pass0 (pa_cons (pv 1) (pa_cons (pe_slice sl_list (pv 0) (po_some (pv 3)) (po_some (pv 4))) pa_nil))))
    (pss_cons (ps_expr (pe_bm PySem.F.plainAttrs_list PySem.F.slot_list_append PySem.F.type_list_append mt_append (pv 2) (pa_cons (pe_callB call_len_seq (by rfl) (T.nb "len" (by decide)) (by decide +kernel) (pa_cons (pv 5) pa_nil)) pa_nil)))
    (pss_cons (ps_expr (pe_bm PySem.F.plainAttrs_list PySem.F.slot_list_extend PySem.F.type_list_extend mt_extend (pv 2) (pa_cons (pv 5) pa_nil)))
    (pss_one (ps_set (i := 3) sc_answers.nd rfl (by first | exact Or.inl rfl | exact Or.inr rfl) (pv 4))))))))
  (pss_one (ps_ret (pv 2))))))), ?_⟩)
  · obtain ⟨ca, cs, M, Z, rfl, _⟩ := h
    rfl
  · obtain ⟨ca, cs, M, Z, rfl, hca, G, nMc, hcs, hok, hlen, k⟩ := h
    -- desk
    intro d dx nd ndx nxd
    have e1 : Ex H (upd (upd H dx (.own d)) d (.ins T.Desk.a dx [])) := fun x o hx => (upd_ne (ne_of_none hx nd)).trans ((upd_ne (ne_of_none hx ndx)).trans hx)
    have G1 := G.made nd e1 (by rw [upd_same]; intro z; cases z)
    refine ⟨d, dx, _, _, rfl, upd_same, G1, .inr rfl, fun Z2 M2 rc2 H2 st2 D2 => ⟨rfl, ?_⟩⟩
    have kp2 : ∀ x o, ¬ M x → H x = some o → H2 x = some o := fun x o n hx => st2.keep x o (fun m => m.elim n fun e => (ne_of_none hx nd) e) (ne_of_none hx nd) (e1 x o hx)
    have bk2 : ∀ x, H2 x = none → H x = none := fun x hx => e1.back (st2.back x hx)
    have nw2 : ∀ x o, H x = some o → ¬ M x → ¬ M2 x ∧ x ≠ rc2 := fun x o hx n => by
      have f : ¬ (M2 x ∨ x = rc2) := fun m => by
        rcases st2.new x m with (m | m) | m | m
        · exact n m
        · exact ne_of_none hx nd m
        · exact ne_of_none hx nd m
        · rw [e1 x o hx] at m; cases m
      exact ⟨fun m => f (.inl m), fun m => f (.inr m)⟩
    -- told
    refine ⟨Nat.zero_le _, fun D nD => ?_⟩
    have nDH : H D = none := bk2 D nD
    have D3 := D2.told nD []
    have nMD : ¬ M2 D := fun m => D2.ground.has D m nD
    have nrD : D ≠ rc2 := fun e => D2.has_rc (e ▸ nD)
    have eD := Ex.new (o := .lst []) nD
    refine ⟨fun m σ H' => ∃ (pre : List Nat) (rest : List Sq50.Call) (acc : List Int) (n : Nat) (x y : Option V) (Z' M' : Addr → Prop) (rc' : Addr) (g' : House), m = rest.length ∧ cs.flatMap enc = pre ++ rest.flatMap enc ∧ (∀ c ∈ rest, CallOk c) ∧ n + rest.length ≤ 120 ∧ tells Sq50.fresh cs = acc ++ tells g' rest ∧
      σ = [some (.ref ca), some (.ref d), some (.ref D), some (nV pre.length), x, y] ∧ DeskAt T Pt Z' M' H' d rc' g' ∧ HInv g' n ∧ H' D = some (.lst (acc.map V.int)) ∧ ¬ M' D ∧ D ≠ rc' ∧ ¬ Z' D ∧ (∀ x o, ¬ M x → H x = some o → H' x = some o) ∧ (∀ x o, H x = some o → ¬ M x → ¬ M' x ∧ x ≠ rc'),
      ⟨cs.length, [], cs, [], 0, none, none, But Z2 D, M2, rc2, Sq50.fresh, rfl, rfl, hok, by omega, rfl, rfl, D3, hinv_fresh, upd_same, nMD, nrD, fun z => z.2 rfl, fun x o n hx => eD _ _ (kp2 x o n hx), nw2⟩, ?_⟩
    rintro m σ H3 ⟨pre, rest, acc, n, x, y, Z3, M3, rc3, g3, rfl, hflat, hok3, hn3, htell, rfl, D3, HI3, h3D, nMD3, nDr3, nZD3, kp3, nw3⟩
    have h3c := sq_keep hca (H' := H3) fun o ho => kp3 ca o nMc ho
    refine (pt_nlt pu_v (pu_is (pu_lenL (K := K) pu_v h3c) (show V.int _ = nV _ by rw [nVs_len]))) _ ?_
    cases rest with
    | nil =>
      rw [List.flatMap_nil, List.append_nil] at hflat
      refine ifF (decide_eq_false (by rw [hflat]; exact Nat.lt_irrefl _)) ⟨_, rfl, ?_⟩
      have e0 : tells Sq50.fresh cs = acc := by rw [htell]; exact List.append_nil _
      exact k D H3 kp3 nDH (by rw [h3D, e0])
    | cons c rest =>
      have hpos := enc_pos c
      rw [List.flatMap_cons] at hflat
      refine ifT (decide_eq_true (by rw [hflat, List.length_append, List.length_append]; omega)) ?_
      refine ⟨_, fun σ' H'' h => h, ?_⟩
      have hs3 := h3c
      rw [hflat, ← List.append_assoc] at hs3
      refine c_call (paC pu_v (paC pu_v pa0)) ⟨ca, pre, rest.flatMap enc, c, rfl, hs3, ?_⟩
      -- the call
      refine ⟨_, rfl, _, rfl, po_n pu_v (po_n pu_v ⟨ca, _, rfl, hs3, fun S nS => ?_⟩)⟩
      rw [cut_nat, mid_cut]
      have eS := Ex.new (o := .lst (nVs (enc c))) nS
      refine ⟨d, S, n, c, Z3, M3, rc3, g3, rfl, D3.ex eS, HI3, by omega, upd_same, hok3 c (List.mem_cons_self ..), fun L Z4 M4 rc4 H4 nL st4 D4 h4 => ?_⟩
      have st4' := DStp.pre eS st4
      have nL3 : H3 L = none := eS.back nL
      have nLD : L ≠ D := (ne_of_none h3D nL3).symm
      have h4D := st4'.keep _ _ nMD3 nDr3 h3D
      have nw4 : ∀ x o, H3 x = some o → ¬ M3 x → x ≠ rc3 → ¬ M4 x ∧ x ≠ rc4 := fun x o hx n n' => by
        have f : ¬ (M4 x ∨ x = rc4) := fun m => by
          rcases st4'.new x m with m | m | m
          · exact n m
          · exact n' m
          · rw [hx] at m; cases m
        exact ⟨fun m => f (.inl m), fun m => f (.inr m)⟩
      obtain ⟨nMD4, nDr4⟩ := nw4 _ _ h3D nMD3 nDr3
      have nZD4 : ¬ Z4 D := fun z => nZD3 (st4'.le D z)
      -- what is told is put behind
      have hl : acc.length + 1 + (aft g3 c).2.length ≤ 10000000 := by
        have := hlen
        rw [htell] at this
        show _
        simp only [tells, List.length_append, List.length_cons] at this
        omega
      refine ⟨_, rfl, .inl ⟨rfl, _, SqL.of h4D⟩, ?_⟩
      refine pu_lenL (K := K) pu_v (SqL.of h4) _ ⟨D, _, _, rfl, rfl, h4D, stM (by rw [List.length_map]; omega), ?_⟩
      rw [List.length_map]
      have h5L : upd H4 D (.lst (acc.map V.int ++ [V.int ((aft g3 c).2.length : Nat)])) L = some (.lst ((aft g3 c).2.map V.int)) := (upd_ne nLD).trans h4
      have D5 := D4.tell (ys := acc.map V.int ++ [V.int ((aft g3 c).2.length : Nat)]) h4D nMD4 nDr4 nZD4
      refine ⟨_, rfl, .inl ⟨rfl, _, SqL.of upd_same⟩, ?_⟩
      refine ⟨_, rfl, D, L, _, _, rfl, rfl, upd_same, h5L, szM (by simp only [List.length_append, List.length_map, List.length_cons, List.length_nil]; omega), ?_⟩
      have D6 := D5.tell (ys := (acc.map V.int ++ [V.int ((aft g3 c).2.length : Nat)]) ++ (aft g3 c).2.map V.int) upd_same nMD4 nDr4 nZD4
      rw [upd_upd] at D6 ⊢
      refine ⟨_, rfl, rest.length, Nat.lt_succ_self _, pre ++ enc c, rest, acc ++ ((aft g3 c).2.length : Int) :: (aft g3 c).2, n + 1, some (nV (pre.length + (enc c).length)), some (.ref L), Z4, M4, rc4, (aft g3 c).1, rfl, by rw [hflat, List.append_assoc], fun c' hc' => hok3 c' (List.mem_cons_of_mem _ hc'), by rw [List.length_cons] at hn3; omega, ?_, ?_, D6, HI3.aft D3.clip c, ?_, nMD4, nDr4, nZD4, fun x o n hx => ?_, fun x o hx n => ?_⟩
      · rw [htell]
        show acc ++ (((aft g3 c).2.length : Int) :: ((aft g3 c).2 ++ tells (aft g3 c).1 rest)) = _
        rw [List.append_assoc, List.cons_append]
      · rw [List.length_append]
        rfl
      · rw [upd_same, List.map_append, List.map_cons, List.append_assoc, List.singleton_append]
      · have h3x := kp3 x o n hx
        obtain ⟨a1, a2⟩ := nw3 x o hx n
        exact (upd_ne (ne_of_none hx nDH)).trans (st4'.keep x o a1 a2 h3x)
      · obtain ⟨a1, a2⟩ := nw3 x o hx n
        exact nw4 x o (kp3 x o n hx) a1 a2
end
end LP
end
section
set_option maxHeartbeats 4100000
namespace LP
open Sq50 (State Layer Dot Clip House)
/-! the list that is handed in, read as calls -/
def toI (l : List Nat) : List Int := l.map Int.ofNat
theorem whole_id (c : List (List Int)) : PySq50.whole c = c := by
  unfold PySq50.whole
  split <;> rfl
theorem whole_map (cs : List (List (List Int))) : cs.map PySq50.whole = cs := by
  have e : PySq50.whole = id := funext whole_id
  rw [e, List.map_id]
theorem nat64 {z : Int} (h : Sq50Neutral.natural z 64 = true) : z = Int.ofNat z.toNat ∧ z.toNat < 2 ^ 64 := by
  unfold Sq50Neutral.natural at h
  rw [Bool.and_eq_true, decide_eq_true_eq, decide_eq_true_eq] at h
  obtain ⟨h1, h2⟩ := h
  have e : Int.ofNat z.toNat = z := Int.toNat_of_nonneg h1
  refine ⟨e.symm, ?_⟩
  have : ((z.toNat : Nat) : Int) < 2 ^ 64 := by rw [show ((z.toNat : Nat) : Int) = z from e]; exact h2
  exact_mod_cast this
theorem nats64 : ∀ {l : List Int}, (l.all fun z => Sq50Neutral.natural z 64) = true → toI (l.map Int.toNat) = l ∧ ∀ x ∈ l.map Int.toNat, x < 2 ^ 64
  | [], _ => ⟨rfl, fun x h => by cases h⟩
  | z :: l, h => by
    rw [List.all_cons, Bool.and_eq_true] at h  -- own
    obtain ⟨h1, h2⟩ := nat64 h.1
    obtain ⟨h3, h4⟩ := nats64 h.2
    refine ⟨?_, fun x hx => ?_⟩
    · show Int.ofNat z.toNat :: toI (l.map Int.toNat) = z :: l
      rw [← h1, h3]
    · rcases List.mem_cons.mp hx with rfl | hx
      · exact h2
      · exact h4 x hx
theorem row_of {r x s : List Int} (h : PyFlat.row r = some (x, s)) : ∃ n : Int, r = n :: (x ++ s) ∧ n = (x.length : Nat) := by
  cases r with
  | nil => cases h
  | cons n r =>
    dsimp only [PyFlat.row] at h
    split at h
    · rename_i hn
      cases h
      refine ⟨n, by rw [List.take_append_drop], ?_⟩
      rw [List.length_take]
      omega
    · cases h
theorem rows1 {r : List Int} {xs : List (List Int)} {t : List Int} (h : PyFlat.rows 1 r = some (xs, t)) : ∃ x : List Int, xs = [x] ∧ r = ((x.length : Nat) : Int) :: (x ++ t) := by
  dsimp only [PyFlat.rows] at h
  split at h
  · cases h
  · rename_i x s hx
    obtain ⟨n, e1, e2⟩ := row_of hx
    cases h
    exact ⟨x, rfl, by rw [e1, e2]⟩
def Reads (l : List Int) (c : List (List Int)) (t : List Int) : Prop := Sq50Neutral.asked1 c = true → ∃ k : Sq50.Call, CallOk k ∧ l = toI (enc k) ++ t ∧ Sq50Neutral.callOf c = some k
theorem long_of {x : List Int} (h : Sq50Neutral.long (fun z => Sq50Neutral.natural z 64) x = true) : x.length ≤ 1024 ∧ toI (x.map Int.toNat) = x ∧ ∀ y ∈ x.map Int.toNat, y < 2 ^ 64 := by
  unfold Sq50Neutral.long at h
  rw [Bool.and_eq_true, decide_eq_true_eq] at h  -- own
  exact ⟨h.1, nats64 h.2⟩
theorem reads0 {k : Sq50.Call} {p : Int} {t : List Int} (e : enc k = [p.toNat]) (hp : p = Int.ofNat p.toNat) (h64 : p.toNat < 2 ^ 64) (hc : Sq50Neutral.callOf [[p]] = some k) : Reads (p :: t) [[p]] t := fun _ => by
  refine ⟨k, ⟨by rw [e]; exact Nat.le_of_ble_eq_true rfl, fun x hx => ?_⟩, ?_, hc⟩
  · rw [e] at hx
    rcases List.mem_singleton.mp hx with rfl
    exact h64
  · rw [e]
    show p :: t = [Int.ofNat p.toNat] ++ t
    rw [← hp]
    rfl
theorem reads1 {n : Nat} {p a : Int} {t : List Int} {f : Nat → Sq50.Call} (hp : p = Int.ofNat n) (h64 : n < 2 ^ 64) (e : enc (f a.toNat) = [n, a.toNat]) (ha : Sq50Neutral.asked1 [[p, a]] = Sq50Neutral.natural a 64) (hc : Sq50Neutral.callOf [[p, a]] = some (f a.toNat)) : Reads (p :: a :: t) [[p, a]] t := fun h => by
  rw [ha] at h
  obtain ⟨h1, h2⟩ := nat64 h
  refine ⟨f a.toNat, ⟨by rw [e]; exact Nat.le_of_ble_eq_true rfl, fun x hx => ?_⟩, ?_, hc⟩
  · rw [e] at hx
    rcases List.mem_cons.mp hx with rfl | hx  -- own
    · exact h64
    · rcases List.mem_singleton.mp hx with rfl
      exact h2
  · rw [e]
    show p :: a :: t = Int.ofNat n :: Int.ofNat a.toNat :: t
    rw [← h1, ← hp]
theorem call0 {p : Int} {r : List Int} {c : List (List Int)} {t : List Int} (hs : PySq50.shape p = some (0, 0)) (h : PyFlat.call PySq50.shape (p :: r) = some (c, t)) : c = [[p]] ∧ t = r := by
  dsimp only [PyFlat.call] at h
  rw [hs] at h
  dsimp only at h
  rw [if_neg (Nat.not_lt_zero _)] at h
  cases h
  exact ⟨rfl, rfl⟩
theorem call1 {p : Int} {r : List Int} {c : List (List Int)} {t : List Int} (hs : PySq50.shape p = some (1, 0)) (h : PyFlat.call PySq50.shape (p :: r) = some (c, t)) : ∃ a, r = a :: t ∧ c = [[p, a]] := by
  dsimp only [PyFlat.call] at h
  rw [hs] at h
  dsimp only at h
  cases r with
  | nil => cases h
  | cons a r =>
    rw [if_neg (by rw [List.length_cons]; omega)] at h
    cases h
    exact ⟨a, rfl, rfl⟩
theorem call2 {p : Int} {r : List Int} {c : List (List Int)} {t : List Int} (hs : PySq50.shape p = some (1, 1)) (h : PyFlat.call PySq50.shape (p :: r) = some (c, t)) : ∃ (a : Int) (x : List Int), r = a :: ((x.length : Nat) : Int) :: (x ++ t) ∧ c = [[p, a], x] := by
  dsimp only [PyFlat.call] at h
  rw [hs] at h
  dsimp only at h
  cases r with
  | nil => cases h
  | cons a r =>
    rw [if_neg (by rw [List.length_cons]; omega)] at h
    split at h
    · cases h
    · rename_i xs s hx
      obtain ⟨x, rfl, e⟩ := rows1 hx
      cases h
      exact ⟨a, x, by rw [← e]; rfl, rfl⟩
theorem call3 {p : Int} {r : List Int} {c : List (List Int)} {t : List Int} (hs : PySq50.shape p = some (3, 1)) (h : PyFlat.call PySq50.shape (p :: r) = some (c, t)) : ∃ (a b d : Int) (x : List Int), r = a :: b :: d :: ((x.length : Nat) : Int) :: (x ++ t) ∧ c = [[p, a, b, d], x] := by
  dsimp only [PyFlat.call] at h
  rw [hs] at h
  dsimp only at h
  match r, h with
  | [], h => cases h
  | [_], h => cases h
  | [_, _], h => cases h
  | a :: b :: d :: r, h =>
    rw [if_neg (by simp only [List.length_cons]; omega)] at h
    split at h
    · cases h
    · rename_i xs s hx
      obtain ⟨x, rfl, e⟩ := rows1 hx
      cases h
      exact ⟨a, b, d, x, by rw [← e]; rfl, rfl⟩
theorem shape_cases {p : Int} (h : PySq50.shape p ≠ none) : p = 1 ∨ p = 2 ∨ p = 3 ∨ p = 4 ∨ p = 5 ∨ p = 6 ∨ p = 7 ∨ p = 8 ∨ p = 9 ∨ p = 10 ∨ p = 11 ∨ p = 12 ∨ p = 13 := by
  by_cases c : 1 ≤ p ∧ p ≤ 13
  · omega
  · refine absurd ?_ h
    unfold PySq50.shape
    repeat rw [if_neg (by omega)]
theorem reads {p : Int} {r : List Int} {c : List (List Int)} {t : List Int} (h : PyFlat.call PySq50.shape (p :: r) = some (c, t)) : Reads (p :: r) c t := by
  have hn : PySq50.shape p ≠ none := fun z => by
    dsimp only [PyFlat.call] at h
    rw [z] at h
    cases h
  rcases shape_cases hn with rfl | rfl | rfl | rfl | rfl | rfl | rfl | rfl | rfl | rfl | rfl | rfl | rfl
  · obtain ⟨a, b, d, x, rfl, rfl⟩ := call3 rfl h
    intro hq
    have hq : (Sq50Neutral.natural a 64 && (Sq50Neutral.natural b 64 && (Sq50Neutral.natural d 64 && Sq50Neutral.long (fun z => Sq50Neutral.natural z 64) x))) = true := hq
    rw [Bool.and_eq_true, Bool.and_eq_true, Bool.and_eq_true] at hq
    obtain ⟨a1, a2⟩ := nat64 hq.1
    obtain ⟨b1, b2⟩ := nat64 hq.2.1
    obtain ⟨d1, d2⟩ := nat64 hq.2.2.1
    obtain ⟨x1, x2, x3⟩ := long_of hq.2.2.2
    refine ⟨.begin_ a.toNat b.toNat d.toNat (x.map Int.toNat), ⟨?_, fun y hy => ?_⟩, ?_, rfl⟩
    · show ((x.map Int.toNat).length + 5) ≤ 2000
      rw [List.length_map]
      omega
    · simp only [enc, List.mem_cons] at hy
      rcases hy with rfl | rfl | rfl | rfl | rfl | hy
      · decide
      · exact a2
      · exact b2
      · exact d2
      · rw [List.length_map]
        omega
      · exact x3 y hy
    · show 1 :: a :: b :: d :: ((x.length : Nat) : Int) :: (x ++ t) = (1 :: Int.ofNat a.toNat :: Int.ofNat b.toNat :: Int.ofNat d.toNat :: Int.ofNat (x.map Int.toNat).length :: toI (x.map Int.toNat)) ++ t
      rw [← a1, ← b1, ← d1, x2, List.length_map]
      rfl
  · obtain ⟨a, x, rfl, rfl⟩ := call2 rfl h
    intro hq
    have hq : (Sq50Neutral.natural a 64 && Sq50Neutral.long (fun z => Sq50Neutral.natural z 64) x) = true := hq
    rw [Bool.and_eq_true] at hq
    obtain ⟨a1, a2⟩ := nat64 hq.1
    obtain ⟨x1, x2, x3⟩ := long_of hq.2
    refine ⟨.act a.toNat (x.map Int.toNat), ⟨?_, fun y hy => ?_⟩, ?_, rfl⟩
    · show ((x.map Int.toNat).length + 3) ≤ 2000
      rw [List.length_map]
      omega
    · simp only [enc, List.mem_cons] at hy
      rcases hy with rfl | rfl | rfl | hy
      · decide
      · exact a2
      · rw [List.length_map]
        omega
      · exact x3 y hy
    · show 2 :: a :: ((x.length : Nat) : Int) :: (x ++ t) = (2 :: Int.ofNat a.toNat :: Int.ofNat (x.map Int.toNat).length :: toI (x.map Int.toNat)) ++ t
      rw [← a1, x2, List.length_map]
      rfl
  · obtain ⟨rfl, rfl⟩ := call0 rfl h
    exact reads0 (k := .undo) rfl rfl (by decide) rfl
  · obtain ⟨rfl, rfl⟩ := call0 rfl h
    exact reads0 (k := .redo) rfl rfl (by decide) rfl
  · obtain ⟨a, rfl, rfl⟩ := call1 rfl h
    exact reads1 (n := 5) (f := .row) rfl (by decide) rfl rfl rfl
  · obtain ⟨a, rfl, rfl⟩ := call1 rfl h
    exact reads1 (n := 6) (f := .own) rfl (by decide) rfl rfl rfl
  · obtain ⟨a, rfl, rfl⟩ := call1 rfl h
    exact reads1 (n := 7) (f := .chosen) rfl (by decide) rfl rfl rfl
  · obtain ⟨rfl, rfl⟩ := call0 rfl h
    exact reads0 (k := .list) rfl rfl (by decide) rfl
  · obtain ⟨rfl, rfl⟩ := call0 rfl h
    exact reads0 (k := .history) rfl rfl (by decide) rfl
  · obtain ⟨rfl, rfl⟩ := call0 rfl h
    exact reads0 (k := .copy) rfl rfl (by decide) rfl
  · obtain ⟨rfl, rfl⟩ := call0 rfl h
    exact reads0 (k := .record) rfl rfl (by decide) rfl
  · obtain ⟨rfl, rfl⟩ := call0 rfl h
    exact reads0 (k := .halt_) rfl rfl (by decide) rfl
  · obtain ⟨rfl, rfl⟩ := call0 rfl h
    exact reads0 (k := .play) rfl rfl (by decide) rfl
theorem told_cons (a : List Int) (l : List (List Int)) : PyFlat.told (a :: l) = (a.length : Int) :: (a ++ PyFlat.told l) := by
  unfold PyFlat.told
  rw [List.flatMap_cons]
  rfl
theorem parse : ∀ (f : Nat) {l : List Int} {raw : List (List (List Int))}, PyFlat.calls PySq50.shape f l = some raw → (raw.all Sq50Neutral.asked1) = true →
    ∃ cs : List Sq50.Call, l = toI (cs.flatMap enc) ∧ cs.length = raw.length ∧ (∀ c ∈ cs, CallOk c) ∧ ∀ g, tells g cs = PyFlat.told (PyFlat.played Sq50Neutral.step g raw)
  | _, [], raw, h, _ => by
    have e : raw = [] := by
      cases ‹Nat› <;> (unfold PyFlat.calls at h; cases h; rfl)
    subst e
    exact ⟨[], rfl, rfl, fun c h => (by cases h), fun g => rfl⟩
  | 0, _ :: _, raw, h, _ => by unfold PyFlat.calls at h; cases h
  | f + 1, p :: r, raw, h, ha => by
    dsimp only [PyFlat.calls] at h
    split at h
    · cases h
    · rename_i c t hc
      split at h
      · cases h
      · rename_i rs hr
        cases h
        rw [List.all_cons, Bool.and_eq_true] at ha  -- own
        obtain ⟨k, ok, e, hk⟩ := reads hc ha.1
        obtain ⟨cs, e1, e2, e3, e4⟩ := parse f hr ha.2
        refine ⟨k :: cs, ?_, by rw [List.length_cons, List.length_cons, e2], fun c' hc' => ?_, fun g => ?_⟩
        · rw [e, e1, List.flatMap_cons]
          unfold toI
          rw [List.map_append]
        · rcases List.mem_cons.mp hc' with rfl | hc'
          · exact ok
          · exact e3 c' hc'
        · have es : Sq50Neutral.step g c = aft g k := by
            unfold Sq50Neutral.step
            rw [hk]
            rfl
          show _ = PyFlat.told ((Sq50Neutral.step g c).2 :: PyFlat.played Sq50Neutral.step (Sq50Neutral.step g c).1 rs)
          rw [told_cons, es, ← e4]
          rfl
/-- what is asked, in calls -/
theorem asked_calls {l : List Int} (h : PySq50.answers_asked l = true) : ∃ cs : List Sq50.Call, l = toI (cs.flatMap enc) ∧ cs.length ≤ 120 ∧ (∀ c ∈ cs, CallOk c) ∧ tells Sq50.fresh cs = PySq50.answers l ∧ (tells Sq50.fresh cs).length ≤ 10000000 := by
  unfold PySq50.answers_asked at h
  split at h
  · cases h
  · rename_i raw hr
    simp only [Bool.and_eq_true, whole_map] at h
    obtain ⟨⟨⟨⟨h1, h2⟩, h3⟩, h4⟩, h5⟩ := h
    unfold Sq50Neutral.asked at h4
    simp only [Bool.and_eq_true] at h4
    obtain ⟨cs, e1, e2, e3, e4⟩ := parse l.length hr h4.2.2.1
    have ea : PySq50.answers l = PyFlat.told (PyFlat.played Sq50Neutral.step Sq50Neutral.start raw) := by
      unfold PySq50.answers PySq50.calls
      rw [hr]
      show PyFlat.told (PyFlat.played _ _ (raw.map PySq50.whole)) = _
      rw [whole_map]
    have et : tells Sq50.fresh cs = PySq50.answers l := by rw [ea]; exact e4 Sq50.fresh
    refine ⟨cs, e1, ?_, e3, et, ?_⟩
    · rw [e2]
      exact of_decide_eq_true h2
    · rw [et]
      exact of_decide_eq_true h5
end LP
end
section
set_option maxHeartbeats 4100000
namespace LP
open PySem PySem.Spec PyProof.Rows L2
abbrev s_CannotBe_init : Stmt := inClass (topS 2) 0
abbrev s_NoSuchLayer_init : Stmt := inClass (topS 3) 0
abbrev s_NotNow_init : Stmt := inClass (topS 6) 0
abbrev s_NotSoTold_init : Stmt := inClass (topS 4) 0
abbrev s_TooMany_init : Stmt := inClass (topS 5) 0
abbrev s_Refusal_init : Stmt := inClass (topS 1) 0
def fn0 : List He.DefD := [⟨("plain_layer", none), "plain_layer", "plain_layer", defArgs s_plain_layer, defBody s_plain_layer, defScope s_plain_layer, [], []⟩,
  ⟨("first_picture", none), "first_picture", "first_picture", defArgs s_first_picture, defBody s_first_picture, defScope s_first_picture, [], []⟩,
  ⟨("layer_place", none), "layer_place", "layer_place", defArgs s_layer_place, defBody s_layer_place, defScope s_layer_place, [], []⟩,
  ⟨("worked_place", none), "worked_place", "worked_place", defArgs s_worked_place, defBody s_worked_place, defScope s_worked_place, [], []⟩,
  ⟨("worked_dots", none), "worked_dots", "worked_dots", defArgs s_worked_dots, defBody s_worked_dots, defScope s_worked_dots, [], []⟩,
  ⟨("worked_colours", none), "worked_colours", "worked_colours", defArgs s_worked_colours, defBody s_worked_colours, defScope s_worked_colours, [], []⟩,
  ⟨("may_change", none), "may_change", "may_change", defArgs s_may_change, defBody s_may_change, defScope s_may_change, [], []⟩,
  ⟨("with_chosen", none), "with_chosen", "with_chosen", defArgs s_with_chosen, defBody s_with_chosen, defScope s_with_chosen, [], []⟩,
  ⟨("with_layers", none), "with_layers", "with_layers", defArgs s_with_layers, defBody s_with_layers, defScope s_with_layers, [], []⟩,
  ⟨("layer_with_dots", none), "layer_with_dots", "layer_with_dots", defArgs s_layer_with_dots, defBody s_layer_with_dots, defScope s_layer_with_dots, [], []⟩,
  ⟨("with_worked_dots", none), "with_worked_dots", "with_worked_dots", defArgs s_with_worked_dots, defBody s_with_worked_dots, defScope s_with_worked_dots, [], []⟩,
  ⟨("joined_one", none), "joined_one", "joined_one", defArgs s_joined_one, defBody s_joined_one, defScope s_joined_one, [], []⟩,
  ⟨("joined", none), "joined", "joined", defArgs s_joined, defBody s_joined, defScope s_joined, [], []⟩,
  ⟨("rectangle", none), "rectangle", "rectangle", defArgs s_rectangle, defBody s_rectangle, defScope s_rectangle, [], []⟩,
  ⟨("steps", none), "steps", "steps", defArgs s_steps, defBody s_steps, defScope s_steps, [], []⟩,
  ⟨("beside", none), "beside", "beside", defArgs s_beside, defBody s_beside, defScope s_beside, [], []⟩,
  ⟨("flood", none), "flood", "flood", defArgs s_flood, defBody s_flood, defScope s_flood, [], []⟩,
  ⟨("is_near", none), "is_near", "is_near", defArgs s_is_near, defBody s_is_near, defScope s_is_near, [], []⟩,
  ⟨("grown", none), "grown", "grown", defArgs s_grown, defBody s_grown, defScope s_grown, [], []⟩,
  ⟨("shrunk", none), "shrunk", "shrunk", defArgs s_shrunk, defBody s_shrunk, defScope s_shrunk, [], []⟩,
  ⟨("reversed_choice", none), "reversed_choice", "reversed_choice", defArgs s_reversed_choice, defBody s_reversed_choice, defScope s_reversed_choice, [], []⟩,
  ⟨("with_joined", none), "with_joined", "with_joined", defArgs s_with_joined, defBody s_with_joined, defScope s_with_joined, [], []⟩,
  ⟨("choose_rectangle", none), "choose_rectangle", "choose_rectangle", defArgs s_choose_rectangle, defBody s_choose_rectangle, defScope s_choose_rectangle, [], []⟩,
  ⟨("choose_flood", none), "choose_flood", "choose_flood", defArgs s_choose_flood, defBody s_choose_flood, defScope s_choose_flood, [], []⟩,
  ⟨("choose_all", none), "choose_all", "choose_all", defArgs s_choose_all, defBody s_choose_all, defScope s_choose_all, [], []⟩]
def fn1 : List He.DefD := [⟨("grow_choice", none), "grow_choice", "grow_choice", defArgs s_grow_choice, defBody s_grow_choice, defScope s_grow_choice, [], []⟩,
  ⟨("shrink_choice", none), "shrink_choice", "shrink_choice", defArgs s_shrink_choice, defBody s_shrink_choice, defScope s_shrink_choice, [], []⟩,
  ⟨("nearest", none), "nearest", "nearest", defArgs s_nearest, defBody s_nearest, defScope s_nearest, [], []⟩,
  ⟨("with_all_become", none), "with_all_become", "with_all_become", defArgs s_with_all_become, defBody s_with_all_become, defScope s_with_all_become, [], []⟩,
  ⟨("fill", none), "fill", "fill", defArgs s_fill, defBody s_fill, defScope s_fill, [], []⟩,
  ⟨("padded", none), "padded", "padded", defArgs s_padded, defBody s_padded, defScope s_padded, [], []⟩,
  ⟨("padded_rows", none), "padded_rows", "padded_rows", defArgs s_padded_rows, defBody s_padded_rows, defScope s_padded_rows, [], []⟩,
  ⟨("window", none), "window", "window", defArgs s_window, defBody s_window, defScope s_window, [], []⟩,
  ⟨("recoloured", none), "recoloured", "recoloured", defArgs s_recoloured, defBody s_recoloured, defScope s_recoloured, [], []⟩,
  ⟨("mean", none), "mean", "mean", defArgs s_mean, defBody s_mean, defScope s_mean, [], []⟩,
  ⟨("smooth", none), "smooth", "smooth", defArgs s_smooth, defBody s_smooth, defScope s_smooth, [], []⟩,
  ⟨("rank", none), "rank", "rank", defArgs s_rank, defBody s_rank, defScope s_rank, [], []⟩,
  ⟨("place_moved", none), "place_moved", "place_moved", defArgs s_place_moved, defBody s_place_moved, defScope s_place_moved, [], []⟩,
  ⟨("move", none), "move", "move", defArgs s_move, defBody s_move, defScope s_move, [], []⟩,
  ⟨("cut", none), "cut", "cut", defArgs s_cut, defBody s_cut, defScope s_cut, [], []⟩,
  ⟨("lifted", none), "lifted", "lifted", defArgs s_lifted, defBody s_lifted, defScope s_lifted, [], []⟩,
  ⟨("met", none), "met", "met", defArgs s_met, defBody s_met, defScope s_met, [], []⟩,
  ⟨("put_over", none), "put_over", "put_over", defArgs s_put_over, defBody s_put_over, defScope s_put_over, [], []⟩,
  ⟨("rounded_dot", none), "rounded_dot", "rounded_dot", defArgs s_rounded_dot, defBody s_rounded_dot, defScope s_rounded_dot, [], []⟩,
  ⟨("shown_dot", none), "shown_dot", "shown_dot", defArgs s_shown_dot, defBody s_shown_dot, defScope s_shown_dot, [], []⟩,
  ⟨("with_new_layer", none), "with_new_layer", "with_new_layer", defArgs s_with_new_layer, defBody s_with_new_layer, defScope s_with_new_layer, [], []⟩,
  ⟨("make_layer", none), "make_layer", "make_layer", defArgs s_make_layer, defBody s_make_layer, defScope s_make_layer, [], []⟩,
  ⟨("drop_layer", none), "drop_layer", "drop_layer", defArgs s_drop_layer, defBody s_drop_layer, defScope s_drop_layer, [], []⟩,
  ⟨("raise_layer", none), "raise_layer", "raise_layer", defArgs s_raise_layer, defBody s_raise_layer, defScope s_raise_layer, [], []⟩,
  ⟨("set_layer", none), "set_layer", "set_layer", defArgs s_set_layer, defBody s_set_layer, defScope s_set_layer, [], []⟩]
def fn2 : List He.DefD := [⟨("work_on_layer", none), "work_on_layer", "work_on_layer", defArgs s_work_on_layer, defBody s_work_on_layer, defScope s_work_on_layer, [], []⟩,
  ⟨("paste_layer", none), "paste_layer", "paste_layer", defArgs s_paste_layer, defBody s_paste_layer, defScope s_paste_layer, [], []⟩,
  ⟨("put_together", none), "put_together", "put_together", defArgs s_put_together, defBody s_put_together, defScope s_put_together, [], []⟩,
  ⟨("rearranged", none), "rearranged", "rearranged", defArgs s_rearranged, defBody s_rearranged, defScope s_rearranged, [], []⟩,
  ⟨("crop", none), "crop", "crop", defArgs s_crop, defBody s_crop, defScope s_crop, [], []⟩,
  ⟨("source", none), "source", "source", defArgs s_source, defBody s_source, defScope s_source, [], []⟩,
  ⟨("turn", none), "turn", "turn", defArgs s_turn, defBody s_turn, defScope s_turn, [], []⟩,
  ⟨("is_told_so", none), "is_told_so", "is_told_so", defArgs s_is_told_so, defBody s_is_told_so, defScope s_is_told_so, [], []⟩,
  ⟨("deeds_on_picture", none), "deeds_on_picture", "deeds_on_picture", defArgs s_deeds_on_picture, defBody s_deeds_on_picture, defScope s_deeds_on_picture, [], []⟩,
  ⟨("picture_after", none), "picture_after", "picture_after", defArgs s_picture_after, defBody s_picture_after, defScope s_picture_after, [], []⟩,
  ⟨("whole_size", none), "whole_size", "whole_size", defArgs s_whole_size, defBody s_whole_size, defScope s_whole_size, [], []⟩,
  ⟨("differing", none), "differing", "differing", defArgs s_differing, defBody s_differing, defScope s_differing, [], []⟩,
  ⟨("dots_by_number", none), "dots_by_number", "dots_by_number", defArgs s_dots_by_number, defBody s_dots_by_number, defScope s_dots_by_number, [], []⟩,
  ⟨("dots_changed", none), "dots_changed", "dots_changed", defArgs s_dots_changed, defBody s_dots_changed, defScope s_dots_changed, [], []⟩,
  ⟨("cost", none), "cost", "cost", defArgs s_cost, defBody s_cost, defScope s_cost, [], []⟩,
  ⟨("answers", none), "answers", "answers", defArgs s_answers, defBody s_answers, defScope s_answers, [], []⟩,
  ⟨("call_end", none), "call_end", "call_end", defArgs s_call_end, defBody s_call_end, defScope s_call_end, [], []⟩,
  ⟨("answer_to", none), "answer_to", "answer_to", defArgs s_answer_to, defBody s_answer_to, defScope s_answer_to, [], []⟩,
  ⟨("call_on", none), "call_on", "call_on", defArgs s_call_on, defBody s_call_on, defScope s_call_on, [], []⟩,
  ⟨("row_call", none), "row_call", "row_call", defArgs s_row_call, defBody s_row_call, defScope s_row_call, [], []⟩,
  ⟨("bare_call", none), "bare_call", "bare_call", defArgs s_bare_call, defBody s_bare_call, defScope s_bare_call, [], []⟩,
  ⟨("Layer", some "__init__"), "__init__", "Layer.__init__", defArgs s_Layer_init, defBody s_Layer_init, defScope s_Layer_init, [], []⟩,
  ⟨("Picture", some "__init__"), "__init__", "Picture.__init__", defArgs s_Picture_init, defBody s_Picture_init, defScope s_Picture_init, [], []⟩,
  ⟨("History", some "__init__"), "__init__", "History.__init__", defArgs s_History_init, defBody s_History_init, defScope s_History_init, [], []⟩,
  ⟨("History", some "deed_done"), "deed_done", "History.deed_done", defArgs s_History_deed_done, defBody s_History_deed_done, defScope s_History_deed_done, [], []⟩]
def fn3 : List He.DefD := [⟨("History", some "keep"), "keep", "History.keep", defArgs s_History_keep, defBody s_History_keep, defScope s_History_keep, [], []⟩,
  ⟨("History", some "step_back"), "step_back", "History.step_back", defArgs s_History_step_back, defBody s_History_step_back, defScope s_History_step_back, [], []⟩,
  ⟨("History", some "step_on"), "step_on", "History.step_on", defArgs s_History_step_on, defBody s_History_step_on, defScope s_History_step_on, [], []⟩,
  ⟨("History", some "counts"), "counts", "History.counts", defArgs s_History_counts, defBody s_History_counts, defScope s_History_counts, [], []⟩,
  ⟨("Desk", some "__init__"), "__init__", "Desk.__init__", defArgs s_Desk_init, defBody s_Desk_init, defScope s_Desk_init, [], []⟩,
  ⟨("Desk", some "begin"), "begin", "Desk.begin", defArgs s_Desk_begin, defBody s_Desk_begin, defScope s_Desk_begin, [], []⟩,
  ⟨("Desk", some "act"), "act", "Desk.act", defArgs s_Desk_act, defBody s_Desk_act, defScope s_Desk_act, [], []⟩,
  ⟨("Desk", some "do_deed"), "do_deed", "Desk.do_deed", defArgs s_Desk_do_deed, defBody s_Desk_do_deed, defScope s_Desk_do_deed, [], []⟩,
  ⟨("Desk", some "undo"), "undo", "Desk.undo", defArgs s_Desk_undo, defBody s_Desk_undo, defScope s_Desk_undo, [], []⟩,
  ⟨("Desk", some "redo"), "redo", "Desk.redo", defArgs s_Desk_redo, defBody s_Desk_redo, defScope s_Desk_redo, [], []⟩,
  ⟨("Desk", some "places"), "places", "Desk.places", defArgs s_Desk_places, defBody s_Desk_places, defScope s_Desk_places, [], []⟩,
  ⟨("Desk", some "row"), "row", "Desk.row", defArgs s_Desk_row, defBody s_Desk_row, defScope s_Desk_row, [], []⟩,
  ⟨("Desk", some "own"), "own", "Desk.own", defArgs s_Desk_own, defBody s_Desk_own, defScope s_Desk_own, [], []⟩,
  ⟨("Desk", some "chosen_row"), "chosen_row", "Desk.chosen_row", defArgs s_Desk_chosen_row, defBody s_Desk_chosen_row, defScope s_Desk_chosen_row, [], []⟩,
  ⟨("Desk", some "listed"), "listed", "Desk.listed", defArgs s_Desk_listed, defBody s_Desk_listed, defScope s_Desk_listed, [], []⟩,
  ⟨("Desk", some "history_told"), "history_told", "Desk.history_told", defArgs s_Desk_history_told, defBody s_Desk_history_told, defScope s_Desk_history_told, [], []⟩,
  ⟨("Desk", some "copy_dots"), "copy_dots", "Desk.copy_dots", defArgs s_Desk_copy_dots, defBody s_Desk_copy_dots, defScope s_Desk_copy_dots, [], []⟩,
  ⟨("Desk", some "start_recording"), "start_recording", "Desk.start_recording", defArgs s_Desk_start_recording, defBody s_Desk_start_recording, defScope s_Desk_start_recording, [], []⟩,
  ⟨("Desk", some "stop_recording"), "stop_recording", "Desk.stop_recording", defArgs s_Desk_stop_recording, defBody s_Desk_stop_recording, defScope s_Desk_stop_recording, [], []⟩,
  ⟨("Desk", some "play_recorded"), "play_recorded", "Desk.play_recorded", defArgs s_Desk_play_recorded, defBody s_Desk_play_recorded, defScope s_Desk_play_recorded, [], []⟩,
  ⟨("Desk", some "try_deed"), "try_deed", "Desk.try_deed", defArgs s_Desk_try_deed, defBody s_Desk_try_deed, defScope s_Desk_try_deed, [], []⟩,
  ⟨("CannotBe", some "__init__"), "__init__", "CannotBe.__init__", defArgs s_CannotBe_init, defBody s_CannotBe_init, defScope s_CannotBe_init, [], []⟩,
  ⟨("NoSuchLayer", some "__init__"), "__init__", "NoSuchLayer.__init__", defArgs s_NoSuchLayer_init, defBody s_NoSuchLayer_init, defScope s_NoSuchLayer_init, [], []⟩,
  ⟨("NotNow", some "__init__"), "__init__", "NotNow.__init__", defArgs s_NotNow_init, defBody s_NotNow_init, defScope s_NotNow_init, [], []⟩,
  ⟨("NotSoTold", some "__init__"), "__init__", "NotSoTold.__init__", defArgs s_NotSoTold_init, defBody s_NotSoTold_init, defScope s_NotSoTold_init, [], []⟩]
def fn4 : List He.DefD := [⟨("TooMany", some "__init__"), "__init__", "TooMany.__init__", defArgs s_TooMany_init, defBody s_TooMany_init, defScope s_TooMany_init, [], []⟩,
  ⟨("Refusal", some "__init__"), "__init__", "Refusal.__init__", defArgs s_Refusal_init, defBody s_Refusal_init, defScope s_Refusal_init, [], []⟩]
def fnL : List He.DefD := fn0 ++ fn1 ++ fn2 ++ fn3 ++ fn4
def fa0 : List He.Fa := [.glo "plain_layer", .glo "first_picture", .glo "layer_place", .glo "worked_place", .glo "worked_dots", .glo "worked_colours", .glo "may_change", .glo "with_chosen", .glo "with_layers", .glo "layer_with_dots", .glo "with_worked_dots", .glo "joined_one", .glo "joined", .glo "rectangle", .glo "steps", .glo "beside", .glo "flood", .glo "is_near", .glo "grown", .glo "shrunk", .glo "reversed_choice", .glo "with_joined", .glo "choose_rectangle", .glo "choose_flood", .glo "choose_all", .glo "grow_choice", .glo "shrink_choice", .glo "nearest", .glo "with_all_become", .glo "fill"]
def fa1 : List He.Fa := [.glo "padded", .glo "padded_rows", .glo "window", .glo "recoloured", .glo "mean", .glo "smooth", .glo "rank", .glo "place_moved", .glo "move", .glo "cut", .glo "lifted", .glo "met", .glo "put_over", .glo "rounded_dot", .glo "shown_dot", .glo "with_new_layer", .glo "make_layer", .glo "drop_layer", .glo "raise_layer", .glo "set_layer", .glo "work_on_layer", .glo "paste_layer", .glo "put_together", .glo "rearranged", .glo "crop", .glo "source", .glo "turn", .glo "is_told_so", .glo "deeds_on_picture", .glo "picture_after"]
def fa2 : List He.Fa := [.glo "whole_size", .glo "differing", .glo "dots_by_number", .glo "dots_changed", .glo "cost", .glo "answers", .glo "call_end", .glo "answer_to", .glo "call_on", .glo "row_call", .glo "bare_call", .glo "Refusal", .glo "CannotBe", .glo "NoSuchLayer", .glo "NotSoTold", .glo "TooMany", .glo "NotNow", .glo "Layer", .glo "Picture", .glo "History", .glo "Desk", .free "len", .free "range", .free "min", .free "max", .free "abs", .free "sum", .free "any", .free "sorted", .free "list"]
def fa3 : List He.Fa := [.free "dict", .free "zip", .free "enumerate", .int "LAST_HOW" 4, .int "MOST_REACH" 1000, .int "FURTHEST_WINDOW" 4, .int "NO_MOVE" 16, .int "MOST_MOVE" 32, .int "MOST_LAYERS" 5, .glo "TOLD", .int "CUT" 14, .int "PASTE" 15, .int "LONGEST_SIDE" 12, .int "MOST_BUDGET" 1000000, .int "MOST_RECORDED" 40, .glo "PLAIN", .glo "WITH_LIST", .cls "Layer", .mkr "Layer", .noat "Layer" "number", .noat "Layer" "seen", .noat "Layer" "strong", .noat "Layer" "way", .noat "Layer" "dots", .cls "Picture", .mkr "Picture", .noat "Picture" "w", .noat "Picture" "h", .noat "Picture" "layers", .noat "Picture" "worked"]
def fa4 : List He.Fa := [.noat "Picture" "chosen", .noat "Picture" "made", .cls "History", .mkr "History", .noat "History" "budget", .noat "History" "kept", .noat "History" "spent", .noat "History" "undone", .cls "Desk", .mkr "Desk", .noat "Desk" "picture", .noat "Desk" "history", .noat "Desk" "aside", .noat "Desk" "recording", .noat "Desk" "recorded", .meth "History" "deed_done", .meth "History" "keep", .meth "History" "step_back", .meth "History" "step_on", .meth "History" "counts", .meth "Desk" "begin", .meth "Desk" "act", .meth "Desk" "do_deed", .meth "Desk" "undo", .meth "Desk" "redo", .meth "Desk" "places", .meth "Desk" "row", .meth "Desk" "own", .meth "Desk" "chosen_row", .meth "Desk" "listed"]
def fa5 : List He.Fa := [.meth "Desk" "history_told", .meth "Desk" "copy_dots", .meth "Desk" "start_recording", .meth "Desk" "stop_recording", .meth "Desk" "play_recorded", .meth "Desk" "try_deed"]
def faL : List He.Fa := fa0 ++ fa1 ++ fa2 ++ fa3 ++ fa4 ++ fa5
/-- a dict of the top, its keys and values ints -/
def intB (K : PySem.W.Frag) (x : Str) (kvs : List (Int × Int)) : Bool := match K.lookup (He.ga K x) with
  | some ⟨.type c, none, .dict es _, sl⟩ => decide (c = "dict") && (sl.isEmpty && ((es.toList.all fun e => match e.key with
    | .int k _ => decide (e.hash = hashInt k)
    | _ => false) && kvs.all fun p => match es.toList.find? fun e => Value.isInt p.1 e.key with
    | some e => He.relB (.int p.2) e.val
    | none => false))
  | _ => false
/-- one of the program's refusals -/
def isV (a : Option PySem.W.CFound) (g : Addr) : Bool := match a with
  | some (.val (.ref b)) => decide (b = g)
  | _ => false
def kwNone (K : PySem.W.Frag) (f : Addr) : Bool := match K.lookup f with
  | some ⟨_, _, .func fd, _⟩ => (match fd.kwdefaults with
    | .none => true
    | _ => false)
  | _ => false
def refB (K : PySem.W.Frag) (x : Str) : Bool :=
  let C := He.ga K x
  let f := He.ma K C "__init__"
  let R := He.ga K "Refusal"
  let g := He.ma K R "__init__"
  PySem.W.excInitIn K C PySem.Rf.exT "Exception.__new__" && (PySem.W.excOver K C PySem.Rf.exT && (PySem.W.hasDictIn K C && (He.eqO (PySem.W.findIn K (.ref C) "__setattr__") (some (some (.builtin "object.__setattr__"))) &&
  (He.eqO (PySem.W.findIn K (.ref C) "__getattribute__") (some (some (.builtin "BaseException.__getattribute__"))) && (He.eqO (PySem.W.findIn K (.ref C) "__getattr__") (some none) && (He.eqO (PySem.W.findIn K (.ref C) "answer") (some none) &&
  (He.eqO (PySem.W.findIn K (.ref C) "__init__") (some (some (.ref f))) && (decide (PySem.W.typeIn K (.ref f) = some (.type "function")) && (PySem.W.keepIn K (.ref C) && (decide (PySem.W.subIn K (.ref C) (.type "BaseException") = some true) &&
  (decide (PySem.W.typeIn K (.ref C) = some (.type "type")) && (decide (PySem.W.exmOne K (.ref C) (.ref R) = some true) && (PySem.W.readsIn K R (.type "type") && (He.eqO (PySem.W.specialIn K (.ref R) "__getattribute__") (some (some (.builtin "type.__getattribute__"))) &&
  (isV (PySem.W.findCls K (.ref R) (.type "type") "__init__") g && (PySem.W.keepIn K (.ref g) && (kwNone K f && kwNone K g)))))))))))))))))
def exB (K : PySem.W.Frag) : Bool := He.tupB K "TOLD" [.int 0, .int 1, .int 1, .int 4, .int 1, .int 5, .int 6, .int 1, .int 1, .int 1, .int 2, .int 1, .int 3, .int 2, .int 0, .int 0, .int 0, .int 0, .int 1] && (He.tupB K "WITH_LIST" [.int 1, .int 2] && (intB K "PLAIN" [(1, 3), (2, 1), (3, 0), (4, 0), (5, 1), (6, 1), (7, 1), (8, 0), (9, 0), (10, 0), (11, 0), (12, 0), (13, 0)] && (refB K "CannotBe" && (refB K "NoSuchLayer" && (refB K "NotNow" && (refB K "NotSoTold" && (refB K "TooMany")))))))
def lo0 : List Str := ["Refusal", "CannotBe", "NoSuchLayer", "NotSoTold", "TooMany", "NotNow", "Layer", "Picture", "History", "Desk", "plain_layer", "first_picture", "layer_place", "worked_place", "worked_dots", "worked_colours", "may_change", "with_chosen", "with_layers", "layer_with_dots", "with_worked_dots", "joined_one", "joined", "rectangle", "steps", "beside", "flood", "is_near", "grown", "shrunk"]
def lo1 : List Str := ["reversed_choice", "with_joined", "choose_rectangle", "choose_flood", "choose_all", "grow_choice", "shrink_choice", "nearest", "with_all_become", "fill", "padded", "padded_rows", "window", "recoloured", "mean", "smooth", "rank", "place_moved", "move", "cut", "lifted", "met", "put_over", "rounded_dot", "shown_dot", "with_new_layer", "make_layer", "drop_layer", "raise_layer", "set_layer"]
def lo2 : List Str := ["work_on_layer", "paste_layer", "put_together", "rearranged", "crop", "source", "turn", "is_told_so", "deeds_on_picture", "picture_after", "whole_size", "differing", "dots_by_number", "dots_changed", "cost", "call_end", "answer_to", "call_on", "row_call", "bare_call", "__name__", "LAST_HOW", "MOST_REACH", "FURTHEST_WINDOW", "NO_MOVE", "MOST_MOVE", "MOST_LAYERS", "TOLD", "CUT", "PASTE"]
def lo3 : List Str := ["LONGEST_SIDE", "MOST_BUDGET", "MOST_RECORDED", "PLAIN", "WITH_LIST"]
def loose : List Str := lo0 ++ lo1 ++ lo2 ++ lo3
abbrev RS : PySem.W.OpenSpec := PySem.Challenge.rw_layerpaint_s01_answers
abbrev qv : Program := PySem.W.view RS.prog [102]
def tfL : List He.Defn := [("rank", none)]
/-- what is looked at: all that the module's names reach, and the names of the machine's own parts -/
def codeA (g : Addr → Option Obj) (v : Value) : List Addr := match v with
  | .ref a => (match g a with
    | some ⟨_, _, .func fd, _⟩ => a :: He.refV fd.code
    | some _ => [a]
    | none => [])
  | _ => []
def dictVs (g : Addr → Option Obj) (a : Addr) : List Value := match g a with
  | some ⟨_, _, .dict es _, _⟩ => es.toList.map fun e => e.val
  | _ => []
/-- a class, its names, its methods -/
def clsA (g : Addr → Option Obj) (v : Value) : List Addr := match v with
  | .ref a => (match g a with
    | some ⟨_, _, .cls cd, _⟩ => cd.ns :: (dictVs g cd.ns).flatMap (codeA g)
    | _ => [])
  | _ => []
def asY (g : Addr → Option Obj) : List Addr := cStatics :: mainGlobals :: (dictVs g mainGlobals).flatMap fun v => codeA g v ++ clsA g v
def obY (g : Addr → Option Obj) : He.AlX := (He.obsT faL fnL [] (He.frT g (asY g)), exB (He.frT g (asY g)) && He.tabsB g tfL (He.frT g (asY g)))
theorem says_of {w : World} {h : Heap} {K : PySem.W.Frag} (hK : K = He.frT h.get? (asY h.get?)) (e : (He.obsT faL fnL [] K, exB K && He.tabsB h.get? tfL K) = He.valX fnL [] w) : He.SaysX faL fnL [] tfL exB w h K := by
  have e2 := congrArg (fun z : He.AlX => z.2) e
  have e3 : (exB K && He.tabsB h.get? tfL K) = true := e2
  rw [Bool.and_eq_true] at e3
  have one : ∀ p ∈ tfL, PySem.W.codeHdIn K (He.cT K p).1 (He.cT K p).2 = true ∧ h.get? (He.cT K p).2 = some { cls := .none, data := .fields #[] } := fun p hp => by
    have q := List.all_eq_true.mp e3.2 p hp
    rw [Bool.and_eq_true] at q
    refine ⟨q.1, ?_⟩
    cases z : h.get? (He.cT K p).2 with
    | none => rw [z] at q; exact absurd q.2 Bool.false_ne_true
    | some o => rw [z] at q; rw [He.emptyTab_eq q.2]
  refine ⟨congrArg (fun z : He.AlX => z.1) e, e3.1, fun p hp => (one p hp).1, fun p hp => ?_, fun p hp => (one p hp).2⟩
  have z := (one p hp).2
  generalize (He.cT K p).2 = b at z
  rw [hK]
  exact He.frT_none z rfl
def hk : PySem.W.Hook where
  α := He.AlX
  obs := fun s => obY s.heap.get?
  val := fun w => He.valX fnL [] w
  says := fun w h => ∃ K : PySem.W.Frag, K.In h ∧ He.SaysX faL fnL [] tfL exB w h K
  of := fun _ _ e => ⟨_, He.frT_in, says_of rfl e⟩
  keeps := fun _ _ _ ⟨K, hK, c⟩ k => ⟨K, fun a o e => k a o (hK a o e), c.t, c.more, c.hd, c.out, fun p hp => k _ _ (c.empty p hp)⟩
def ob (s : PySem.W.SharedT) : He.AlX := obY (HandSHeadRun.getT s)
theorem ob_eq (s : PySem.W.SharedT) : ob s = hk.obs s.abs := by
  show obY (HandSHeadRun.getT s) = obY s.abs.heap.get?
  rw [show HandSHeadRun.getT s = s.abs.heap.get? from funext (HandSHeadRun.getT_eq s)]
end LP
end
section
set_option maxHeartbeats 0
namespace LP
open PySem PySem.W PyProof.Rows
/-! the run of the top, looked at part by part -/
noncomputable abbrev endS (w : World) (os : OsState) : Option SharedT := HandSHeadRun.endF (HandSHeadRun.stepQ (HandSHeadRun.denQ HandSHeadRun.tabQ) RS.prog w) 6000 RS.prog w os
noncomputable abbrev seesA (w : World) (s : SharedT) := (HandSHeadRun.looksF RS.prog (boot_heap w.params) s.abs, HandSHeadRun.seenQ qv loose (importedModules RS.prog.main.body) (fun s => xlAt qv [] s && recOk [] s) s.abs)
abbrev KS (s : SharedT) : Frag := He.frT (HandSHeadRun.getT s) (asY (HandSHeadRun.getT s))
abbrev seesB (s : SharedT) : Bool × Bool := (faL.all fun f => f.ok (KS s), exB (KS s) && He.tabsB (HandSHeadRun.getT s) tfL (KS s))
abbrev seesC (s : SharedT) : Bool × List He.FnW := (fnL.all fun d => d.ok (KS s), fnL.map fun d => He.fnW (KS s) d.at_)
abbrev wo (w : World) (b : Bool) : World := w.withFollow "special-get-raises" b
theorem runAF (w : World) (os : OsState) : (endS (wo w false) os).map (seesA (wo w false)) = some (true, openGood qv loose) := by kernel_rfl
theorem runAT (w : World) (os : OsState) : (endS (wo w true) os).map (seesA (wo w true)) = some (true, openGood qv loose) := by kernel_rfl
theorem runBF (w : World) (os : OsState) : (endS (wo w false) os).map seesB = some (true, true) := by kernel_rfl
theorem runBT (w : World) (os : OsState) : (endS (wo w true) os).map seesB = some (true, true) := by kernel_rfl
theorem runCF (w : World) (os : OsState) : (endS (wo w false) os).map seesC = some (true, fnL.map He.DefD.val) := by kernel_rfl
theorem runCT (w : World) (os : OsState) : (endS (wo w true) os).map seesC = some (true, fnL.map He.DefD.val) := by kernel_rfl
theorem ob_of {s : SharedT} {w : World} (hb : seesB s = (true, true)) (hc : seesC s = (true, fnL.map He.DefD.val)) : ob s = hk.val w := by
  obtain ⟨b1, b2⟩ := Prod.mk.inj hb
  obtain ⟨c1, c2⟩ := Prod.mk.inj hc
  show ((((faL.all fun f => f.ok (KS s)) && fnL.all fun d => d.ok (KS s), fnL.map fun d => He.fnW (KS s) d.at_), ([] : List (Option (List (Option (Str × Int)))))), exB (KS s) && He.tabsB (HandSHeadRun.getT s) tfL (KS s)) = (((true, fnL.map He.DefD.val), []), true)
  rw [b1, b2, c1, c2]
  rfl
theorem run_of {w : World} (hA : ∀ os, (endS w os).map (seesA w) = some (true, openGood qv loose)) (hB : ∀ os, (endS w os).map seesB = some (true, true)) (hC : ∀ os, (endS w os).map seesC = some (true, fnL.map He.DefD.val)) : HandSHeadRun.RunEqS RS qv hk ob 6000 loose w := by
  intro os
  have a := hA os
  have b := hB os
  have c := hC os
  show (endS w os).map _ = _
  generalize endS w os = x at a b c
  cases x with
  | none => cases a
  | some s =>
    have a := Option.some.inj a
    obtain ⟨a1, a2⟩ := Prod.mk.inj a
    have o := ob_of (w := w) (Option.some.inj b) (Option.some.inj c)
    show some (_, _, _) = some _
    rw [a1, a2, o]
theorem run (w : World) : HandSHeadRun.RunEqS RS qv hk ob 6000 loose w := byRow2 "special-get-raises" (P := fun w => HandSHeadRun.RunEqS RS qv hk ob 6000 loose w)
  (fun w => run_of (w := wo w false) (runAF w) (runBF w) (runCF w)) (fun w => run_of (w := wo w true) (runAT w) (runBT w) (runCT w)) w
end LP
end
section
set_option maxHeartbeats 4100000
namespace LP
open PySem PySem.Spec PyProof.Rows L2
theorem ex_parts {K : PySem.W.Frag} (h : exB K = true) : He.tupB K "TOLD" [.int 0, .int 1, .int 1, .int 4, .int 1, .int 5, .int 6, .int 1, .int 1, .int 1, .int 2, .int 1, .int 3, .int 2, .int 0, .int 0, .int 0, .int 0, .int 1] = true ∧ He.tupB K "WITH_LIST" [.int 1, .int 2] = true ∧ intB K "PLAIN" [(1, 3), (2, 1), (3, 0), (4, 0), (5, 1), (6, 1), (7, 1), (8, 0), (9, 0), (10, 0), (11, 0), (12, 0), (13, 0)] = true ∧ refB K "CannotBe" = true ∧ refB K "NoSuchLayer" = true ∧ refB K "NotNow" = true ∧ refB K "NotSoTold" = true ∧ refB K "TooMany" = true := by
  unfold exB at h
  simpa only [Bool.and_eq_true] using h
theorem _root_.He.lookup_pair {k m : Int} : ∀ {l : List (Int × Int)}, l.lookup k = some m → (k, m) ∈ l
  | [], h => by cases h
  | (a, b) :: r, h => by
    rw [List.lookup_cons] at h
    split at h
    · rename_i e
      cases h
      rw [eq_of_beq e]
      exact List.mem_cons_self ..
    · exact List.mem_cons_of_mem _ (He.lookup_pair h)
section
variable {K : PySem.W.Frag} {h : Heap} {mg : Str → Option Value} {w : World}
theorem fun_of {x q : Str} {st : Stmt} {f : Addr} (e : ∃ fd, FunD K x q (defArgs st) (defBody st) (defScope st) [] [] f fd) : ∃ fd, Fun K x q st f fd := by
  obtain ⟨fd, ⟨oc, od, dV, kV, doc, pm, an, cdv, ct, osl, e1, lk, hc, hD, _⟩, kp⟩ := e
  rcases hD with ⟨_, hd⟩ | ⟨n, _⟩
  · subst hd
    exact ⟨fd, ⟨oc, od, kV, doc, pm, an, cdv, ct, osl, e1, lk, hc⟩, kp⟩
  · exact absurd rfl n
/-- every parameter is told by its place -/
def ByPlace (st : Stmt) (x q : Str) (ps : List Str) : Prop := ∀ (kV doc pm : Value) (an : Option Addr) (cdv ct : Value) (us : List Value), us.length = ps.length → bindArgs (PySem.W.fnOf x q (defArgs st) (defBody st) (defScope st) .none kV doc pm an cdv ct) ⟨us, []⟩ = pure (ps.zip us)
theorem binds_of {x q : Str} {st : Stmt} {f : Addr} {fd : FuncData} {ps : List Str} (b : ByPlace st x q ps) (F : Fun K x q st f fd) : Binds K fd ps [] := F.binds b
noncomputable abbrev mkDef (X : K.In h) (G : h.Ns mainGlobals mg) {x : Str} {st : Stmt} {ps : List Str} (hg : (He.Fa.glo x).ok K = true) (b : ByPlace st x x ps) (e : ∃ fd, FunD K x x (defArgs st) (defBody st) (defScope st) [] [] (He.ga K x) fd) : DefAt K mg x st ps :=
  ⟨He.ga K x, (fun_of e).choose, (fun_of e).choose_spec, He.glo_ok X G hg, binds_of b (fun_of e).choose_spec⟩
noncomputable abbrev mkCls (X : K.In h) (G : h.Ns mainGlobals mg) {x : Str} {fields : List Str} {st : Stmt} {qual : Str} {ps : List Str} (hg : (He.Fa.glo x).ok K = true) (hc : (He.Fa.cls x).ok K = true) (hm : (He.Fa.mkr x).ok K = true) (hn : ∀ f ∈ fields, (He.Fa.noat x f).ok K = true) (b : ByPlace st "__init__" qual ps)
    (e : ∃ fd, FunD K "__init__" qual (defArgs st) (defBody st) (defScope st) [] [] (He.ma K (He.ga K x) "__init__") fd) : ClsAt K mg x fields st qual ps :=
  ⟨He.ga K x, He.ma K (He.ga K x) "__init__", (fun_of e).choose, He.cls_ok hc, fun f hf => He.noat_ok (hn f hf), He.glo_ok X G hg, He.mkr_ok hm, (fun_of e).choose_spec, binds_of b (fun_of e).choose_spec⟩
noncomputable abbrev mkMeth {c m qual : Str} {st : Stmt} {ps : List Str} (hm : (He.Fa.meth c m).ok K = true) (b : ByPlace st m qual ps) (e : ∃ fd, FunD K m qual (defArgs st) (defBody st) (defScope st) [] [] (He.ma K (He.ga K c) m) fd) : MethAt K (He.ga K c) m qual st ps :=
  ⟨He.ma K (He.ga K c) m, (fun_of e).choose, (fun_of e).choose_spec, He.meth_ok hm, binds_of b (fun_of e).choose_spec⟩
noncomputable abbrev mkInt (X : K.In h) (G : h.Ns mainGlobals mg) {x : Str} {n : Int} (c : (He.Fa.int x n).ok K = true) : ConstI mg x n := ⟨.int n (He.int_ok X G c).choose, (He.int_ok X G c).choose_spec, ⟨_, rfl⟩⟩
noncomputable abbrev mkTup (X : K.In h) (G : h.Ns mainGlobals mg) {x : Str} {ns : List Int} (hg : (He.Fa.glo x).ok K = true) (c : He.tupB K x (ns.map He.Dv.int) = true) : ConstT K mg x ns := ⟨He.ga K x, He.glo_ok X G hg, rfl, fun H => by
  have z := He.tupB_ok c H
  rw [List.map_map] at z
  exact z⟩
theorem int_dict {x : Str} {kvs : List (Int × Int)} (c : intB K x kvs = true) : IntD K (He.ga K x) (plain kvs) := by
  unfold intB at c
  split at c
  · rename_i cc es n sl hl
    simp only [Bool.and_eq_true, decide_eq_true_eq] at c
    obtain ⟨c1, c2, c3, c4⟩ := c
    have e2 : sl = #[] := Array.isEmpty_iff.mp c2
    subst c1; subst e2
    refine ⟨es, n, hl, fun e he => ?_, fun k v hv => ?_⟩
    · have z := List.all_eq_true.mp c3 e (Array.mem_toList_iff.mpr he)
      split at z
      · rename_i k t hk
        exact ⟨k, t, hk, of_decide_eq_true z⟩
      · cases z
    · unfold plain at hv
      obtain ⟨m, hm, rfl⟩ := Option.map_eq_some_iff.mp hv
      have z := List.all_eq_true.mp c4 (k, m) (He.lookup_pair hm)
      dsimp only at z
      have ef : findBy Value.isInt es k = (es.toList.find? fun e => Value.isInt k e.key).map fun e => e.val := by
        unfold findBy
        obtain ⟨l⟩ := es
        rw [List.find?_toArray]
      split at z
      · rename_i e he
        exact ⟨e.val, by rw [ef, he]; rfl, He.relB_ok z⟩
      · cases z
  · cases c
noncomputable abbrev mkDic (X : K.In h) (G : h.Ns mainGlobals mg) {x : Str} {kvs : List (Int × Int)} (hg : (He.Fa.glo x).ok K = true) (c : intB K x kvs = true) : ConstD K mg x kvs := ⟨He.ga K x, He.glo_ok X G hg, rfl, int_dict c⟩
theorem kw_none {f : Addr} {oc : Value} {od : Option Addr} {fd : FuncData} {sl : Array (Option Value)} (c : kwNone K f = true) (hl : K.lookup f = some ⟨oc, od, .func fd, sl⟩) : fd.kwdefaults = .none := by
  unfold kwNone at c
  rw [hl] at c
  dsimp only at c
  split at c
  · assumption
  · cases c
/-- a function object of no default at all -/
theorem bare_fn {x q : Str} {ar : Arguments} {bd : List Stmt} {sc : Scope} {f : Addr} (e : ∃ fd, FunD K x q ar bd sc [] [] f fd) (c : kwNone K f = true) : ∃ (oc : Value) (od : Option Addr) (doc pm : Value) (an : Option Addr) (cdv ct : Value) (sl : Array (Option Value)), K.lookup f = some ⟨oc, od, .func (PySem.W.fnOf x q ar bd sc .none .none doc pm an cdv ct), sl⟩ ∧ PySem.W.codeIn K cdv q = true := by
  obtain ⟨fd, ⟨oc, od, dV, kV, doc, pm, an, cdv, ct, osl, e1, lk, hc, hD, _⟩, kp⟩ := e
  subst e1
  have ek : kV = .none := kw_none c lk
  subst ek
  rcases hD with ⟨_, hd⟩ | ⟨n, _⟩
  · subst hd
    exact ⟨oc, od, doc, pm, an, cdv, ct, osl, lk, hc⟩
  · exact absurd rfl n
theorem isV_ok {a : Option PySem.W.CFound} {g : Addr} (h : isV a g = true) : a = some (.val (.ref g)) := by
  unfold isV at h
  split at h
  · rw [of_decide_eq_true h]
  · cases h
theorem mkRef (X : K.In h) (G : h.Ns mainGlobals mg) {x qual : Str} {n : Int} {st : Stmt} (hg : (He.Fa.glo x).ok K = true) (hr : (He.Fa.glo "Refusal").ok K = true) (c : refB K x = true)
    (e : ∃ fd, FunD K "__init__" qual (defArgs st) (defBody st) (defScope st) [] [] (He.ma K (He.ga K x) "__init__") fd) (eR : ∃ fd, FunD K "__init__" "Refusal.__init__" (defArgs s_Refusal_init) (defBody s_Refusal_init) (defScope s_Refusal_init) [] [] (He.ma K (He.ga K "Refusal") "__init__") fd)
    (f1 : ∃ q p1 p2 p3 p4 p5 p6 p7 : Pos, defArgs st = PySem.Rf.cA q ∧ defBody st = PySem.Rf.cB n p1 p2 p3 p4 p5 p6 p7 ∧ defScope st = PySem.Rf.cS ∧ (p2.endLine == p6.line) = true) :
    PySem.Rf.RefTxt K mg x qual n (He.ga K x) (He.ma K (He.ga K x) "__init__") (He.ga K "Refusal") (He.ma K (He.ga K "Refusal") "__init__") := by
  unfold refB at c
  simp only [Bool.and_eq_true, decide_eq_true_eq] at c
  obtain ⟨c1, c2, c3, c4, c5, c6, c7, c8, c9, c10, c11, c12, c13, c14, c15, c16, c17, c18, c19⟩ := c
  obtain ⟨oc, od, doc, pm, an, cdv, ct, sl, l1, l2⟩ := bare_fn e c18
  obtain ⟨oc', od', doc', pm', an', cdv', ct', sl', l1', l2'⟩ := bare_fn eR c19
  obtain ⟨q, p1, p2, p3, p4, p5, p6, p7, e1, e2, e3, e4⟩ := f1
  rw [e1, e2, e3] at l1
  exact ⟨He.glo_ok X G hg, He.glo_ok X G hr, c1, c2, c3, He.eqO_ok c4, He.eqO_ok c5, He.eqO_ok c6, He.eqO_ok c7, He.eqO_ok c8, c9, c10, c11, c12, c13, c14, He.eqO_ok c15, isV_ok c16, c17, ⟨oc, od, doc, pm, an, cdv, ct, sl, q, p1, p2, p3, p4, p5, p6, p7, l1, l2, e4⟩, ⟨oc', od', doc', pm', an', cdv', ct', sl', _, _, _, _, _, _, l1', l2'⟩⟩
theorem bp_plain_layer : ByPlace s_plain_layer "plain_layer" "plain_layer" ["number", "dots"] := fun _ _ _ _ _ _ us hl => match us, hl with | [_, _], _ => rfl
theorem bp_first_picture : ByPlace s_first_picture "first_picture" "first_picture" ["w", "h", "colours"] := fun _ _ _ _ _ _ us hl => match us, hl with | [_, _, _], _ => rfl
theorem bp_layer_place : ByPlace s_layer_place "layer_place" "layer_place" ["picture", "number"] := fun _ _ _ _ _ _ us hl => match us, hl with | [_, _], _ => rfl
theorem bp_worked_place : ByPlace s_worked_place "worked_place" "worked_place" ["picture"] := fun _ _ _ _ _ _ us hl => match us, hl with | [_], _ => rfl
theorem bp_worked_dots : ByPlace s_worked_dots "worked_dots" "worked_dots" ["picture"] := fun _ _ _ _ _ _ us hl => match us, hl with | [_], _ => rfl
theorem bp_worked_colours : ByPlace s_worked_colours "worked_colours" "worked_colours" ["picture"] := fun _ _ _ _ _ _ us hl => match us, hl with | [_], _ => rfl
theorem bp_may_change : ByPlace s_may_change "may_change" "may_change" ["picture"] := fun _ _ _ _ _ _ us hl => match us, hl with | [_], _ => rfl
theorem bp_with_chosen : ByPlace s_with_chosen "with_chosen" "with_chosen" ["picture", "chosen"] := fun _ _ _ _ _ _ us hl => match us, hl with | [_, _], _ => rfl
theorem bp_with_layers : ByPlace s_with_layers "with_layers" "with_layers" ["picture", "layers", "worked"] := fun _ _ _ _ _ _ us hl => match us, hl with | [_, _, _], _ => rfl
theorem bp_layer_with_dots : ByPlace s_layer_with_dots "layer_with_dots" "layer_with_dots" ["layer", "dots"] := fun _ _ _ _ _ _ us hl => match us, hl with | [_, _], _ => rfl
theorem bp_with_worked_dots : ByPlace s_with_worked_dots "with_worked_dots" "with_worked_dots" ["picture", "dots"] := fun _ _ _ _ _ _ us hl => match us, hl with | [_, _], _ => rfl
theorem bp_joined_one : ByPlace s_joined_one "joined_one" "joined_one" ["how", "chosen", "told"] := fun _ _ _ _ _ _ us hl => match us, hl with | [_, _, _], _ => rfl
theorem bp_joined : ByPlace s_joined "joined" "joined" ["how", "chosen", "told"] := fun _ _ _ _ _ _ us hl => match us, hl with | [_, _, _], _ => rfl
theorem bp_rectangle : ByPlace s_rectangle "rectangle" "rectangle" ["picture", "left", "top", "wide", "high"] := fun _ _ _ _ _ _ us hl => match us, hl with | [_, _, _, _, _], _ => rfl
theorem bp_steps : ByPlace s_steps "steps" "steps" ["corners"] := fun _ _ _ _ _ _ us hl => match us, hl with | [_], _ => rfl
theorem bp_beside : ByPlace s_beside "beside" "beside" ["picture", "place", "corners"] := fun _ _ _ _ _ _ us hl => match us, hl with | [_, _, _], _ => rfl
theorem bp_flood : ByPlace s_flood "flood" "flood" ["picture", "start", "tolerance", "kind", "corners"] := fun _ _ _ _ _ _ us hl => match us, hl with | [_, _, _, _, _], _ => rfl
theorem bp_is_near : ByPlace s_is_near "is_near" "is_near" ["w", "place", "marked", "r"] := fun _ _ _ _ _ _ us hl => match us, hl with | [_, _, _, _], _ => rfl
theorem bp_grown : ByPlace s_grown "grown" "grown" ["w", "chosen", "r"] := fun _ _ _ _ _ _ us hl => match us, hl with | [_, _, _], _ => rfl
theorem bp_shrunk : ByPlace s_shrunk "shrunk" "shrunk" ["w", "chosen", "r"] := fun _ _ _ _ _ _ us hl => match us, hl with | [_, _, _], _ => rfl
theorem bp_reversed_choice : ByPlace s_reversed_choice "reversed_choice" "reversed_choice" ["chosen"] := fun _ _ _ _ _ _ us hl => match us, hl with | [_], _ => rfl
theorem bp_with_joined : ByPlace s_with_joined "with_joined" "with_joined" ["picture", "how", "told"] := fun _ _ _ _ _ _ us hl => match us, hl with | [_, _, _], _ => rfl
theorem bp_choose_rectangle : ByPlace s_choose_rectangle "choose_rectangle" "choose_rectangle" ["picture", "more"] := fun _ _ _ _ _ _ us hl => match us, hl with | [_, _], _ => rfl
theorem bp_choose_flood : ByPlace s_choose_flood "choose_flood" "choose_flood" ["picture", "more"] := fun _ _ _ _ _ _ us hl => match us, hl with | [_, _], _ => rfl
theorem bp_choose_all : ByPlace s_choose_all "choose_all" "choose_all" ["picture", "more"] := fun _ _ _ _ _ _ us hl => match us, hl with | [_, _], _ => rfl
theorem bp_grow_choice : ByPlace s_grow_choice "grow_choice" "grow_choice" ["picture", "more"] := fun _ _ _ _ _ _ us hl => match us, hl with | [_, _], _ => rfl
theorem bp_shrink_choice : ByPlace s_shrink_choice "shrink_choice" "shrink_choice" ["picture", "more"] := fun _ _ _ _ _ _ us hl => match us, hl with | [_, _], _ => rfl
theorem bp_nearest : ByPlace s_nearest "nearest" "nearest" ["part", "whole"] := fun _ _ _ _ _ _ us hl => match us, hl with | [_, _], _ => rfl
theorem bp_with_all_become : ByPlace s_with_all_become "with_all_become" "with_all_become" ["picture", "dot"] := fun _ _ _ _ _ _ us hl => match us, hl with | [_, _], _ => rfl
theorem bp_fill : ByPlace s_fill "fill" "fill" ["picture", "more"] := fun _ _ _ _ _ _ us hl => match us, hl with | [_, _], _ => rfl
theorem bp_padded : ByPlace s_padded "padded" "padded" ["line", "reach"] := fun _ _ _ _ _ _ us hl => match us, hl with | [_, _], _ => rfl
theorem bp_padded_rows : ByPlace s_padded_rows "padded_rows" "padded_rows" ["picture", "reach"] := fun _ _ _ _ _ _ us hl => match us, hl with | [_, _], _ => rfl
theorem bp_window : ByPlace s_window "window" "window" ["rows", "x", "y", "reach"] := fun _ _ _ _ _ _ us hl => match us, hl with | [_, _, _, _], _ => rfl
theorem bp_recoloured : ByPlace s_recoloured "recoloured" "recoloured" ["picture", "reach", "taken"] := fun _ _ _ _ _ _ us hl => match us, hl with | [_, _, _], _ => rfl
theorem bp_mean : ByPlace s_mean "mean" "mean" ["colours"] := fun _ _ _ _ _ _ us hl => match us, hl with | [_], _ => rfl
theorem bp_smooth : ByPlace s_smooth "smooth" "smooth" ["picture", "more"] := fun _ _ _ _ _ _ us hl => match us, hl with | [_, _], _ => rfl
theorem bp_rank : ByPlace s_rank "rank" "rank" ["picture", "more"] := fun _ _ _ _ _ _ us hl => match us, hl with | [_, _], _ => rfl
theorem bp_place_moved : ByPlace s_place_moved "place_moved" "place_moved" ["picture", "place", "across", "down"] := fun _ _ _ _ _ _ us hl => match us, hl with | [_, _, _, _], _ => rfl
theorem bp_move : ByPlace s_move "move" "move" ["picture", "more"] := fun _ _ _ _ _ _ us hl => match us, hl with | [_, _], _ => rfl
theorem bp_cut : ByPlace s_cut "cut" "cut" ["picture", "more"] := fun _ _ _ _ _ _ us hl => match us, hl with | [_, _], _ => rfl
theorem bp_lifted : ByPlace s_lifted "lifted" "lifted" ["picture"] := fun _ _ _ _ _ _ us hl => match us, hl with | [_], _ => rfl
theorem bp_met : ByPlace s_met "met" "met" ["way", "product", "cover", "colour"] := fun _ _ _ _ _ _ us hl => match us, hl with | [_, _, _, _], _ => rfl
theorem bp_put_over : ByPlace s_put_over "put_over" "put_over" ["so_far", "layer", "place"] := fun _ _ _ _ _ _ us hl => match us, hl with | [_, _, _], _ => rfl
theorem bp_rounded_dot : ByPlace s_rounded_dot "rounded_dot" "rounded_dot" ["so_far"] := fun _ _ _ _ _ _ us hl => match us, hl with | [_], _ => rfl
theorem bp_shown_dot : ByPlace s_shown_dot "shown_dot" "shown_dot" ["layers", "place"] := fun _ _ _ _ _ _ us hl => match us, hl with | [_, _], _ => rfl
theorem bp_with_new_layer : ByPlace s_with_new_layer "with_new_layer" "with_new_layer" ["picture", "dots"] := fun _ _ _ _ _ _ us hl => match us, hl with | [_, _], _ => rfl
theorem bp_make_layer : ByPlace s_make_layer "make_layer" "make_layer" ["picture", "more"] := fun _ _ _ _ _ _ us hl => match us, hl with | [_, _], _ => rfl
theorem bp_drop_layer : ByPlace s_drop_layer "drop_layer" "drop_layer" ["picture", "more"] := fun _ _ _ _ _ _ us hl => match us, hl with | [_, _], _ => rfl
theorem bp_raise_layer : ByPlace s_raise_layer "raise_layer" "raise_layer" ["picture", "more"] := fun _ _ _ _ _ _ us hl => match us, hl with | [_, _], _ => rfl
theorem bp_set_layer : ByPlace s_set_layer "set_layer" "set_layer" ["picture", "more"] := fun _ _ _ _ _ _ us hl => match us, hl with | [_, _], _ => rfl
theorem bp_work_on_layer : ByPlace s_work_on_layer "work_on_layer" "work_on_layer" ["picture", "more"] := fun _ _ _ _ _ _ us hl => match us, hl with | [_, _], _ => rfl
theorem bp_paste_layer : ByPlace s_paste_layer "paste_layer" "paste_layer" ["picture", "aside"] := fun _ _ _ _ _ _ us hl => match us, hl with | [_, _], _ => rfl
theorem bp_put_together : ByPlace s_put_together "put_together" "put_together" ["picture", "more"] := fun _ _ _ _ _ _ us hl => match us, hl with | [_, _], _ => rfl
theorem bp_rearranged : ByPlace s_rearranged "rearranged" "rearranged" ["picture", "w", "h", "sources"] := fun _ _ _ _ _ _ us hl => match us, hl with | [_, _, _, _], _ => rfl
theorem bp_crop : ByPlace s_crop "crop" "crop" ["picture", "more"] := fun _ _ _ _ _ _ us hl => match us, hl with | [_, _], _ => rfl
theorem bp_source : ByPlace s_source "source" "source" ["picture", "k", "x", "y"] := fun _ _ _ _ _ _ us hl => match us, hl with | [_, _, _, _], _ => rfl
theorem bp_turn : ByPlace s_turn "turn" "turn" ["picture", "more"] := fun _ _ _ _ _ _ us hl => match us, hl with | [_, _], _ => rfl
theorem bp_is_told_so : ByPlace s_is_told_so "is_told_so" "is_told_so" ["deed", "more"] := fun _ _ _ _ _ _ us hl => match us, hl with | [_, _], _ => rfl
theorem bp_deeds_on_picture : ByPlace s_deeds_on_picture "deeds_on_picture" "deeds_on_picture" [] := fun _ _ _ _ _ _ us hl => match us, hl with | [], _ => rfl
theorem bp_picture_after : ByPlace s_picture_after "picture_after" "picture_after" ["picture", "aside", "deed", "more"] := fun _ _ _ _ _ _ us hl => match us, hl with | [_, _, _, _], _ => rfl
theorem bp_whole_size : ByPlace s_whole_size "whole_size" "whole_size" ["picture"] := fun _ _ _ _ _ _ us hl => match us, hl with | [_], _ => rfl
theorem bp_differing : ByPlace s_differing "differing" "differing" ["before", "after"] := fun _ _ _ _ _ _ us hl => match us, hl with | [_, _], _ => rfl
theorem bp_dots_by_number : ByPlace s_dots_by_number "dots_by_number" "dots_by_number" ["picture"] := fun _ _ _ _ _ _ us hl => match us, hl with | [_], _ => rfl
theorem bp_dots_changed : ByPlace s_dots_changed "dots_changed" "dots_changed" ["before", "after"] := fun _ _ _ _ _ _ us hl => match us, hl with | [_, _], _ => rfl
theorem bp_cost : ByPlace s_cost "cost" "cost" ["before", "after"] := fun _ _ _ _ _ _ us hl => match us, hl with | [_, _], _ => rfl
theorem bp_answers : ByPlace s_answers "answers" "answers" ["calls"] := fun _ _ _ _ _ _ us hl => match us, hl with | [_], _ => rfl
theorem bp_call_end : ByPlace s_call_end "call_end" "call_end" ["calls", "place"] := fun _ _ _ _ _ _ us hl => match us, hl with | [_, _], _ => rfl
theorem bp_answer_to : ByPlace s_answer_to "answer_to" "answer_to" ["desk", "call"] := fun _ _ _ _ _ _ us hl => match us, hl with | [_, _], _ => rfl
theorem bp_call_on : ByPlace s_call_on "call_on" "call_on" ["desk", "call"] := fun _ _ _ _ _ _ us hl => match us, hl with | [_, _], _ => rfl
theorem bp_row_call : ByPlace s_row_call "row_call" "row_call" ["desk", "number", "y"] := fun _ _ _ _ _ _ us hl => match us, hl with | [_, _, _], _ => rfl
theorem bp_bare_call : ByPlace s_bare_call "bare_call" "bare_call" ["desk", "number"] := fun _ _ _ _ _ _ us hl => match us, hl with | [_, _], _ => rfl
theorem bp_Layer_init : ByPlace s_Layer_init "__init__" "Layer.__init__" ["self", "number", "seen", "strong", "way", "dots"] := fun _ _ _ _ _ _ us hl => match us, hl with | [_, _, _, _, _, _], _ => rfl
theorem bp_Picture_init : ByPlace s_Picture_init "__init__" "Picture.__init__" ["self", "w", "h", "layers", "worked", "chosen", "made"] := fun _ _ _ _ _ _ us hl => match us, hl with | [_, _, _, _, _, _, _], _ => rfl
theorem bp_History_init : ByPlace s_History_init "__init__" "History.__init__" ["self", "budget"] := fun _ _ _ _ _ _ us hl => match us, hl with | [_, _], _ => rfl
theorem bp_History_deed_done : ByPlace s_History_deed_done "deed_done" "History.deed_done" ["self", "picture", "price"] := fun _ _ _ _ _ _ us hl => match us, hl with | [_, _, _], _ => rfl
theorem bp_History_keep : ByPlace s_History_keep "keep" "History.keep" ["self", "picture", "price"] := fun _ _ _ _ _ _ us hl => match us, hl with | [_, _, _], _ => rfl
theorem bp_History_step_back : ByPlace s_History_step_back "step_back" "History.step_back" ["self", "picture"] := fun _ _ _ _ _ _ us hl => match us, hl with | [_, _], _ => rfl
theorem bp_History_step_on : ByPlace s_History_step_on "step_on" "History.step_on" ["self", "picture"] := fun _ _ _ _ _ _ us hl => match us, hl with | [_, _], _ => rfl
theorem bp_History_counts : ByPlace s_History_counts "counts" "History.counts" ["self"] := fun _ _ _ _ _ _ us hl => match us, hl with | [_], _ => rfl
theorem bp_Desk_init : ByPlace s_Desk_init "__init__" "Desk.__init__" ["self"] := fun _ _ _ _ _ _ us hl => match us, hl with | [_], _ => rfl
theorem bp_Desk_begin : ByPlace s_Desk_begin "begin" "Desk.begin" ["self", "w", "h", "budget", "colours"] := fun _ _ _ _ _ _ us hl => match us, hl with | [_, _, _, _, _], _ => rfl
theorem bp_Desk_act : ByPlace s_Desk_act "act" "Desk.act" ["self", "deed", "more"] := fun _ _ _ _ _ _ us hl => match us, hl with | [_, _, _], _ => rfl
theorem bp_Desk_do_deed : ByPlace s_Desk_do_deed "do_deed" "Desk.do_deed" ["self", "deed", "more"] := fun _ _ _ _ _ _ us hl => match us, hl with | [_, _, _], _ => rfl
theorem bp_Desk_undo : ByPlace s_Desk_undo "undo" "Desk.undo" ["self"] := fun _ _ _ _ _ _ us hl => match us, hl with | [_], _ => rfl
theorem bp_Desk_redo : ByPlace s_Desk_redo "redo" "Desk.redo" ["self"] := fun _ _ _ _ _ _ us hl => match us, hl with | [_], _ => rfl
theorem bp_Desk_places : ByPlace s_Desk_places "places" "Desk.places" ["self", "y"] := fun _ _ _ _ _ _ us hl => match us, hl with | [_, _], _ => rfl
theorem bp_Desk_row : ByPlace s_Desk_row "row" "Desk.row" ["self", "y"] := fun _ _ _ _ _ _ us hl => match us, hl with | [_, _], _ => rfl
theorem bp_Desk_own : ByPlace s_Desk_own "own" "Desk.own" ["self", "y"] := fun _ _ _ _ _ _ us hl => match us, hl with | [_, _], _ => rfl
theorem bp_Desk_chosen_row : ByPlace s_Desk_chosen_row "chosen_row" "Desk.chosen_row" ["self", "y"] := fun _ _ _ _ _ _ us hl => match us, hl with | [_, _], _ => rfl
theorem bp_Desk_listed : ByPlace s_Desk_listed "listed" "Desk.listed" ["self"] := fun _ _ _ _ _ _ us hl => match us, hl with | [_], _ => rfl
theorem bp_Desk_history_told : ByPlace s_Desk_history_told "history_told" "Desk.history_told" ["self"] := fun _ _ _ _ _ _ us hl => match us, hl with | [_], _ => rfl
theorem bp_Desk_copy_dots : ByPlace s_Desk_copy_dots "copy_dots" "Desk.copy_dots" ["self"] := fun _ _ _ _ _ _ us hl => match us, hl with | [_], _ => rfl
theorem bp_Desk_start_recording : ByPlace s_Desk_start_recording "start_recording" "Desk.start_recording" ["self"] := fun _ _ _ _ _ _ us hl => match us, hl with | [_], _ => rfl
theorem bp_Desk_stop_recording : ByPlace s_Desk_stop_recording "stop_recording" "Desk.stop_recording" ["self"] := fun _ _ _ _ _ _ us hl => match us, hl with | [_], _ => rfl
theorem bp_Desk_play_recorded : ByPlace s_Desk_play_recorded "play_recorded" "Desk.play_recorded" ["self"] := fun _ _ _ _ _ _ us hl => match us, hl with | [_], _ => rfl
theorem bp_Desk_try_deed : ByPlace s_Desk_try_deed "try_deed" "Desk.try_deed" ["self", "deed", "more"] := fun _ _ _ _ _ _ us hl => match us, hl with | [_, _, _], _ => rfl
theorem rf_CannotBe : ∃ q p1 p2 p3 p4 p5 p6 p7 : Pos, defArgs s_CannotBe_init = PySem.Rf.cA q ∧ defBody s_CannotBe_init = PySem.Rf.cB 1 p1 p2 p3 p4 p5 p6 p7 ∧ defScope s_CannotBe_init = PySem.Rf.cS ∧ (p2.endLine == p6.line) = true := ⟨_, _, _, _, _, _, _, _, rfl, rfl, rfl, rfl⟩
theorem rf_NoSuchLayer : ∃ q p1 p2 p3 p4 p5 p6 p7 : Pos, defArgs s_NoSuchLayer_init = PySem.Rf.cA q ∧ defBody s_NoSuchLayer_init = PySem.Rf.cB 2 p1 p2 p3 p4 p5 p6 p7 ∧ defScope s_NoSuchLayer_init = PySem.Rf.cS ∧ (p2.endLine == p6.line) = true := ⟨_, _, _, _, _, _, _, _, rfl, rfl, rfl, rfl⟩
theorem rf_NotNow : ∃ q p1 p2 p3 p4 p5 p6 p7 : Pos, defArgs s_NotNow_init = PySem.Rf.cA q ∧ defBody s_NotNow_init = PySem.Rf.cB 6 p1 p2 p3 p4 p5 p6 p7 ∧ defScope s_NotNow_init = PySem.Rf.cS ∧ (p2.endLine == p6.line) = true := ⟨_, _, _, _, _, _, _, _, rfl, rfl, rfl, rfl⟩
theorem rf_NotSoTold : ∃ q p1 p2 p3 p4 p5 p6 p7 : Pos, defArgs s_NotSoTold_init = PySem.Rf.cA q ∧ defBody s_NotSoTold_init = PySem.Rf.cB 3 p1 p2 p3 p4 p5 p6 p7 ∧ defScope s_NotSoTold_init = PySem.Rf.cS ∧ (p2.endLine == p6.line) = true := ⟨_, _, _, _, _, _, _, _, rfl, rfl, rfl, rfl⟩
theorem rf_TooMany : ∃ q p1 p2 p3 p4 p5 p6 p7 : Pos, defArgs s_TooMany_init = PySem.Rf.cA q ∧ defBody s_TooMany_init = PySem.Rf.cB 5 p1 p2 p3 p4 p5 p6 p7 ∧ defScope s_TooMany_init = PySem.Rf.cS ∧ (p2.endLine == p6.line) = true := ⟨_, _, _, _, _, _, _, _, rfl, rfl, rfl, rfl⟩
/-- all of it -/
noncomputable def txt_of (X : K.In h) (G : h.Ns mainGlobals mg) (c : He.SaysX faL fnL [] tfL exB w h K) : Txt K mg where
  nb := fun x hx => by
    simp only [List.mem_cons, List.not_mem_nil, or_false] at hx  -- own
    rcases hx with rfl | rfl | rfl | rfl | rfl | rfl | rfl | rfl | rfl | rfl | rfl | rfl
    · exact He.free_ok X G (c.t.d.fact 81 (f := .free "len") rfl)
    · exact He.free_ok X G (c.t.d.fact 82 (f := .free "range") rfl)
    · exact He.free_ok X G (c.t.d.fact 83 (f := .free "min") rfl)
    · exact He.free_ok X G (c.t.d.fact 84 (f := .free "max") rfl)
    · exact He.free_ok X G (c.t.d.fact 85 (f := .free "abs") rfl)
    · exact He.free_ok X G (c.t.d.fact 86 (f := .free "sum") rfl)
    · exact He.free_ok X G (c.t.d.fact 87 (f := .free "any") rfl)
    · exact He.free_ok X G (c.t.d.fact 88 (f := .free "sorted") rfl)
    · exact He.free_ok X G (c.t.d.fact 89 (f := .free "list") rfl)
    · exact He.free_ok X G (c.t.d.fact 90 (f := .free "dict") rfl)
    · exact He.free_ok X G (c.t.d.fact 91 (f := .free "zip") rfl)
    · exact He.free_ok X G (c.t.d.fact 92 (f := .free "enumerate") rfl)
  Layer := mkCls X G (c.t.d.fact 77 (f := .glo "Layer") rfl) (c.t.d.fact 107 (f := .cls "Layer") rfl) (c.t.d.fact 108 (f := .mkr "Layer") rfl) (fun f hf => by
    simp only [List.mem_cons, List.not_mem_nil, or_false] at hf
    rcases hf with rfl | rfl | rfl | rfl | rfl
    · exact (c.t.d.fact 109 (f := .noat "Layer" "number") rfl)
    · exact (c.t.d.fact 110 (f := .noat "Layer" "seen") rfl)
    · exact (c.t.d.fact 111 (f := .noat "Layer" "strong") rfl)
    · exact (c.t.d.fact 112 (f := .noat "Layer" "way") rfl)
    · exact (c.t.d.fact 113 (f := .noat "Layer" "dots") rfl)) bp_Layer_init (c.t.d.def_ 71 rfl)
  Picture := mkCls X G (c.t.d.fact 78 (f := .glo "Picture") rfl) (c.t.d.fact 114 (f := .cls "Picture") rfl) (c.t.d.fact 115 (f := .mkr "Picture") rfl) (fun f hf => by
    simp only [List.mem_cons, List.not_mem_nil, or_false] at hf
    rcases hf with rfl | rfl | rfl | rfl | rfl | rfl
    · exact (c.t.d.fact 116 (f := .noat "Picture" "w") rfl)
    · exact (c.t.d.fact 117 (f := .noat "Picture" "h") rfl)
    · exact (c.t.d.fact 118 (f := .noat "Picture" "layers") rfl)
    · exact (c.t.d.fact 119 (f := .noat "Picture" "worked") rfl)
    · exact (c.t.d.fact 120 (f := .noat "Picture" "chosen") rfl)
    · exact (c.t.d.fact 121 (f := .noat "Picture" "made") rfl)) bp_Picture_init (c.t.d.def_ 72 rfl)
  History := mkCls X G (c.t.d.fact 79 (f := .glo "History") rfl) (c.t.d.fact 122 (f := .cls "History") rfl) (c.t.d.fact 123 (f := .mkr "History") rfl) (fun f hf => by
    simp only [List.mem_cons, List.not_mem_nil, or_false] at hf
    rcases hf with rfl | rfl | rfl | rfl
    · exact (c.t.d.fact 124 (f := .noat "History" "budget") rfl)
    · exact (c.t.d.fact 125 (f := .noat "History" "kept") rfl)
    · exact (c.t.d.fact 126 (f := .noat "History" "spent") rfl)
    · exact (c.t.d.fact 127 (f := .noat "History" "undone") rfl)) bp_History_init (c.t.d.def_ 73 rfl)
  Desk := mkCls X G (c.t.d.fact 80 (f := .glo "Desk") rfl) (c.t.d.fact 128 (f := .cls "Desk") rfl) (c.t.d.fact 129 (f := .mkr "Desk") rfl) (fun f hf => by
    simp only [List.mem_cons, List.not_mem_nil, or_false] at hf
    rcases hf with rfl | rfl | rfl | rfl | rfl
    · exact (c.t.d.fact 130 (f := .noat "Desk" "picture") rfl)
    · exact (c.t.d.fact 131 (f := .noat "Desk" "history") rfl)
    · exact (c.t.d.fact 132 (f := .noat "Desk" "aside") rfl)
    · exact (c.t.d.fact 133 (f := .noat "Desk" "recording") rfl)
    · exact (c.t.d.fact 134 (f := .noat "Desk" "recorded") rfl)) bp_Desk_init (c.t.d.def_ 79 rfl)
  R := He.ga K "Refusal"
  fR := He.ma K (He.ga K "Refusal") "__init__"
  C_CannotBe := He.ga K "CannotBe"
  i_CannotBe := He.ma K (He.ga K "CannotBe") "__init__"
  CannotBe := mkRef X G (c.t.d.fact 72 (f := .glo "CannotBe") rfl) (c.t.d.fact 71 (f := .glo "Refusal") rfl) (ex_parts c.more).2.2.2.1 (c.t.d.def_ 96 rfl) (c.t.d.def_ 101 rfl) rf_CannotBe
  C_NoSuchLayer := He.ga K "NoSuchLayer"
  i_NoSuchLayer := He.ma K (He.ga K "NoSuchLayer") "__init__"
  NoSuchLayer := mkRef X G (c.t.d.fact 73 (f := .glo "NoSuchLayer") rfl) (c.t.d.fact 71 (f := .glo "Refusal") rfl) (ex_parts c.more).2.2.2.2.1 (c.t.d.def_ 97 rfl) (c.t.d.def_ 101 rfl) rf_NoSuchLayer
  C_NotNow := He.ga K "NotNow"
  i_NotNow := He.ma K (He.ga K "NotNow") "__init__"
  NotNow := mkRef X G (c.t.d.fact 76 (f := .glo "NotNow") rfl) (c.t.d.fact 71 (f := .glo "Refusal") rfl) (ex_parts c.more).2.2.2.2.2.1 (c.t.d.def_ 98 rfl) (c.t.d.def_ 101 rfl) rf_NotNow
  C_NotSoTold := He.ga K "NotSoTold"
  i_NotSoTold := He.ma K (He.ga K "NotSoTold") "__init__"
  NotSoTold := mkRef X G (c.t.d.fact 74 (f := .glo "NotSoTold") rfl) (c.t.d.fact 71 (f := .glo "Refusal") rfl) (ex_parts c.more).2.2.2.2.2.2.1 (c.t.d.def_ 99 rfl) (c.t.d.def_ 101 rfl) rf_NotSoTold
  C_TooMany := He.ga K "TooMany"
  i_TooMany := He.ma K (He.ga K "TooMany") "__init__"
  TooMany := mkRef X G (c.t.d.fact 75 (f := .glo "TooMany") rfl) (c.t.d.fact 71 (f := .glo "Refusal") rfl) (ex_parts c.more).2.2.2.2.2.2.2 (c.t.d.def_ 100 rfl) (c.t.d.def_ 101 rfl) rf_TooMany
  plain_layer := mkDef X G (c.t.d.fact 0 (f := .glo "plain_layer") rfl) bp_plain_layer (c.t.d.def_ 0 rfl)
  first_picture := mkDef X G (c.t.d.fact 1 (f := .glo "first_picture") rfl) bp_first_picture (c.t.d.def_ 1 rfl)
  layer_place := mkDef X G (c.t.d.fact 2 (f := .glo "layer_place") rfl) bp_layer_place (c.t.d.def_ 2 rfl)
  worked_place := mkDef X G (c.t.d.fact 3 (f := .glo "worked_place") rfl) bp_worked_place (c.t.d.def_ 3 rfl)
  worked_dots := mkDef X G (c.t.d.fact 4 (f := .glo "worked_dots") rfl) bp_worked_dots (c.t.d.def_ 4 rfl)
  worked_colours := mkDef X G (c.t.d.fact 5 (f := .glo "worked_colours") rfl) bp_worked_colours (c.t.d.def_ 5 rfl)
  may_change := mkDef X G (c.t.d.fact 6 (f := .glo "may_change") rfl) bp_may_change (c.t.d.def_ 6 rfl)
  with_chosen := mkDef X G (c.t.d.fact 7 (f := .glo "with_chosen") rfl) bp_with_chosen (c.t.d.def_ 7 rfl)
  with_layers := mkDef X G (c.t.d.fact 8 (f := .glo "with_layers") rfl) bp_with_layers (c.t.d.def_ 8 rfl)
  layer_with_dots := mkDef X G (c.t.d.fact 9 (f := .glo "layer_with_dots") rfl) bp_layer_with_dots (c.t.d.def_ 9 rfl)
  with_worked_dots := mkDef X G (c.t.d.fact 10 (f := .glo "with_worked_dots") rfl) bp_with_worked_dots (c.t.d.def_ 10 rfl)
  joined_one := mkDef X G (c.t.d.fact 11 (f := .glo "joined_one") rfl) bp_joined_one (c.t.d.def_ 11 rfl)
  joined := mkDef X G (c.t.d.fact 12 (f := .glo "joined") rfl) bp_joined (c.t.d.def_ 12 rfl)
  rectangle := mkDef X G (c.t.d.fact 13 (f := .glo "rectangle") rfl) bp_rectangle (c.t.d.def_ 13 rfl)
  steps := mkDef X G (c.t.d.fact 14 (f := .glo "steps") rfl) bp_steps (c.t.d.def_ 14 rfl)
  beside := mkDef X G (c.t.d.fact 15 (f := .glo "beside") rfl) bp_beside (c.t.d.def_ 15 rfl)
  flood := mkDef X G (c.t.d.fact 16 (f := .glo "flood") rfl) bp_flood (c.t.d.def_ 16 rfl)
  is_near := mkDef X G (c.t.d.fact 17 (f := .glo "is_near") rfl) bp_is_near (c.t.d.def_ 17 rfl)
  grown := mkDef X G (c.t.d.fact 18 (f := .glo "grown") rfl) bp_grown (c.t.d.def_ 18 rfl)
  shrunk := mkDef X G (c.t.d.fact 19 (f := .glo "shrunk") rfl) bp_shrunk (c.t.d.def_ 19 rfl)
  reversed_choice := mkDef X G (c.t.d.fact 20 (f := .glo "reversed_choice") rfl) bp_reversed_choice (c.t.d.def_ 20 rfl)
  with_joined := mkDef X G (c.t.d.fact 21 (f := .glo "with_joined") rfl) bp_with_joined (c.t.d.def_ 21 rfl)
  choose_rectangle := mkDef X G (c.t.d.fact 22 (f := .glo "choose_rectangle") rfl) bp_choose_rectangle (c.t.d.def_ 22 rfl)
  choose_flood := mkDef X G (c.t.d.fact 23 (f := .glo "choose_flood") rfl) bp_choose_flood (c.t.d.def_ 23 rfl)
  choose_all := mkDef X G (c.t.d.fact 24 (f := .glo "choose_all") rfl) bp_choose_all (c.t.d.def_ 24 rfl)
  grow_choice := mkDef X G (c.t.d.fact 25 (f := .glo "grow_choice") rfl) bp_grow_choice (c.t.d.def_ 25 rfl)
  shrink_choice := mkDef X G (c.t.d.fact 26 (f := .glo "shrink_choice") rfl) bp_shrink_choice (c.t.d.def_ 26 rfl)
  nearest := mkDef X G (c.t.d.fact 27 (f := .glo "nearest") rfl) bp_nearest (c.t.d.def_ 27 rfl)
  with_all_become := mkDef X G (c.t.d.fact 28 (f := .glo "with_all_become") rfl) bp_with_all_become (c.t.d.def_ 28 rfl)
  fill := mkDef X G (c.t.d.fact 29 (f := .glo "fill") rfl) bp_fill (c.t.d.def_ 29 rfl)
  padded := mkDef X G (c.t.d.fact 30 (f := .glo "padded") rfl) bp_padded (c.t.d.def_ 30 rfl)
  padded_rows := mkDef X G (c.t.d.fact 31 (f := .glo "padded_rows") rfl) bp_padded_rows (c.t.d.def_ 31 rfl)
  window := mkDef X G (c.t.d.fact 32 (f := .glo "window") rfl) bp_window (c.t.d.def_ 32 rfl)
  recoloured := mkDef X G (c.t.d.fact 33 (f := .glo "recoloured") rfl) bp_recoloured (c.t.d.def_ 33 rfl)
  mean := mkDef X G (c.t.d.fact 34 (f := .glo "mean") rfl) bp_mean (c.t.d.def_ 34 rfl)
  smooth := mkDef X G (c.t.d.fact 35 (f := .glo "smooth") rfl) bp_smooth (c.t.d.def_ 35 rfl)
  rank := mkDef X G (c.t.d.fact 36 (f := .glo "rank") rfl) bp_rank (c.t.d.def_ 36 rfl)
  place_moved := mkDef X G (c.t.d.fact 37 (f := .glo "place_moved") rfl) bp_place_moved (c.t.d.def_ 37 rfl)
  move := mkDef X G (c.t.d.fact 38 (f := .glo "move") rfl) bp_move (c.t.d.def_ 38 rfl)
  cut := mkDef X G (c.t.d.fact 39 (f := .glo "cut") rfl) bp_cut (c.t.d.def_ 39 rfl)
  lifted := mkDef X G (c.t.d.fact 40 (f := .glo "lifted") rfl) bp_lifted (c.t.d.def_ 40 rfl)
  met := mkDef X G (c.t.d.fact 41 (f := .glo "met") rfl) bp_met (c.t.d.def_ 41 rfl)
  put_over := mkDef X G (c.t.d.fact 42 (f := .glo "put_over") rfl) bp_put_over (c.t.d.def_ 42 rfl)
  rounded_dot := mkDef X G (c.t.d.fact 43 (f := .glo "rounded_dot") rfl) bp_rounded_dot (c.t.d.def_ 43 rfl)
  shown_dot := mkDef X G (c.t.d.fact 44 (f := .glo "shown_dot") rfl) bp_shown_dot (c.t.d.def_ 44 rfl)
  with_new_layer := mkDef X G (c.t.d.fact 45 (f := .glo "with_new_layer") rfl) bp_with_new_layer (c.t.d.def_ 45 rfl)
  make_layer := mkDef X G (c.t.d.fact 46 (f := .glo "make_layer") rfl) bp_make_layer (c.t.d.def_ 46 rfl)
  drop_layer := mkDef X G (c.t.d.fact 47 (f := .glo "drop_layer") rfl) bp_drop_layer (c.t.d.def_ 47 rfl)
  raise_layer := mkDef X G (c.t.d.fact 48 (f := .glo "raise_layer") rfl) bp_raise_layer (c.t.d.def_ 48 rfl)
  set_layer := mkDef X G (c.t.d.fact 49 (f := .glo "set_layer") rfl) bp_set_layer (c.t.d.def_ 49 rfl)
  work_on_layer := mkDef X G (c.t.d.fact 50 (f := .glo "work_on_layer") rfl) bp_work_on_layer (c.t.d.def_ 50 rfl)
  paste_layer := mkDef X G (c.t.d.fact 51 (f := .glo "paste_layer") rfl) bp_paste_layer (c.t.d.def_ 51 rfl)
  put_together := mkDef X G (c.t.d.fact 52 (f := .glo "put_together") rfl) bp_put_together (c.t.d.def_ 52 rfl)
  rearranged := mkDef X G (c.t.d.fact 53 (f := .glo "rearranged") rfl) bp_rearranged (c.t.d.def_ 53 rfl)
  crop := mkDef X G (c.t.d.fact 54 (f := .glo "crop") rfl) bp_crop (c.t.d.def_ 54 rfl)
  source := mkDef X G (c.t.d.fact 55 (f := .glo "source") rfl) bp_source (c.t.d.def_ 55 rfl)
  turn := mkDef X G (c.t.d.fact 56 (f := .glo "turn") rfl) bp_turn (c.t.d.def_ 56 rfl)
  is_told_so := mkDef X G (c.t.d.fact 57 (f := .glo "is_told_so") rfl) bp_is_told_so (c.t.d.def_ 57 rfl)
  deeds_on_picture := mkDef X G (c.t.d.fact 58 (f := .glo "deeds_on_picture") rfl) bp_deeds_on_picture (c.t.d.def_ 58 rfl)
  picture_after := mkDef X G (c.t.d.fact 59 (f := .glo "picture_after") rfl) bp_picture_after (c.t.d.def_ 59 rfl)
  whole_size := mkDef X G (c.t.d.fact 60 (f := .glo "whole_size") rfl) bp_whole_size (c.t.d.def_ 60 rfl)
  differing := mkDef X G (c.t.d.fact 61 (f := .glo "differing") rfl) bp_differing (c.t.d.def_ 61 rfl)
  dots_by_number := mkDef X G (c.t.d.fact 62 (f := .glo "dots_by_number") rfl) bp_dots_by_number (c.t.d.def_ 62 rfl)
  dots_changed := mkDef X G (c.t.d.fact 63 (f := .glo "dots_changed") rfl) bp_dots_changed (c.t.d.def_ 63 rfl)
  cost := mkDef X G (c.t.d.fact 64 (f := .glo "cost") rfl) bp_cost (c.t.d.def_ 64 rfl)
  answers := mkDef X G (c.t.d.fact 65 (f := .glo "answers") rfl) bp_answers (c.t.d.def_ 65 rfl)
  call_end := mkDef X G (c.t.d.fact 66 (f := .glo "call_end") rfl) bp_call_end (c.t.d.def_ 66 rfl)
  answer_to := mkDef X G (c.t.d.fact 67 (f := .glo "answer_to") rfl) bp_answer_to (c.t.d.def_ 67 rfl)
  call_on := mkDef X G (c.t.d.fact 68 (f := .glo "call_on") rfl) bp_call_on (c.t.d.def_ 68 rfl)
  row_call := mkDef X G (c.t.d.fact 69 (f := .glo "row_call") rfl) bp_row_call (c.t.d.def_ 69 rfl)
  bare_call := mkDef X G (c.t.d.fact 70 (f := .glo "bare_call") rfl) bp_bare_call (c.t.d.def_ 70 rfl)
  History_deed_done := mkMeth (c.t.d.fact 135 (f := .meth "History" "deed_done") rfl) bp_History_deed_done (c.t.d.def_ 74 rfl)
  History_keep := mkMeth (c.t.d.fact 136 (f := .meth "History" "keep") rfl) bp_History_keep (c.t.d.def_ 75 rfl)
  History_step_back := mkMeth (c.t.d.fact 137 (f := .meth "History" "step_back") rfl) bp_History_step_back (c.t.d.def_ 76 rfl)
  History_step_on := mkMeth (c.t.d.fact 138 (f := .meth "History" "step_on") rfl) bp_History_step_on (c.t.d.def_ 77 rfl)
  History_counts := mkMeth (c.t.d.fact 139 (f := .meth "History" "counts") rfl) bp_History_counts (c.t.d.def_ 78 rfl)
  Desk_begin := mkMeth (c.t.d.fact 140 (f := .meth "Desk" "begin") rfl) bp_Desk_begin (c.t.d.def_ 80 rfl)
  Desk_act := mkMeth (c.t.d.fact 141 (f := .meth "Desk" "act") rfl) bp_Desk_act (c.t.d.def_ 81 rfl)
  Desk_do_deed := mkMeth (c.t.d.fact 142 (f := .meth "Desk" "do_deed") rfl) bp_Desk_do_deed (c.t.d.def_ 82 rfl)
  Desk_undo := mkMeth (c.t.d.fact 143 (f := .meth "Desk" "undo") rfl) bp_Desk_undo (c.t.d.def_ 83 rfl)
  Desk_redo := mkMeth (c.t.d.fact 144 (f := .meth "Desk" "redo") rfl) bp_Desk_redo (c.t.d.def_ 84 rfl)
  Desk_places := mkMeth (c.t.d.fact 145 (f := .meth "Desk" "places") rfl) bp_Desk_places (c.t.d.def_ 85 rfl)
  Desk_row := mkMeth (c.t.d.fact 146 (f := .meth "Desk" "row") rfl) bp_Desk_row (c.t.d.def_ 86 rfl)
  Desk_own := mkMeth (c.t.d.fact 147 (f := .meth "Desk" "own") rfl) bp_Desk_own (c.t.d.def_ 87 rfl)
  Desk_chosen_row := mkMeth (c.t.d.fact 148 (f := .meth "Desk" "chosen_row") rfl) bp_Desk_chosen_row (c.t.d.def_ 88 rfl)
  Desk_listed := mkMeth (c.t.d.fact 149 (f := .meth "Desk" "listed") rfl) bp_Desk_listed (c.t.d.def_ 89 rfl)
  Desk_history_told := mkMeth (c.t.d.fact 150 (f := .meth "Desk" "history_told") rfl) bp_Desk_history_told (c.t.d.def_ 90 rfl)
  Desk_copy_dots := mkMeth (c.t.d.fact 151 (f := .meth "Desk" "copy_dots") rfl) bp_Desk_copy_dots (c.t.d.def_ 91 rfl)
  Desk_start_recording := mkMeth (c.t.d.fact 152 (f := .meth "Desk" "start_recording") rfl) bp_Desk_start_recording (c.t.d.def_ 92 rfl)
  Desk_stop_recording := mkMeth (c.t.d.fact 153 (f := .meth "Desk" "stop_recording") rfl) bp_Desk_stop_recording (c.t.d.def_ 93 rfl)
  Desk_play_recorded := mkMeth (c.t.d.fact 154 (f := .meth "Desk" "play_recorded") rfl) bp_Desk_play_recorded (c.t.d.def_ 94 rfl)
  Desk_try_deed := mkMeth (c.t.d.fact 155 (f := .meth "Desk" "try_deed") rfl) bp_Desk_try_deed (c.t.d.def_ 95 rfl)
  LAST_HOW := mkInt X G (c.t.d.fact 93 (f := .int "LAST_HOW" 4) rfl)
  MOST_REACH := mkInt X G (c.t.d.fact 94 (f := .int "MOST_REACH" 1000) rfl)
  FURTHEST_WINDOW := mkInt X G (c.t.d.fact 95 (f := .int "FURTHEST_WINDOW" 4) rfl)
  NO_MOVE := mkInt X G (c.t.d.fact 96 (f := .int "NO_MOVE" 16) rfl)
  MOST_MOVE := mkInt X G (c.t.d.fact 97 (f := .int "MOST_MOVE" 32) rfl)
  MOST_LAYERS := mkInt X G (c.t.d.fact 98 (f := .int "MOST_LAYERS" 5) rfl)
  TOLD := mkTup X G (c.t.d.fact 99 (f := .glo "TOLD") rfl) (ex_parts c.more).1
  CUT := mkInt X G (c.t.d.fact 100 (f := .int "CUT" 14) rfl)
  PASTE := mkInt X G (c.t.d.fact 101 (f := .int "PASTE" 15) rfl)
  LONGEST_SIDE := mkInt X G (c.t.d.fact 102 (f := .int "LONGEST_SIDE" 12) rfl)
  MOST_BUDGET := mkInt X G (c.t.d.fact 103 (f := .int "MOST_BUDGET" 1000000) rfl)
  MOST_RECORDED := mkInt X G (c.t.d.fact 104 (f := .int "MOST_RECORDED" 40) rfl)
  PLAIN := mkDic X G (c.t.d.fact 105 (f := .glo "PLAIN") rfl) (ex_parts c.more).2.2.1
  WITH_LIST := mkTup X G (c.t.d.fact 106 (f := .glo "WITH_LIST") rfl) (ex_parts c.more).2.1
end
end LP
end
section
set_option maxHeartbeats 4100000
namespace LP
open PySem PySem.Spec PyProof.Rows L2 LamX  -- own
open PySem.W (WData Codec OpenSpec Well WellAll ReadsW ReadsAllW)  -- own
/-! the call of the program's def from outside: its argument is a list of ints, one code table may grow -/
/-- at the start: the table at t, empty; the argument at a, unless the top wrote it -/
def startH (K : PySem.W.Frag) (a t : Addr) (oa : Obj) (xs : List V) : Hp := fun b =>
  if b = t then some (.tbl #[]) else if b = a ∧ K.lookup a = none then some (.frz oa (.lst xs)) else none
section
variable {K : PySem.W.Frag} {a t b : Addr} {oa : Obj} {xs : List V} {u : HO}
theorem startH_t : startH K a t oa xs t = some (.tbl #[]) := if_pos rfl
theorem startH_some (h : startH K a t oa xs b = some u) : (b = t ∧ u = .tbl #[]) ∨ (b = a ∧ K.lookup a = none ∧ u = .frz oa (.lst xs)) := by
  unfold startH at h
  split at h
  · rename_i e
    exact .inl ⟨e, (Option.some.inj h).symm⟩
  · split at h
    · rename_i e
      exact .inr ⟨e.1, e.2, (Option.some.inj h).symm⟩
    · cases h
theorem startH_a (n : a ≠ t) (h : K.lookup a = none) : startH K a t oa xs a = some (.frz oa (.lst xs)) := by
  unfold startH
  rw [if_neg n, if_pos ⟨rfl, h⟩]
end
/-- an object of another make is not tracked -/
theorem startH_off {K : PySem.W.Frag} {a t b : Addr} {h : Heap} {vs : Array Value} {xs : List V} {o : Obj} {n : Nat} (ha : h.get? a = some { cls := .type "list", data := .seq vs n }) (ht : h.get? t = some { cls := .none, data := .fields #[] })
    (hb : h.get? b = some o) (h1 : ∀ vs n, o.data ≠ .seq vs n) (h2 : o.data ≠ .fields #[]) : startH K a t { cls := .type "list", data := .seq vs n } xs b = none := by
  cases q : startH K a t { cls := .type "list", data := .seq vs n } xs b with
  | none => rfl
  | some u =>
    rcases startH_some q with ⟨e, _⟩ | ⟨e, _, _⟩
    · rw [e, ht] at hb
      exact absurd rfl (Option.some.inj hb ▸ h2)
    · rw [e, ha] at hb
      exact absurd rfl (Option.some.inj hb ▸ h1 vs n)
structure World1 (K : PySem.W.Frag) (mg mb : Str → Option Value) (a t c : Addr) (vs : List Value) (xs : List V) (s : Shared) : Prop where
  kin : K.In s.heap
  g : s.heap.Ns mainGlobals mg
  b : s.heap.Ns builtinsNs mb
  bb : ∀ x : Str, x ≠ "__name__" → mb x = bootBuiltins x
  lim : s.heap.NoLimit
  gens : s.gens = #[]
  tab : s.heap.get? t = some { cls := .none, data := .fields #[] }
  out : K.lookup t = none
  code : PySem.W.CodeHd s.heap c t
  bm : ∃ (m : Addr) (o : Obj), mg "__builtins__" = some (.ref m) ∧ m ≠ builtinsNs ∧ s.heap.get? m = some o ∧ o.cls = .type "module" ∧ o.dict = some builtinsNs ∧ o.data = .plain
  arg : s.heap.get? a = some { cls := .type "list", data := .seq vs.toArray }
  vals : Vals xs vs
  len : xs.length ≤ sizeLine
section
variable {P : Program} {w : World} {K : PySem.W.Frag} {mg mb : Str → Option Value} {a t c fa : Addr} {vs : List Value} {xs : List V} {s : Shared}
/-- what is tracked at the start -/
abbrev World1.H (_ : World1 K mg mb a t c vs xs s) : Hp := startH K a t { cls := .type "list", data := .seq vs.toArray } xs
theorem World1.ne (x : World1 K mg mb a t c vs xs s) : a ≠ t := fun e => by
  have h := x.arg
  rw [e, x.tab] at h
  cases h
theorem World1.hok (x : World1 K mg mb a t c vs xs s) : HOk P w x.H s.heap := fun b u h => by
  rcases startH_some h with ⟨e, eu⟩ | ⟨e, _, eu⟩
  · subst e; subst eu
    exact x.tab
  · subst e; subst eu
    exact ⟨x.arg, x.len, vs, _, x.vals, x.arg⟩
theorem World1.sq (x : World1 K mg mb a t c vs xs s) : SqL K x.H a xs := by
  cases h : K.lookup a with
  | none => exact .inl (.inr ⟨_, startH_a x.ne h⟩)
  | some o =>
    have e := x.kin a o h
    rw [x.arg] at e
    have e := Option.some.inj e
    subst e
    exact .inr ⟨_, vs.toArray, _, h, rfl, rfl, rfl, by rw [List.size_toArray, ← x.vals.length]; exact x.len, x.vals⟩
/-- what stands behind what is tracked -/
theorem World1.base (x : World1 K mg mb a t c vs xs s) {b : Addr} {o : Obj} (hb : s.heap.get? b = some o) (h1 : ∀ vs n, o.data ≠ .seq vs n) (h2 : o.data ≠ .fields #[]) : (hidT s.heap x.H).get? b = some o := hidT_get hb (startH_off x.arg x.tab hb h1 h2)
theorem World1.ns (x : World1 K mg mb a t c vs xs s) {b : Addr} {m : Str → Option Value} (h : s.heap.Ns b m) : (hidT s.heap x.H).Ns b m := by
  obtain ⟨o, es, ep, e, d, r⟩ := h
  exact ⟨o, es, ep, x.base e (by rw [d]; intro _ _ z; cases z) (by rw [d]; intro z; cases z), d, r⟩
theorem World1.kb (x : World1 K mg mb a t c vs xs s) : K.In (hidT s.heap x.H) := fun b o e => by
  refine hidT_get (x.kin b o e) ?_
  cases q : x.H b with
  | none => rfl
  | some u =>
    rcases startH_some q with ⟨z, _⟩ | ⟨z, z', _⟩
    · rw [z, x.out] at e; cases e
    · rw [z, z'] at e; cases e
theorem World1.tb (x : World1 K mg mb a t c vs xs s) : TabB (hidT s.heap x.H) mg c t := by
  refine ⟨?_, ?_, fun z => ?_⟩
  · obtain ⟨o, us, file, tf, flags, tg, inF, text, tt, e1, r1, r2, r3, r⟩ := x.code
    refine ⟨o, us, file, tf, flags, tg, inF, text, tt, x.base e1 (by rw [r2]; intro _ _ z; cases z) (fun z => ?_), r1, r2, r3, r⟩
    rw [r2] at z
    cases z
    simp at r3
  · obtain ⟨m, o, b1, b2, b3, b4, b5, b6⟩ := x.bm
    refine ⟨m, o, b1, b2, fun z => ?_, fun z => ?_, x.base b3 (by rw [b6]; intro _ _ z; cases z) (by rw [b6]; intro z; cases z), b4, b5, b6⟩
    · obtain ⟨o', es, ep, e, d, _⟩ := x.g
      rw [z, e] at b3
      rw [← Option.some.inj b3, d] at b6
      cases b6
    · rw [z, x.tab] at b3
      rw [← Option.some.inj b3] at b6
      cases b6
  · obtain ⟨o', es, ep, e, d, _⟩ := x.g
    rw [z, x.tab] at e
    rw [← Option.some.inj e] at d
    cases d
theorem World1.env (x : World1 K mg mb a t c vs xs s) : Env0 P w K mg (hidT s.heap x.H) callerA [] s x.H := by
  obtain ⟨mc, h1, h2⟩ := x.lim
  exact ⟨rfl, ⟨x.kb, x.ns x.g, ⟨mb, x.ns x.b, x.bb⟩, ⟨mc, x.ns h1, h2⟩⟩, fun b o e => of_hidT e, Nat.le_of_eq (hidT_size _ _), trivial, fun b hb => (by cases hb), x.hok, .of_eq x.gens⟩
/-- behind the call: all that was stands, the table apart, which may have grown -/
theorem World1.old (x : World1 K mg mb a t c vs xs s) {H' : Hp} {h' : Heap} (un : Un [] [] x.H H' s.heap h') (hok' : HOk P w H' h') : (∀ b o, b ≠ t → s.heap.get? b = some o → h'.get? b = some o) ∧ OldK s.heap h' := by
  have kp : ∀ b o, b ≠ t → s.heap.get? b = some o → h'.get? b = some o := fun b o n e => by
    cases q : x.H b with
    | none => exact un.keep b o e q (fun z => (by cases z)) (fun z => by cases z)
    | some u =>
      rcases startH_some q with ⟨z, _⟩ | ⟨z, _, z'⟩
      · exact absurd z n
      · rw [z'] at q
        have q' := un.frzs b _ _ q
        obtain ⟨e2, _⟩ := hok' b _ q'
        rw [z, x.arg] at e
        rw [e2, ← Option.some.inj e]
  obtain ⟨more, hm⟩ := un.tbls t #[] startH_t
  have ht : h'.get? t = some { cls := .none, data := .fields (#[] ++ more) } := hok' t _ hm
  refine ⟨kp, fun b o e => ?_, fun b o e => ?_⟩
  · by_cases n : b = t
    · rw [n] at e ⊢
      rw [x.tab] at e
      have e := Option.some.inj e
      subst e
      exact .inr (.inl ⟨(x.code.tab x.tab).isCodeTable, rfl, #[], more, rfl, ht⟩)
    · exact .inl (kp b o n e)
  · by_cases n : b = t
    · exact ⟨_, by rw [n]; exact ht⟩
    · exact ⟨o, kp b o n e⟩
end
end LP
namespace LP
open PySem PySem.Spec PyProof.Rows L2 LamX  -- own
open PySem.W (WData Codec OpenSpec Well WellAll ReadsW ReadsAllW)  -- own
theorem call_answers {P : Program} {w : World} {K : PySem.W.Frag} {mg mb : Str → Option Value} {k : Nat} {a t c fa : Addr} {vs : List Value} {ns : List Int} {s : Shared} {fd : FuncData} {x : Str} {sp : Sp} {ans : List Int} {cl : Str → Option Addr}
    (X : World1 K mg mb a t c vs (ns.map V.int) s) (hr : Room k callerA) (F : ∀ base : Heap, K.In base → base.Ns mainGlobals mg → TabB base mg c t → FnOk P w K mg base CX0 k fa fd [x] sp) (hb : Binds K fd [x] [])
    (hsp : sp [.ref a] X.H (fun v H' => ∃ p, v = .ref p ∧ H' p = some (.lst (ans.map V.int))) fun _ _ _ => False) :
    codeAny (model P w) callerA (.call (.ref fa) ⟨[.ref a], []⟩) (fun r s' => ∃ u as, r = .ok (.ret u) ∧ ReadsW [] cl s'.heap u (.list (ans.map WData.int)) as ∧ OldK s.heap s'.heap ∧ s'.os = s.os ∧ AllBare s'.gens) s := by
  have bd := hb s [.ref a] X.kin rfl
  refine codeAny_mono ((F _ X.kb (X.ns X.g) X.tb).run callerA [] s X.H ⟨[.ref a], []⟩ [.ref a] [.ref a] _ _ hr X.env bd (.cons rfl .nil) hsp) fun r s' h => ?_
  match r, h with
  | .ok (.ret u), h =>
    obtain ⟨v, H', os, bare, un, hok', r', p, ev, hp⟩ := h
    subst ev
    obtain ⟨kp, old⟩ := X.old un hok'
    have kin' : K.In s'.heap := fun b o e => kp b o (fun z => by rw [z, X.out] at e; cases e) (X.kin b o e)
    obtain ⟨as, hrd⟩ := Dw.reads (R := []) (cl := cl) hok' kin' (.list (ans.map WData.int)) (.ref p) u (.lst (SqL.of hp) (dw_ints ans)) r'
    exact ⟨u, as, rfl, hrd, old, os, bare⟩
end LP
end
section
set_option maxHeartbeats 4100000
namespace LP
open PySem PySem.Spec PyProof.Rows L2 LamX  -- own
open PySem.W (WData Codec OpenSpec Well WellAll ReadsW ReadsAllW)  -- own
theorem rank_of {K : PySem.W.Frag} {mg : Str → Option Value} {base : Heap} (T : Txt K mg) {t : Addr} (ha : T.rank.a = He.fAd K ("rank", none)) (tb : TabB base mg (He.codeOf K ("rank", none)) t) : RankT T base (He.codeOf K ("rank", none)) t := by
  refine ⟨fun oc od kV doc pm an cdv ct osl lk => ?_, tb⟩
  obtain ⟨oc0, od0, kV0, doc0, pm0, an0, cdv0, ct0, osl0, e0, lk0, hc0⟩ := T.rank.F.ex
  rw [lk] at lk0
  have e1 := Option.some.inj lk0
  injection e1 with _ _ e2 _
  injection e2 with e3
  rw [e0] at e3
  have e4 : cdv = cdv0 := congrArg FuncData.code e3
  rw [← e4] at hc0
  obtain ⟨c', ec⟩ := He.codeIn_ref hc0
  rw [ha] at lk
  have q := He.codeOf_eq lk (show (PySem.W.fnOf "rank" "rank" (defArgs s_rank) (defBody s_rank) (defScope s_rank) .none kV doc pm an cdv ct).code = .ref c' from ec)
  rw [q]
  exact ec
theorem vals_well {Pm : Params} {h : Heap} : ∀ {ns : List Int} {vs : List Value}, WellAll Pm h vs (ns.map WData.int) → Vals (ns.map V.int) vs
  | [], vs, x => by
    cases x
    exact .nil
  | n :: ns, vs, x => by
    obtain ⟨v, vs', rfl, x1, x2⟩ := well_cons x
    refine .cons ?_ (vals_well x2)
    cases x1
    exact ⟨_, rfl⟩
theorem toI_V (l : List Nat) : (toI l).map V.int = nVs l := by
  unfold toI nVs
  rw [List.map_map]
  rfl
theorem walk : PySem.W.WalkOS qv loose (PySem.W.XL qv []) hk.says RS (HandSHeadRun.topDef RS.prog 102) [] (fun f vs => PySem.call f vs) := by
  intro w sa sb mg mb G Y fa o pm cd doc dV kV ho hd hcd hD hmg hg args vals as hasked hlays hread hwell hlow
  obtain ⟨K, KX, c⟩ := Y
  obtain ⟨z, e1, e2⟩ := PySem.W.os_pre_some hasked
  obtain ⟨e3, hwi⟩ := Codec.encAll_of_decAll RS.args args z e1
  subst e3
  obtain ⟨l, z2⟩ := z
  have hl : PySq50.answers_asked l = true := e2
  have hlays' := layable_weight hlays
  obtain ⟨v, vs0, ev, x1, x2⟩ := well_cons (d := .list (l.map WData.int)) (ds := []) hwell
  cases x2
  subst ev
  obtain ⟨a, vs, rfl, ha, x3⟩ := well_list x1
  have rv := vals_well x3
  have hlen : (l.map V.int).length ≤ sizeLine := by
    have q : WData.weightAll (l.map WData.int) ≤ 1048576 := hlays' (.list (l.map WData.int)) (List.mem_cons_self ..)
    have q2 := PySem.W.length_le_weightAllW (l.map WData.int)
    rw [List.length_map] at q2 ⊢
    exact szM (by omega)
  have hp : (("rank", none) : He.Defn) ∈ tfL := List.mem_singleton.mpr rfl
  have X : World1 K mg mb a (He.cT K ("rank", none)).2 (He.cT K ("rank", none)).1 vs (l.map V.int) sb := ⟨KX, G.T.g, G.T.b, G.T.builtins, G.T.nolimit, hg, c.empty _ hp, c.out _ hp, PySem.W.codeHd_of_K KX (c.hd _ hp), G.T.bmain, ha, rv, hlen⟩
  have efa : fa = (txt_of KX G.T.g c).answers.a := by
    have q := (txt_of KX G.T.g c).answers.g
    have q2 : mg "answers" = some (.ref fa) := hmg
    rw [q2] at q
    cases q
    rfl
  obtain ⟨cs, c1, c2, c3, c4, c5⟩ := asked_calls hl
  have hsp : sp_answers (txt_of KX G.T.g c) (He.cT K ("rank", none)).2 [.ref a] X.H (fun v H' => ∃ p, v = .ref p ∧ H' p = some (.lst ((PySq50.answers l).map V.int))) fun _ _ _ => False := by
    refine ⟨a, cs, fun x => x = (He.cT K ("rank", none)).2, fun x => x ≠ (He.cT K ("rank", none)).2, rfl, ?_, ⟨fun b hb e => ?_, fun x m z => z m, fun x m => ?_, TabS.nil startH_t, rfl⟩, X.ne, c2, c3, c5, fun p H' _ _ h => ⟨p, rfl, by rw [h, c4]⟩⟩
    · rw [← toI_V, ← c1]
      exact X.sq
    · rw [e, show X.H _ = _ from startH_t] at hb
      cases hb
    · rw [m, show X.H _ = _ from startH_t]
      intro z
      cases z
  subst efa
  refine PySem.W.enter_call (codeAny_mono (call_answers (k := 18) (ans := PySq50.answers l) (cl := classAt sa.heap) X ⟨rfl, by decide, by decide⟩ (fun base _ _ tb => ok_answers _ (rank_of _ rfl tb)) (txt_of KX G.T.g c).answers.b hsp) fun r' s' hq => ?_)
  obtain ⟨u, as', rfl, h1, h2, h3, h4⟩ := hq  -- own
  exact ⟨.inl ⟨u, _, as', rfl, fun _ => rfl, h1, (OpenSpec.post_iff (by decide +kernel) hwi _ _).mpr rfl, fun z => (by cases z)⟩, h2, h3, h4⟩
end LP
open PySem PySem.W PySem.Calls PyProof.Rows
set_option maxHeartbeats 0 in
theorem PySem.Challenge.cw_layerpaint_s01_answers_holds : PySem.Challenge.rw_layerpaint_s01_answers.Holds := by
  w_on
  refine HandSHeadRun.head_spec (r := LP.RS) (q := LP.qv) (H := LP.hk) (ob := LP.ob) (M := 6000) (loose := LP.loose) (d := HandSHeadRun.topDef LP.RS.prog 102) (kwd := []) LP.ob_eq (by kernel_rfl) (fun s => by kernel_rfl) LP.run (by kernel_rfl) (by kernel_rfl) (by kernel_rfl) os_shapes (by first | assumption | decide +kernel) (by decide +kernel) ⟨rfl, rfl, rfl, rfl, rfl, by decide +kernel⟩ ?hw LP.walk
  exact ⟨[.list [.int 3]], by decide +kernel, by decide +kernel⟩
end
