import PyProof.Rows.All
import MzThreadSpec
import Wide.All
import OpenK.AllK
import Wide.FinOn
import Open.SpecLaws
import KE.OsGo
import HandS.ForSpec
import HandS.ForMost
import HandS.Walk
import PySem.Challenge.RW_threadwalk_s04_finds
set_option maxRecDepth 4000
set_option maxHeartbeats 1000000
namespace Tw
open Maze

def okSign (w : Nat) (last : Bool) (y x : Nat) (c : UInt8) : Prop :=
  if x = 2 * w + 1 then c = 10
  else if y % 2 = 0 ∧ x % 2 = 0 then c = 43
  else if y % 2 = 1 ∧ x % 2 = 1 then c = 32
  else if y = 0 ∨ last = true ∨ x = 0 ∨ x = 2 * w then (if y % 2 = 0 then c = 45 else c = 124)
  else (if y % 2 = 0 then c = 45 ∨ c = 32 else c = 124 ∨ c = 32)

theorem uniq {L y x y' x' : Nat} (h : y * L + x = y' * L + x') (hx : x < L) (hx' : x' < L) : y = y' ∧ x = x' := by
  have e : y = y' := by
    rcases Nat.lt_trichotomy y y' with g | g | g
    · have := Nat.mul_le_mul_right L (show y + 1 ≤ y' from g)
      rw [Nat.succ_mul] at this
      omega
    · exact g
    · have := Nat.mul_le_mul_right L (show y' + 1 ≤ y from g)
      rw [Nat.succ_mul] at this
      omega
  subst e
  exact ⟨rfl, by omega⟩

structure Inv0 (b : Nat → UInt8) (p : Nat) (z : Scan) : Prop where
  line : z.line = 0
  col : z.col = p
  full : z.full = true
  up : z.up = []
  lev : z.lev = []
  cur : z.cur = []
  pl : p ≤ 21
  ok : ∀ q, q < p → (q % 2 = 0 → b q = 43) ∧ (q % 2 = 1 → b q = 45)

structure Inv1 (b : Nat → UInt8) (p : Nat) (z : Scan) : Prop where
  l1 : 1 ≤ z.line
  c1 : z.col ≤ 2 * z.wide + 1
  w1 : 1 ≤ z.wide
  w2 : z.wide ≤ 10
  pp : p = z.line * (2 * z.wide + 2) + z.col
  l2 : z.line ≤ 20 ∨ (z.line = 21 ∧ z.col = 0)
  ok : ∀ y x, x < 2 * z.wide + 2 → y * (2 * z.wide + 2) + x < p → okSign z.wide false y x (b (y * (2 * z.wide + 2) + x))
  fu : z.full = true ↔ ∀ x, x % 2 = 1 → x < 2 * z.wide + 1 → (2 * (z.line / 2)) * (2 * z.wide + 2) + x < p → b ((2 * (z.line / 2)) * (2 * z.wide + 2) + x) = 45
  upl : z.up.length = (z.line / 2) * (z.wide - 1) + (if z.line % 2 = 1 then min ((z.col - 1) / 2) (z.wide - 1) else 0)
  up : ∀ r c, c + 1 < z.wide → (2 * r + 1) * (2 * z.wide + 2) + (2 * c + 2) < p → z.up[r * (z.wide - 1) + c]? = some (b ((2 * r + 1) * (2 * z.wide + 2) + (2 * c + 2)) == 124)
  levl : z.lev.length = (if z.line % 2 = 1 ∧ 0 < z.col then z.line / 2 else z.line / 2 - 1) * z.wide
  curl : z.cur.length = if z.line % 2 = 0 then z.col / 2 else if z.col = 0 ∧ 1 < z.line then z.wide else 0
  lc : ∀ r c, c < z.wide → (2 * r + 2) * (2 * z.wide + 2) + (2 * c + 1) < p → (z.lev ++ z.cur)[r * z.wide + c]? = some (b ((2 * r + 2) * (2 * z.wide + 2) + (2 * c + 1)) == 45)

theorem ok_step {b : Nat → UInt8} {p w line col : Nat} (hp : p = line * (2 * w + 2) + col) (hc : col < 2 * w + 2)
    (h : ∀ y x, x < 2 * w + 2 → y * (2 * w + 2) + x < p → okSign w false y x (b (y * (2 * w + 2) + x)))
    (hn : okSign w false line col (b p)) :
    ∀ y x, x < 2 * w + 2 → y * (2 * w + 2) + x < p + 1 → okSign w false y x (b (y * (2 * w + 2) + x)) := by
  intro y x hx hq
  rcases Nat.lt_or_ge (y * (2 * w + 2) + x) p with g | g
  · exact h y x hx g
  · have e : y * (2 * w + 2) + x = line * (2 * w + 2) + col := by omega
    obtain ⟨rfl, rfl⟩ := uniq e hx hc
    rw [← hp]
    exact hn

/-- a sign that is no inner upright one -/
theorem up_step {b : Nat → UInt8} {p w line col : Nat} {up : List Bool} (hp : p = line * (2 * w + 2) + col) (hc : col < 2 * w + 2)
    (h : ∀ r c, c + 1 < w → (2 * r + 1) * (2 * w + 2) + (2 * c + 2) < p → up[r * (w - 1) + c]? = some (b ((2 * r + 1) * (2 * w + 2) + (2 * c + 2)) == 124))
    (hn : line % 2 = 0 ∨ col % 2 = 1 ∨ col = 0 ∨ 2 * w ≤ col) :
    ∀ r c, c + 1 < w → (2 * r + 1) * (2 * w + 2) + (2 * c + 2) < p + 1 → up[r * (w - 1) + c]? = some (b ((2 * r + 1) * (2 * w + 2) + (2 * c + 2)) == 124) := by
  intro r c hcw hq
  rcases Nat.lt_or_ge ((2 * r + 1) * (2 * w + 2) + (2 * c + 2)) p with g | g
  · exact h r c hcw g
  · have e : (2 * r + 1) * (2 * w + 2) + (2 * c + 2) = line * (2 * w + 2) + col := by omega
    obtain ⟨e1, e2⟩ := uniq e (by omega) hc
    omega

/-- an inner upright sign -/
theorem up_more {b : Nat → UInt8} {p w line col : Nat} {up : List Bool} {v : Bool} (hp : p = line * (2 * w + 2) + col) (hc : col < 2 * w)
    (h : ∀ r c, c + 1 < w → (2 * r + 1) * (2 * w + 2) + (2 * c + 2) < p → up[r * (w - 1) + c]? = some (b ((2 * r + 1) * (2 * w + 2) + (2 * c + 2)) == 124))
    (hl : up.length = (line / 2) * (w - 1) + min ((col - 1) / 2) (w - 1)) (ho : line % 2 = 1) (he : col % 2 = 0) (h0 : 0 < col) (hv : v = (b p == 124)) :
    ∀ r c, c + 1 < w → (2 * r + 1) * (2 * w + 2) + (2 * c + 2) < p + 1 → (up ++ [v])[r * (w - 1) + c]? = some (b ((2 * r + 1) * (2 * w + 2) + (2 * c + 2)) == 124) := by
  intro r c hcw hq
  rcases Nat.lt_or_ge ((2 * r + 1) * (2 * w + 2) + (2 * c + 2)) p with g | g
  · have e := h r c hcw g
    have hlt : r * (w - 1) + c < up.length := (List.getElem?_eq_some_iff.mp e).1
    rw [List.getElem?_append_left hlt]
    exact e
  · have e : (2 * r + 1) * (2 * w + 2) + (2 * c + 2) = line * (2 * w + 2) + col := by omega
    obtain ⟨e1, e2⟩ := uniq e (by omega) (by omega)
    have hr : line / 2 = r := by omega
    have hm : min ((col - 1) / 2) (w - 1) = c := by omega
    rw [hr, hm] at hl
    rw [← hl, List.getElem?_append_right (Nat.le_refl _), Nat.sub_self, e, ← hp, hv]
    rfl

theorem lc_step {b : Nat → UInt8} {p w line col : Nat} {up : List Bool} (hp : p = line * (2 * w + 2) + col) (hc : col < 2 * w + 2)
    (h : ∀ r c, c < w → (2 * r + 2) * (2 * w + 2) + (2 * c + 1) < p → up[r * w + c]? = some (b ((2 * r + 2) * (2 * w + 2) + (2 * c + 1)) == 45))
    (hn : line % 2 = 1 ∨ col % 2 = 0 ∨ 2 * w < col) :
    ∀ r c, c < w → (2 * r + 2) * (2 * w + 2) + (2 * c + 1) < p + 1 → up[r * w + c]? = some (b ((2 * r + 2) * (2 * w + 2) + (2 * c + 1)) == 45) := by
  intro r c hcw hq
  rcases Nat.lt_or_ge ((2 * r + 2) * (2 * w + 2) + (2 * c + 1)) p with g | g
  · exact h r c hcw g
  · have e : (2 * r + 2) * (2 * w + 2) + (2 * c + 1) = line * (2 * w + 2) + col := by omega
    obtain ⟨e1, e2⟩ := uniq e (by omega) hc
    omega

theorem lc_more {b : Nat → UInt8} {p w line col : Nat} {lev cur : List Bool} {v : Bool} (hp : p = line * (2 * w + 2) + col) (hc : col < 2 * w)
    (h : ∀ r c, c < w → (2 * r + 2) * (2 * w + 2) + (2 * c + 1) < p → (lev ++ cur)[r * w + c]? = some (b ((2 * r + 2) * (2 * w + 2) + (2 * c + 1)) == 45))
    (hl : lev.length = (line / 2 - 1) * w) (hu : cur.length = col / 2) (ho : line % 2 = 0) (h1 : 1 ≤ line) (he : col % 2 = 1) (hv : v = (b p == 45)) :
    ∀ r c, c < w → (2 * r + 2) * (2 * w + 2) + (2 * c + 1) < p + 1 → (lev ++ (cur ++ [v]))[r * w + c]? = some (b ((2 * r + 2) * (2 * w + 2) + (2 * c + 1)) == 45) := by
  intro r c hcw hq
  rw [← List.append_assoc]
  rcases Nat.lt_or_ge ((2 * r + 2) * (2 * w + 2) + (2 * c + 1)) p with g | g
  · have e := h r c hcw g
    have hlt : r * w + c < (lev ++ cur).length := (List.getElem?_eq_some_iff.mp e).1
    rw [List.getElem?_append_left hlt]
    exact e
  · have e : (2 * r + 2) * (2 * w + 2) + (2 * c + 1) = line * (2 * w + 2) + col := by omega
    obtain ⟨e1, e2⟩ := uniq e (by omega) (by omega)
    have hr : line / 2 - 1 = r := by omega
    have hm : col / 2 = c := by omega
    have hl2 : (lev ++ cur).length = r * w + c := by rw [List.length_append, hl, hu, hr, hm]
    rw [← hl2, List.getElem?_append_right (Nat.le_refl _), Nat.sub_self, e, ← hp, hv]
    rfl

/-- the level line's hedges stay whole -/
theorem fu_step {b : Nat → UInt8} {p w line col : Nat} {f f' : Bool} (hp : p = line * (2 * w + 2) + col) (hc : col < 2 * w + 2)
    (h : f = true ↔ ∀ x, x % 2 = 1 → x < 2 * w + 1 → (2 * (line / 2)) * (2 * w + 2) + x < p → b ((2 * (line / 2)) * (2 * w + 2) + x) = 45)
    (hn : (f' = f ∧ (line % 2 = 1 ∨ col % 2 = 0 ∨ 2 * w < col ∨ b p = 45)) ∨ (f' = false ∧ line % 2 = 0 ∧ col % 2 = 1 ∧ col < 2 * w + 1 ∧ b p ≠ 45)) :
    f' = true ↔ ∀ x, x % 2 = 1 → x < 2 * w + 1 → (2 * (line / 2)) * (2 * w + 2) + x < p + 1 → b ((2 * (line / 2)) * (2 * w + 2) + x) = 45 := by
  rcases hn with ⟨rfl, hn⟩ | ⟨rfl, h0, h1, h2, h3⟩
  · rw [h]
    constructor
    · intro k x hx hx2 hq
      rcases Nat.lt_or_ge ((2 * (line / 2)) * (2 * w + 2) + x) p with g | g
      · exact k x hx hx2 g
      · have e : (2 * (line / 2)) * (2 * w + 2) + x = line * (2 * w + 2) + col := by omega
        obtain ⟨e1, e2⟩ := uniq e (by omega) hc
        rcases hn with hn | hn | hn | hn
        · omega
        · omega
        · omega
        · rw [e, ← hp]
          exact hn
    · intro k x hx hx2 hq
      exact k x hx hx2 (by omega)
  · constructor
    · intro k
      cases k
    · intro k
      have hl : 2 * (line / 2) = line := by omega
      have := k col h1 h2 (by rw [hl]; omega)
      rw [hl, ← hp] at this
      exact absurd this h3

end Tw

set_option maxRecDepth 4000
set_option maxHeartbeats 1000000
namespace Tw
open Maze

theorem inv1_step {b : Nat → UInt8} {p : Nat} {z y : Scan} (I : Inv1 b p z) (h : z.sign (b p) = some y) : Inv1 b (p + 1) y ∧ y.wide = z.wide := by
  obtain ⟨line, col, w, full, up, lev, cur⟩ := z
  obtain ⟨l1, c1, w1, w2, pp, l2, ok, fu, upl, upc, levl, curl, lc⟩ := I
  simp only at l1 c1 w1 w2 pp l2 ok fu upl upc levl curl lc
  have hline : ¬ line = 0 := by omega
  have hc2 : col < 2 * w + 2 := by omega
  unfold Scan.sign at h
  simp only [hline, if_false] at h
  by_cases ho : line % 2 = 1
  · simp only [ho, if_true] at h
    by_cases hc0 : col = 0
    · simp only [hc0, if_true] at h
      subst hc0
      split at h
      case isFalse => cases h
      case isTrue hcc =>
      obtain ⟨hb, hs⟩ := hcc
      unfold SIDE at hs
      cases h
      simp only [Nat.lt_irrefl, and_false, if_false] at levl
      refine ⟨⟨l1, by dsimp only; omega, w1, w2, by dsimp only; omega, .inl (by dsimp only; omega), ?_, ?_, ?_, ?_, ?_, ?_, ?_⟩, rfl⟩
      · refine ok_step (w := w) (line := line) (col := 0) pp hc2 ok ?_
        rw [hb]
        unfold okSign
        rw [if_neg (by omega), if_neg (by omega), if_neg (by omega), if_pos (by simp), if_neg (by omega)]
      · exact fu_step (w := w) (line := line) (col := 0) pp hc2 fu (.inl ⟨rfl, .inl ho⟩)
      · simp only [ho, if_true] at upl ⊢
        rw [upl]
      · exact up_step (w := w) (line := line) (col := 0) pp hc2 upc (by omega)
      · dsimp only
        rw [List.length_append, levl, curl, if_neg (by omega)]
        rcases Nat.lt_or_ge 1 line with g | g
        · rw [if_pos (by omega), if_pos (by omega)]
          have hlv : line / 2 - 1 + 1 = line / 2 := by omega
          rw [← hlv, Nat.succ_mul]
          simp
        · obtain rfl : line = 1 := by omega
          simp
      · dsimp only
        rw [if_neg (by omega), if_neg (by omega)]
        rfl
      · have := lc_step (w := w) (line := line) (col := 0) pp hc2 lc (by omega)
        simp only [List.append_nil]
        exact this
    · simp only [hc0, if_false] at h
      by_cases hce : col = 2 * w + 1
      · simp only [hce, if_true] at h
        split at h
        case isFalse => cases h
        case isTrue hb =>
        cases h
        simp only [ho, if_true] at upl
        rw [if_pos (by omega)] at levl
        rw [if_neg (by omega), if_neg (by omega)] at curl
        have e1 : (line + 1) / 2 = line / 2 + 1 := by omega
        refine ⟨⟨by dsimp only; omega, by dsimp only; omega, w1, w2, ?_, .inl (by dsimp only; omega), ?_, ?_, ?_, ?_, ?_, ?_, ?_⟩, rfl⟩
        · dsimp only
          rw [Nat.succ_mul, pp]
          omega
        · refine ok_step (w := w) (line := line) (col := col) pp hc2 ok ?_
          rw [hb]
          unfold okSign
          rw [if_pos hce]
        · dsimp only
          constructor
          · intro _ x hx1 hx2 hq
            exfalso
            have e2 : 2 * ((line + 1) / 2) = line + 1 := by omega
            rw [e2, Nat.succ_mul] at hq
            omega
          · intro _
            trivial
        · dsimp only
          rw [upl, e1, Nat.succ_mul, if_neg (by omega)]
          have : min ((col - 1) / 2) (w - 1) = w - 1 := by omega
          omega
        · exact up_step (w := w) (line := line) (col := col) pp hc2 upc (by omega)
        · dsimp only
          rw [levl, if_neg (by omega)]
          have : (line + 1) / 2 - 1 = line / 2 := by omega
          rw [this]
        · dsimp only
          rw [curl, if_pos (by omega)]
        · exact lc_step (w := w) (line := line) (col := col) pp hc2 lc (by omega)
      · simp only [hce, if_false] at h
        by_cases hcx : col % 2 = 1
        · simp only [hcx, if_true] at h
          split at h
          case isFalse => cases h
          case isTrue hb =>
          cases h
          refine ⟨⟨l1, by dsimp only; omega, w1, w2, by dsimp only; omega, .inl (by dsimp only; omega), ?_, ?_, ?_, ?_, ?_, ?_, ?_⟩, rfl⟩
          · refine ok_step (w := w) (line := line) (col := col) pp hc2 ok ?_
            rw [hb]
            unfold okSign
            rw [if_neg hce, if_neg (by omega), if_pos ⟨ho, hcx⟩]
          · exact fu_step (w := w) (line := line) (col := col) pp hc2 fu (.inl ⟨rfl, .inl ho⟩)
          · simp only [ho, if_true] at upl ⊢
            rw [upl]
            have : min ((col + 1 - 1) / 2) (w - 1) = min ((col - 1) / 2) (w - 1) := by omega
            rw [this]
          · exact up_step (w := w) (line := line) (col := col) pp hc2 upc (by omega)
          · dsimp only
            rw [levl, if_pos (by omega), if_pos (by omega)]
          · dsimp only
            rw [curl, if_neg (by omega), if_neg (by omega), if_neg (by omega), if_neg (by omega)]
          · exact lc_step (w := w) (line := line) (col := col) pp hc2 lc (by omega)
        · simp only [hcx, if_false] at h
          by_cases hcw : col = 2 * w
          · simp only [hcw, if_true] at h
            split at h
            case isFalse => cases h
            case isTrue hb =>
            cases h
            refine ⟨⟨l1, by dsimp only; omega, w1, w2, by dsimp only; omega, .inl (by dsimp only; omega), ?_, ?_, ?_, ?_, ?_, ?_, ?_⟩, rfl⟩
            · refine ok_step (w := w) (line := line) (col := col) pp hc2 ok ?_
              rw [hb]
              unfold okSign
              rw [if_neg hce, if_neg (by omega), if_neg (by omega), if_pos (by omega), if_neg (by omega)]
            · exact fu_step (w := w) (line := line) (col := col) pp hc2 fu (.inl ⟨rfl, .inl ho⟩)
            · simp only [ho, if_true] at upl ⊢
              rw [upl]
              have : min ((2 * w + 1 - 1) / 2) (w - 1) = min ((col - 1) / 2) (w - 1) := by omega
              rw [this]
            · exact up_step (w := w) (line := line) (col := col) pp hc2 upc (by omega)
            · dsimp only
              rw [levl, if_pos (by omega), if_pos (by omega)]
            · dsimp only
              rw [curl, if_neg (by omega), if_neg (by omega), if_neg (by omega), if_neg (by omega)]
            · exact lc_step (w := w) (line := line) (col := col) pp hc2 lc (by omega)
          · simp only [hcw, if_false] at h
            split at h
            case isFalse => cases h
            case isTrue hb =>
            cases h
            simp only [ho, if_true] at upl
            refine ⟨⟨l1, by dsimp only; omega, w1, w2, by dsimp only; omega, .inl (by dsimp only; omega), ?_, ?_, ?_, ?_, ?_, ?_, ?_⟩, rfl⟩
            · refine ok_step (w := w) (line := line) (col := col) pp hc2 ok ?_
              unfold okSign
              rw [if_neg hce, if_neg (by omega), if_neg (by omega)]
              split
              case isTrue g => exfalso; simp at g; omega
              case isFalse g =>
                rw [if_neg (by omega)]
                exact hb
            · exact fu_step (w := w) (line := line) (col := col) pp hc2 fu (.inl ⟨rfl, .inl ho⟩)
            · simp only [ho, if_true]
              rw [List.length_append, upl]
              show _ + 1 = _
              omega
            · exact up_more (w := w) (line := line) (col := col) pp (by omega) upc upl ho (by omega) (by omega) rfl
            · dsimp only
              rw [levl, if_pos (by omega), if_pos (by omega)]
            · dsimp only
              rw [curl, if_neg (by omega), if_neg (by omega), if_neg (by omega), if_neg (by omega)]
            · exact lc_step (w := w) (line := line) (col := col) pp hc2 lc (by omega)
  · have he : line % 2 = 0 := by omega
    simp only [ho, if_false] at h
    simp only [he] at levl curl upl
    simp only [show ¬ ((0 : Nat) = 1) by omega, if_false, if_true, false_and] at levl curl upl
    by_cases hce : col = 2 * w + 1
    · simp only [hce, if_true] at h
      split at h
      case isFalse => cases h
      case isTrue hb =>
      cases h
      refine ⟨⟨by dsimp only; omega, by dsimp only; omega, w1, w2, ?_, by dsimp only; omega, ?_, ?_, ?_, ?_, ?_, ?_, ?_⟩, rfl⟩
      · dsimp only
        rw [Nat.succ_mul, pp]
        omega
      · refine ok_step (w := w) (line := line) (col := col) pp hc2 ok ?_
        rw [hb]
        unfold okSign
        rw [if_pos hce]
      · have := fu_step (w := w) (line := line) (col := col) (f' := full) pp hc2 fu (.inl ⟨rfl, by omega⟩)
        have e : (line + 1) / 2 = line / 2 := by omega
        simp only [e]
        exact this
      · dsimp only
        have e : (line + 1) / 2 = line / 2 := by omega
        rw [e, upl, if_pos (by omega)]
        simp
      · exact up_step (w := w) (line := line) (col := col) pp hc2 upc (by omega)
      · dsimp only
        have e : (line + 1) / 2 = line / 2 := by omega
        rw [levl, e, if_neg (by omega)]
      · dsimp only
        rw [curl, if_neg (by omega), if_pos (by omega)]
        omega
      · exact lc_step (w := w) (line := line) (col := col) pp hc2 lc (by omega)
    · simp only [hce, if_false] at h
      by_cases hcx : col % 2 = 0
      · simp only [hcx, if_true] at h
        split at h
        case isFalse => cases h
        case isTrue hb =>
        cases h
        refine ⟨⟨l1, by dsimp only; omega, w1, w2, by dsimp only; omega, .inl (by dsimp only; omega), ?_, ?_, ?_, ?_, ?_, ?_, ?_⟩, rfl⟩
        · refine ok_step (w := w) (line := line) (col := col) pp hc2 ok ?_
          rw [hb]
          unfold okSign
          rw [if_neg hce, if_pos ⟨he, hcx⟩]
        · exact fu_step (w := w) (line := line) (col := col) pp hc2 fu (.inl ⟨rfl, by omega⟩)
        · simp only [he]
          rw [upl]
          simp
        · exact up_step (w := w) (line := line) (col := col) pp hc2 upc (by omega)
        · simp only [he]
          rw [levl]
          simp
        · simp only [he]
          rw [curl]
          simp
          omega
        · exact lc_step (w := w) (line := line) (col := col) pp hc2 lc (by omega)
      · simp only [hcx, if_false] at h
        by_cases hb : b p = 45
        · simp only [hb, if_true] at h
          cases h
          refine ⟨⟨l1, by dsimp only; omega, w1, w2, by dsimp only; omega, .inl (by dsimp only; omega), ?_, ?_, ?_, ?_, ?_, ?_, ?_⟩, rfl⟩
          · refine ok_step (w := w) (line := line) (col := col) pp hc2 ok ?_
            rw [hb]
            unfold okSign
            rw [if_neg hce, if_neg (by omega), if_neg (by omega)]
            split
            · rfl
            · exact .inl rfl
          · exact fu_step (w := w) (line := line) (col := col) pp hc2 fu (.inl ⟨rfl, .inr (.inr (.inr hb))⟩)
          · simp only [he]
            rw [upl]
            simp
          · exact up_step (w := w) (line := line) (col := col) pp hc2 upc (by omega)
          · simp only [he]
            rw [levl]
            simp
          · simp only [he]
            rw [List.length_append, curl]
            simp
            omega
          · exact lc_more (w := w) (line := line) (col := col) pp (by omega) lc levl curl he l1 (by omega) (by rw [hb]; rfl)
        · simp only [hb, if_false] at h
          split at h
          case isFalse => cases h
          case isTrue hcc =>
          obtain ⟨hb2, hs⟩ := hcc
          unfold SIDE at hs
          cases h
          refine ⟨⟨l1, by dsimp only; omega, w1, w2, by dsimp only; omega, .inl (by dsimp only; omega), ?_, ?_, ?_, ?_, ?_, ?_, ?_⟩, rfl⟩
          · refine ok_step (w := w) (line := line) (col := col) pp hc2 ok ?_
            rw [hb2]
            unfold okSign
            rw [if_neg hce, if_neg (by omega), if_neg (by omega)]
            split
            case isTrue g => exfalso; simp at g; omega
            case isFalse g =>
              exact .inr rfl
          · exact fu_step (w := w) (line := line) (col := col) pp hc2 fu (.inr ⟨rfl, he, by omega, by omega, hb⟩)
          · simp only [he]
            rw [upl]
            simp
          · exact up_step (w := w) (line := line) (col := col) pp hc2 upc (by omega)
          · simp only [he]
            rw [levl]
            simp
          · simp only [he]
            rw [List.length_append, curl]
            simp
            omega
          · exact lc_more (w := w) (line := line) (col := col) pp (by omega) lc levl curl he l1 (by omega) (by rw [hb2]; rfl)

theorem inv0_step {b : Nat → UInt8} {p : Nat} {z y : Scan} (I : Inv0 b p z) (h : z.sign (b p) = some y) :
    Inv0 b (p + 1) y ∨ (Inv1 b (p + 1) y ∧ b p = 10 ∧ y.wide = p / 2 ∧ p % 2 = 1) := by
  obtain ⟨line, col, w, full, up, lev, cur⟩ := z
  obtain ⟨e1, e2, e3, e4, e5, e6, pl, ok⟩ := I
  simp only at e1 e2 e3 e4 e5 e6
  subst e1 e2 e3 e4 e5 e6
  unfold Scan.sign at h
  simp only [if_true] at h
  by_cases hx : col % 2 = 0
  · simp only [hx, if_true] at h
    split at h
    case isFalse => cases h
    case isTrue hb =>
    cases h
    refine .inl ⟨rfl, rfl, rfl, rfl, rfl, rfl, by omega, fun q hq => ?_⟩
    rcases Nat.lt_or_ge q col with g | g
    · exact ok q g
    · obtain rfl : q = col := by omega
      exact ⟨fun _ => hb, fun g => by omega⟩
  · simp only [hx, if_false] at h
    split at h
    case isTrue hcc =>
      obtain ⟨hb, hs⟩ := hcc
      unfold SIDE at hs
      cases h
      refine .inl ⟨rfl, rfl, rfl, rfl, rfl, rfl, by omega, fun q hq => ?_⟩
      rcases Nat.lt_or_ge q col with g | g
      · exact ok q g
      · obtain rfl : q = col := by omega
        exact ⟨fun g => by omega, fun _ => hb⟩
    case isFalse hcc =>
      split at h
      case isFalse => cases h
      case isTrue hc2 =>
      obtain ⟨hb, hs⟩ := hc2
      cases h
      refine .inr ⟨⟨Nat.le_refl _, by dsimp only; omega, by dsimp only; omega, by dsimp only; omega, by dsimp only; omega, .inl (by dsimp only; omega), ?_, ?_, ?_, ?_, ?_, ?_, ?_⟩, hb, rfl, by omega⟩
      · dsimp only
        intro y x hx1 hx2
        have hw : 2 * (col / 2) + 2 = col + 1 := by omega
        rw [hw] at hx1 hx2 ⊢
        obtain rfl : y = 0 := by
          rcases Nat.eq_zero_or_pos y with g | g
          · exact g
          · have := Nat.mul_le_mul_right (col + 1) g
            omega
        have e : 0 * (col + 1) + x = x := by omega
        rw [e] at hx2 ⊢
        unfold okSign
        by_cases g : x = 2 * (col / 2) + 1
        · rw [if_pos g]
          obtain rfl : x = col := by omega
          exact hb
        · rw [if_neg g]
          have hxx := ok x (by omega)
          by_cases g2 : x % 2 = 0
          · rw [if_pos ⟨by omega, g2⟩]
            exact hxx.1 g2
          · rw [if_neg (by omega), if_neg (by omega), if_pos (by omega), if_pos (by omega)]
            exact hxx.2 (by omega)
      · dsimp only
        constructor
        · intro _ x hx1 hx2 hx3
          have e : 2 * (1 / 2) * (2 * (col / 2) + 2) + x = x := by
            show 0 * (2 * (col / 2) + 2) + x = x
            omega
          rw [e] at hx3 ⊢
          exact (ok x (by omega)).2 hx1
        · intro _
          rfl
      · simp
      · dsimp only
        intro r c hc hq
        exfalso
        have := Nat.mul_le_mul_right (2 * (col / 2) + 2) (show 1 ≤ 2 * r + 1 by omega)
        omega
      · simp
      · simp
      · dsimp only
        intro r c hc hq
        exfalso
        have := Nat.mul_le_mul_right (2 * (col / 2) + 2) (show 2 ≤ 2 * r + 2 by omega)
        omega

end Tw

set_option maxRecDepth 4000
set_option maxHeartbeats 1000000
namespace Tw
open Maze

/-- a drawing of w x h squares, sign by sign -/
structure Drawn (t : Bytes) (w h : Nat) : Prop where
  w1 : 1 ≤ w
  w2 : w ≤ 10
  h1 : 1 ≤ h
  h2 : h ≤ 10
  len : t.length = (2 * h + 1) * (2 * w + 2)
  ok : ∀ y x, y < 2 * h + 1 → x < 2 * w + 2 → okSign w (decide (y = 2 * h)) y x (t.getD (y * (2 * w + 2) + x) 0)

/-- the garden that a drawing shows -/
structure Shows (t : Bytes) (D : Garden) : Prop extends Drawn t D.wide D.high where
  upr : ∀ r c, c + 1 < D.wide → r < D.high → D.hedges.getD (r * (D.wide - 1) + c) true = (t.getD ((2 * r + 1) * (2 * D.wide + 2) + (2 * c + 2)) 0 == 124)
  lev : ∀ r c, c < D.wide → r + 1 < D.high → D.hedges.getD ((D.wide - 1) * D.high + (r * D.wide + c)) true = (t.getD ((2 * r + 2) * (2 * D.wide + 2) + (2 * c + 1)) 0 == 45)

theorem drop_get {t : Bytes} {p : Nat} {c : UInt8} {r : Bytes} (h : t.drop p = c :: r) : p < t.length ∧ t.getD p 0 = c ∧ t.drop (p + 1) = r := by
  have h1 : (t.drop p)[0]? = some c := by rw [h]; rfl
  rw [List.getElem?_drop] at h1
  have h2 := (List.getElem?_eq_some_iff.mp h1)
  obtain ⟨hl, _⟩ := h2
  refine ⟨by omega, ?_, ?_⟩
  · rw [List.getD_eq_getElem?_getD]
    have : p + 0 = p := rfl
    rw [this] at h1
    rw [h1]
    rfl
  · have : t.drop (p + 1) = (t.drop p).drop 1 := by rw [List.drop_drop]
    rw [this, h]
    rfl

/-- the end of a scan -/
theorem ends_of {t : Bytes} {z : Scan} {D : Garden} (I : Inv1 (fun q => t.getD q 0) t.length z) (h : z.ends = some D) : Shows t D := by
  obtain ⟨line, col, w, full, up, lev, cur⟩ := z
  obtain ⟨l1, c1, w1, w2, pp, l2, ok, fu, upl, upc, levl, curl, lc⟩ := I
  simp only at l1 c1 w1 w2 pp l2 ok fu upl upc levl curl lc
  unfold Scan.ends at h
  simp only at h
  split at h
  case isFalse => cases h
  case isTrue hc =>
  obtain ⟨rfl, ho, h3, rfl⟩ := hc
  cases h
  have hh : line = 2 * (line / 2) + 1 := by omega
  have f1 := fu.mp rfl
  rw [if_neg (by omega)] at levl curl
  rw [if_pos ho] at upl
  have e0 : min ((0 - 1) / 2) (w - 1) = 0 := by omega
  rw [e0] at upl
  rw [if_pos (by omega)] at curl
  generalize hq : line / 2 = h at *
  subst hh
  refine ⟨⟨w1, w2, by dsimp only; omega, by dsimp only; omega, by dsimp only; omega, ?_⟩, ?_, ?_⟩
  · dsimp only
    intro y x hy hx
    have hb : y * (2 * w + 2) + x < t.length := by
      have := Nat.mul_le_mul_right (2 * w + 2) (show y + 1 ≤ 2 * h + 1 by omega)
      rw [Nat.succ_mul] at this
      omega
    have g := ok y x hx hb
    by_cases hl : y = 2 * h
    · subst hl
      unfold okSign at g ⊢
      split
      · rw [if_pos (by assumption)] at g
        exact g
      · rw [if_neg (by assumption)] at g
        split
        · rw [if_pos (by assumption)] at g
          exact g
        · rw [if_neg (by assumption)] at g
          split
          · rw [if_pos (by assumption)] at g
            exact g
          · rw [if_pos (by simp), if_pos (by omega)]
            exact f1 x (by omega) (by omega) hb
    · have : (decide (y = 2 * h)) = false := decide_eq_false hl
      rw [this]
      exact g
  · dsimp only
    intro r c hc hr
    have hb : (2 * r + 1) * (2 * w + 2) + (2 * c + 2) < t.length := by
      have := Nat.mul_le_mul_right (2 * w + 2) (show 2 * r + 1 + 1 ≤ 2 * h + 1 by omega)
      rw [Nat.succ_mul] at this
      omega
    have g := upc r c hc hb
    rw [List.getD_eq_getElem?_getD, List.getElem?_append_left (List.getElem?_eq_some_iff.mp g).1, g]
    rfl
  · dsimp only
    intro r c hc hr
    have hb : (2 * r + 2) * (2 * w + 2) + (2 * c + 1) < t.length := by
      have := Nat.mul_le_mul_right (2 * w + 2) (show 2 * r + 2 + 1 ≤ 2 * h + 1 by omega)
      rw [Nat.succ_mul] at this
      omega
    have g := lc r c hc hb
    have hl : r * w + c < lev.length := by
      rw [levl]
      have := Nat.mul_le_mul_right w (show r + 1 ≤ h - 1 by omega)
      rw [Nat.succ_mul] at this
      omega
    rw [List.getElem?_append_left hl] at g
    have hu : up.length = (w - 1) * h := by rw [upl, Nat.mul_comm]; rfl
    rw [List.getD_eq_getElem?_getD, ← hu, List.getElem?_append_right (Nat.le_add_right _ _), Nat.add_sub_cancel_left, g]
    rfl

theorem scan1 {t : Bytes} : ∀ (r : Bytes) (p : Nat) (z : Scan) (D : Garden), t.drop p = r → p ≤ t.length → Inv1 (fun q => t.getD q 0) p z → scanFrom p z r = .ok D → Shows t D
  | [], p, z, D, hd, hp, I, h => by
    have hl : p = t.length := by
      have := congrArg List.length hd
      rw [List.length_drop] at this
      simp at this
      omega
    subst hl
    unfold scanFrom at h
    cases e : z.ends with
    | none => rw [e] at h; cases h
    | some D' =>
      rw [e] at h
      cases h
      exact ends_of I e
  | c :: r, p, z, D, hd, hp, I, h => by
    obtain ⟨h1, h2, h3⟩ := drop_get hd
    unfold scanFrom at h
    cases e : z.sign c with
    | none => rw [e] at h; cases h
    | some y =>
      rw [e] at h
      have I2 := (inv1_step I (by show z.sign (t.getD p 0) = some y; rw [h2]; exact e)).1
      exact scan1 r (p + 1) y D h3 h1 I2 h

theorem scan0 {t : Bytes} : ∀ (r : Bytes) (p : Nat) (z : Scan) (D : Garden), t.drop p = r → p ≤ t.length → Inv0 (fun q => t.getD q 0) p z → scanFrom p z r = .ok D → Shows t D
  | [], p, z, D, hd, hp, I, h => by
    unfold scanFrom at h
    cases e : z.ends with
    | none => rw [e] at h; cases h
    | some D' =>
      exfalso
      unfold Scan.ends at e
      rw [if_neg (by rw [I.line]; omega)] at e
      cases e
  | c :: r, p, z, D, hd, hp, I, h => by
    obtain ⟨h1, h2, h3⟩ := drop_get hd
    unfold scanFrom at h
    cases e : z.sign c with
    | none => rw [e] at h; cases h
    | some y =>
      rw [e] at h
      rcases inv0_step I (by show z.sign (t.getD p 0) = some y; rw [h2]; exact e) with I2 | I2
      · exact scan0 r (p + 1) y D h3 h1 I2 h
      · exact scan1 r (p + 1) y D h3 h1 I2.1 h

theorem begun {b : Nat → UInt8} : Inv0 b 0 scanBegun := ⟨rfl, rfl, rfl, rfl, rfl, rfl, by omega, fun q h => by omega⟩

theorem shows_of {t : Bytes} {D : Garden} (h : readDrawing t = .ok D) : Shows t D := scan0 t 0 scanBegun D rfl (Nat.zero_le _) begun h

/-- a sign of a drawing can be read -/
theorem sign1 {t : Bytes} {w h p : Nat} {z : Scan} (P : Drawn t w h) (I : Inv1 (fun q => t.getD q 0) p z) (hw : z.wide = w) (hp : p < t.length) : ∃ y, z.sign (t.getD p 0) = some y := by
  obtain ⟨line, col, w', full, up, lev, cur⟩ := z
  obtain ⟨l1, c1, _, _, pp, l2, ok, fu, upl, upc, levl, curl, lc⟩ := I
  simp only at hw
  subst hw
  simp only at l1 c1 pp l2
  have hl : line < 2 * h + 1 := by
    rcases Nat.lt_or_ge line (2 * h + 1) with g | g
    · exact g
    · have := Nat.mul_le_mul_right (2 * w' + 2) g
      rw [P.len] at hp
      omega
  have g := P.ok line col hl (by omega)
  rw [← pp] at g
  have hh := P.h2
  have hw1 := P.w1
  generalize t.getD p 0 = c at g ⊢
  unfold Scan.sign
  simp only
  rw [if_neg (by omega)]
  unfold okSign at g
  unfold SIDE
  by_cases ho : line % 2 = 1
  · rw [if_pos ho]
    by_cases hc0 : col = 0
    · rw [if_pos hc0]
      rw [if_neg (by omega), if_neg (by omega), if_neg (by omega), if_pos (by omega), if_neg (by omega)] at g
      rw [if_pos ⟨g, by omega⟩]
      exact ⟨_, rfl⟩
    · rw [if_neg hc0]
      by_cases hce : col = 2 * w' + 1
      · rw [if_pos hce] at g ⊢
        rw [if_pos g]
        exact ⟨_, rfl⟩
      · rw [if_neg hce] at g ⊢
        rw [if_neg (by omega)] at g
        by_cases hcx : col % 2 = 1
        · rw [if_pos ⟨ho, hcx⟩] at g
          rw [if_pos hcx, if_pos g]
          exact ⟨_, rfl⟩
        · rw [if_neg (by omega)] at g
          rw [if_neg hcx]
          by_cases hcw : col = 2 * w'
          · rw [if_pos (by omega), if_neg (by omega)] at g
            rw [if_pos hcw, if_pos g]
            exact ⟨_, rfl⟩
          · rw [if_neg hcw]
            have hd : decide (line = 2 * h) = false := decide_eq_false (by omega)
            rw [if_neg (by rw [hd]; simp; omega), if_neg (by omega)] at g
            rw [if_pos g]
            exact ⟨_, rfl⟩
  · rw [if_neg ho]
    by_cases hce : col = 2 * w' + 1
    · rw [if_pos hce] at g ⊢
      rw [if_pos g]
      exact ⟨_, rfl⟩
    · rw [if_neg hce] at g ⊢
      by_cases hcx : col % 2 = 0
      · rw [if_pos (by omega)] at g
        rw [if_pos hcx, if_pos g]
        exact ⟨_, rfl⟩
      · rw [if_neg (by omega), if_neg (by omega)] at g
        rw [if_neg hcx]
        by_cases h45 : c = 45
        · rw [if_pos h45]
          exact ⟨_, rfl⟩
        · rw [if_neg h45]
          by_cases hlast : line = 2 * h
          · rw [if_pos (.inr (.inl (decide_eq_true hlast))), if_pos (by omega)] at g
            exact absurd g h45
          · have hd : decide (line = 2 * h) = false := decide_eq_false hlast
            rw [if_neg (by rw [hd]; simp; omega), if_pos (by omega)] at g
            rcases g with g | g
            · exact absurd g h45
            · rw [if_pos ⟨g, by omega⟩]
              exact ⟨_, rfl⟩

theorem end1 {t : Bytes} {w h : Nat} {z : Scan} (P : Drawn t w h) (I : Inv1 (fun q => t.getD q 0) t.length z) (hw : z.wide = w) : ∃ D, z.ends = some D ∧ D.wide = w ∧ D.high = h := by
  obtain ⟨line, col, w', full, up, lev, cur⟩ := z
  obtain ⟨l1, c1, _, _, pp, l2, ok, fu, upl, upc, levl, curl, lc⟩ := I
  simp only at hw
  subst hw
  simp only at l1 c1 pp l2 fu
  have e : line * (2 * w' + 2) + col = (2 * h + 1) * (2 * w' + 2) + 0 := by rw [← pp, P.len]; rfl
  obtain ⟨rfl, rfl⟩ := uniq e (by omega) (by omega)
  have hh := P.h1
  have e2 : (2 * h + 1) / 2 = h := by omega
  rw [e2] at fu
  have hf : full = true := by
    rw [fu]
    intro x hx1 hx2 hx3
    have g := P.ok (2 * h) x (by omega) (by omega)
    unfold okSign at g
    rw [if_neg (by omega), if_neg (by omega), if_neg (by omega), if_pos (by simp), if_pos (by omega)] at g
    exact g
  unfold Scan.ends
  simp only
  rw [if_pos ⟨trivial, by omega, by omega, hf⟩]
  exact ⟨_, rfl, rfl, e2⟩

theorem all1 {t : Bytes} {w h : Nat} (P : Drawn t w h) : ∀ (r : Bytes) (p : Nat) (z : Scan), t.drop p = r → p ≤ t.length → Inv1 (fun q => t.getD q 0) p z → z.wide = w → ∃ D, scanFrom p z r = .ok D ∧ D.wide = w ∧ D.high = h
  | [], p, z, hd, hp, I, hw => by
    have hl : p = t.length := by
      have := congrArg List.length hd
      rw [List.length_drop] at this
      simp at this
      omega
    subst hl
    obtain ⟨D, e, e1, e2⟩ := end1 P I hw
    unfold scanFrom
    rw [e]
    exact ⟨D, rfl, e1, e2⟩
  | c :: r, p, z, hd, hp, I, hw => by
    obtain ⟨h1, h2, h3⟩ := drop_get hd
    obtain ⟨y, e⟩ := sign1 P I hw h1
    obtain ⟨I2, hw2⟩ := inv1_step I e
    rw [h2] at e
    unfold scanFrom
    rw [e]
    exact all1 P r (p + 1) y h3 h1 I2 (hw2.trans hw)

theorem all0 {t : Bytes} {w h : Nat} (P : Drawn t w h) : ∀ (r : Bytes) (p : Nat) (z : Scan), t.drop p = r → p ≤ 2 * w + 1 → Inv0 (fun q => t.getD q 0) p z → ∃ D, scanFrom p z r = .ok D ∧ D.wide = w ∧ D.high = h
  | [], p, z, hd, hp, I => by
    exfalso
    have hlen : 2 * w + 2 ≤ t.length := by
      rw [P.len]
      have := Nat.mul_le_mul_right (2 * w + 2) (show 1 ≤ 2 * h + 1 by omega)
      omega
    have := congrArg List.length hd
    rw [List.length_drop] at this
    simp at this
    omega
  | c :: r, p, z, hd, hp, I => by
    have hw1 := P.w1
    have hw2 := P.w2
    obtain ⟨h1, h2, h3⟩ := drop_get hd
    have g := P.ok 0 p (by omega) (by omega)
    rw [Nat.zero_mul, Nat.zero_add, h2] at g
    have hs : ∃ y, z.sign c = some y := by
      obtain ⟨line, col, w', full, up, lev, cur⟩ := z
      obtain ⟨e1, e2, e3, e4, e5, e6, pl, ok⟩ := I
      simp only at e1 e2
      subst e1 e2
      unfold okSign at g
      unfold Scan.sign SIDE
      simp only
      rw [if_pos trivial]
      by_cases hx : col % 2 = 0
      · rw [if_neg (by omega), if_pos (by omega)] at g
        rw [if_pos hx, if_pos g]
        exact ⟨_, rfl⟩
      · rw [if_neg hx]
        by_cases hce : col = 2 * w + 1
        · rw [if_pos hce] at g
          rw [if_neg (fun k => absurd (g.symm.trans k.1) (by decide)), if_pos ⟨g, by omega⟩]
          exact ⟨_, rfl⟩
        · rw [if_neg hce, if_neg (by omega), if_neg (by omega), if_pos (by omega), if_pos (by omega)] at g
          rw [if_pos ⟨g, by omega⟩]
          exact ⟨_, rfl⟩
    obtain ⟨y, e⟩ := hs
    unfold scanFrom
    rw [e]
    rcases inv0_step I (by show z.sign (t.getD p 0) = some y; rw [h2]; exact e) with I2 | ⟨I2, hb, hy, hx⟩
    · have hne : p ≠ 2 * w + 1 := by
        intro hc
        unfold okSign at g
        rw [if_pos hc] at g
        have := (I2.ok p (by omega)).2 (by omega)
        simp only [h2] at this
        rw [g] at this
        exact absurd this (by decide)
      exact all0 P r (p + 1) y h3 (by omega) I2
    · refine all1 P r (p + 1) y h3 h1 I2 ?_
      rw [hy]
      have : p = 2 * w + 1 := by
        rcases Nat.lt_or_ge p (2 * w + 1) with k | k
        · exfalso
          simp only [h2] at hb
          unfold okSign at g
          rw [if_neg (by omega), if_neg (by omega), if_neg (by omega), if_pos (by omega), if_pos (by omega), hb] at g
          exact absurd g (by decide)
        · omega
      omega

theorem reads {t : Bytes} {w h : Nat} (P : Drawn t w h) : ∃ D, readDrawing t = .ok D ∧ D.wide = w ∧ D.high = h := all0 P t 0 scanBegun rfl (Nat.zero_le _) begun

end Tw

set_option maxRecDepth 4000
set_option maxHeartbeats 1000000
namespace Tw
open Maze

def place (w s k : Nat) : Nat :=
  if k = 0 then (2 * (s / w)) * (2 * w + 2) + (2 * (s % w) + 1)
  else if k = 1 then (2 * (s / w) + 1) * (2 * w + 2) + (2 * (s % w) + 2)
  else if k = 2 then (2 * (s / w) + 2) * (2 * w + 2) + (2 * (s % w) + 1)
  else (2 * (s / w) + 1) * (2 * w + 2) + 2 * (s % w)
def nextSq (w s k : Nat) : Nat := if k = 0 then s - w else if k = 1 then s + 1 else if k = 2 then s + w else s - 1

theorem rc {w s : Nat} : s = (s / w) * w + s % w := by
  have := Nat.div_add_mod s w
  rw [Nat.mul_comm] at this
  exact this.symm
theorem div_of {w r c : Nat} (h : c < w) : (r * w + c) / w = r := by
  rw [Nat.mul_comm, Nat.mul_add_div (by omega), Nat.div_eq_of_lt h]
  rfl
theorem mod_of {w r c : Nat} (h : c < w) : (r * w + c) % w = c := by
  rw [Nat.mul_comm, Nat.mul_add_mod, Nat.mod_eq_of_lt h]
theorem row_lt {w h s : Nat} (hs : s < w * h) (_ : 1 ≤ w) : s / w < h := Nat.div_lt_of_lt_mul hs

/-- the square beyond, by row and column -/
theorem next0 {w s : Nat} (hw : 1 ≤ w) (h : 0 < s / w) : (s - w) / w = s / w - 1 ∧ (s - w) % w = s % w ∧ w ≤ s := by
  have e := @rc w s
  have hc := Nat.mod_lt s (show 0 < w by omega)
  obtain ⟨r, hr⟩ : ∃ r, s / w = r + 1 := ⟨s / w - 1, by omega⟩
  rw [hr, Nat.succ_mul] at e
  have e2 : s - w = r * w + s % w := by omega
  rw [e2, div_of hc, mod_of hc]
  omega
theorem next1 {w s : Nat} (h : s % w + 1 < w) : (s + 1) / w = s / w ∧ (s + 1) % w = s % w + 1 := by
  have e := @rc w s
  have e2 : s + 1 = (s / w) * w + (s % w + 1) := by omega
  rw [e2, div_of h, mod_of h]
  have hc : s % w < w := by omega
  exact ⟨rfl, rfl⟩
theorem next2 {w s : Nat} (hw : 1 ≤ w) : (s + w) / w = s / w + 1 ∧ (s + w) % w = s % w := by
  have hc := Nat.mod_lt s (show 0 < w by omega)
  have e := @rc w s
  have e2 : s + w = (s / w + 1) * w + s % w := by rw [Nat.succ_mul]; omega
  rw [e2, div_of hc, mod_of hc]
  exact ⟨rfl, rfl⟩
theorem next3 {w s : Nat} (hw : 1 ≤ w) (h : 0 < s % w) : (s - 1) / w = s / w ∧ (s - 1) % w = s % w - 1 ∧ 1 ≤ s := by
  have hc := Nat.mod_lt s (show 0 < w by omega)
  have e := @rc w s
  have e2 : s - 1 = (s / w) * w + (s % w - 1) := by omega
  rw [e2, div_of (by omega), mod_of (by omega)]
  refine ⟨rfl, rfl, by omega⟩
theorem lt_of_row {w h s : Nat} (hw : 1 ≤ w) (hr : s / w < h) : s < w * h := by
  have hc := Nat.mod_lt s (show 0 < w by omega)
  have e := @rc w s
  have := Nat.mul_le_mul_right w (show s / w + 1 ≤ h by omega)
  rw [Nat.succ_mul, Nat.mul_comm h w] at this
  omega

section
variable {t : Bytes} {D : Garden}

/-- a blank at an inner level side, a hedge elsewhere -/
theorem goes_eq (S : Shows t D) {s k : Nat} (hs : s < D.squares) (hk : k < 4) :
    D.goes s k = if t.getD (place D.wide s k) 0 = 32 then some (nextSq D.wide s k) else none := by
  have hw1 := S.w1
  have hr : s / D.wide < D.high := row_lt hs hw1
  have hc := Nat.mod_lt s (show 0 < D.wide by omega)
  have rcs := @rc D.wide s
  obtain rfl | rfl | rfl | rfl : k = 0 ∨ k = 1 ∨ k = 2 ∨ k = 3 := by omega
  · -- upper
    have ep : place D.wide s 0 = (2 * (s / D.wide)) * (2 * D.wide + 2) + (2 * (s % D.wide) + 1) := if_pos rfl
    have en : nextSq D.wide s 0 = s - D.wide := if_pos rfl
    rw [ep, en]
    have ok := S.ok (2 * (s / D.wide)) (2 * (s % D.wide) + 1) (by omega) (by omega)
    unfold okSign at ok
    rw [if_neg (by omega), if_neg (by omega), if_neg (by omega)] at ok
    unfold Garden.goes Garden.beyond Garden.row
    rw [if_pos rfl]
    by_cases h0 : 0 < s / D.wide
    · rw [if_pos h0]
      have hd : decide (2 * (s / D.wide) = 2 * D.high) = false := decide_eq_false (by omega)
      rw [if_neg (by rw [hd]; simp; omega), if_pos (by omega)] at ok
      simp only
      unfold Garden.hedge Garden.sideOf Garden.uprights Garden.row Garden.col
      rw [if_neg (show ¬ (0 : Nat) = 1 by decide), if_neg (show ¬ (0 : Nat) = 3 by decide), if_neg (show ¬ (0 : Nat) = 2 by decide)]
      have lv := S.lev (s / D.wide - 1) (s % D.wide) hc (by omega)
      rw [lv, show 2 * (s / D.wide - 1) + 2 = 2 * (s / D.wide) by omega]
      rcases ok with ok | ok
      · rw [ok]; rfl
      · rw [ok]; rfl
    · rw [if_neg h0]
      rw [if_pos (by omega), if_pos (by omega)] at ok
      rw [ok]
      rfl
  · -- right
    have ep : place D.wide s 1 = (2 * (s / D.wide) + 1) * (2 * D.wide + 2) + (2 * (s % D.wide) + 2) := rfl
    have en : nextSq D.wide s 1 = s + 1 := rfl
    rw [ep, en]
    have ok := S.ok (2 * (s / D.wide) + 1) (2 * (s % D.wide) + 2) (by omega) (by omega)
    unfold okSign at ok
    rw [if_neg (by omega), if_neg (by omega), if_neg (by omega)] at ok
    unfold Garden.goes Garden.beyond Garden.col
    rw [if_neg (show ¬ (1 : Nat) = 0 by decide), if_pos (show (1 : Nat) = 1 from rfl)]
    have hd : decide (2 * (s / D.wide) + 1 = 2 * D.high) = false := decide_eq_false (by omega)
    by_cases h0 : s % D.wide + 1 < D.wide
    · rw [if_pos h0]
      rw [if_neg (by rw [hd]; simp; omega), if_neg (by omega)] at ok
      simp only
      unfold Garden.hedge Garden.sideOf Garden.row Garden.col
      rw [if_pos rfl]
      have lv := S.upr (s / D.wide) (s % D.wide) h0 hr
      rw [lv]
      rcases ok with ok | ok
      · rw [ok]; rfl
      · rw [ok]; rfl
    · rw [if_neg h0]
      rw [if_pos (by omega), if_neg (by omega)] at ok
      rw [ok]
      rfl
  · -- lower
    have ep : place D.wide s 2 = (2 * (s / D.wide) + 2) * (2 * D.wide + 2) + (2 * (s % D.wide) + 1) := rfl
    have en : nextSq D.wide s 2 = s + D.wide := rfl
    rw [ep, en]
    have ok := S.ok (2 * (s / D.wide) + 2) (2 * (s % D.wide) + 1) (by omega) (by omega)
    unfold okSign at ok
    rw [if_neg (by omega), if_neg (by omega), if_neg (by omega)] at ok
    unfold Garden.goes Garden.beyond Garden.row
    rw [if_neg (show ¬ (2 : Nat) = 0 by decide), if_neg (show ¬ (2 : Nat) = 1 by decide), if_pos (show (2 : Nat) = 2 from rfl)]
    by_cases h0 : s / D.wide + 1 < D.high
    · rw [if_pos h0]
      have hd : decide (2 * (s / D.wide) + 2 = 2 * D.high) = false := decide_eq_false (by omega)
      rw [if_neg (by rw [hd]; simp; omega), if_pos (by omega)] at ok
      simp only
      unfold Garden.hedge Garden.sideOf Garden.uprights Garden.row Garden.col
      rw [if_neg (show ¬ (2 : Nat) = 1 by decide), if_neg (show ¬ (2 : Nat) = 3 by decide), if_pos (show (2 : Nat) = 2 from rfl)]
      have lv := S.lev (s / D.wide) (s % D.wide) hc h0
      rw [lv]
      rcases ok with ok | ok
      · rw [ok]; rfl
      · rw [ok]; rfl
    · rw [if_neg h0]
      rw [if_pos (.inr (.inl (decide_eq_true (by omega)))), if_pos (by omega)] at ok
      rw [ok]
      rfl
  · -- left
    have ep : place D.wide s 3 = (2 * (s / D.wide) + 1) * (2 * D.wide + 2) + 2 * (s % D.wide) := rfl
    have en : nextSq D.wide s 3 = s - 1 := rfl
    rw [ep, en]
    have ok := S.ok (2 * (s / D.wide) + 1) (2 * (s % D.wide)) (by omega) (by omega)
    unfold okSign at ok
    rw [if_neg (by omega), if_neg (by omega), if_neg (by omega)] at ok
    unfold Garden.goes Garden.beyond Garden.col
    rw [if_neg (show ¬ (3 : Nat) = 0 by decide), if_neg (show ¬ (3 : Nat) = 1 by decide), if_neg (show ¬ (3 : Nat) = 2 by decide)]
    have hd : decide (2 * (s / D.wide) + 1 = 2 * D.high) = false := decide_eq_false (by omega)
    by_cases h0 : 0 < s % D.wide
    · rw [if_pos h0]
      rw [if_neg (by rw [hd]; simp; omega), if_neg (by omega)] at ok
      simp only
      unfold Garden.hedge Garden.sideOf Garden.row Garden.col
      rw [if_neg (show ¬ (3 : Nat) = 1 by decide), if_pos (show (3 : Nat) = 3 from rfl)]
      have lv := S.upr (s / D.wide) (s % D.wide - 1) (by omega) hr
      rw [lv, show 2 * (s % D.wide - 1) + 2 = 2 * (s % D.wide) by omega]
      rcases ok with ok | ok
      · rw [ok]; rfl
      · rw [ok]; rfl
    · rw [if_neg h0]
      rw [if_pos (by omega), if_neg (by omega)] at ok
      rw [ok]
      rfl

/-- where a passage is, the square beyond stands in the garden, and the way back is the same place -/
theorem pass (S : Shows t D) {s k : Nat} (hs : s < D.squares) (hk : k < 4) (hb : t.getD (place D.wide s k) 0 = 32) :
    nextSq D.wide s k < D.squares ∧ place D.wide (nextSq D.wide s k) ((k + 2) % 4) = place D.wide s k ∧ nextSq D.wide (nextSq D.wide s k) ((k + 2) % 4) = s := by
  have hw1 := S.w1
  have hr : s / D.wide < D.high := row_lt hs hw1
  have hc := Nat.mod_lt s (show 0 < D.wide by omega)
  have ok : ∀ y x, y < 2 * D.high + 1 → x < 2 * D.wide + 2 → place D.wide s k = y * (2 * D.wide + 2) + x → okSign D.wide (decide (y = 2 * D.high)) y x 32 := by
    intro y x hy hx e
    have := S.ok y x hy hx
    rw [← e, hb] at this
    exact this
  obtain rfl | rfl | rfl | rfl : k = 0 ∨ k = 1 ∨ k = 2 ∨ k = 3 := by omega
  · have ok := ok (2 * (s / D.wide)) (2 * (s % D.wide) + 1) (by omega) (by omega) rfl
    have h0 : 0 < s / D.wide := by
      rcases Nat.eq_zero_or_pos (s / D.wide) with g | g
      · exfalso
        unfold okSign at ok
        rw [if_neg (by omega), if_neg (by omega), if_neg (by omega), if_pos (by omega), if_pos (by omega)] at ok
        exact absurd ok (by decide)
      · exact g
    obtain ⟨e1, e2, e3⟩ := next0 hw1 h0
    have en : nextSq D.wide s 0 = s - D.wide := rfl
    rw [en]
    refine ⟨lt_of_row hw1 (by rw [e1]; omega), ?_, ?_⟩
    · show (2 * ((s - D.wide) / D.wide) + 2) * (2 * D.wide + 2) + (2 * ((s - D.wide) % D.wide) + 1) = (2 * (s / D.wide)) * (2 * D.wide + 2) + (2 * (s % D.wide) + 1)
      rw [e1, e2, show 2 * (s / D.wide - 1) + 2 = 2 * (s / D.wide) by omega]
    · show s - D.wide + D.wide = s
      omega
  · have ok := ok (2 * (s / D.wide) + 1) (2 * (s % D.wide) + 2) (by omega) (by omega) rfl
    have h0 : s % D.wide + 1 < D.wide := by
      rcases Nat.lt_or_ge (s % D.wide + 1) D.wide with g | g
      · exact g
      · exfalso
        unfold okSign at ok
        rw [if_neg (by omega), if_neg (by omega), if_neg (by omega), if_pos (by omega), if_neg (by omega)] at ok
        exact absurd ok (by decide)
    obtain ⟨e1, e2⟩ := next1 h0
    have en : nextSq D.wide s 1 = s + 1 := rfl
    rw [en]
    refine ⟨lt_of_row hw1 (by rw [e1]; omega), ?_, ?_⟩
    · show (2 * ((s + 1) / D.wide) + 1) * (2 * D.wide + 2) + 2 * ((s + 1) % D.wide) = (2 * (s / D.wide) + 1) * (2 * D.wide + 2) + (2 * (s % D.wide) + 2)
      rw [e1, e2, show 2 * (s % D.wide + 1) = 2 * (s % D.wide) + 2 by omega]
    · show s + 1 - 1 = s
      omega
  · have ok := ok (2 * (s / D.wide) + 2) (2 * (s % D.wide) + 1) (by omega) (by omega) rfl
    have h0 : s / D.wide + 1 < D.high := by
      rcases Nat.lt_or_ge (s / D.wide + 1) D.high with g | g
      · exact g
      · exfalso
        unfold okSign at ok
        rw [if_neg (by omega), if_neg (by omega), if_neg (by omega), if_pos (.inr (.inl (decide_eq_true (by omega)))), if_pos (by omega)] at ok
        exact absurd ok (by decide)
    obtain ⟨e1, e2⟩ := @next2 D.wide s hw1
    have en : nextSq D.wide s 2 = s + D.wide := rfl
    rw [en]
    refine ⟨lt_of_row hw1 (by rw [e1]; omega), ?_, ?_⟩
    · show (2 * ((s + D.wide) / D.wide)) * (2 * D.wide + 2) + (2 * ((s + D.wide) % D.wide) + 1) = (2 * (s / D.wide) + 2) * (2 * D.wide + 2) + (2 * (s % D.wide) + 1)
      rw [e1, e2, show 2 * (s / D.wide + 1) = 2 * (s / D.wide) + 2 by omega]
    · show s + D.wide - D.wide = s
      omega
  · have ok := ok (2 * (s / D.wide) + 1) (2 * (s % D.wide)) (by omega) (by omega) rfl
    have h0 : 0 < s % D.wide := by
      rcases Nat.eq_zero_or_pos (s % D.wide) with g | g
      · exfalso
        unfold okSign at ok
        rw [if_neg (by omega), if_neg (by omega), if_neg (by omega), if_pos (by omega), if_neg (by omega)] at ok
        exact absurd ok (by decide)
      · exact g
    obtain ⟨e1, e2, e3⟩ := next3 hw1 h0
    have en : nextSq D.wide s 3 = s - 1 := rfl
    rw [en]
    refine ⟨lt_of_row hw1 (by rw [e1]; omega), ?_, ?_⟩
    · show (2 * ((s - 1) / D.wide) + 1) * (2 * D.wide + 2) + (2 * ((s - 1) % D.wide) + 2) = (2 * (s / D.wide) + 1) * (2 * D.wide + 2) + 2 * (s % D.wide)
      rw [e1, e2, show 2 * (s % D.wide - 1) + 2 = 2 * (s % D.wide) by omega]
    · show s - 1 + 1 = s
      omega

/-- one place, one passage: the side itself or the way back -/
theorem place_inj {w s k s' k' : Nat} (hw : 1 ≤ w) (hk : k < 4) (hk' : k' < 4) (h : place w s k = place w s' k') :
    (s' = s ∧ k' = k) ∨ (k' = (k + 2) % 4 ∧ s' = nextSq w s k) := by
  have hc := Nat.mod_lt s (show 0 < w by omega)
  have hc' := Nat.mod_lt s' (show 0 < w by omega)
  have e := @rc w s
  have e' := @rc w s'
  have fin : ∀ {y x y' x'}, y * (2 * w + 2) + x = y' * (2 * w + 2) + x' → x < 2 * w + 2 → x' < 2 * w + 2 → y = y' ∧ x = x' := fun h hx hx' => uniq h hx hx'
  have same : s / w = s' / w → s % w = s' % w → s' = s := by
    intro h1 h2
    rw [e', e, h1, h2]
  obtain rfl | rfl | rfl | rfl : k = 0 ∨ k = 1 ∨ k = 2 ∨ k = 3 := by omega
  all_goals obtain rfl | rfl | rfl | rfl : k' = 0 ∨ k' = 1 ∨ k' = 2 ∨ k' = 3 := by omega
  all_goals
    simp only [place] at h
    obtain ⟨h1, h2⟩ := fin h (by omega) (by omega)
  · exact .inl ⟨same (by omega) (by omega), rfl⟩
  · omega
  · refine .inr ⟨rfl, ?_⟩
    have hr : s / w = s' / w + 1 := by omega
    rw [hr, Nat.succ_mul] at e
    show s' = s - w
    have hm : s % w = s' % w := by omega
    omega
  · omega
  · omega
  · exact .inl ⟨same (by omega) (by omega), rfl⟩
  · omega
  · refine .inr ⟨rfl, ?_⟩
    have hr : s / w = s' / w := by omega
    rw [hr] at e
    show s' = s + 1
    omega
  · refine .inr ⟨rfl, ?_⟩
    have hr : s' / w = s / w + 1 := by omega
    rw [hr, Nat.succ_mul] at e'
    show s' = s + w
    have hm : s % w = s' % w := by omega
    omega
  · omega
  · exact .inl ⟨same (by omega) (by omega), rfl⟩
  · omega
  · omega
  · refine .inr ⟨rfl, ?_⟩
    have hr : s / w = s' / w := by omega
    rw [hr] at e
    show s' = s - 1
    omega
  · omega
  · exact .inl ⟨same (by omega) (by omega), rfl⟩
end
end Tw

set_option maxRecDepth 4000
set_option maxHeartbeats 1000000
namespace Tw
open Maze

/-- what steps are worth -/
structure Graph (D : Garden) : Prop where
  lt : ∀ e, D.isStep e = true → e < 4 * D.squares
  comes_lt : ∀ e, D.isStep e = true → D.comes e < D.squares
  rev_step : ∀ e, D.isStep e = true → D.isStep (D.reverse e) = true
  rev_rev : ∀ e, D.isStep e = true → D.reverse (D.reverse e) = e
  rev_comes : ∀ e, D.isStep e = true → D.comes (D.reverse e) = e / 4
  rev_ne : ∀ e, D.isStep e = true → D.reverse e ≠ e

section
variable {t : Bytes} {D : Garden}
theorem e4 (e : Nat) : 4 * (e / 4) + e % 4 = e := Nat.div_add_mod e 4
theorem d4 {s k : Nat} (hk : k < 4) : (4 * s + k) / 4 = s := by omega
theorem m4 {s k : Nat} (hk : k < 4) : (4 * s + k) % 4 = k := by omega

theorem isStep_iff (S : Shows t D) {s k : Nat} (hk : k < 4) : D.isStep (4 * s + k) = true ↔ s < D.squares ∧ t.getD (place D.wide s k) 0 = 32 := by
  unfold Garden.isStep
  rw [d4 hk, m4 hk, Bool.and_eq_true, decide_eq_true_iff]
  constructor
  · rintro ⟨h1, h2⟩
    have hs : s < D.squares := by omega
    refine ⟨hs, ?_⟩
    rw [goes_eq S hs hk] at h2
    split at h2
    · assumption
    · cases h2
  · rintro ⟨hs, h2⟩
    refine ⟨by omega, ?_⟩
    rw [goes_eq S hs hk, if_pos h2]
    rfl
theorem comes_eq (S : Shows t D) {s k : Nat} (hk : k < 4) (h : D.isStep (4 * s + k) = true) : D.comes (4 * s + k) = nextSq D.wide s k := by
  obtain ⟨hs, hb⟩ := (isStep_iff S hk).mp h
  unfold Garden.comes
  rw [d4 hk, m4 hk, goes_eq S hs hk, if_pos hb]
  rfl
theorem rev_eq {s k : Nat} : D.reverse (4 * s + k) = 4 * D.comes (4 * s + k) + (k + 2) % 4 := by
  unfold Garden.reverse
  omega

theorem graph (S : Shows t D) : Graph D := by
  have key : ∀ e, D.isStep e = true → D.comes e < D.squares ∧ D.isStep (D.reverse e) = true ∧ D.reverse (D.reverse e) = e ∧ D.comes (D.reverse e) = e / 4 ∧ D.reverse e ≠ e := by
    intro e he
    have hk : e % 4 < 4 := Nat.mod_lt _ (by omega)
    have hk2 : (e % 4 + 2) % 4 < 4 := Nat.mod_lt _ (by omega)
    rw [← e4 e] at he
    obtain ⟨hs, hb⟩ := (isStep_iff S hk).mp he
    obtain ⟨p1, p2, p3⟩ := pass S hs hk hb
    have hc := comes_eq S hk he
    have hr : D.reverse e = 4 * nextSq D.wide (e / 4) (e % 4) + (e % 4 + 2) % 4 := by
      have := @rev_eq D (e / 4) (e % 4)
      rw [hc, e4] at this
      exact this
    rw [e4] at hc
    have st : D.isStep (D.reverse e) = true := by
      rw [hr, isStep_iff S hk2, p2]
      exact ⟨p1, hb⟩
    have c2 : D.comes (D.reverse e) = e / 4 := by
      rw [hr, comes_eq S hk2 (by rw [← hr]; exact st), p3]
    refine ⟨by rw [hc]; exact p1, st, ?_, c2, ?_⟩
    · have h1 := @rev_eq D (nextSq D.wide (e / 4) (e % 4)) ((e % 4 + 2) % 4)
      rw [← hr, c2] at h1
      rw [h1]
      omega
    · intro h
      rw [hr] at h
      omega
  exact ⟨fun e he => by
      unfold Garden.isStep at he
      rw [Bool.and_eq_true, decide_eq_true_iff] at he
      exact he.1,
    fun e he => (key e he).1, fun e he => (key e he).2.1, fun e he => (key e he).2.2.1, fun e he => (key e he).2.2.2.1, fun e he => (key e he).2.2.2.2⟩
end

/-! The thread's own state -/
def backEdges (D : Garden) : Nat → List Nat → List Nat
  | _, [] => []
  | a, k :: r => (4 * a + k) :: backEdges D (D.comes (4 * a + k)) r
def backs (z : Thread) : List Nat := z.turn.toList ++ z.back

structure Good (D : Garden) (z : Thread) : Prop where
  at_lt : z.at_ < D.squares
  nd : z.gone.Nodup
  st : ∀ e, e ∈ z.gone → D.isStep e = true
  k4 : ∀ k, k ∈ backs z → k < 4
  end_ : (backEdges D z.at_ (backs z)).Nodup
  pe : ∀ e, e ∈ backEdges D z.at_ (backs z) → D.isStep e = true ∧ e ∉ z.gone ∧ D.reverse e ∈ z.gone

theorem good_begin {D : Garden} {s : Nat} (hs : s < D.squares) : Good D (threadBegin s) :=
  ⟨hs, List.nodup_nil, (fun _ h => nomatch h), (fun _ h => nomatch h), List.nodup_nil, (fun _ h => nomatch h)⟩

/-- going back -/
theorem good_back {D : Garden} {z y : Thread} {k : Nat} {r : List Nat} (G : Graph D) (I : Good D z) (hb : backs z = k :: r)
    (ha : y.at_ = D.comes (4 * z.at_ + k)) (hg : y.gone = (4 * z.at_ + k) :: z.gone) (hr : backs y = r) : Good D y := by
  obtain ⟨at_lt, nd, st, k4, nde, pe⟩ := I
  rw [hb] at nde pe k4
  simp only [backEdges] at nde pe
  rw [List.nodup_cons] at nde
  obtain ⟨p1, p2, p3⟩ := pe _ (List.mem_cons_self ..)
  refine ⟨by rw [ha]; exact G.comes_lt _ p1, by rw [hg, List.nodup_cons]; exact ⟨p2, nd⟩, ?_, ?_, ?_, ?_⟩
  · intro e he
    rw [hg, List.mem_cons] at he
    rcases he with rfl | he
    · exact p1
    · exact st e he
  · intro j hj
    rw [hr] at hj
    exact k4 j (List.mem_cons_of_mem _ hj)
  · rw [ha, hr]
    exact nde.2
  · intro e he
    rw [ha, hr] at he
    obtain ⟨q1, q2, q3⟩ := pe e (List.mem_cons_of_mem _ he)
    refine ⟨q1, ?_, ?_⟩
    · rw [hg, List.mem_cons]
      rintro (rfl | h)
      · exact nde.1 he
      · exact q2 h
    · rw [hg]
      exact List.mem_cons_of_mem _ q3

/-- going on -/
theorem good_on {D : Garden} {z y : Thread} {k : Nat} (G : Graph D) (I : Good D z) (hk : k < 4) (hf : D.isStep (4 * z.at_ + k) = true) (h1 : (4 * z.at_ + k) ∉ z.gone) (h2 : D.reverse (4 * z.at_ + k) ∉ z.gone)
    (ha : y.at_ = D.comes (4 * z.at_ + k)) (hg : y.gone = (4 * z.at_ + k) :: z.gone) (hr : backs y = (k + 2) % 4 :: backs z) : Good D y := by
  obtain ⟨at_lt, nd, st, k4, nde, pe⟩ := I
  have er : 4 * D.comes (4 * z.at_ + k) + (k + 2) % 4 = D.reverse (4 * z.at_ + k) := rev_eq.symm
  have ec : D.comes (D.reverse (4 * z.at_ + k)) = z.at_ := by rw [G.rev_comes _ hf, d4 hk]
  have ee : backEdges D y.at_ (backs y) = D.reverse (4 * z.at_ + k) :: backEdges D z.at_ (backs z) := by
    rw [hr, ha]
    simp only [backEdges]
    rw [er, ec]
  refine ⟨by rw [ha]; exact G.comes_lt _ hf, by rw [hg, List.nodup_cons]; exact ⟨h1, nd⟩, ?_, ?_, ?_, ?_⟩
  · intro e he
    rw [hg, List.mem_cons] at he
    rcases he with rfl | he
    · exact hf
    · exact st e he
  · intro j hj
    rw [hr, List.mem_cons] at hj
    rcases hj with rfl | hj
    · omega
    · exact k4 j hj
  · rw [ee, List.nodup_cons]
    refine ⟨fun he => ?_, nde⟩
    have := (pe _ he).2.2
    rw [G.rev_rev _ hf] at this
    exact h1 this
  · intro e he
    rw [ee, List.mem_cons] at he
    rw [hg]
    rcases he with rfl | he
    · refine ⟨G.rev_step _ hf, ?_, ?_⟩
      · rw [List.mem_cons]
        rintro (h | h)
        · exact G.rev_ne _ hf h
        · exact h2 h
      · rw [G.rev_rev _ hf]
        exact List.mem_cons_self ..
    · obtain ⟨q1, q2, q3⟩ := pe e he
      refine ⟨q1, ?_, List.mem_cons_of_mem _ q3⟩
      rw [List.mem_cons]
      rintro (rfl | h)
      · exact h2 q3
      · exact q2 h

theorem fresh_some {D : Garden} {z : Thread} {k : Nat} (h : D.fresh z = some k) : k < 4 ∧ D.isStep (4 * z.at_ + k) = true ∧ (4 * z.at_ + k) ∉ z.gone ∧ D.reverse (4 * z.at_ + k) ∉ z.gone := by
  unfold Garden.fresh at h
  have h1 := List.find?_some h
  have h2 := List.mem_of_find?_eq_some h
  simp only [Bool.and_eq_true, Bool.not_eq_true', List.contains_eq_mem, decide_eq_false_iff_not] at h1
  refine ⟨?_, h1.1, h1.2.1, h1.2.2⟩
  simp at h2
  omega

/-- the steps, one by one -/
theorem step_turn {D : Garden} {z : Thread} {k : Nat} (h : z.turn = some k) : D.threadStep z = some { z with at_ := D.comes (4 * z.at_ + k), gone := (4 * z.at_ + k) :: z.gone, turn := none } := by
  unfold Garden.threadStep
  rw [h]
theorem step_seen {D : Garden} {z : Thread} {k : Nat} (h : z.turn = none) (hf : D.fresh z = some k) (hs : D.comes (4 * z.at_ + k) ∈ z.seen) :
    D.threadStep z = some { z with at_ := D.comes (4 * z.at_ + k), gone := (4 * z.at_ + k) :: z.gone, turn := some ((k + 2) % 4) } := by
  unfold Garden.threadStep
  rw [h, hf]
  simp only
  rw [if_pos (by rw [List.contains_eq_mem]; exact decide_eq_true hs)]
theorem step_new {D : Garden} {z : Thread} {k : Nat} (h : z.turn = none) (hf : D.fresh z = some k) (hs : D.comes (4 * z.at_ + k) ∉ z.seen) :
    D.threadStep z = some ⟨D.comes (4 * z.at_ + k), D.comes (4 * z.at_ + k) :: z.seen, (4 * z.at_ + k) :: z.gone, ((k + 2) % 4) :: z.back, none⟩ := by
  unfold Garden.threadStep
  rw [h, hf]
  simp only
  rw [if_neg (by rw [List.contains_eq_mem, decide_eq_true_iff]; exact hs)]
theorem step_back {D : Garden} {z : Thread} {k : Nat} {r : List Nat} (h : z.turn = none) (hf : D.fresh z = none) (hb : z.back = k :: r) :
    D.threadStep z = some { z with at_ := D.comes (4 * z.at_ + k), gone := (4 * z.at_ + k) :: z.gone, back := r } := by
  unfold Garden.threadStep
  rw [h, hf]
  simp only
  rw [hb]
theorem step_end {D : Garden} {z : Thread} (h : z.turn = none) (hf : D.fresh z = none) (hb : z.back = []) : D.threadStep z = none := by
  unfold Garden.threadStep
  rw [h, hf]
  simp only
  rw [hb]

theorem good_step {D : Garden} {z y : Thread} (G : Graph D) (I : Good D z) (h : D.threadStep z = some y) : Good D y ∧ y.gone.length = z.gone.length + 1 := by
  cases ht : z.turn with
  | some k =>
    rw [step_turn ht] at h
    cases h
    exact ⟨good_back (k := k) (r := z.back) G I (by unfold backs; rw [ht]; rfl) rfl rfl rfl, rfl⟩
  | none =>
    have hbk : backs z = z.back := by unfold backs; rw [ht]; rfl
    cases hf : D.fresh z with
    | some k =>
      obtain ⟨hk, f1, f2, f3⟩ := fresh_some hf
      by_cases hs : D.comes (4 * z.at_ + k) ∈ z.seen
      · rw [step_seen ht hf hs] at h
        cases h
        exact ⟨good_on G I hk f1 f2 f3 rfl rfl (by rw [hbk]; rfl), rfl⟩
      · rw [step_new ht hf hs] at h
        cases h
        exact ⟨good_on G I hk f1 f2 f3 rfl rfl (by rw [hbk]; rfl), rfl⟩
    | none =>
      cases hb : z.back with
      | nil =>
        rw [step_end ht hf hb] at h
        cases h
      | cons k r =>
        rw [step_back ht hf hb] at h
        cases h
        exact ⟨good_back (k := k) (r := r) G I (by rw [hbk]; exact hb) rfl rfl (by unfold backs; rw [ht]; rfl), rfl⟩

/-- a list without a number twice, all below n, has at most n items -/
theorem nodup_le : ∀ (n : Nat) (l : List Nat), l.Nodup → (∀ x, x ∈ l → x < n) → l.length ≤ n
  | 0, l, _, h => by
    cases l with
    | nil => exact Nat.le_refl _
    | cons a r => exact absurd (h a (List.mem_cons_self ..)) (by omega)
  | n + 1, l, nd, h => by
    by_cases hn : n ∈ l
    · have h1 := nodup_le n (l.erase n) (nd.erase n) (fun x hx => by
        have h2 := h x (List.mem_of_mem_erase hx)
        have h3 : x ≠ n := fun e => by
          subst e
          exact (List.Nodup.not_mem_erase nd) hx
        omega)
      rw [List.length_erase_of_mem hn] at h1
      omega
    · have h1 := nodup_le n l nd (fun x hx => by
        have h2 := h x hx
        have h3 : x ≠ n := fun e => by
          subst e
          exact hn hx
        omega)
      omega

theorem good_len {D : Garden} {z : Thread} (G : Graph D) (I : Good D z) : z.gone.length ≤ 4 * D.squares :=
  nodup_le _ _ I.nd fun x hx => G.lt x (I.st x hx)

/-- behind pre the walk stands as z says -/
structure Reach (D : Garden) (s : Nat) (pre : List Thread) (z : Thread) : Prop where
  good : Good D z
  len : z.gone.length = pre.length
  run : ∀ F, pre.length ≤ F → D.threadsFrom F (threadBegin s) = pre ++ D.threadsFrom (F - pre.length) z

theorem reach_begin {D : Garden} {s : Nat} (hs : s < D.squares) : Reach D s [] (threadBegin s) := ⟨good_begin hs, rfl, fun _ _ => rfl⟩
theorem reach_step {D : Garden} {s : Nat} {pre : List Thread} {z y : Thread} (G : Graph D) (R : Reach D s pre z) (h : D.threadStep z = some y) : Reach D s (pre ++ [z]) y := by
  obtain ⟨g1, g2⟩ := good_step G R.good h
  refine ⟨g1, by rw [g2, R.len, List.length_append]; rfl, fun F hF => ?_⟩
  rw [List.length_append] at hF
  simp at hF
  rw [R.run F (by omega)]
  obtain ⟨n, hn⟩ : ∃ n, F - pre.length = n + 1 := ⟨F - pre.length - 1, by omega⟩
  have : F - (pre ++ [z]).length = n := by rw [List.length_append]; simp; omega
  rw [hn, this]
  show pre ++ (z :: (match D.threadStep z with | none => [] | some y => D.threadsFrom n y)) = _
  rw [h]
  simp
theorem reach_le {D : Garden} {s : Nat} {pre : List Thread} {z : Thread} (G : Graph D) (R : Reach D s pre z) : pre.length ≤ 4 * D.squares := by
  rw [← R.len]
  exact good_len G R.good
theorem reach_end {D : Garden} {s : Nat} {pre : List Thread} {z : Thread} (G : Graph D) (R : Reach D s pre z) (h : D.threadStep z = none) : D.threads s = pre ++ [z] := by
  have hl := reach_le G R
  unfold Garden.threads
  rw [R.run _ (by omega)]
  obtain ⟨n, hn⟩ : ∃ n, 4 * D.squares + 1 - pre.length = n + 1 := ⟨4 * D.squares - pre.length, by omega⟩
  rw [hn]
  show pre ++ (z :: (match D.threadStep z with | none => [] | some y => D.threadsFrom n y)) = _
  rw [h]
/-- a state that is reached stands in the walk at its place -/
theorem reach_at {D : Garden} {s : Nat} {pre : List Thread} {z : Thread} (G : Graph D) (R : Reach D s pre z) : D.threadAt s pre.length = some z ∧ (D.threads s).take pre.length = pre := by
  have hl := reach_le G R
  unfold Garden.threadAt Garden.threads
  rw [R.run _ (by omega)]
  obtain ⟨n, hn⟩ : ∃ n, 4 * D.squares + 1 - pre.length = n + 1 := ⟨4 * D.squares - pre.length, by omega⟩
  rw [hn]
  refine ⟨?_, by rw [List.take_left]⟩
  rw [List.getElem?_append_right (Nat.le_refl _), Nat.sub_self]
  rfl
end Tw

set_option maxRecDepth 4000
set_option maxHeartbeats 1000000
namespace Tw
open Maze

/-- the first side with a blank whose place isn't among those gone -/
def side (t : Bytes) (w : Nat) (gn : Nat → Bool) (s : Nat) : Option Nat := [0, 1, 2, 3].find? fun k => (t.getD (place w s k) 0 == 32) && !gn (place w s k)
/-- by which square each was first come to -/
def Chain (D : Garden) (ff : Nat → Option (Option Nat)) : Nat → List Nat → Prop
  | a, [] => ff a = some none
  | a, k :: r => ff a = some (some (D.comes (4 * a + k))) ∧ Chain D ff (D.comes (4 * a + k)) r
def put {α : Type} (f : Nat → α) (x : Nat) (v : α) : Nat → α := fun y => if y = x then v else f y

theorem chain_put {D : Garden} {ff : Nat → Option (Option Nat)} {x : Nat} {v : Option (Option Nat)} (hx : ff x = none) : ∀ (r : List Nat) (a : Nat), Chain D ff a r → Chain D (put ff x v) a r
  | [], a, h => by
    have : a ≠ x := fun e => by subst e; rw [Chain] at h; rw [hx] at h; cases h
    show put ff x v a = _
    unfold put
    rw [if_neg this]
    exact h
  | k :: r, a, h => by
    obtain ⟨h1, h2⟩ := h
    have : a ≠ x := fun e => by subst e; rw [hx] at h1; cases h1
    refine ⟨?_, chain_put hx r _ h2⟩
    unfold put
    rw [if_neg this]
    exact h1

/-- gn holds the places of the passages that were gone -/
def Told (D : Garden) (gn : Nat → Bool) (gone : List Nat) : Prop := ∀ a k, k < 4 → D.isStep (4 * a + k) = true → (gn (place D.wide a k) = true ↔ (4 * a + k ∈ gone ∨ D.reverse (4 * a + k) ∈ gone))

section
variable {t : Bytes} {D : Garden}
theorem told_begin : Told D (fun _ => false) [] := fun a k _ _ => by simp
theorem told_back {gn : Nat → Bool} {gone : List Nat} {e : Nat} (G : Graph D) (T : Told D gn gone) (h : D.reverse e ∈ gone) : Told D gn (e :: gone) := by
  intro a k hk hs
  rw [T a k hk hs, List.mem_cons, List.mem_cons]
  constructor
  · rintro (h1 | h1)
    · exact .inl (.inr h1)
    · exact .inr (.inr h1)
  · rintro ((h1 | h1) | (h1 | h1))
    · rw [← h1] at h
      exact .inr h
    · exact .inl h1
    · rw [← h1, G.rev_rev _ hs] at h
      exact .inl h
    · exact .inr h1
theorem told_on (S : Shows t D) {gn : Nat → Bool} {gone : List Nat} {s j : Nat} (T : Told D gn gone) (hj : j < 4) (hf : D.isStep (4 * s + j) = true) :
    Told D (put gn (place D.wide s j) true) ((4 * s + j) :: gone) := by
  intro a k hk hs
  have G := graph S
  have hb := ((isStep_iff S hj).mp hf)
  have hp := pass S hb.1 hj hb.2
  have hr : D.reverse (4 * s + j) = 4 * nextSq D.wide s j + (j + 2) % 4 := by rw [rev_eq, comes_eq S hj hf]
  rw [List.mem_cons, List.mem_cons]
  unfold put
  by_cases he : place D.wide a k = place D.wide s j
  · rw [if_pos he]
    refine ⟨fun _ => ?_, fun _ => rfl⟩
    rcases place_inj S.w1 hj hk he.symm with ⟨rfl, rfl⟩ | ⟨rfl, rfl⟩
    · exact .inl (.inl rfl)
    · refine .inr (.inl ?_)
      rw [← hr, G.rev_rev _ hf]
  · rw [if_neg he, T a k hk hs]
    constructor
    · rintro (h | h)
      · exact .inl (.inr h)
      · exact .inr (.inr h)
    · rintro ((h | h) | (h | h))
      · exfalso
        have h1 : a = s := by omega
        have h2 : k = j := by omega
        subst h1 h2
        exact he rfl
      · exact .inl h
      · exfalso
        have h3 : 4 * a + k = D.reverse (4 * s + j) := by rw [← h, G.rev_rev _ hs]
        rw [hr] at h3
        have h1 : a = nextSq D.wide s j := by omega
        have h2 : k = (j + 2) % 4 := by omega
        subst h1 h2
        exact he hp.2.1
      · exact .inr h

theorem side_eq (S : Shows t D) {gn : Nat → Bool} {z : Thread} (T : Told D gn z.gone) (hz : z.at_ < D.squares) : side t D.wide gn z.at_ = D.fresh z := by
  have key : ∀ k, k < 4 → ((t.getD (place D.wide z.at_ k) 0 == 32) && !gn (place D.wide z.at_ k)) = (D.isStep (4 * z.at_ + k) && (!z.gone.contains (4 * z.at_ + k) && !z.gone.contains (D.reverse (4 * z.at_ + k)))) := by
    intro k hk
    by_cases hb : t.getD (place D.wide z.at_ k) 0 = 32
    · have hs : D.isStep (4 * z.at_ + k) = true := (isStep_iff S hk).mpr ⟨hz, hb⟩
      rw [hs, hb]
      have := T z.at_ k hk hs
      cases e : gn (place D.wide z.at_ k) with
      | true =>
        have h := this.mp e
        rcases h with h | h
        · simp [List.contains_eq_mem, h]
        · simp [List.contains_eq_mem, h]
      | false =>
        have h : ¬ (4 * z.at_ + k ∈ z.gone ∨ D.reverse (4 * z.at_ + k) ∈ z.gone) := fun h => by
          rw [← this, e] at h
          cases h
        have h1 : 4 * z.at_ + k ∉ z.gone := fun q => h (.inl q)
        have h2 : D.reverse (4 * z.at_ + k) ∉ z.gone := fun q => h (.inr q)
        simp [List.contains_eq_mem, h1, h2]
    · have hs : D.isStep (4 * z.at_ + k) = false := by
        cases e : D.isStep (4 * z.at_ + k) with
        | false => rfl
        | true => exact absurd ((isStep_iff S hk).mp e).2 hb
      have hb2 : (t.getD (place D.wide z.at_ k) 0 == 32) = false := by simpa using hb
      rw [hs, hb2]
      rfl
  unfold side Garden.fresh
  simp only [List.find?]
  rw [key 0 (by omega), key 1 (by omega), key 2 (by omega), key 3 (by omega)]

/-- the program's state and the walk's -/
structure Sim (t : Bytes) (D : Garden) (s : Nat) (pre : List Thread) (z : Thread) (ff : Nat → Option (Option Nat)) (gn : Nat → Bool) : Prop where
  R : Reach D s pre z
  tn : z.turn = none
  ch : Chain D ff z.at_ z.back
  sn : ∀ x, (ff x).isSome = true ↔ x ∈ z.seen
  gn : Told D gn z.gone

theorem sim_begin {s : Nat} (hs : s < D.squares) : Sim t D s [] (threadBegin s) (put (fun _ => none) s (some none)) (fun _ => false) := by
  refine ⟨reach_begin hs, rfl, ?_, fun x => ?_, told_begin⟩
  · show put _ s _ s = _
    unfold put
    rw [if_pos rfl]
  · show _ ↔ x ∈ [s]
    unfold put
    by_cases h : x = s
    · simp [h]
    · simp [h]

variable {s : Nat} {pre : List Thread} {z : Thread} {ff : Nat → Option (Option Nat)} {gn : Nat → Bool}
theorem sim_end (S : Shows t D) (I : Sim t D s pre z ff gn) (h : D.fresh z = none) (hf : ff z.at_ = some none) : D.threads s = pre ++ [z] := by
  refine reach_end (graph S) I.R (step_end I.tn h ?_)
  cases hb : z.back with
  | nil => rfl
  | cons k r =>
    have := I.ch
    rw [hb] at this
    rw [this.1] at hf
    cases hf
theorem sim_back (S : Shows t D) {a : Nat} (I : Sim t D s pre z ff gn) (h : D.fresh z = none) (hf : ff z.at_ = some (some a)) : ∃ y, D.threadStep z = some y ∧ y.at_ = a ∧ Sim t D s (pre ++ [z]) y ff gn := by
  have G := graph S
  cases hb : z.back with
  | nil =>
    have := I.ch
    rw [hb] at this
    rw [Chain] at this
    rw [this] at hf
    cases hf
  | cons k r =>
    have ch := I.ch
    rw [hb] at ch
    rw [ch.1] at hf
    have ea : D.comes (4 * z.at_ + k) = a := Option.some.inj (Option.some.inj hf)
    have st := step_back I.tn h hb
    refine ⟨_, st, ea, reach_step G I.R st, I.tn, ch.2, I.sn, ?_⟩
    refine told_back G I.gn ?_
    have hbk : backs z = k :: r := by unfold backs; rw [I.tn, hb]; rfl
    have pe := I.R.good.pe
    rw [hbk] at pe
    exact (pe _ (List.mem_cons_self ..)).2.2
theorem sim_new (S : Shows t D) {k : Nat} (I : Sim t D s pre z ff gn) (h : D.fresh z = some k) (hf : ff (nextSq D.wide z.at_ k) = none) :
    ∃ y, D.threadStep z = some y ∧ y.at_ = nextSq D.wide z.at_ k ∧ Sim t D s (pre ++ [z]) y (put ff (nextSq D.wide z.at_ k) (some (some z.at_))) (put gn (place D.wide z.at_ k) true) := by
  have G := graph S
  obtain ⟨hk, f1, f2, f3⟩ := fresh_some h
  have ec := comes_eq S hk f1
  have hs : D.comes (4 * z.at_ + k) ∉ z.seen := fun q => by
    rw [ec, ← I.sn, hf] at q
    cases q
  have st := step_new I.tn h hs
  refine ⟨_, st, ec, reach_step G I.R st, rfl, ?_, fun x => ?_, told_on S I.gn hk f1⟩
  · show Chain D _ (D.comes (4 * z.at_ + k)) (((k + 2) % 4) :: z.back)
    have er : 4 * D.comes (4 * z.at_ + k) + (k + 2) % 4 = D.reverse (4 * z.at_ + k) := rev_eq.symm
    rw [Chain, er, G.rev_comes _ f1, d4 hk]
    refine ⟨?_, chain_put hf _ _ I.ch⟩
    unfold put
    rw [if_pos ec]
  · show _ ↔ x ∈ D.comes (4 * z.at_ + k) :: z.seen
    rw [List.mem_cons, ← I.sn, ec]
    unfold put
    by_cases hx : x = nextSq D.wide z.at_ k
    · simp [hx]
    · simp [hx]
theorem sim_seen (S : Shows t D) {k : Nat} (I : Sim t D s pre z ff gn) (h : D.fresh z = some k) (hf : ff (nextSq D.wide z.at_ k) ≠ none) :
    ∃ x y, D.threadStep z = some x ∧ D.threadStep x = some y ∧ x.at_ = nextSq D.wide z.at_ k ∧ y.at_ = z.at_ ∧ Reach D s (pre ++ [z]) x ∧ Sim t D s (pre ++ [z] ++ [x]) y ff (put gn (place D.wide z.at_ k) true) := by
  have G := graph S
  obtain ⟨hk, f1, f2, f3⟩ := fresh_some h
  have ec := comes_eq S hk f1
  have hs : D.comes (4 * z.at_ + k) ∈ z.seen := by
    rw [ec, ← I.sn]
    cases e : ff (nextSq D.wide z.at_ k) with
    | none => exact absurd e hf
    | some v => rfl
  have st := step_seen I.tn h hs
  have r1 := reach_step G I.R st
  have st2 := step_turn (D := D) (z := { z with at_ := D.comes (4 * z.at_ + k), gone := (4 * z.at_ + k) :: z.gone, turn := some ((k + 2) % 4) }) (k := (k + 2) % 4) rfl
  have r2 := reach_step G r1 st2
  have er : 4 * D.comes (4 * z.at_ + k) + (k + 2) % 4 = D.reverse (4 * z.at_ + k) := rev_eq.symm
  have ea : D.comes (4 * D.comes (4 * z.at_ + k) + (k + 2) % 4) = z.at_ := by rw [er, G.rev_comes _ f1, d4 hk]
  refine ⟨_, _, st, st2, ec, ea, r1, r2, rfl, ?_, I.sn, ?_⟩
  · show Chain D ff (D.comes (4 * D.comes (4 * z.at_ + k) + (k + 2) % 4)) z.back
    rw [ea]
    exact I.ch
  · show Told D _ ((4 * D.comes (4 * z.at_ + k) + (k + 2) % 4) :: (4 * z.at_ + k) :: z.gone)
    refine told_back G (told_on S I.gn hk f1) ?_
    rw [er, G.rev_rev _ f1]
    exact List.mem_cons_self ..
theorem sim_lt (I : Sim t D s pre z ff gn) : z.at_ < D.squares := I.R.good.at_lt
theorem sim_side (S : Shows t D) (I : Sim t D s pre z ff gn) : side t D.wide gn z.at_ = D.fresh z := side_eq S I.gn (sim_lt I)
/-- the square that stands at z has been seen -/
theorem sim_here (I : Sim t D s pre z ff gn) : ∃ v, ff z.at_ = some v := by
  have := I.ch
  cases hb : z.back with
  | nil =>
    rw [hb] at this
    exact ⟨_, this⟩
  | cons k r =>
    rw [hb] at this
    exact ⟨_, this.1⟩
/-- the lengths -/
theorem squares_le (S : Shows t D) : D.squares ≤ 100 := by
  show D.wide * D.high ≤ 100
  exact Nat.mul_le_mul S.w2 S.h2
end
end Tw

set_option maxRecDepth 4000
set_option maxHeartbeats 1000000
namespace Tw
open Maze

def txt (ns : List Int) : Bytes := ns.map fun n => UInt8.ofNat n.toNat
def Bytes255 (ns : List Int) : Prop := ∀ n, n ∈ ns → 0 ≤ n ∧ n ≤ 255
theorem txt_len {ns : List Int} : (txt ns).length = ns.length := List.length_map ..
theorem txt_at {ns : List Int} {p : Nat} : (txt ns).getD p 0 = UInt8.ofNat (ns.getD p 0).toNat := by
  unfold txt
  rw [List.getD_eq_getElem?_getD, List.getD_eq_getElem?_getD, List.getElem?_map]
  cases ns[p]? with
  | none => rfl
  | some n => rfl
theorem at_255 {ns : List Int} (B : Bytes255 ns) (p : Nat) : 0 ≤ ns.getD p 0 ∧ ns.getD p 0 ≤ 255 := by
  rw [List.getD_eq_getElem?_getD]
  cases e : ns[p]? with
  | none => exact ⟨Int.le_refl _, by decide⟩
  | some n => exact B n (List.mem_of_getElem? e)
theorem byte_eq {n : Int} (h : 0 ≤ n ∧ n ≤ 255) (k : Nat) (hk : k < 256) : UInt8.ofNat n.toNat = UInt8.ofNat k ↔ n = (k : Int) := by
  constructor
  · intro e
    have := congrArg UInt8.toNat e
    rw [UInt8.toNat_ofNat', UInt8.toNat_ofNat', Nat.mod_eq_of_lt (by omega), Nat.mod_eq_of_lt (by omega)] at this
    omega
  · rintro rfl
    rfl
theorem txt_eq {ns : List Int} (B : Bytes255 ns) (p k : Nat) (hk : k < 256) : (txt ns).getD p 0 = UInt8.ofNat k ↔ ns.getD p 0 = (k : Int) := by
  rw [txt_at]
  exact byte_eq (at_255 B p) k hk

/-- the signs that a drawing may have at column x of line y, of so many columns c and lines l -/
def allowYX (y x c l : Nat) : List Int :=
  if x = c then [10]
  else if y % 2 = 0 ∧ x % 2 = 0 then [43]
  else if y % 2 = 1 ∧ x % 2 = 1 then [32]
  else if y = 0 ∨ y + 1 = l ∨ x = 0 ∨ x + 1 = c then [if y % 2 = 0 then 45 else 124]
  else [if y % 2 = 0 then 45 else 124, 32]

theorem allow_iff {n : Int} (hn : 0 ≤ n ∧ n ≤ 255) {w h y x : Nat} : okSign w (decide (y = 2 * h)) y x (UInt8.ofNat n.toNat) ↔ n ∈ allowYX y x (2 * w + 1) (2 * h + 1) := by
  have b10 := byte_eq hn 10 (by decide)
  have b43 := byte_eq hn 43 (by decide)
  have b32 := byte_eq hn 32 (by decide)
  have b45 := byte_eq hn 45 (by decide)
  have b124 := byte_eq hn 124 (by decide)
  generalize UInt8.ofNat n.toNat = c at *
  unfold okSign allowYX
  by_cases h1 : x = 2 * w + 1
  · rw [if_pos h1, if_pos h1, List.mem_singleton]
    exact b10
  · rw [if_neg h1, if_neg h1]
    by_cases h2 : y % 2 = 0 ∧ x % 2 = 0
    · rw [if_pos h2, if_pos h2, List.mem_singleton]
      exact b43
    · rw [if_neg h2, if_neg h2]
      by_cases h3 : y % 2 = 1 ∧ x % 2 = 1
      · rw [if_pos h3, if_pos h3, List.mem_singleton]
        exact b32
      · rw [if_neg h3, if_neg h3]
        have e : (y = 0 ∨ decide (y = 2 * h) = true ∨ x = 0 ∨ x = 2 * w) ↔ (y = 0 ∨ y + 1 = 2 * h + 1 ∨ x = 0 ∨ x + 1 = 2 * w + 1) := by
          rw [decide_eq_true_iff]
          omega
        by_cases h4 : y = 0 ∨ decide (y = 2 * h) = true ∨ x = 0 ∨ x = 2 * w
        · rw [if_pos h4, if_pos (e.mp h4), List.mem_singleton]
          by_cases h5 : y % 2 = 0
          · rw [if_pos h5, if_pos h5]
            exact b45
          · rw [if_neg h5, if_neg h5]
            exact b124
        · rw [if_neg h4, if_neg (fun k => h4 (e.mpr k)), List.mem_cons, List.mem_singleton]
          by_cases h5 : y % 2 = 0
          · rw [if_pos h5, if_pos h5]
            exact or_congr b45 b32
          · rw [if_neg h5, if_neg h5]
            exact or_congr b124 b32

def fitsN (n : Nat) : Prop := n % 2 = 1 ∧ 1 ≤ n / 2 ∧ n / 2 ≤ 10

theorem drawn_of {ns : List Int} (B : Bytes255 ns) {c l : Nat} (hc : fitsN c) (hl : fitsN l) (hlen : ns.length = l * (c + 1))
    (ok : ∀ p, p < ns.length → ns.getD p 0 ∈ allowYX (p / (c + 1)) (p % (c + 1)) c l) : Drawn (txt ns) (c / 2) (l / 2) := by
  obtain ⟨c1, c2, c3⟩ := hc
  obtain ⟨l1, l2, l3⟩ := hl
  have ec : 2 * (c / 2) + 1 = c := by omega
  have el : 2 * (l / 2) + 1 = l := by omega
  refine ⟨c2, c3, l2, l3, by rw [txt_len, hlen, el, ← ec]; congr 1; omega, fun y x hy hx => ?_⟩
  have hw : 2 * (c / 2) + 2 = c + 1 := by omega
  rw [hw] at hx ⊢
  have hp : y * (c + 1) + x < ns.length := by
    rw [hlen]
    have := Nat.mul_le_mul_right (c + 1) (show y + 1 ≤ l by omega)
    rw [Nat.succ_mul] at this
    omega
  have := ok _ hp
  rw [div_of hx, mod_of hx] at this
  rw [txt_at, allow_iff (at_255 B _), ec, el]
  exact this

theorem facts_of {ns : List Int} (B : Bytes255 ns) {w h : Nat} (D : Drawn (txt ns) w h) :
    ns.getD (2 * w + 1) 0 = 10 ∧ (∀ m, m < 2 * w + 1 → ns.getD m 0 ≠ 10) ∧ 2 * w + 1 < ns.length ∧ ns.length = (2 * h + 1) * (2 * w + 2) ∧
      ∀ p, p < ns.length → ns.getD p 0 ∈ allowYX (p / (2 * w + 2)) (p % (2 * w + 2)) (2 * w + 1) (2 * h + 1) := by
  have hlen : ns.length = (2 * h + 1) * (2 * w + 2) := by rw [← txt_len]; exact D.len
  have all : ∀ y x, y < 2 * h + 1 → x < 2 * w + 2 → ns.getD (y * (2 * w + 2) + x) 0 ∈ allowYX y x (2 * w + 1) (2 * h + 1) := by
    intro y x hy hx
    rw [← allow_iff (at_255 B _), ← txt_at]
    exact D.ok y x hy hx
  have hw := D.w1
  have hh := D.h1
  have line0 : 1 * (2 * w + 2) ≤ (2 * h + 1) * (2 * w + 2) := Nat.mul_le_mul_right _ (by omega)
  refine ⟨?_, fun m hm => ?_, by omega, hlen, fun p hp => ?_⟩
  · have := all 0 (2 * w + 1) (by omega) (by omega)
    rw [Nat.zero_mul, Nat.zero_add] at this
    unfold allowYX at this
    rw [if_pos rfl, List.mem_singleton] at this
    exact this
  · have := all 0 m (by omega) (by omega)
    rw [Nat.zero_mul, Nat.zero_add] at this
    unfold allowYX at this
    rw [if_neg (by omega)] at this
    intro e
    rw [e] at this
    split at this
    · simp at this
    · rw [if_neg (by omega), if_pos (by omega), if_pos (by omega)] at this
      simp at this
  · have hd : p / (2 * w + 2) < 2 * h + 1 := by
      apply Nat.div_lt_of_lt_mul
      rw [Nat.mul_comm, ← hlen]
      exact hp
    have hm : p % (2 * w + 2) < 2 * w + 2 := Nat.mod_lt _ (by omega)
    have := all _ _ hd hm
    rw [← @rc (2 * w + 2) p] at this
    exact this
end Tw

set_option maxRecDepth 4000
set_option maxHeartbeats 1000000
namespace Tw
open Maze

section
variable {t : Bytes} {D : Garden}
theorem back_cons {a : Nat} {l : List Nat} : ∃ r, D.backFrom a l = a :: r := by
  cases l with
  | nil => exact ⟨_, rfl⟩
  | cons k r => exact ⟨_, rfl⟩
/-- the last square of the thread that lies -/
theorem lying_last {z : Thread} : ∃ l, D.lying z = l ++ [z.at_] := by
  unfold Garden.lying
  cases z.turn with
  | none =>
    obtain ⟨r, hr⟩ := @back_cons D z.at_ z.back
    exact ⟨r.reverse, by simp only; rw [hr, List.reverse_cons]⟩
  | some k => exact ⟨_, rfl⟩
theorem lying_pos {z : Thread} : 1 ≤ (D.lying z).length := by
  obtain ⟨l, h⟩ := @lying_last D z
  rw [h, List.length_append]
  simp

/-- the walker's state and the walk's: what was seen (sn), the places of the passages gone (gn) -/
structure Lie (D : Garden) (s : Nat) (pre : List Thread) (z : Thread) (sn gn : Nat → Bool) : Prop where
  R : Reach D s pre z
  sn : ∀ x, sn x = true ↔ x ∈ z.seen
  gn : Told D gn z.gone
  ln : (D.lying z).length ≤ pre.length + 1
  sl : z.seen.length ≤ pre.length + 1

theorem lie_begin {s : Nat} (hs : s < D.squares) : Lie D s [] (threadBegin s) (put (fun _ => false) s true) (fun _ => false) := by
  refine ⟨reach_begin hs, fun x => ?_, told_begin, Nat.le_refl _, Nat.le_refl _⟩
  show _ ↔ x ∈ [s]
  unfold put
  by_cases h : x = s
  · simp [h]
  · simp [h]

variable {s : Nat} {pre : List Thread} {z : Thread} {sn gn : Nat → Bool}
theorem lie_lt (I : Lie D s pre z sn gn) : z.at_ < D.squares := I.R.good.at_lt
theorem lie_side (S : Shows t D) (I : Lie D s pre z sn gn) : side t D.wide gn z.at_ = D.fresh z := side_eq S I.gn (lie_lt I)

theorem back_len {y : Thread} (h : (D.lying z).length ≤ pre.length + 1) (e : D.lying z = D.lying y ++ [z.at_]) : (D.lying y).length ≤ (pre ++ [z]).length + 1 := by
  rw [e, List.length_append] at h
  rw [List.length_append]
  simp at *
  omega
theorem seen_len {n : Nat} (h : n ≤ pre.length + 1) : n ≤ (pre ++ [z]).length + 1 := by
  rw [List.length_append]
  omega
theorem on_len {y : Thread} {a : Nat} (h : (D.lying z).length ≤ pre.length + 1) (e : D.lying y = D.lying z ++ [a]) : (D.lying y).length ≤ (pre ++ [z]).length + 1 := by
  rw [e, List.length_append, List.length_append]
  simp
  omega
theorem new_len {a : Nat} {l : List Nat} (h : l.length ≤ pre.length + 1) : (a :: l).length ≤ (pre ++ [z]).length + 1 := by
  rw [List.length_append, List.length_cons]
  simp
  omega
/-- turning at once -/
theorem lie_turn (S : Shows t D) (I : Lie D s pre z sn gn) (h : z.turn.isSome = true) :
    ∃ y, D.threadStep z = some y ∧ Lie D s (pre ++ [z]) y sn gn ∧ D.lying z = D.lying y ++ [z.at_] ∧ y.turn = none ∧ y.seen = z.seen := by
  have G := graph S
  cases ht : z.turn with
  | none =>
    rw [ht] at h
    cases h
  | some k =>
    have st := step_turn (D := D) ht
    have hbk : backs z = k :: z.back := by unfold backs; rw [ht]; rfl
    have pe := I.R.good.pe
    rw [hbk] at pe
    have e1 : D.lying z = D.lying { z with at_ := D.comes (4 * z.at_ + k), gone := (4 * z.at_ + k) :: z.gone, turn := none } ++ [z.at_] := by
      unfold Garden.lying
      rw [ht]
    exact ⟨_, st, ⟨reach_step G I.R st, I.sn, told_back G I.gn (pe _ (List.mem_cons_self ..)).2.2, back_len I.ln e1, seen_len I.sl⟩, e1, rfl, rfl⟩

/-- back by the thread -/
theorem lie_back (S : Shows t D) (I : Lie D s pre z sn gn) (ht : z.turn = none) (hf : D.fresh z = none) (hl : 1 < (D.lying z).length) :
    ∃ y, D.threadStep z = some y ∧ Lie D s (pre ++ [z]) y sn gn ∧ D.lying z = D.lying y ++ [z.at_] ∧ y.turn = none ∧ y.seen = z.seen := by
  have G := graph S
  cases hb : z.back with
  | nil =>
    exfalso
    unfold Garden.lying at hl
    rw [ht, hb] at hl
    exact absurd hl (by show ¬ 1 < 1; omega)
  | cons k r =>
    have st := step_back (D := D) ht hf hb
    have hbk : backs z = k :: r := by unfold backs; rw [ht, hb]; rfl
    have pe := I.R.good.pe
    rw [hbk] at pe
    have e1 : D.lying z = D.lying { z with at_ := D.comes (4 * z.at_ + k), gone := (4 * z.at_ + k) :: z.gone, back := r } ++ [z.at_] := by
      unfold Garden.lying
      rw [ht, hb]
      show (z.at_ :: D.backFrom (D.comes (4 * z.at_ + k)) r).reverse = _
      rw [List.reverse_cons]
    exact ⟨_, st, ⟨reach_step G I.R st, I.sn, told_back G I.gn (pe _ (List.mem_cons_self ..)).2.2, back_len I.ln e1, seen_len I.sl⟩, e1, ht, rfl⟩

/-- the walk's end -/
theorem lie_none (ht : z.turn = none) (hf : D.fresh z = none) (hl : ¬ 1 < (D.lying z).length) : D.threadStep z = none := by
  refine step_end ht hf ?_
  cases hb : z.back with
  | nil => rfl
  | cons k r =>
    exfalso
    apply hl
    unfold Garden.lying
    rw [ht, hb]
    obtain ⟨q, hq⟩ := @back_cons D (D.comes (4 * z.at_ + k)) r
    show 1 < (z.at_ :: D.backFrom (D.comes (4 * z.at_ + k)) r).reverse.length
    rw [List.length_reverse, hq]
    show 1 < q.length + 1 + 1
    omega

/-- on through a passage not gone yet -/
theorem lie_on (S : Shows t D) {k : Nat} (I : Lie D s pre z sn gn) (ht : z.turn = none) (hf : D.fresh z = some k) :
    ∃ y, D.threadStep z = some y ∧ Lie D s (pre ++ [z]) y (put sn (nextSq D.wide z.at_ k) true) (put gn (place D.wide z.at_ k) true) ∧ D.lying y = D.lying z ++ [nextSq D.wide z.at_ k] ∧
      y.turn.isSome = sn (nextSq D.wide z.at_ k) ∧ y.seen.length = z.seen.length + (if sn (nextSq D.wide z.at_ k) = true then 0 else 1) := by
  have G := graph S
  obtain ⟨hk, f1, f2, f3⟩ := fresh_some hf
  have ec := comes_eq S hk f1
  have er : 4 * D.comes (4 * z.at_ + k) + (k + 2) % 4 = D.reverse (4 * z.at_ + k) := rev_eq.symm
  have ea : D.comes (4 * D.comes (4 * z.at_ + k) + (k + 2) % 4) = z.at_ := by rw [er, G.rev_comes _ f1, d4 hk]
  have lz : D.lying z = (D.backFrom z.at_ z.back).reverse := by unfold Garden.lying; rw [ht]
  by_cases hs : D.comes (4 * z.at_ + k) ∈ z.seen
  · have hsn : sn (nextSq D.wide z.at_ k) = true := by rw [I.sn, ← ec]; exact hs
    have st := step_seen ht hf hs
    have e1 : D.lying { z with at_ := D.comes (4 * z.at_ + k), gone := (4 * z.at_ + k) :: z.gone, turn := some ((k + 2) % 4) } = D.lying z ++ [nextSq D.wide z.at_ k] := by
      show (D.backFrom (D.comes (4 * D.comes (4 * z.at_ + k) + (k + 2) % 4)) z.back).reverse ++ [D.comes (4 * z.at_ + k)] = _
      rw [ea, lz, ec]
    refine ⟨_, st, ⟨reach_step G I.R st, fun x => ?_, told_on S I.gn hk f1, on_len I.ln e1, seen_len I.sl⟩, e1, by rw [hsn]; rfl, by rw [if_pos hsn]; rfl⟩
    · unfold put
      by_cases hx : x = nextSq D.wide z.at_ k
      · rw [if_pos hx, hx]
        refine ⟨fun _ => ?_, fun _ => rfl⟩
        rw [← ec]
        exact hs
      · rw [if_neg hx]
        exact I.sn x
  · have hsn : sn (nextSq D.wide z.at_ k) = false := by
      cases e : sn (nextSq D.wide z.at_ k) with
      | false => rfl
      | true => rw [I.sn, ← ec] at e; exact absurd e hs
    have st := step_new ht hf hs
    have e1 : D.lying ⟨D.comes (4 * z.at_ + k), D.comes (4 * z.at_ + k) :: z.seen, (4 * z.at_ + k) :: z.gone, ((k + 2) % 4) :: z.back, none⟩ = D.lying z ++ [nextSq D.wide z.at_ k] := by
      show (D.comes (4 * z.at_ + k) :: D.backFrom (D.comes (4 * D.comes (4 * z.at_ + k) + (k + 2) % 4)) z.back).reverse = _
      rw [ea, List.reverse_cons, lz, ec]
    refine ⟨_, st, ⟨reach_step G I.R st, fun x => ?_, told_on S I.gn hk f1, on_len I.ln e1, new_len I.sl⟩, e1, by rw [hsn]; rfl, by rw [hsn]; rfl⟩
    · show _ ↔ x ∈ D.comes (4 * z.at_ + k) :: z.seen
      rw [List.mem_cons, ← I.sn, ec]
      unfold put
      by_cases hx : x = nextSq D.wide z.at_ k
      · simp [hx]
      · simp [hx]

end
end Tw

set_option maxRecDepth 4000
set_option maxHeartbeats 1000000
namespace Tw
open Maze

/-- the side that the next step goes by; 4: there's none -/
def ahead (D : Garden) (z : Thread) : Nat := match z.turn with
  | some k => k
  | none => match D.fresh z with
    | some k => k
    | none => z.back.headD 4
/-- the sides by which the thread that lies was gone, from the start on -/
def sidesOf (z : Thread) : List Nat := ((backs z).map fun k => (k + 2) % 4).reverse

section
variable {t : Bytes} {D : Garden} {z : Thread}
theorem two_two {k : Nat} (h : k < 4) : ((k + 2) % 4 + 2) % 4 = k := by omega
theorem sides_cons {k : Nat} {r : List Nat} (h : backs z = k :: r) : sidesOf z = (r.map fun k => (k + 2) % 4).reverse ++ [(k + 2) % 4] := by
  unfold sidesOf
  rw [h, List.map_cons, List.reverse_cons]
theorem backFrom_len : ∀ (l : List Nat) (a : Nat), (D.backFrom a l).length = l.length + 1
  | [], _ => rfl
  | k :: r, a => by
    show (D.backFrom _ r).length + 1 = _
    rw [backFrom_len r]
    rfl
theorem sides_len : (sidesOf z).length + 1 = (D.lying z).length := by
  unfold sidesOf Garden.lying
  rw [List.length_reverse, List.length_map]
  unfold backs
  cases z.turn with
  | none =>
    simp only
    rw [List.length_reverse, backFrom_len]
    rfl
  | some k =>
    simp only
    rw [List.length_append, List.length_append, List.length_reverse, backFrom_len]
    show 1 + _ + 1 = _ + 1 + 1
    omega
theorem sides_nil (h : sidesOf z = []) : z.turn = none ∧ z.back = [] := by
  have h2 : backs z = [] := by
    unfold sidesOf at h
    rw [List.reverse_eq_nil_iff, List.map_eq_nil_iff] at h
    exact h
  unfold backs at h2
  rw [List.append_eq_nil_iff] at h2
  refine ⟨?_, h2.2⟩
  cases e : z.turn with
  | none => rfl
  | some k => rw [e] at h2; exact absurd h2.1 (by simp)

variable {s : Nat} {pre : List Thread} {sn gn : Nat → Bool}
/-- a side to go back by: the last of the thread's, turned round; its passage was gone -/
theorem lie_last (S : Shows t D) (I : Lie D s pre z sn gn) (h : z.turn.isSome = true ∨ D.fresh z = none) (hl : sidesOf z ≠ []) :
    ∃ k xs, k < 4 ∧ sidesOf z = xs ++ [(k + 2) % 4] ∧ ahead D z = k ∧ gn (place D.wide z.at_ k) = true ∧ ∃ y, D.threadStep z = some y ∧ Lie D s (pre ++ [z]) y sn gn ∧ D.lying z = D.lying y ++ [z.at_] ∧ y.turn = none ∧ y.seen = z.seen ∧ sidesOf y = xs ∧ y.gone = (4 * z.at_ + k) :: z.gone := by
  have G := graph S
  cases hb : backs z with
  | nil =>
    exfalso
    apply hl
    unfold sidesOf
    rw [hb]
    rfl
  | cons k r =>
    have pe := I.R.good.pe
    have k4 := I.R.good.k4
    rw [hb] at pe k4
    have hk : k < 4 := k4 k (List.mem_cons_self ..)
    have hp := pe _ (List.mem_cons_self ..)
    have hg : gn (place D.wide z.at_ k) = true := (I.gn z.at_ k hk hp.1).mpr (.inr hp.2.2)
    refine ⟨k, _, hk, sides_cons hb, ?_, hg, ?_⟩
    · unfold backs at hb
      unfold ahead
      cases ht : z.turn with
      | some j =>
        rw [ht] at hb
        exact (List.cons.inj hb).1
      | none =>
        rw [ht] at hb h
        have hb : z.back = k :: r := hb
        rcases h with h | h
        · cases h
        rw [h, hb]
        rfl
    cases ht : z.turn with
    | some j =>
      obtain ⟨y, st, L, e1, e2, e3⟩ := lie_turn S I (by rw [ht]; rfl)
      have hb2 : backs z = j :: z.back := by unfold backs; rw [ht]; rfl
      rw [hb] at hb2
      obtain ⟨rfl, rfl⟩ := List.cons.inj hb2
      have st2 := step_turn (D := D) ht
      rw [st] at st2
      cases st2
      exact ⟨_, st, L, e1, e2, e3, rfl, rfl⟩
    | none =>
      have hf : D.fresh z = none := h.resolve_left (by rw [ht]; intro q; cases q)
      have hb2 : z.back = k :: r := by
        unfold backs at hb
        rw [ht] at hb
        exact hb
      have h1 : 1 < (D.lying z).length := by
        rw [← sides_len, sides_cons hb, List.length_append]
        show 1 < _ + 1 + 1
        omega
      obtain ⟨y, st, L, e1, e2, e3⟩ := lie_back S I ht hf h1
      have st2 := step_back (D := D) ht hf hb2
      rw [st] at st2
      cases st2
      refine ⟨_, st, L, e1, e2, e3, ?_, rfl⟩
      unfold sidesOf backs
      rw [ht]
      rfl
/-- on through a side not gone -/
theorem lie_first (S : Shows t D) {k : Nat} (I : Lie D s pre z sn gn) (ht : z.turn = none) (hf : D.fresh z = some k) :
    ahead D z = k ∧ gn (place D.wide z.at_ k) = false ∧ ∃ y, D.threadStep z = some y ∧ Lie D s (pre ++ [z]) y (put sn (nextSq D.wide z.at_ k) true) (put gn (place D.wide z.at_ k) true) ∧ D.lying y = D.lying z ++ [nextSq D.wide z.at_ k] ∧
      y.turn.isSome = sn (nextSq D.wide z.at_ k) ∧ y.seen.length = z.seen.length + (if sn (nextSq D.wide z.at_ k) = true then 0 else 1) ∧ sidesOf y = sidesOf z ++ [k] ∧ y.gone = (4 * z.at_ + k) :: z.gone := by
  obtain ⟨hk, f1, f2, f3⟩ := fresh_some hf
  refine ⟨by unfold ahead; rw [ht, hf], ?_, ?_⟩
  · cases e : gn (place D.wide z.at_ k) with
    | false => rfl
    | true =>
      rcases (I.gn z.at_ k hk f1).mp e with h | h
      · exact absurd h f2
      · exact absurd h f3
  obtain ⟨y, st, L, e1, e2, e3⟩ := lie_on S I ht hf
  refine ⟨y, st, L, e1, e2, e3, ?_⟩
  have hbz : backs z = z.back := by unfold backs; rw [ht]; rfl
  by_cases hs : D.comes (4 * z.at_ + k) ∈ z.seen
  · have st2 := step_seen (D := D) ht hf hs
    rw [st] at st2
    cases st2
    refine ⟨?_, rfl⟩
    rw [sides_cons (k := (k + 2) % 4) (r := z.back) rfl, two_two hk]
    unfold sidesOf
    rw [hbz]
  · have st2 := step_new (D := D) ht hf hs
    rw [st] at st2
    cases st2
    refine ⟨?_, rfl⟩
    rw [sides_cons (k := (k + 2) % 4) (r := z.back) rfl, two_two hk]
    unfold sidesOf
    rw [hbz]
/-- the end -/
theorem lie_over (hf : D.fresh z = none) (hl : sidesOf z = []) : ahead D z = 4 ∧ D.threadStep z = none := by
  obtain ⟨ht, hb⟩ := sides_nil hl
  refine ⟨by unfold ahead; rw [ht, hf, hb]; rfl, step_end ht hf hb⟩
/-- which of the three it is -/
theorem lie_ways (_I : Lie D s pre z sn gn) : (z.turn = none ∧ D.fresh z = none ∧ sidesOf z = []) ∨ ((z.turn.isSome = true ∨ D.fresh z = none) ∧ sidesOf z ≠ []) ∨ ∃ k, z.turn = none ∧ D.fresh z = some k := by
  by_cases hl : sidesOf z = []
  · obtain ⟨ht, hb⟩ := sides_nil hl
    cases hf : D.fresh z with
    | none => exact .inl ⟨ht, rfl, hl⟩
    | some k => exact .inr (.inr ⟨k, ht, rfl⟩)
  · cases ht : z.turn with
    | some k => exact .inr (.inl ⟨.inl rfl, hl⟩)
    | none =>
      cases hf : D.fresh z with
      | none => exact .inr (.inl ⟨.inr rfl, hl⟩)
      | some k => exact .inr (.inr ⟨k, rfl, rfl⟩)
/-- the side of the next step is what the next state tells -/
theorem ahead_step (S : Shows t D) (I : Lie D s pre z sn gn) {y : Thread} (h : D.threadStep z = some y) : y.gone.headD 0 % 4 = ahead D z := by
  rcases lie_ways I with ⟨ht, hf, hl⟩ | ⟨h1, h2⟩ | ⟨k, ht, hf⟩
  · rw [(lie_over hf hl).2] at h
    cases h
  · obtain ⟨k, xs, hk, _, e, _, y2, st, _, _, _, _, _, hg⟩ := lie_last S I h1 h2
    rw [st] at h
    cases h
    rw [hg, e]
    exact m4 hk
  · obtain ⟨hk, _⟩ := fresh_some hf
    obtain ⟨e, _, y2, st, _, _, _, _, _, hg⟩ := lie_first S I ht hf
    rw [st] at h
    cases h
    rw [hg, e]
    exact m4 hk
theorem ahead_end (S : Shows t D) (I : Lie D s pre z sn gn) (h : D.threadStep z = none) : ahead D z = 4 := by
  rcases lie_ways I with ⟨ht, hf, hl⟩ | ⟨h1, h2⟩ | ⟨k, ht, hf⟩
  · exact (lie_over hf hl).1
  · obtain ⟨k, xs, hk, _, e, _, y2, st, _⟩ := lie_last S I h1 h2
    rw [st] at h
    cases h
  · obtain ⟨e, _, y2, st, _⟩ := lie_first S I ht hf
    rw [st] at h
    cases h

/-! ### where a square is found, and how a walk goes on -/
theorem walk_split (G : Graph D) (R : Reach D s pre z) : ∃ r, D.threads s = pre ++ z :: r := by
  have hl := reach_le G R
  unfold Garden.threads
  rw [R.run _ (by omega)]
  obtain ⟨n, hn⟩ : ∃ n, 4 * D.squares + 1 - pre.length = n + 1 := ⟨4 * D.squares - pre.length, by omega⟩
  rw [hn]
  exact ⟨_, rfl⟩
theorem find_pre {u : Nat} : ∀ (l : List Nat) (r : List Nat), (∀ x, x ∈ l → x ≠ u) → (l ++ r).findIdx? (fun x => x == u) = (r.findIdx? (fun x => x == u)).map (l.length + ·)
  | [], r, _ => by
    cases e : r.findIdx? (fun x => x == u) with
    | none => simp [e]
    | some n => simp [e]
  | a :: l, r, h => by
    have h1 : (a == u) = false := beq_eq_false_iff_ne.mpr (h a (List.mem_cons_self ..))
    rw [List.cons_append, List.findIdx?_cons, h1, find_pre l r fun x hx => h x (List.mem_cons_of_mem _ hx)]
    cases e : r.findIdx? (fun x => x == u) with
    | none => rfl
    | some n =>
      show some (l.length + n + 1) = some (l.length + 1 + n)
      congr 1
      omega
theorem finds_some {u : Nat} (G : Graph D) (R : Reach D s pre z) (h : ∀ y, y ∈ pre → y.at_ ≠ u) (hz : z.at_ = u) : D.finds s u = some pre.length := by
  obtain ⟨r, e⟩ := walk_split G R
  unfold Garden.finds Garden.threadWalk
  rw [e, List.map_append, find_pre _ _ (fun x hx => by
    rw [List.mem_map] at hx
    obtain ⟨y, hy, rfl⟩ := hx
    exact h y hy)]
  rw [List.map_cons, List.findIdx?_cons, hz]
  simp
theorem finds_none {u : Nat} (G : Graph D) (R : Reach D s pre z) (st : D.threadStep z = none) (h : ∀ y, y ∈ pre → y.at_ ≠ u) (hz : z.at_ ≠ u) : D.finds s u = none := by
  unfold Garden.finds Garden.threadWalk
  rw [reach_end G R st, List.map_append, find_pre _ _ (fun x hx => by
    rw [List.mem_map] at hx
    obtain ⟨y, hy, rfl⟩ := hx
    exact h y hy)]
  rw [List.map_cons, List.findIdx?_cons, beq_eq_false_iff_ne.mpr hz]
  rfl

theorem on_big {l : List Nat} (h : D.squares ≤ s) : MazeT.onward D (s :: l) = none := if_pos (.inl h)
theorem on_not {l : List Nat} (h : (D.threadWalk s).take (l.length + 1) ≠ s :: l) : MazeT.onward D (s :: l) = none := if_pos (.inr h)
/-- all squares are the walk's -/
theorem on_all {l : List Nat} (S : Shows t D) (hs : s < D.squares) (I : Lie D s pre z sn gn) (h : (pre ++ [z]).map (·.at_) = s :: l) : MazeT.onward D (s :: l) = some (ahead D z) := by
  have G := graph S
  have hl : pre.length = l.length := by
    have := congrArg List.length h
    rw [List.length_map, List.length_append] at this
    simpa using this
  have R := I.R
  obtain ⟨r, e⟩ := walk_split G R
  have hw : (D.threadWalk s).take (l.length + 1) = s :: l := by
    unfold Garden.threadWalk
    rw [e, ← h, ← hl, ← List.map_take]
    congr 1
    have : pre ++ z :: r = (pre ++ [z]) ++ r := by simp
    rw [this]
    have h2 : pre.length + 1 = (pre ++ [z]).length := by simp
    rw [h2, List.take_left]
  show (if D.squares ≤ s ∨ (D.threadWalk s).take (l.length + 1) ≠ s :: l then none else _) = _
  rw [if_neg (by rintro (h | h); · omega
                 · exact h hw)]
  congr 1
  show (match D.threadAt s (l.length + 1) with | none => 4 | some z => z.gone.headD 0 % 4) = _
  rw [← hl]
  cases st : D.threadStep z with
  | none =>
    have : D.threadAt s (pre.length + 1) = none := by
      unfold Garden.threadAt
      rw [reach_end G R st, List.getElem?_eq_none]
      simp
    rw [this, ahead_end S I st]
  | some y =>
    have R2 := reach_step G R st
    have := (reach_at G R2).1
    rw [List.length_append] at this
    have this : D.threadAt s (pre.length + 1) = some y := this
    rw [this]
    exact ahead_step S I st
/-- the walk is ended before the squares are -/
theorem on_short {l : List Nat} {i : Nat} (G : Graph D) (R : Reach D s pre z) (hi : pre.length = i) (hl : i < l.length) (st : D.threadStep z = none) : MazeT.onward D (s :: l) = none := by
  refine on_not fun h => ?_
  have := congrArg List.length h
  unfold Garden.threadWalk at this
  rw [reach_end G R st, List.length_take, List.length_map, List.length_append, List.length_cons] at this
  have this : min (l.length + 1) (pre.length + 1) = l.length + 1 := this
  omega
/-- another square comes than the walk's -/
theorem on_other {l : List Nat} {i : Nat} {y : Thread} (G : Graph D) (R : Reach D s pre z) (hi : pre.length = i) (hl : i < l.length) (st : D.threadStep z = some y) (hy : y.at_ ≠ l.getD i 0) : MazeT.onward D (s :: l) = none := by
  refine on_not fun h => ?_
  have R2 := reach_step G R st
  have e := (reach_at G R2).1
  rw [List.length_append] at e
  have e : D.threadAt s (i + 1) = some y := by rw [← hi]; exact e
  unfold Garden.threadAt at e
  have h1 := congrArg (fun q => q[i + 1]?) h
  unfold Garden.threadWalk at h1
  rw [List.getElem?_take, if_pos (by omega), List.getElem?_map, e, List.getElem?_cons_succ, List.getElem?_eq_getElem hl] at h1
  apply hy
  rw [List.getD_eq_getElem?_getD, List.getElem?_eq_getElem hl]
  exact Option.some.inj h1
end
end Tw

set_option Elab.async false
set_option linter.all false
set_option maxRecDepth 100000
set_option maxHeartbeats 4000000
namespace Tw
open PySem PySem.Spec PyProof.Rows L2
def top (i : Nat) : Stmt := PySem.Challenge.pw_threadwalk_s04_finds.main.body.getD i (.Pass ⟨0, 0, 0, 0⟩)
abbrev sRefusal : Stmt := top 9
abbrev sIsDraw : Stmt := top 10
abbrev sFits : Stmt := top 11
abbrev sAllow : Stmt := top 12
abbrev sSqRef : Stmt := top 14
abbrev sInit : Stmt := inClass (top 15) 0
abbrev sHas : Stmt := inClass (top 15) 1
abbrev sPlace : Stmt := inClass (top 15) 2
abbrev sPass : Stmt := inClass (top 15) 3
abbrev sBeyond : Stmt := inClass (top 15) 4
abbrev sWInit : Stmt := inClass (top 18) 0
abbrev sHere : Stmt := inClass (top 18) 1
abbrev sSteps : Stmt := inClass (top 18) 2
abbrev sStep : Stmt := inClass (top 18) 3
abbrev sAhead : Stmt := inClass (top 18) 4
abbrev sSide : Stmt := inClass (top 18) 5
abbrev sGone : Stmt := inClass (top 18) 6
abbrev sUnroll : Stmt := inClass (top 18) 7
abbrev sRoll : Stmt := inClass (top 18) 8
abbrev sDesk : Stmt := top 20
/-- what the top has written of numbers and built-ins -/
structure Con (mg : Str → Option Value) : Prop where
  row : ∃ t, mg "ROW_END" = some (.int 10 t)
  blank : ∃ t, mg "BLANK" = some (.int 32 t)
  corner : ∃ t, mg "CORNER" = some (.int 43 t)
  level : ∃ t, mg "LEVEL_HEDGE" = some (.int 45 t)
  upright : ∃ t, mg "UPRIGHT_HEDGE" = some (.int 124 t)
  mostB : ∃ t, mg "MOST_BYTES" = some (.int 1024 t)
  mostS : ∃ t, mg "MOST_SQUARES_ALONG" = some (.int 10 t)
  ended : ∃ t, mg "ENDED" = some (.int 4 t)
  len : mg "len" = none
  list : mg "list" = none
  range : mg "range" = none
  enum : mg "enumerate" = none
instance instFits (n : Nat) : Decidable (fitsN n) := by
  unfold fitsN
  infer_instance
/-! ### promises -/
def spFits : Sp := fun vs H Q _ => ∃ (n : Nat), vs = [.int n] ∧ ∀ b : Bool, (b = true ↔ fitsN n) → Q (.bl b) H
def spAllow : Sp := fun vs H Q _ => ∃ (p c l : Nat), vs = [.int p, .int c, .int l] ∧ c ≤ 1000000 ∧
  ∀ (q : Addr) (H' : Hp), Same H H' → H q = none → H' q = some (.tup ((allowYX (p / (c + 1)) (p % (c + 1)) c l).map V.int)) → Q (.ref q) H'
theorem same_new {H H' : Hp} {p : Addr} {o : HO} (s : Same H H') (hp : H' p = none) : Same H (upd H' p o) := fun b o' e => by
  rw [upd_ne (ne_of_none (s b o' e) hp)]
  exact s b o' e
section
variable {P : Program} {w : World} {K : PySem.W.Frag} {mg : Str → Option Value} {base : Heap}
theorem scF : FnScope ["count"] ["count"] (defScope sFits) := ⟨rfl, rfl, rfl, by decide +kernel, rfl, by decide +kernel, by decide +kernel⟩
theorem ok_fits {f : Addr} {fd : FuncData} (F : Fun K "fits_squares" "fits_squares" sFits f fd) (T : Con mg) : FnOk P w K mg base CX0 1 f fd ["count"] spFits := by
  refine F.ok scF (fun vs H Q E h => ?_) (fun cdv A outer s H vs Q E hr h => ?_)
  · obtain ⟨n, rfl, _⟩ := h
    rfl
  · obtain ⟨n, rfl, k⟩ := h
    obtain ⟨t, ht⟩ := T.mostS
    refine ⟨_, pss_one (ps_ret (pe_and (pe_cmpR op_eq (pe_op op_mod (pv 0) pe_int) pe_int (nomark _)) (pe_one (pe_chain op_le op_le pe_int (pe_op op_fdiv (pv 0) pe_int) (pe_glob (v := .int 10) rfl ht ⟨_, rfl⟩))))), ?_⟩
    refine ⟨_, rfl, _, _, rfl, rfl, (by show (0 : Int) < 2; decide), rfl, _, rfl, ?_⟩
    rw [dec_int]
    by_cases h1 : n % 2 = 1
    · have e1 : ((n : Int) % 2 == 1) = true := by
        rw [beq_iff_eq]
        omega
      rw [e1]
      refine iteT ⟨_, rfl, _, _, rfl, rfl, ⟨by decide, by decide⟩, _, _, rfl, rfl, _, rfl, ?_⟩
      by_cases h2 : 1 ≤ n / 2
      · rw [decide_eq_true (show (1 : Int) ≤ (n : Int) / 2 by omega)]
        refine iteT ⟨_, _, rfl, rfl, ?_⟩
        refine k _ ?_
        rw [decide_eq_true_iff]
        unfold fitsN
        omega
      · rw [decide_eq_false (show ¬ (1 : Int) ≤ (n : Int) / 2 by omega)]
        refine iteF (k _ ?_)
        unfold fitsN
        simp
        omega
    · have e1 : ((n : Int) % 2 == 1) = false := by
        rw [beq_eq_false_iff_ne]
        omega
      rw [e1]
      refine iteF (k _ ?_)
      unfold fitsN
      simp
      omega
end
end Tw

set_option Elab.async false
set_option linter.all false
set_option maxRecDepth 100000
set_option maxHeartbeats 4000000
namespace Tw
open PySem PySem.Spec PyProof.Rows L2
/-! what a reading comes to, all that was tracked left as it was -/
def EvE (t : TE) (σ : L2.St) (H : Hp) (v : V) : Prop := ∀ Q : VK, (∀ H', Same H H' → Q v H') → t σ H Q
def EvT (t : TT) (σ : L2.St) (H : Hp) (b : Bool) : Prop := ∀ Q : Bool → Hp → Prop, (∀ H', Same H H' → Q b H') → t σ H Q
section
variable {σ : L2.St} {H : Hp} {ta tb : TE} {t u : TT}
theorem ev_var {i : Nat} {v : V} (h : σ[i]? = some (some v)) : EvE (tVar i) σ H v := fun Q q => ⟨v, h, q H (Same.refl H)⟩
theorem ev_c {v : V} : EvE (tC v) σ H v := fun Q q => q H (Same.refl H)
theorem ev_op0 {g : Int → Int → V} {i j : Int} (ha : EvE ta σ H (.int i)) (hb : ∀ H', Same H H' → EvE tb σ H' (.int j)) : EvE (tOp (rI0 g) ta tb) σ H (g i j) :=
  fun Q q => ha _ fun H1 s1 => hb H1 s1 _ fun H2 s2 => ⟨i, j, rfl, rfl, q H2 (s1.trans s2)⟩
theorem ev_op {C : Int → Int → Prop} {g : Int → Int → V} {i j : Int} (ha : EvE ta σ H (.int i)) (hb : ∀ H', Same H H' → EvE tb σ H' (.int j)) (hc : C i j) : EvE (tOp (rI C g) ta tb) σ H (g i j) :=
  fun Q q => ha _ fun H1 s1 => hb H1 s1 _ fun H2 s2 => ⟨i, j, rfl, rfl, hc, q H2 (s1.trans s2)⟩
theorem ev_add {i j k : Int} (ha : EvE ta σ H (.int i)) (hb : ∀ H', Same H H' → EvE tb σ H' (.int j)) (e : i + j = k) : EvE (tOp (rI0 fun i j => .int (i + j)) ta tb) σ H (.int k) := by
  subst e
  exact ev_op0 ha hb
theorem ev_sub {i j k : Int} (ha : EvE ta σ H (.int i)) (hb : ∀ H', Same H H' → EvE tb σ H' (.int j)) (e : i - j = k) : EvE (tOp (rI0 fun i j => .int (i - j)) ta tb) σ H (.int k) := by
  subst e
  exact ev_op0 ha hb
theorem ev_mod {i j k : Int} (ha : EvE ta σ H (.int i)) (hb : ∀ H', Same H H' → EvE tb σ H' (.int j)) (hc : 0 < j) (e : i % j = k) : EvE (tOp (rI (fun _ j => 0 < j) fun i j => .int (i % j)) ta tb) σ H (.int k) := by
  subst e
  exact ev_op ha hb hc
theorem ev_div {i j k : Int} (ha : EvE ta σ H (.int i)) (hb : ∀ H', Same H H' → EvE tb σ H' (.int j)) (hc : CDiv i j) (e : i / j = k) : EvE (tOp (rI CDiv fun i j => .int (i / j)) ta tb) σ H (.int k) := by
  subst e
  exact ev_op ha hb hc
theorem ev_mul {i j k : Int} (ha : EvE ta σ H (.int i)) (hb : ∀ H', Same H H' → EvE tb σ H' (.int j)) (hc : CMul i j) (e : i * j = k) : EvE (tOp (rI CMul fun i j => .int (i * j)) ta tb) σ H (.int k) := by
  subst e
  exact ev_op ha hb hc
theorem ev_eq {i j : Int} {b : Bool} (ha : EvE ta σ H (.int i)) (hb : ∀ H', Same H H' → EvE tb σ H' (.int j)) (e : b = true ↔ i = j) : EvE (tOp rEq ta tb) σ H (.bl b) :=
  fun Q q => ha _ fun H1 s1 => hb H1 s1 _ fun H2 s2 => ⟨rfl, by
    have : decide (V.int i = V.int j) = b := by
      rw [dec_int]
      cases b with
      | true => exact beq_iff_eq.mpr (e.mp rfl)
      | false => exact beq_eq_false_iff_ne.mpr fun k => absurd (e.mpr k) (by decide)
    rw [this]
    exact q H2 (s1.trans s2)⟩
theorem ev_neg {i : Int} (ha : EvE ta σ H (.int i)) : EvE (tUn (rU fun i => .int (-i)) ta) σ H (.int (-i)) := fun Q q => ha _ fun H1 s1 => ⟨i, rfl, q H1 s1⟩
theorem ev_and {t u : TE} {a b : Bool} (ha : EvE t σ H (.bl a)) (hb : ∀ H', Same H H' → a = true → EvE u σ H' (.bl b)) : EvE (tAndV t u) σ H (.bl (a && b)) :=
  fun Q q => ha _ fun H1 s1 => ⟨a, rfl, by
    cases a with
    | true => exact iteT (hb H1 s1 rfl Q fun H2 s2 => q H2 (s1.trans s2))
    | false => exact iteF (q H1 s1)⟩
theorem evt_test {b : Bool} (ha : EvE ta σ H (.bl b)) : EvT (tTest ta) σ H b := fun Q q => ha _ fun H1 s1 => ⟨b, rfl, q H1 s1⟩
theorem evt_tB {b : Bool} (ha : EvE ta σ H (.bl b)) : EvT (tB ta) σ H b := fun Q q => ha _ fun H1 s1 => ⟨b, rfl, q H1 s1⟩
theorem evt_and {a b : Bool} (ha : EvT t σ H a) (hb : ∀ H', Same H H' → a = true → EvT u σ H' b) : EvT (tAnd t u) σ H (a && b) :=
  fun Q q => ha _ fun H1 s1 => by
    cases a with
    | true => exact iteT (hb H1 s1 rfl Q fun H2 s2 => q H2 (s1.trans s2))
    | false => exact iteF (q H1 s1)
theorem evt_or {a b : Bool} (ha : EvT t σ H a) (hb : ∀ H', Same H H' → a = false → EvT u σ H' b) : EvT (tOr t u) σ H (a || b) :=
  fun Q q => ha _ fun H1 s1 => by
    cases a with
    | true => exact iteT (q H1 s1)
    | false => exact iteF (hb H1 s1 rfl Q fun H2 s2 => q H2 (s1.trans s2))
theorem evt_not {a : Bool} (ha : EvT t σ H a) : EvT (tNot t) σ H (!a) := fun Q q => ha _ fun H1 s1 => q H1 s1
theorem do_if {c : TT} {T U : TS} {D : Ends} {b : Bool} (hc : EvT c σ H b) (ht : ∀ H', Same H H' → b = true → T D σ H') (hu : ∀ H', Same H H' → b = false → U D σ H') : tIfS c T U D σ H :=
  hc _ fun H1 s1 => by
    cases b with
    | true => exact iteT (ht H1 s1 rfl)
    | false => exact iteF (hu H1 s1 rfl)
theorem do_if1 {c : TT} {T : TS} {D : Ends} {b : Bool} (hc : EvT c σ H b) (ht : ∀ H', Same H H' → b = true → T D σ H') (hu : ∀ H', Same H H' → b = false → D.nx σ H') : tIfS c T tNext D σ H := do_if hc ht hu
theorem do_seq {T U : TS} {D : Ends} (h : T { D with nx := U D } σ H) : tSeq T U D σ H := h
theorem do_set {D : Ends} {i : Nat} {v : V} (ha : EvE ta σ H v) (h : ∀ H', Same H H' → D.nx (σ.set i (some v)) H') : tAsg ta (gName i) D σ H := ha _ fun H1 s1 => h H1 s1
theorem do_ret {D : Ends} {v : V} (ha : EvE ta σ H v) (h : ∀ H', Same H H' → D.rt v H') : tRet ta D σ H := ha _ fun H1 s1 => h H1 s1
theorem ev_if {c : TT} {x y : TE} {b : Bool} {v w : V} (hc : EvT c σ H b) (hx : ∀ H', Same H H' → EvE x σ H' v) (hy : ∀ H', Same H H' → EvE y σ H' w) : EvE (tIf c x y) σ H (if b = true then v else w) :=
  fun Q q => hc _ fun H1 s1 => by
    cases b with
    | true => exact iteT (hx H1 s1 Q fun H2 s2 => q H2 (s1.trans s2))
    | false => exact iteF (hy H1 s1 Q fun H2 s2 => q H2 (s1.trans s2))
theorem ev_ne {i j : Int} {b : Bool} (ha : EvE ta σ H (.int i)) (hb : ∀ H', Same H H' → EvE tb σ H' (.int j)) (e : b = true ↔ i ≠ j) : EvE (tOp rNe ta tb) σ H (.bl b) :=
  fun Q q => ha _ fun H1 s1 => hb H1 s1 _ fun H2 s2 => ⟨rfl, by
    have : (!decide (V.int i = V.int j)) = b := by
      rw [dec_int]
      cases b with
      | true => rw [beq_eq_false_iff_ne.mpr (e.mp rfl)]; rfl
      | false =>
        by_cases h : i = j
        · subst h; simp
        · exact absurd (e.mpr h) (by decide)
    rw [this]
    exact q H2 (s1.trans s2)⟩
theorem ev_cmp {C : Int → Int → Bool} {i j : Int} {b : Bool} (ha : EvE ta σ H (.int i)) (hb : ∀ H', Same H H' → EvE tb σ H' (.int j)) (e : C i j = b) : EvE (tOp (rI0 fun i j => .bl (C i j)) ta tb) σ H (.bl b) := by
  subst e
  exact ev_op0 ha hb
theorem ev_len {K : PySem.W.Frag} {a : Addr} {xs : List V} {n : Int} (ha : EvE ta σ H (.ref a)) (h : SqL K H a xs) (hn : (xs.length : Int) = n) :
    EvE (tCB (fun xs H Q => ∃ p ys, xs = [V.ref p] ∧ (SqL K H p ys ∨ SqT K H p ys) ∧ Q (.int ys.length) H) (tCons ta tNil)) σ H (.int n) :=
  fun Q q => ha _ fun H1 s1 => ⟨a, xs, rfl, .inl (s1.seq h), by rw [hn]; exact q H1 s1⟩
theorem ev_call1 {sp : Sp} {E : XK} {x v : V} (ha : EvE ta σ H x) (h : ∀ (H1 : Hp) (Q : VK), Same H H1 → (∀ H2, Same H1 H2 → Q v H2) → sp [x] H1 Q E) : EvE (tCall sp [] E (tCons ta tNil)) σ H v :=
  fun Q q => ha _ fun H1 s1 => h H1 Q s1 fun H2 s2 => q H2 (s1.trans s2)
theorem ev_call2 {sp : Sp} {E : XK} {x y v : V} (ha : EvE ta σ H x) (hb : ∀ H', Same H H' → EvE tb σ H' y) (h : ∀ (H1 : Hp) (Q : VK), Same H H1 → (∀ H2, Same H1 H2 → Q v H2) → sp [x, y] H1 Q E) : EvE (tCall sp [] E (tCons ta (tCons tb tNil))) σ H v :=
  fun Q q => ha _ fun H1 s1 => hb H1 s1 _ fun H2 s2 => h H2 Q (s1.trans s2) fun H3 s3 => q H3 ((s1.trans s2).trans s3)
theorem flat_ints : ∀ (ns : List Int), (ns.map V.int).all flatV = true
  | [] => rfl
  | _ :: r => flat_ints r
theorem inV_ints {x : Int} {ns : List Int} : inV (.int x) (ns.map V.int) = decide (x ∈ ns) := by
  induction ns with
  | nil => rfl
  | cons a r ih =>
    unfold inV at *
    rw [List.map_cons, List.any_cons, ih]
    simp only [eqV]
    by_cases h : x = a
    · subst h; simp
    · have h2 : ¬ a = x := fun k => h k.symm
      simp [h, h2]
theorem ev_notin {K : PySem.W.Frag} {a : Addr} {ns : List Int} {x : Int} {b : Bool} (ha : EvE ta σ H (.int x)) (hb : ∀ H', Same H H' → EvE tb σ H' (.ref a)) (h : SqL K H a (ns.map V.int) ∨ SqT K H a (ns.map V.int)) (e : b = true ↔ x ∉ ns) : EvE (tOp (rIn K true) ta tb) σ H (.bl b) :=
  fun Q q => ha _ fun H1 s1 => hb H1 s1 _ fun H2 s2 => ⟨a, ns.map V.int, rfl, h.imp ((s1.trans s2).seq) (fun h => by
    rcases h with (h | ⟨o, h⟩) | h
    · exact .inl (.inl ((s1.trans s2) _ _ h))
    · exact .inl (.inr ⟨o, (s1.trans s2) _ _ h⟩)
    · exact .inr h), rfl, flat_ints ns, by
    show Q (.bl (!inV (.int x) (ns.map V.int))) H2
    have : (!inV (.int x) (ns.map V.int)) = b := by
      rw [inV_ints]
      cases b with
      | true => rw [decide_eq_false (e.mp rfl)]; rfl
      | false =>
        by_cases h : x ∈ ns
        · rw [decide_eq_true h]; rfl
        · exact absurd (e.mpr h) (by decide)
    rw [this]
    exact q H2 (s1.trans s2)⟩
theorem ev_index {K : PySem.W.Frag} {a : Addr} {ns : List Int} {x : Int} {j : Nat} (ha : EvE ta σ H (.ref a)) (hb : ∀ H', Same H H' → EvE tb σ H' (.int x)) (h : SqL K H a (ns.map V.int)) (hj : j < ns.length) (e : ns.getD j 0 = x)
    (hno : ∀ m, m < j → ns.getD m 0 ≠ x) : EvE (tBM K "list" (rIndex K) ta (tCons tb tNil)) σ H (.int (j : Nat)) :=
  fun Q q => ha _ fun H1 s1 => ⟨.inl ⟨rfl, _, s1.seq h⟩, hb H1 s1 _ fun H2 s2 => by
    refine ⟨a, ns.map V.int, .int x, j, .int x, rfl, rfl, (s1.trans s2).seq h, rfl, flat_ints ns, ?_, by simp [eqV], fun m z hm hz => ?_, q H2 (s1.trans s2)⟩
    · rw [List.getElem?_map, List.getElem?_eq_getElem hj]
      rw [List.getD_eq_getElem?_getD, List.getElem?_eq_getElem hj] at e
      show some (V.int ns[j]) = _
      rw [show ns[j] = x from e]
    · have hm' : m < ns.length := by omega
      have := hno m hm
      rw [List.getD_eq_getElem?_getD, List.getElem?_eq_getElem hm'] at this
      rw [List.getElem?_map, List.getElem?_eq_getElem hm'] at hz
      cases hz
      show (ns[m] == x) = false
      exact beq_eq_false_iff_ne.mpr this⟩
/-- a number in a written pair -/
theorem ev_in2 {K : PySem.W.Frag} {t1 t2 : TE} {x a b : Int} (ha : EvE ta σ H (.int x)) (h1 : ∀ H', Same H H' → EvE t1 σ H' (.int a)) (h2 : ∀ H', Same H H' → EvE t2 σ H' (.int b)) {k : Bool} (e : k = true ↔ x = a ∨ x = b) :
    EvE (tOp (rIn K false) ta (tTup (tCons t1 (tCons t2 tNil)))) σ H (.bl k) :=
  fun Q q => ha _ fun H1 s1 => h1 H1 s1 _ fun H2 s2 => h2 H2 (s1.trans s2) _ fun H3 s3 => ⟨by show 2 ≤ sizeLine; decide, fun p hp => by
    refine ⟨p, [.int a, .int b], rfl, .inr (.inl (.inl upd_same)), rfl, rfl, ?_⟩
    have : inV (.int x) [.int a, .int b] = k := by
      unfold inV
      simp only [List.any, eqV, Bool.or_false]
      cases k with
      | true =>
        rcases e.mp rfl with h | h
        · subst h; simp
        · subst h; simp
      | false =>
        have h : ¬ (x = a ∨ x = b) := fun h => absurd (e.mpr h) (by decide)
        have h1 : ¬ a = x := fun k => h (.inl k.symm)
        have h2 : ¬ b = x := fun k => h (.inr k.symm)
        simp [h1, h2]
    show Q (.bl (inV (.int x) [.int a, .int b])) _
    rw [this]
    exact q _ (same_new ((s1.trans s2).trans s3) hp)⟩
theorem ev_pick4 {K : PySem.W.Frag} {t0 t1 t2 t3 tk : TE} {a0 a1 a2 a3 v : Int} {k : Nat} (h0 : EvE t0 σ H (.int a0)) (h1 : ∀ H', Same H H' → EvE t1 σ H' (.int a1)) (h2 : ∀ H', Same H H' → EvE t2 σ H' (.int a2)) (h3 : ∀ H', Same H H' → EvE t3 σ H' (.int a3))
    (hk : ∀ H', Same H H' → EvE tk σ H' (.int (k : Nat))) (e : [a0, a1, a2, a3][k]? = some v) : EvE (tOp (rIxT K) (tTup (tCons t0 (tCons t1 (tCons t2 (tCons t3 tNil))))) tk) σ H (.int v) :=
  fun Q q => h0 _ fun H1 s1 => h1 H1 s1 _ fun H2 s2 => h2 H2 (s1.trans s2) _ fun H3 s3 => h3 H3 ((s1.trans s2).trans s3) _ fun H4 s4 => ⟨by show 4 ≤ sizeLine; decide, fun p hp => by
    have s5 := same_new (o := .tup [.int a0, .int a1, .int a2, .int a3]) (((s1.trans s2).trans s3).trans s4) hp
    refine hk _ s5 _ fun H6 s6 => ⟨p, [.int a0, .int a1, .int a2, .int a3], k, .int v, rfl, rfl, .inl (.inl (s6 _ _ upd_same)), atI_nat ?_, q H6 (s5.trans s6)⟩
    have : ([a0, a1, a2, a3].map V.int)[k]? = some (V.int v) := by rw [List.getElem?_map, e]; rfl
    exact this⟩
end
end Tw

set_option Elab.async false
set_option linter.all false
set_option maxRecDepth 100000
set_option maxHeartbeats 4000000
namespace Tw
open PySem PySem.Spec PyProof.Rows L2
section
variable {P : Program} {w : World} {K : PySem.W.Frag} {mg : Str → Option Value} {base : Heap}
theorem scA : FnScope ["place", "columns", "lines", "line", "column", "hedge"] ["place", "columns", "lines"] (defScope sAllow) := ⟨rfl, rfl, rfl, by decide +kernel, rfl, by decide +kernel, by decide +kernel⟩
theorem ok_allow {f : Addr} {fd : FuncData} (F : Fun K "signs_allowed" "signs_allowed" sAllow f fd) (T : Con mg) : FnOk P w K mg base CX0 1 f fd ["place", "columns", "lines"] spAllow := by
  refine F.ok scA (fun vs H Q E h => ?_) (fun cdv A outer s H vs Q E hr h => ?_)
  · obtain ⟨p, c, l, rfl, _⟩ := h
    rfl
  · obtain ⟨p, c, l, rfl, hc, k⟩ := h
    obtain ⟨t1, hrow⟩ := T.row
    obtain ⟨t2, hblank⟩ := T.blank
    obtain ⟨t3, hcorner⟩ := T.corner
    obtain ⟨t4, hlevel⟩ := T.level
    obtain ⟨t5, hupr⟩ := T.upright
    refine ⟨_, pss_cons (ps_set (i := 3) scA.nd rfl (.inl rfl) (pe_op op_fdiv (pv 0) (pe_op op_add (pv 1) pe_int)))
      (pss_cons (ps_set (i := 4) scA.nd rfl (.inl rfl) (pe_op op_mod (pv 0) (pe_op op_add (pv 1) pe_int)))
      (pss_cons (ps_if (pt_cmpR op_eq (pv 4) (pv 1) (nomark _)) (pss_one (ps_ret (pe_tup (pa_cons (pe_glob (v := .int 10) rfl hrow ⟨_, rfl⟩) pa_nil)))) pss_nil)
      (pss_cons (ps_if (PW.pt (pw_and (pt_cmpR op_eq (pe_op op_mod (pv 3) pe_int) pe_int (nomark _)) (pw_and1 (pt_cmpR op_eq (pe_op op_mod (pv 4) pe_int) pe_int (nomark _))))) (pss_one (ps_ret (pe_tup (pa_cons (pe_glob (v := .int 43) rfl hcorner ⟨_, rfl⟩) pa_nil)))) pss_nil)
      (pss_cons (ps_if (PW.pt (pw_and (pt_cmpR op_eq (pe_op op_mod (pv 3) pe_int) pe_int (nomark _)) (pw_and1 (pt_cmpR op_eq (pe_op op_mod (pv 4) pe_int) pe_int (nomark _))))) (pss_one (ps_ret (pe_tup (pa_cons (pe_glob (v := .int 32) rfl hblank ⟨_, rfl⟩) pa_nil)))) pss_nil)
      (pss_cons (ps_set (i := 5) scA.nd rfl (.inl rfl) (pe_ifExp (pt_cmpR op_eq (pe_op op_mod (pv 3) pe_int) pe_int (nomark _)) (pe_glob (v := .int 45) rfl hlevel ⟨_, rfl⟩) (pe_glob (v := .int 124) rfl hupr ⟨_, rfl⟩)))
      (pss_cons (ps_if (PW.pt (pw_or (pt_cmpR op_in_seq (pv 3) (pe_tup (pa_cons pe_int (pa_cons (pe_op op_sub (pv 2) pe_int) pa_nil))) (by rfl)) (pw_or1 (pt_cmpR op_in_seq (pv 4) (pe_tup (pa_cons pe_int (pa_cons (pe_op op_sub (pv 1) pe_int) pa_nil))) (by rfl)))))
          (pss_one (ps_ret (pe_tup (pa_cons (pv 5) pa_nil)))) pss_nil)
      (pss_one (ps_ret (pe_tup (pa_cons (pv 5) (pa_cons (pe_glob (v := .int 32) rfl hblank ⟨_, rfl⟩) pa_nil))))))))))), ?_⟩
    refine do_set (v := .int ((p / (c + 1) : Nat) : Int)) (ev_div (i := p) (j := ((c + 1 : Nat) : Int)) (ev_var rfl) (fun _ _ => ev_add (ev_var rfl) (fun _ _ => ev_c) rfl) ⟨by omega, by omega⟩ rfl) fun H1 s1 => ?_
    refine do_set (v := .int ((p % (c + 1) : Nat) : Int)) (ev_mod (i := p) (j := ((c + 1 : Nat) : Int)) (ev_var rfl) (fun _ _ => ev_add (ev_var rfl) (fun _ _ => ev_c) rfl) (by omega) rfl) fun H2 s2 => ?_
    have s2 := s1.trans s2
    show tSeq _ _ _ [some (V.int (p : Int)), some (V.int (c : Int)), some (V.int (l : Int)), some (V.int ((p / (c + 1) : Nat) : Int)), some (V.int ((p % (c + 1) : Nat) : Int)), none] H2
    generalize p / (c + 1) = y at *
    generalize p % (c + 1) = x at *
    have one : ∀ (H1 : Hp) (ns : List Int), Same H H1 → allowYX y x c l = ns → ∀ q, H1 q = none → Q (.ref q) (upd H1 q (.tup (ns.map V.int))) := fun H1 v s e q hq =>
      k q _ (same_new s hq) (s.free hq) (by rw [upd_same, e])
    have m2 : ∀ (H : Hp) (i : Nat) (z : Nat) (σ : L2.St), σ[i]? = some (some (V.int (z : Int))) → EvE (tOp (rI (fun x j => 0 < j) fun i j => V.int (i % j)) (tVar i) (tC (V.int 2))) σ H (.int ((z % 2 : Nat) : Int)) := fun H i z σ e =>
      ev_mod (i := z) (j := 2) (ev_var e) (fun _ _ => ev_c) (by decide) rfl
    refine do_if1 (b := decide (x = c)) (evt_test (ev_eq (ev_var rfl) (fun _ _ => ev_var rfl) (by rw [decide_eq_true_iff]; omega))) (fun H3 s3 e => ?_) (fun H3 s3 e => ?_)
    · refine ⟨by show 1 ≤ sizeLine; decide, one H3 [10] (s2.trans s3) ?_⟩
      unfold allowYX
      rw [if_pos (of_decide_eq_true e)]
    have c1 := of_decide_eq_false e
    refine do_if1 (b := decide (y % 2 = 0) && decide (x % 2 = 0)) (evt_and (evt_test (ev_eq (m2 _ 3 y _ rfl) (fun _ _ => ev_c) (by rw [decide_eq_true_iff]; omega))) fun _ _ _ => evt_test (ev_eq (m2 _ 4 x _ rfl) (fun _ _ => ev_c) (by rw [decide_eq_true_iff]; omega)))
      (fun H4 s4 e => ?_) (fun H4 s4 e => ?_)
    · refine ⟨by show 1 ≤ sizeLine; decide, one H4 [43] ((s2.trans s3).trans s4) ?_⟩
      unfold allowYX
      rw [Bool.and_eq_true, decide_eq_true_iff, decide_eq_true_iff] at e
      rw [if_neg c1, if_pos e]
    have c2 : ¬ (y % 2 = 0 ∧ x % 2 = 0) := fun h => by
      rw [decide_eq_true h.1, decide_eq_true h.2] at e
      cases e
    have s4 := (s2.trans s3).trans s4
    refine do_if1 (b := decide (y % 2 = 1) && decide (x % 2 = 1)) (evt_and (evt_test (ev_eq (m2 _ 3 y _ rfl) (fun _ _ => ev_c) (by rw [decide_eq_true_iff]; omega))) fun _ _ _ => evt_test (ev_eq (m2 _ 4 x _ rfl) (fun _ _ => ev_c) (by rw [decide_eq_true_iff]; omega)))
      (fun H5 s5 e => ?_) (fun H5 s5 e => ?_)
    · refine ⟨by show 1 ≤ sizeLine; decide, one H5 [32] (s4.trans s5) ?_⟩
      unfold allowYX
      rw [Bool.and_eq_true, decide_eq_true_iff, decide_eq_true_iff] at e
      rw [if_neg c1, if_neg c2, if_pos e]
    have c3 : ¬ (y % 2 = 1 ∧ x % 2 = 1) := fun h => by
      rw [decide_eq_true h.1, decide_eq_true h.2] at e
      cases e
    have s5 := s4.trans s5
    dsimp only
    refine do_seq ?_
    refine do_set (v := .int (if y % 2 = 0 then 45 else 124)) (fun Q q => ?_) fun H6 s6 => ?_
    · refine ev_if (b := decide (y % 2 = 0)) (v := .int 45) (w := .int 124) (evt_test (ev_eq (m2 _ 3 y _ rfl) (fun _ _ => ev_c) (by rw [decide_eq_true_iff]; omega))) (fun _ _ => ev_c) (fun _ _ => ev_c) Q fun H' s' => ?_
      have := q H' s'
      by_cases h : y % 2 = 0
      · rw [if_pos h] at this
        rw [if_pos (decide_eq_true h)]
        exact this
      · rw [if_neg h] at this
        rw [if_neg (fun k => h (of_decide_eq_true k))]
        exact this
    have s6 := s5.trans s6
    show tSeq _ _ _ [some (V.int (p : Int)), some (V.int (c : Int)), some (V.int (l : Int)), some (V.int (y : Int)), some (V.int (x : Int)), some (V.int (if y % 2 = 0 then 45 else 124))] H6
    refine do_if1 (b := decide (y = 0 ∨ y + 1 = l) || decide (x = 0 ∨ x + 1 = c)) (evt_or (evt_test (ev_in2 (ev_var rfl) (fun _ _ => ev_c) (fun _ _ => ev_sub (ev_var rfl) (fun _ _ => ev_c) rfl) (by rw [decide_eq_true_iff]; omega)))
      fun _ _ _ => evt_test (ev_in2 (ev_var rfl) (fun _ _ => ev_c) (fun _ _ => ev_sub (ev_var rfl) (fun _ _ => ev_c) rfl) (by rw [decide_eq_true_iff]; omega))) (fun H7 s7 e => ?_) (fun H7 s7 e => ?_)
    · refine ⟨_, rfl, by show 1 ≤ sizeLine; decide, one H7 [if y % 2 = 0 then 45 else 124] (s6.trans s7) ?_⟩
      unfold allowYX
      rw [Bool.or_eq_true, decide_eq_true_iff, decide_eq_true_iff] at e
      rw [if_neg c1, if_neg c2, if_neg c3, if_pos (by omega)]
    · refine ⟨_, rfl, by show 2 ≤ sizeLine; decide, one H7 [if y % 2 = 0 then 45 else 124, 32] (s6.trans s7) ?_⟩
      unfold allowYX
      rw [Bool.or_eq_false_iff, decide_eq_false_iff_not, decide_eq_false_iff_not] at e
      rw [if_neg c1, if_neg c2, if_neg c3, if_neg (by omega)]
end
end Tw

set_option Elab.async false
set_option linter.all false
set_option maxRecDepth 100000
set_option maxHeartbeats 4000000
namespace Tw
open PySem PySem.Spec PyProof.Rows L2
def spDraw (K : PySem.W.Frag) : Sp := fun vs H Q _ => ∃ (a : Addr) (ns : List Int), vs = [.ref a] ∧ SqL K H a (ns.map V.int) ∧ Bytes255 ns ∧ ns.length ≤ 1024 ∧
  ∀ (b : Bool) (H' : Hp), Same H H' → (b = true ↔ ∃ w h, Drawn (txt ns) w h) → Q (.bl b) H'
/-- the first 10 -/
theorem first10 : ∀ (ns : List Int), 10 ∈ ns → ∃ j, j < ns.length ∧ ns.getD j 0 = 10 ∧ ∀ m, m < j → ns.getD m 0 ≠ 10
  | [], h => by cases h
  | a :: r, h => by
    by_cases e : a = 10
    · exact ⟨0, by simp, e, fun m hm => by omega⟩
    · have h' : 10 ∈ r := by
        rcases List.mem_cons.mp h with k | k
        · exact absurd k.symm e
        · exact k
      obtain ⟨j, h1, h2, h3⟩ := first10 r h'
      refine ⟨j + 1, by rw [List.length_cons]; omega, h2, fun m hm => ?_⟩
      cases m with
      | zero => exact e
      | succ m => exact h3 m (by omega)
theorem mem_of_at {ns : List Int} {j : Nat} (h : j < ns.length) : ns.getD j 0 ∈ ns := by
  rw [List.getD_eq_getElem?_getD, List.getElem?_eq_getElem h]
  exact List.getElem_mem h
section
variable {P : Program} {w : World} {K : PySem.W.Frag} {mg : Str → Option Value} {base : Heap}
theorem scD : FnScope ["signs", "columns", "lines", "place", "sign"] ["signs"] (defScope sIsDraw) := ⟨rfl, rfl, rfl, by decide +kernel, rfl, by decide +kernel, by decide +kernel⟩
theorem ok_draw {f fF fA : Addr} {fd fdF fdA : FuncData} (F : Fun K "is_drawing" "is_drawing" sIsDraw f fd) (T : Con mg)
    (FF : Fun K "fits_squares" "fits_squares" sFits fF fdF) (bF : Binds K fdF ["count"] []) (gF : mg "fits_squares" = some (.ref fF))
    (FA : Fun K "signs_allowed" "signs_allowed" sAllow fA fdA) (bA : Binds K fdA ["place", "columns", "lines"] []) (gA : mg "signs_allowed" = some (.ref fA)) :
    FnOk P w K mg base CX0 2 f fd ["signs"] (spDraw K) := by
  have GF : FnOk P w K mg base CX0 1 fF fdF ["count"] spFits := ok_fits FF T
  have GA : FnOk P w K mg base CX0 1 fA fdA ["place", "columns", "lines"] spAllow := ok_allow FA T
  refine F.ok scD (fun vs H Q E h => ?_) (fun cdv A outer s H vs Q E hr h => ?_)
  · obtain ⟨a, ns, rfl, _⟩ := h
    rfl
  · obtain ⟨a, ns, rfl, hS, hB, hlen, k⟩ := h
    obtain ⟨t1, hrow⟩ := T.row
    refine ⟨_, pss_cons (ps_if (pt_cmpR op_notIn_seq (pe_glob (v := .int 10) rfl hrow ⟨_, rfl⟩) (pv 0) (by rfl)) (pss_one (ps_ret pe_bl)) pss_nil)
      (pss_cons (ps_set (i := 1) scD.nd rfl (.inl rfl) (pe_bm PySem.F.plainAttrs_list PySem.F.slot_list_index PySem.F.type_list_index mt_index (pv 0) (pa_cons (pe_glob (v := .int 10) rfl hrow ⟨_, rfl⟩) pa_nil)))
      (pss_cons (ps_set (i := 2) scD.nd rfl (.inl rfl) (pe_op op_fdiv (pe_callB call_len_seq (by rfl) T.len PySem.boot_len (pa_cons (pv 0) pa_nil)) (pe_op op_add (pv 1) pe_int)))
      (pss_cons (ps_if (pt_cmpR op_ne (pe_callB call_len_seq (by rfl) T.len PySem.boot_len (pa_cons (pv 0) pa_nil)) (pe_op op_mul (pv 2) (pe_op op_add (pv 1) pe_int)) (nomark _)) (pss_one (ps_ret pe_bl)) pss_nil)
      (pss_cons (ps_if (PW.pt (pw_or (pt_not (pt_val (pe_call GF hr rfl gF FF.kp bF .nil pass0 (pa_cons (pv 1) pa_nil)))) (pw_or1 (pt_not (pt_val (pe_call GF hr rfl gF FF.kp bF .nil pass0 (pa_cons (pv 2) pa_nil))))))) (pss_one (ps_ret pe_bl)) pss_nil)
      (pss_cons (ps_for PassesOwn.never rfl (pi_enum rfl T.enum (pa_cons (pv 0) pa_nil)) (pg_tup rfl (pgs_cons (pg_name (i := 3) scD.nd rfl (.inl rfl)) (pgs_cons (pg_name (i := 4) scD.nd rfl (.inl rfl)) pgs_nil)))
        (pss_one (ps_if (pt_cmpR op_notIn_seq (pv 4) (pe_call GA hr rfl gA FA.kp bA .nil pass0 (pa_cons (pv 3) (pa_cons (pv 1) (pa_cons (pv 2) pa_nil)))) (by rfl)) (pss_one (ps_ret pe_bl)) pss_nil)))
      (pss_one (ps_ret pe_bl))))))), ?_⟩
    -- no row's end in it
    refine do_if1 (b := decide (10 ∉ ns)) (evt_test (ev_notin (a := a) (ns := ns) ev_c (fun _ _ => ev_var rfl) (.inl hS) (decide_eq_true_iff))) (fun H1 s1 e => ?_) (fun H1 s1 e => ?_)
    · refine k false H1 s1 ⟨fun h => (by cases h), fun ⟨w, h, D⟩ => ?_⟩
      obtain ⟨f1, f2, f3, _⟩ := facts_of hB D
      exact absurd (f1 ▸ mem_of_at f3) (of_decide_eq_true e)
    have hmem : 10 ∈ ns := Classical.byContradiction fun h => by rw [decide_eq_true h] at e; cases e
    obtain ⟨c, hc1, hc2, hc3⟩ := first10 ns hmem
    have only : ∀ w h, Drawn (txt ns) w h → c = 2 * w + 1 := fun w h D => by
      obtain ⟨f1, f2, f3, _⟩ := facts_of hB D
      rcases Nat.lt_trichotomy c (2 * w + 1) with g | g | g
      · exact absurd hc2 (f2 c g)
      · exact g
      · exact absurd f1 (hc3 _ g)
    dsimp only
    refine do_seq ?_
    refine do_set (v := .int (c : Nat)) (ev_index (a := a) (ns := ns) (ev_var rfl) (fun _ _ => ev_c) (s1.seq hS) hc1 hc2 hc3) fun H2 s2 => ?_
    have s2 := s1.trans s2
    refine do_set (v := .int ((ns.length / (c + 1) : Nat) : Int)) (ev_div (i := (ns.length : Nat)) (j := ((c + 1 : Nat) : Int)) (ev_len (a := a) (ev_var rfl) (s2.seq hS) (by rw [List.length_map])) (fun _ _ => ev_add (ev_var rfl) (fun _ _ => ev_c) rfl) ⟨by omega, by omega⟩ rfl) fun H3 s3 => ?_
    have s3 := s2.trans s3
    show tSeq _ _ _ [some (V.ref a), some (V.int (c : Nat)), some (V.int ((ns.length / (c + 1) : Nat) : Int)), none, none] H3
    generalize hl : ns.length / (c + 1) = l at *
    have hl2 : l ≤ 1024 := by
      have := Nat.div_le_self ns.length (c + 1)
      omega
    refine do_if1 (b := decide (ns.length ≠ l * (c + 1))) (evt_test (ev_ne (i := (ns.length : Nat)) (j := ((l * (c + 1) : Nat) : Int)) (ev_len (a := a) (ev_var rfl) (s3.seq hS) (by rw [List.length_map]))
      (fun _ _ => ev_mul (i := (l : Nat)) (j := ((c + 1 : Nat) : Int)) (ev_var rfl) (fun _ _ => ev_add (ev_var rfl) (fun _ _ => ev_c) rfl) (.inl ⟨by omega, by omega⟩) rfl) (by rw [decide_eq_true_iff]; omega))) (fun H4 s4 e => ?_) (fun H4 s4 e => ?_)
    · refine k false H4 (s3.trans s4) ⟨fun h => (by cases h), fun ⟨w, h, D⟩ => ?_⟩
      obtain ⟨f1, f2, f3, f4, _⟩ := facts_of hB D
      have e2 := of_decide_eq_true e
      have e3 := only w h D
      refine absurd ?_ e2
      rw [← hl, e3, f4]
      show _ = (2 * h + 1) * (2 * w + 2) / (2 * w + 2) * (2 * w + 2)
      rw [Nat.mul_div_cancel _ (by omega)]
    have hlen2 : ns.length = l * (c + 1) := Classical.byContradiction fun h => by rw [decide_eq_true h] at e; cases e
    have s4 := s3.trans s4
    have fit : ∀ (H : Hp) (i : Nat) (n : Nat) (σ : L2.St) (E : XK), σ[i]? = some (some (V.int (n : Nat))) → EvT (tNot (tB (tCall spFits [] E (tCons (tVar i) tNil)))) σ H (!decide (fitsN n)) := fun H i n σ E e =>
      evt_not (evt_tB (ev_call1 (ev_var e) fun H1 Q s q => ⟨n, rfl, fun b hb => by
        have : b = decide (fitsN n) := by
          cases b with
          | true => exact (decide_eq_true (hb.mp rfl)).symm
          | false => exact (decide_eq_false fun h => absurd (hb.mpr h) (by decide)).symm
        rw [this]
        exact q H1 (Same.refl H1)⟩))
    dsimp only
    refine do_seq ?_
    refine do_if1 (b := !decide (fitsN c) || !decide (fitsN l)) (evt_or (fit _ 1 c _ _ rfl) fun _ _ _ => fit _ 2 l _ _ rfl) (fun H5 s5 e => ?_) (fun H5 s5 e => ?_)
    · refine k false H5 (s4.trans s5) ⟨fun h => (by cases h), fun ⟨w, h, D⟩ => ?_⟩
      obtain ⟨f1, f2, f3, f4, _⟩ := facts_of hB D
      have e3 := only w h D
      have e4 : l = 2 * h + 1 := by
        rw [← hl, e3, f4]
        exact Nat.mul_div_cancel _ (by omega)
      have d1 := D.w1
      have d2 := D.w2
      have d3 := D.h1
      have d4 := D.h2
      rw [decide_eq_true (show fitsN c from ⟨by omega, by omega, by omega⟩), decide_eq_true (show fitsN l from ⟨by omega, by omega, by omega⟩)] at e
      cases e
    rw [Bool.or_eq_false_iff, Bool.not_eq_false', Bool.not_eq_false', decide_eq_true_iff, decide_eq_true_iff] at e
    obtain ⟨hfc, hfl⟩ := e
    have s5 := s4.trans s5
    dsimp only
    refine do_seq ?_
    refine ⟨_, rfl, a, ns.map V.int, rfl, s5.seq hS, for_it walk_enum (fun i σ H' => Same H H' ∧ (∃ v3 v4, σ = [some (V.ref a), some (V.int (c : Nat)), some (V.int (l : Nat)), v3, v4]) ∧ ∀ p, p < i → ns.getD p 0 ∈ allowYX (p / (c + 1)) (p % (c + 1)) c l)
      ⟨s5, ⟨none, none, rfl⟩, fun p hp => by omega⟩ (fun i σ H' _ p => p.1.seq hS) (fun i v σ H6 H7 hi p y => ?_) (fun σ H6 p => ?_)⟩
    · obtain ⟨s6, ⟨v3, v4, rfl⟩, hall⟩ := p
      obtain ⟨T', x', y', rfl, hT, rfl, ex, ey⟩ := y
      cases ex
      rw [List.length_map] at hi
      have ey : (ns.map V.int)[i]? = some y' := ey
      have ey2 : y' = V.int (ns.getD i 0) := by
        rw [List.getElem?_map, List.getElem?_eq_getElem hi] at ey
        rw [List.getD_eq_getElem?_getD, List.getElem?_eq_getElem hi]
        exact (Option.some.inj ey).symm
      subst ey2
      have s7 := same_new (o := .tup [.int (i : Nat), .int (ns.getD i 0)]) s6 hT
      refine ⟨T', _, rfl, .inl (.inl upd_same), rfl, _, _, rfl, _, _, rfl, rfl, ?_⟩
      show tIfS _ _ tNext _ [some (V.ref a), some (V.int (c : Nat)), some (V.int (l : Nat)), some (V.int (i : Nat)), some (V.int (ns.getD i 0))] _
      refine do_if1 (b := decide (ns.getD i 0 ∉ allowYX (i / (c + 1)) (i % (c + 1)) c l)) (evt_test fun Q q => ⟨_, rfl, _, rfl, _, rfl, _, rfl, i, c, l, rfl, by omega, fun qa H8 s8 hq ht => ⟨qa, _, rfl, .inr (.inl (.inl ht)), rfl, flat_ints _, ?_⟩⟩) (fun H8 s8 e => ?_) (fun H8 s8 e => ?_)
      · show Q (.bl (!inV (.int (ns.getD i 0)) _)) H8
        rw [inV_ints]
        have := q H8 s8
        rw [decide_not] at this
        exact this
      · refine k false H8 (s7.trans s8) ⟨fun h => (by cases h), fun ⟨w, h, D⟩ => ?_⟩
        obtain ⟨f1, f2, f3, f4, f5⟩ := facts_of hB D
        have e3 := only w h D
        have e4 : l = 2 * h + 1 := by
          rw [← hl, e3, f4]
          exact Nat.mul_div_cancel _ (by omega)
        have := f5 i hi
        refine absurd ?_ (of_decide_eq_true e)
        rw [e3, e4]
        exact this
      · refine ⟨s7.trans s8, ⟨_, _, rfl⟩, fun p hp => ?_⟩
        rcases Nat.lt_or_ge p i with g | g
        · exact hall p g
        · obtain rfl : p = i := by omega
          exact Classical.byContradiction fun h => by rw [decide_eq_true h] at e; cases e
    · obtain ⟨s6, ⟨v3, v4, rfl⟩, hall⟩ := p
      rw [List.length_map] at hall
      refine k true H6 s6 ⟨fun _ => ⟨c / 2, l / 2, drawn_of hB hfc hfl hlen2 hall⟩, fun _ => rfl⟩
end
end Tw

set_option Elab.async false
set_option linter.all false
set_option maxRecDepth 100000
set_option maxHeartbeats 4000000
namespace Tw
open PySem PySem.Spec PyProof.Rows L2
def Refuse (ns : List Int) (z : Int) : Prop := (1024 < ns.length ∧ z = -2) ∨ (ns.length ≤ 1024 ∧ (¬ ∃ w h, Drawn (txt ns) w h) ∧ z = -6) ∨ (ns.length ≤ 1024 ∧ (∃ w h, Drawn (txt ns) w h) ∧ z = 0)
def spRef (K : PySem.W.Frag) : Sp := fun vs H Q _ => ∃ (a : Addr) (ns : List Int), vs = [.ref a] ∧ SqL K H a (ns.map V.int) ∧ Bytes255 ns ∧
  ∀ (z : Int) (H' : Hp), Same H H' → Refuse ns z → Q (.int z) H'
section
variable {P : Program} {w : World} {K : PySem.W.Frag} {mg : Str → Option Value} {base : Heap}
theorem scR : FnScope ["signs"] ["signs"] (defScope sRefusal) := ⟨rfl, rfl, rfl, by decide +kernel, rfl, by decide +kernel, by decide +kernel⟩
theorem ok_ref {f fD : Addr} {fd fdD : FuncData} (F : Fun K "drawing_refusal" "drawing_refusal" sRefusal f fd) (T : Con mg)
    (GD : FnOk P w K mg base CX0 2 fD fdD ["signs"] (spDraw K)) (kD : PySem.W.keepIn K (.ref fD) = true) (bD : Binds K fdD ["signs"] []) (gD : mg "is_drawing" = some (.ref fD)) :
    FnOk P w K mg base CX0 3 f fd ["signs"] (spRef K) := by
  refine F.ok scR (fun vs H Q E h => ?_) (fun cdv A outer s H vs Q E hr h => ?_)
  · obtain ⟨a, ns, rfl, _⟩ := h
    rfl
  · obtain ⟨a, ns, rfl, hS, hB, k⟩ := h
    obtain ⟨t1, hmost⟩ := T.mostB
    refine ⟨_, pss_cons (ps_if (pt_cmpR op_gt (pe_callB call_len_seq (by rfl) T.len PySem.boot_len (pa_cons (pv 0) pa_nil)) (pe_glob (v := .int 1024) rfl hmost ⟨_, rfl⟩) (nomark _)) (pss_one (ps_ret (pe_un un_neg pe_int))) pss_nil)
      (pss_cons (ps_if (pt_not (pt_val (pe_call GD hr rfl gD kD bD .nil pass0 (pa_cons (pv 0) pa_nil)))) (pss_one (ps_ret (pe_un un_neg pe_int))) pss_nil)
      (pss_one (ps_ret pe_int))), ?_⟩
    refine do_if1 (b := decide (1024 < ns.length)) (evt_test (ev_cmp (C := fun i j => decide (j < i)) (i := (ns.length : Nat)) (j := 1024) (ev_len (a := a) (ev_var rfl) hS (by rw [List.length_map])) (fun _ _ => ev_c) (by
      apply decide_eq_decide.mpr
      omega))) (fun H1 s1 e => ?_) (fun H1 s1 e => ?_)
    · refine ⟨2, rfl, ?_⟩
      exact k (-2) H1 s1 (.inl ⟨of_decide_eq_true e, rfl⟩)
    have hlen : ns.length ≤ 1024 := by
      have := of_decide_eq_false e
      omega
    dsimp only
    refine do_seq ?_
    refine ⟨_, rfl, a, ns, rfl, s1.seq hS, hB, hlen, fun b H2 s2 hb => ⟨b, rfl, ?_⟩⟩
    have s2 := s1.trans s2
    cases b with
    | true => exact iteF (k 0 H2 s2 (.inr (.inr ⟨hlen, hb.mp rfl, rfl⟩)))
    | false =>
      refine iteT ⟨6, rfl, ?_⟩
      exact k (-6) H2 s2 (.inr (.inl ⟨hlen, fun h => absurd (hb.mpr h) (by decide), rfl⟩))
end
end Tw

set_option Elab.async false
set_option linter.all false
set_option maxRecDepth 100000
set_option maxHeartbeats 4000000
namespace Tw
open PySem PySem.Spec PyProof.Rows L2
/-! ### the garden's object -/
def gF (l : Addr) (w h : Nat) : List (Str × V) := [("signs", .ref l), ("line_length", .int ((2 * w + 2 : Nat) : Int)), ("wide", .int (w : Nat)), ("high", .int (h : Nat))]
def GardenAt (C : Addr) (H : Hp) (p : Addr) (ns : List Int) (w h : Nat) : Prop := ∃ dx l, H p = some (.ins C dx (gF l w h)) ∧ H l = some (.lst (ns.map V.int))
theorem lk_here {k : Str} {v : V} {r : List (Str × V)} : List.lookup k ((k, v) :: r) = some v := by
  have e : (k == k) = true := beq_self_eq_true k
  simp only [List.lookup, e]
theorem lk_past {k g : Str} {v : V} {r : List (Str × V)} (h : (k == g) = false) : List.lookup k ((g, v) :: r) = List.lookup k r := by
  simp only [List.lookup, h]
theorem put_here {f : Str} {v x : V} {r : List (Str × V)} : putF f v ((f, x) :: r) = (f, v) :: r := if_pos rfl
theorem put_past {f g : Str} {v x : V} {r : List (Str × V)} (h : ¬ g = f) : putF f v ((g, x) :: r) = (g, x) :: putF f v r := if_neg h
theorem gF_signs {l : Addr} {w h : Nat} : (gF l w h).lookup ("signs" : Str) = some (.ref l) := lk_here
theorem gF_line {l : Addr} {w h : Nat} : (gF l w h).lookup ("line_length" : Str) = some (.int ((2 * w + 2 : Nat) : Int)) := (lk_past (by decide +kernel)).trans lk_here
theorem gF_wide {l : Addr} {w h : Nat} : (gF l w h).lookup ("wide" : Str) = some (.int (w : Nat)) := (lk_past (by decide +kernel)).trans ((lk_past (by decide +kernel)).trans lk_here)
theorem gF_high {l : Addr} {w h : Nat} : (gF l w h).lookup ("high" : Str) = some (.int (h : Nat)) := (lk_past (by decide +kernel)).trans ((lk_past (by decide +kernel)).trans ((lk_past (by decide +kernel)).trans lk_here))
theorem gF_none {l : Addr} {w h : Nat} {m : Str} (h1 : (m == "signs") = false) (h2 : (m == "line_length") = false) (h3 : (m == "wide") = false) (h4 : (m == "high") = false) : (gF l w h).lookup m = none :=
  (lk_past h1).trans ((lk_past h2).trans ((lk_past h3).trans ((lk_past h4).trans rfl)))
def g1 (l : Addr) : List (Str × V) := [("signs", .ref l)]
def g2 (l : Addr) (z : Int) : List (Str × V) := [("signs", .ref l), ("line_length", .int z)]
def g3 (l : Addr) (z y : Int) : List (Str × V) := [("signs", .ref l), ("line_length", .int z), ("wide", .int y)]
def g4 (l : Addr) (z y x : Int) : List (Str × V) := [("signs", .ref l), ("line_length", .int z), ("wide", .int y), ("high", .int x)]
theorem f1 {l : Addr} : putF "signs" (.ref l) [] = g1 l := rfl
theorem f2 {l : Addr} {z : Int} : putF "line_length" (.int z) (g1 l) = g2 l z := (put_past (by decide +kernel)).trans rfl
theorem f3 {l : Addr} {z y : Int} : putF "wide" (.int y) (g2 l z) = g3 l z y := (put_past (by decide +kernel)).trans (congrArg _ ((put_past (by decide +kernel)).trans rfl))
theorem f4 {l : Addr} {z y x : Int} : putF "high" (.int x) (g3 l z y) = g4 l z y x :=
  (put_past (by decide +kernel)).trans (congrArg _ ((put_past (by decide +kernel)).trans (congrArg _ ((put_past (by decide +kernel)).trans rfl))))
theorem g2_line {l : Addr} {z : Int} : (g2 l z).lookup ("line_length" : Str) = some (.int z) := (lk_past (by decide +kernel)).trans lk_here
theorem g3_line {l : Addr} {z y : Int} : (g3 l z y).lookup ("line_length" : Str) = some (.int z) := (lk_past (by decide +kernel)).trans lk_here
/-- what the top has written of the class -/
structure Txt (K : PySem.W.Frag) (mg : Str → Option Value) (C : Addr) : Prop where
  cl : Cls K C
  nS : NoAttr K C "signs"
  nL : NoAttr K C "line_length"
  nW : NoAttr K C "wide"
  nH : NoAttr K C "high"
  gC : mg "Garden" = some (.ref C)
def spInit (K : PySem.W.Frag) (C : Addr) : Sp := fun vs H Q _ => ∃ (p dx a : Addr) (ns : List Int) (w h : Nat), vs = [.ref p, .ref a] ∧ H p = some (.ins C dx []) ∧ SqL K H a (ns.map V.int) ∧ Bytes255 ns ∧ ns.length ≤ 1024 ∧ Drawn (txt ns) w h ∧
  ∀ H' : Hp, GardenAt C H' p ns w h → (∀ b o, H b = some o → b ≠ p → H' b = some o) → Q .non H'
/-- a list stays while an instance is stored to -/
theorem seq_ins {K : PySem.W.Frag} {H : Hp} {a p C dx : Addr} {fs : List (Str × V)} {o : HO} {xs : List V} (h : SqL K H a xs) (hp : H p = some (.ins C dx fs)) : SqL K (upd H p o) a xs := by
  rcases h with (h | ⟨u, h⟩) | h
  · have : a ≠ p := fun e => by subst e; rw [hp] at h; cases h
    exact .inl (.inl (by rw [upd_ne this]; exact h))
  · have : a ≠ p := fun e => by subst e; rw [hp] at h; cases h
    exact .inl (.inr ⟨u, by rw [upd_ne this]; exact h⟩)
  · exact .inr h
section
variable {P : Program} {w0 : World} {K : PySem.W.Frag} {mg : Str → Option Value} {base : Heap} {C : Addr}
theorem scI : FnScope ["self", "signs"] ["self", "signs"] (defScope sInit) := ⟨rfl, rfl, rfl, by decide +kernel, rfl, by decide +kernel, by decide +kernel⟩
theorem ok_init {f : Addr} {fd : FuncData} (F : Fun K "__init__" "Garden.__init__" sInit f fd) (T : Con mg) (X : Txt K mg C) : FnOk P w0 K mg base CX0 1 f fd ["self", "signs"] (spInit K C) := by
  refine F.ok scI (fun vs H Q E h => ?_) (fun cdv A outer s H vs Q E hr h => ?_)
  · obtain ⟨p, dx, a, ns, w, h, rfl, _⟩ := h
    rfl
  · obtain ⟨p, dx, a, ns, w, h, rfl, hp, hS, hB, hlen, D, k⟩ := h
    obtain ⟨t1, hrow⟩ := T.row
    obtain ⟨e1, e2, e3, e4, _⟩ := facts_of hB D
    have d1 := D.w1
    have d2 := D.w2
    have d3 := D.h1
    refine ⟨_, pss_cons (ps_fld (pv 0) (pe_callTy call_list_of (by rfl) T.list (by decide +kernel) (pa_cons (pv 1) pa_nil)) rfl)
      (pss_cons (ps_fld (pv 0) (pe_op op_add (pe_bm PySem.F.plainAttrs_list PySem.F.slot_list_index PySem.F.type_list_index mt_index (pv 1) (pa_cons (pe_glob (v := .int 10) rfl hrow ⟨_, rfl⟩) pa_nil)) pe_int) rfl)
      (pss_cons (ps_fld (pv 0) (pe_op op_sub (pe_op op_fdiv (pe_fld (pv 0) rfl) pe_int) pe_int) rfl)
      (pss_one (ps_fld (pv 0) (pe_op op_fdiv (pe_op op_fdiv (pe_callB call_len_seq (by rfl) T.len PySem.boot_len (pa_cons (pv 1) pa_nil)) (pe_fld (pv 0) rfl)) pe_int) rfl)))), ?_⟩
    -- self.signs = list(signs)
    refine ⟨_, rfl, a, _, rfl, .inl hS, fun l hl => ?_⟩
    have npl : p ≠ l := ne_of_none hp hl
    have hp1 : upd H l (.lst (ns.map V.int)) p = some (.ins C dx []) := by rw [upd_ne npl]; exact hp
    have hS1 : SqL K (upd H l (.lst (ns.map V.int))) a (ns.map V.int) := (same_new (Same.refl H) hl).seq hS
    refine ⟨_, rfl, p, C, dx, [], rfl, hp1, X.cl, X.nS, (by show 0 < 1000; decide), ?_⟩
    rw [f1]
    have hS2 := seq_ins (o := .ins C dx (g1 l)) hS1 hp1
    -- self.line_length = signs.index(ROW_END) + 1
    refine ev_add (i := ((2 * w + 1 : Nat) : Int)) (j := 1) (k := ((2 * w + 2 : Nat) : Int)) (ev_index (K := K) (a := a) (ns := ns) (x := 10) (ev_var rfl) (fun _ _ => ev_c) hS2 e3 e1 e2) (fun _ _ => ev_c) (by omega) _ fun H2 s2 => ?_
    have hp2 := s2 _ _ (upd_same (H := upd H l (.lst (ns.map V.int))) (a := p) (o := .ins C dx (g1 l)))
    refine ⟨_, rfl, p, C, dx, g1 l, rfl, hp2, X.cl, X.nL, (by show 1 < 1000; decide), ?_⟩
    rw [f2]
    have hS3 := seq_ins (o := .ins C dx (g2 l ((2 * w + 2 : Nat) : Int))) (s2.seq hS2) hp2
    -- self.wide = self.line_length // 2 - 1
    have fld : ∀ (H' : Hp) (fs : List (Str × V)) (v : V) (m : Str) (σ : L2.St), σ[0]? = some (some (V.ref p)) → NoAttr K C m → H' p = some (.ins C dx fs) → fs.lookup m = some v → EvE (tFld K (tVar 0) m) σ H' v := fun H' fs v m σ e n hp e2 Q q =>
      ⟨_, e, p, C, dx, fs, v, rfl, hp, X.cl, n, e2, q H' (Same.refl H')⟩
    refine ev_sub (k := ((w : Nat) : Int)) (ev_div (i := ((2 * w + 2 : Nat) : Int)) (j := 2) (k := ((w + 1 : Nat) : Int)) (fld _ _ _ _ _ rfl X.nL upd_same g2_line) (fun _ _ => ev_c) ⟨by decide, by decide⟩ (by omega)) (fun _ _ => ev_c) (by omega) _ fun H3 s3 => ?_
    have hp3 := s3 _ _ (upd_same (H := H2) (a := p) (o := .ins C dx (g2 l ((2 * w + 2 : Nat) : Int))))
    refine ⟨_, rfl, p, C, dx, g2 l ((2 * w + 2 : Nat) : Int), rfl, hp3, X.cl, X.nW, (by show 2 < 1000; decide), ?_⟩
    rw [f3]
    have hS4 := seq_ins (o := .ins C dx (g3 l ((2 * w + 2 : Nat) : Int) ((w : Nat) : Int))) (s3.seq hS3) hp3
    -- self.high = len(signs) // self.line_length // 2
    have hdiv : (ns.length / (2 * w + 2)) = 2 * h + 1 := by rw [e4]; exact Nat.mul_div_cancel _ (by omega)
    refine ev_div (k := ((h : Nat) : Int)) (ev_div (i := ((ns.length : Nat) : Int)) (j := ((2 * w + 2 : Nat) : Int)) (k := ((2 * h + 1 : Nat) : Int)) (ev_len (K := K) (a := a) (ev_var rfl) hS4 (by rw [List.length_map])) (fun H' s' => fld _ _ _ _ _ rfl X.nL (s' _ _ upd_same) g3_line) ⟨by omega, by omega⟩ (by rw [← hdiv]; rfl)) (fun _ _ => ev_c) ⟨by decide, by decide⟩ (by omega) _ fun H4 s4 => ?_
    have hp4 := s4 _ _ (upd_same (H := H3) (a := p) (o := .ins C dx (g3 l ((2 * w + 2 : Nat) : Int) ((w : Nat) : Int))))
    refine ⟨_, rfl, p, C, dx, g3 l ((2 * w + 2 : Nat) : Int) ((w : Nat) : Int), rfl, hp4, X.cl, X.nH, (by show 3 < 1000; decide), ?_⟩
    rw [f4]
    have keep : ∀ b o, upd H l (.lst (ns.map V.int)) b = some o → b ≠ p → upd H4 p (.ins C dx (g4 l ((2 * w + 2 : Nat) : Int) ((w : Nat) : Int) ((h : Nat) : Int))) b = some o := fun b o e hb => by
      rw [upd_ne hb]
      refine s4 _ _ ?_
      rw [upd_ne hb]
      refine s3 _ _ ?_
      rw [upd_ne hb]
      refine s2 _ _ ?_
      rw [upd_ne hb]
      exact e
    exact k _ ⟨dx, l, upd_same, keep l _ upd_same npl.symm⟩ fun b o e hb => keep b o (same_new (Same.refl H) hl b o e) hb
end
end Tw

set_option Elab.async false
set_option linter.all false
set_option maxRecDepth 100000
set_option maxHeartbeats 4000000
namespace Tw
open PySem PySem.Spec PyProof.Rows L2
/-- the numbers of a garden that is small -/
structure Small (w h : Nat) : Prop where
  w1 : 1 ≤ w
  w2 : w ≤ 10
  h1 : 1 ≤ h
  h2 : h ≤ 10
theorem Small.sq {w h s : Nat} (B : Small w h) (hs : s < w * h) : s < 100 := Nat.lt_of_lt_of_le hs (Nat.mul_le_mul B.w2 B.h2)
def spHas (C : Addr) : Sp := fun vs H Q _ => ∃ (p : Addr) (ns : List Int) (w h s : Nat), vs = [.ref p, .int s] ∧ GardenAt C H p ns w h ∧ Small w h ∧ ∀ b : Bool, (b = true ↔ s < w * h) → Q (.bl b) H
def spPlace (C : Addr) : Sp := fun vs H Q _ => ∃ (p : Addr) (ns : List Int) (w h s k : Nat), vs = [.ref p, .int s, .int k] ∧ GardenAt C H p ns w h ∧ Small w h ∧ s < w * h ∧ k < 4 ∧
  ∀ H', Same H H' → Q (.int (place w s k : Nat)) H'
def spPass (C : Addr) : Sp := fun vs H Q _ => ∃ (p : Addr) (ns : List Int) (w h s k : Nat), vs = [.ref p, .int s, .int k] ∧ GardenAt C H p ns w h ∧ Small w h ∧ ns.length = (2 * h + 1) * (2 * w + 2) ∧ s < w * h ∧ k < 4 ∧
  ∀ (b : Bool) (H' : Hp), Same H H' → (b = true ↔ ns.getD (place w s k) 0 = 32) → Q (.bl b) H'
def beyondI (w s k : Nat) : Int := if k = 0 then (s : Int) - w else if k = 1 then (s : Int) + 1 else if k = 2 then (s : Int) + w else (s : Int) - 1
def spBeyond (C : Addr) : Sp := fun vs H Q _ => ∃ (p : Addr) (ns : List Int) (w h s k : Nat), vs = [.ref p, .int s, .int k] ∧ GardenAt C H p ns w h ∧ k < 4 ∧ ∀ H', Same H H' → Q (.int (beyondI w s k)) H'
theorem place_lt {w h s k : Nat} (B : Small w h) (hs : s < w * h) (hk : k < 4) : place w s k < (2 * h + 1) * (2 * w + 2) := by
  have hr : s / w < h := row_lt hs B.w1
  have hc := Nat.mod_lt s (show 0 < w from B.w1)
  have key : ∀ y x, y < 2 * h + 1 → x < 2 * w + 2 → y * (2 * w + 2) + x < (2 * h + 1) * (2 * w + 2) := fun y x hy hx => by
    have := Nat.mul_le_mul_right (2 * w + 2) (show y + 1 ≤ 2 * h + 1 by omega)
    rw [Nat.succ_mul] at this
    omega
  unfold place
  split
  · exact key _ _ (by omega) (by omega)
  · split
    · exact key _ _ (by omega) (by omega)
    · split
      · exact key _ _ (by omega) (by omega)
      · exact key _ _ (by omega) (by omega)
theorem GardenAt.keep {C : Addr} {H H' : Hp} {p : Addr} {ns : List Int} {w h : Nat} (g : GardenAt C H p ns w h) (s : Same H H') : GardenAt C H' p ns w h := by
  obtain ⟨dx, l, h1, h2⟩ := g
  exact ⟨dx, l, s _ _ h1, s _ _ h2⟩
theorem cmul_nat {n : Nat} {j : Int} (h : n < 1000000) : CMul (n : Int) j := .inl ⟨by omega, by omega⟩
section
variable {P : Program} {w0 : World} {K : PySem.W.Frag} {mg : Str → Option Value} {base : Heap} {C : Addr}
section
variable {σ : L2.St} {H : Hp} {p : Addr} {ns : List Int} {w h : Nat}
theorem ev_wide (X : Txt K mg C) (e : σ[0]? = some (some (V.ref p))) (g : GardenAt C H p ns w h) : EvE (tFld K (tVar 0) "wide") σ H (.int (w : Nat)) := fun Q q => by
  obtain ⟨dx, l, h1, h2⟩ := g
  exact ⟨_, e, p, C, dx, _, _, rfl, h1, X.cl, X.nW, gF_wide, q H (Same.refl H)⟩
theorem ev_high (X : Txt K mg C) (e : σ[0]? = some (some (V.ref p))) (g : GardenAt C H p ns w h) : EvE (tFld K (tVar 0) "high") σ H (.int (h : Nat)) := fun Q q => by
  obtain ⟨dx, l, h1, h2⟩ := g
  exact ⟨_, e, p, C, dx, _, _, rfl, h1, X.cl, X.nH, gF_high, q H (Same.refl H)⟩
theorem ev_line (X : Txt K mg C) (e : σ[0]? = some (some (V.ref p))) (g : GardenAt C H p ns w h) : EvE (tFld K (tVar 0) "line_length") σ H (.int ((2 * w + 2 : Nat) : Int)) := fun Q q => by
  obtain ⟨dx, l, h1, h2⟩ := g
  exact ⟨_, e, p, C, dx, _, _, rfl, h1, X.cl, X.nL, gF_line, q H (Same.refl H)⟩
end
theorem scH : FnScope ["self", "square"] ["self", "square"] (defScope sHas) := ⟨rfl, rfl, rfl, by decide +kernel, rfl, by decide +kernel, by decide +kernel⟩
theorem ok_has {f : Addr} {fd : FuncData} (F : Fun K "has_square" "Garden.has_square" sHas f fd) (X : Txt K mg C) : FnOk P w0 K mg base CX0 1 f fd ["self", "square"] (spHas C) := by
  refine F.ok scH (fun vs H Q E h => ?_) (fun cdv A outer s H vs Q E hr h => ?_)
  · obtain ⟨p, ns, w, h, s, rfl, _⟩ := h
    rfl
  · obtain ⟨p, ns, w, h, s, rfl, g, B, k⟩ := h
    refine ⟨_, pss_one (ps_ret (pe_cmpR op_lt (pv 1) (pe_op op_mul (pe_fld (pv 0) rfl) (pe_fld (pv 0) rfl)) (nomark _))), ?_⟩
    obtain ⟨dx, l, h1, h2⟩ := g
    have w2 := B.w2
    have e : ((w : Nat) : Int) * ((h : Nat) : Int) = ((w * h : Nat) : Int) := (Int.natCast_mul w h).symm
    refine ⟨_, rfl, _, rfl, p, C, dx, _, _, rfl, h1, X.cl, X.nW, gF_wide, _, rfl, p, C, dx, _, _, rfl, h1, X.cl, X.nH, gF_high, _, _, rfl, rfl, .inl ⟨by omega, by omega⟩, _, _, rfl, rfl, ?_⟩
    refine k _ ?_
    rw [decide_eq_true_iff, e]
    omega
theorem scP : FnScope ["self", "square", "side", "line", "column", "middle"] ["self", "square", "side"] (defScope sPlace) := ⟨rfl, rfl, rfl, by decide +kernel, rfl, by decide +kernel, by decide +kernel⟩
theorem ok_place {f : Addr} {fd : FuncData} (F : Fun K "side_place" "Garden.side_place" sPlace f fd) (X : Txt K mg C) : FnOk P w0 K mg base CX0 1 f fd ["self", "square", "side"] (spPlace C) := by
  refine F.ok scP (fun vs H Q E h => ?_) (fun cdv A outer s H vs Q E hr h => ?_)
  · obtain ⟨p, ns, w, h, s, k, rfl, _⟩ := h
    rfl
  · obtain ⟨p, ns, w, h, s, k, rfl, g, B, hs, hk, q⟩ := h
    refine ⟨_, pss_cons (ps_set (i := 3) scP.nd rfl (.inl rfl) (pe_op op_add (pe_op op_mul (pe_op op_fdiv (pv 1) (pe_fld (pv 0) rfl)) pe_int) pe_int))
      (pss_cons (ps_set (i := 4) scP.nd rfl (.inl rfl) (pe_op op_add (pe_op op_mul (pe_op op_mod (pv 1) (pe_fld (pv 0) rfl)) pe_int) pe_int))
      (pss_cons (ps_set (i := 5) scP.nd rfl (.inl rfl) (pe_op op_add (pe_op op_mul (pv 3) (pe_fld (pv 0) rfl)) (pv 4)))
      (pss_one (ps_ret (pe_op op_add (pv 5) (pe_ix ix_tup (pe_tup (pa_cons (pe_un un_neg (pe_fld (pv 0) rfl)) (pa_cons pe_int (pa_cons (pe_fld (pv 0) rfl) (pa_cons (pe_un un_neg pe_int) pa_nil))))) (pv 2) (fun _ _ => rfl))))))), ?_⟩
    have w1 := B.w1
    have w2 := B.w2
    have hs100 := B.sq hs
    have hr : s / w ≤ s := Nat.div_le_self s w
    have hr2 : s % w ≤ s := Nat.mod_le s w
    refine do_set (v := .int ((s / w * 2 + 1 : Nat) : Int)) (ev_add (i := ((s / w * 2 : Nat) : Int)) (j := 1) (ev_mul (i := ((s / w : Nat) : Int)) (j := 2) (ev_div (i := (s : Nat)) (j := (w : Nat)) (ev_var rfl) (fun _ s' => ev_wide X rfl (g.keep s')) ⟨by omega, by omega⟩ rfl) (fun _ _ => ev_c) (cmul_nat (by omega)) rfl) (fun _ _ => ev_c) rfl) fun H1 s1 => ?_
    refine do_set (v := .int ((s % w * 2 + 1 : Nat) : Int)) (ev_add (i := ((s % w * 2 : Nat) : Int)) (j := 1) (ev_mul (i := ((s % w : Nat) : Int)) (j := 2) (ev_mod (i := (s : Nat)) (j := (w : Nat)) (ev_var rfl) (fun _ s' => ev_wide X rfl (g.keep (s1.trans s'))) (by omega) rfl) (fun _ _ => ev_c) (cmul_nat (by omega)) rfl) (fun _ _ => ev_c) rfl) fun H2 s2 => ?_
    have s2 := s1.trans s2
    refine do_set (v := .int (((s / w * 2 + 1) * (2 * w + 2) + (s % w * 2 + 1) : Nat) : Int)) (ev_add (i := (((s / w * 2 + 1) * (2 * w + 2) : Nat) : Int)) (j := ((s % w * 2 + 1 : Nat) : Int)) (ev_mul (i := ((s / w * 2 + 1 : Nat) : Int)) (j := ((2 * w + 2 : Nat) : Int)) (ev_var rfl) (fun _ s' => ev_line X rfl (g.keep (s2.trans s'))) (.inl ⟨by omega, by omega⟩) rfl) (fun _ _ => ev_var rfl) rfl) fun H3 s3 => ?_
    have s3 := s2.trans s3
    have key : [-((2 * w + 2 : Nat) : Int), 1, ((2 * w + 2 : Nat) : Int), -1][k]? = some (((place w s k : Nat) : Int) - (((s / w * 2 + 1) * (2 * w + 2) + (s % w * 2 + 1) : Nat) : Int)) := by
      have e1 : (s / w * 2 + 1) * (2 * w + 2) = 2 * (s / w) * (2 * w + 2) + (2 * w + 2) := by rw [Nat.succ_mul, Nat.mul_comm (s / w) 2]
      have e2 : (2 * (s / w) + 2) * (2 * w + 2) = 2 * (s / w) * (2 * w + 2) + (2 * w + 2) + (2 * w + 2) := by rw [Nat.succ_mul, Nat.succ_mul]
      have e3 : (2 * (s / w) + 1) * (2 * w + 2) = 2 * (s / w) * (2 * w + 2) + (2 * w + 2) := by rw [Nat.succ_mul]
      rw [e1]
      unfold place
      obtain rfl | rfl | rfl | rfl : k = 0 ∨ k = 1 ∨ k = 2 ∨ k = 3 := by omega
      · show some _ = some _
        rw [if_pos rfl]
        congr 1
        omega
      · show some _ = some _
        rw [if_neg (by decide), if_pos rfl, e3]
        congr 1
        omega
      · show some _ = some _
        rw [if_neg (by decide), if_neg (by decide), if_pos rfl, e2]
        congr 1
        omega
      · show some _ = some _
        rw [if_neg (by decide), if_neg (by decide), if_neg (by decide), e3]
        congr 1
        omega
    refine do_ret (ev_add (k := ((place w s k : Nat) : Int)) (ev_var rfl) (fun H4 s4 => ev_pick4 (ev_neg (ev_line X rfl (g.keep (s3.trans s4)))) (fun _ _ => ev_c) (fun _ s' => ev_line X rfl (g.keep ((s3.trans s4).trans s'))) (fun _ _ => ev_neg ev_c) (fun _ _ => ev_var rfl) key) (by omega)) fun H4 s4 => q H4 (s3.trans s4)
end
end Tw

set_option Elab.async false
set_option linter.all false
set_option maxRecDepth 100000
set_option maxHeartbeats 4000000
namespace Tw
open PySem PySem.Spec PyProof.Rows L2
section
variable {P : Program} {w0 : World} {K : PySem.W.Frag} {mg : Str → Option Value} {base : Heap} {C : Addr}
/-- the class's methods as they stand -/
structure Mts (P : Program) (w0 : World) (K : PySem.W.Frag) (mg : Str → Option Value) (base : Heap) (C : Addr) (fH fP fQ fB : Addr) (dH dP dQ dB : FuncData) : Prop where
  mH : Meth K C "has_square" fH
  mP : Meth K C "side_place" fP
  mQ : Meth K C "has_passage" fQ
  mB : Meth K C "square_beyond" fB
  bH : Binds K dH ["self", "square"] []
  bP : Binds K dP ["self", "square", "side"] []
  bQ : Binds K dQ ["self", "square", "side"] []
  bB : Binds K dB ["self", "square", "side"] []
  gH : FnOk P w0 K mg base CX0 1 fH dH ["self", "square"] (spHas C)
  gP : FnOk P w0 K mg base CX0 1 fP dP ["self", "square", "side"] (spPlace C)
  gQ : FnOk P w0 K mg base CX0 2 fQ dQ ["self", "square", "side"] (spPass C)
  gB : FnOk P w0 K mg base CX0 1 fB dB ["self", "square", "side"] (spBeyond C)
theorem ev_fld {σ : L2.St} {H : Hp} {ta : TE} {p D dx : Addr} {fs : List (Str × V)} {m : Str} {v : V} (ha : EvE ta σ H (.ref p)) (hp : H p = some (.ins D dx fs)) (c : Cls K D) (n : NoAttr K D m) (e : fs.lookup m = some v) : EvE (tFld K ta m) σ H v := fun Q q =>
  ha _ fun H1 s1 => ⟨p, D, dx, fs, v, rfl, s1 _ _ hp, c, n, e, q H1 s1⟩
theorem ev_m0 {σ : L2.St} {H : Hp} {ta : TE} {p D dx : Addr} {fs : List (Str × V)} {m : Str} {sp : Sp} {E : XK} {v : V} (ha : EvE ta σ H (.ref p)) (hp : H p = some (.ins D dx fs)) (n : fs.lookup m = none)
    (hs : ∀ (H1 : Hp) (Q : VK), Same H H1 → (∀ H2, Same H1 H2 → Q v H2) → sp [.ref p] H1 Q E) : EvE (tMeth D m sp [] E ta tNil) σ H v := fun Q q =>
  ha _ fun H1 s1 => ⟨p, dx, fs, rfl, s1 _ _ hp, n, hs H1 Q s1 fun H2 s2 => q H2 (s1.trans s2)⟩
theorem ev_m1 {σ : L2.St} {H : Hp} {ta tb : TE} {p D dx : Addr} {fs : List (Str × V)} {m : Str} {sp : Sp} {E : XK} {x v : V} (ha : EvE ta σ H (.ref p)) (hp : H p = some (.ins D dx fs)) (n : fs.lookup m = none)
    (hb : ∀ H', Same H H' → EvE tb σ H' x)
    (hs : ∀ (H1 : Hp) (Q : VK), Same H H1 → (∀ H2, Same H1 H2 → Q v H2) → sp [.ref p, x] H1 Q E) : EvE (tMeth D m sp [] E ta (tCons tb tNil)) σ H v := fun Q q =>
  ha _ fun H1 s1 => ⟨p, dx, fs, rfl, s1 _ _ hp, n, hb H1 s1 _ fun H2 s2 => hs H2 Q (s1.trans s2) fun H3 s3 => q H3 ((s1.trans s2).trans s3)⟩
theorem ev_m2 {σ : L2.St} {H : Hp} {ta tb tc : TE} {p D dx : Addr} {fs : List (Str × V)} {m : Str} {sp : Sp} {E : XK} {x y v : V} (ha : EvE ta σ H (.ref p)) (hp : H p = some (.ins D dx fs)) (n : fs.lookup m = none)
    (hb : ∀ H', Same H H' → EvE tb σ H' x) (hc : ∀ H', Same H H' → EvE tc σ H' y)
    (hs : ∀ (H1 : Hp) (Q : VK), Same H H1 → (∀ H2, Same H1 H2 → Q v H2) → sp [.ref p, x, y] H1 Q E) : EvE (tMeth D m sp [] E ta (tCons tb (tCons tc tNil))) σ H v := fun Q q =>
  ha _ fun H1 s1 => ⟨p, dx, fs, rfl, s1 _ _ hp, n, hb H1 s1 _ fun H2 s2 => hc H2 (s1.trans s2) _ fun H3 s3 => hs H3 Q ((s1.trans s2).trans s3) fun H4 s4 => q H4 (((s1.trans s2).trans s3).trans s4)⟩
theorem bool_of {b : Bool} {p : Prop} [Decidable p] (h : b = true ↔ p) : b = decide p := by
  cases b with
  | true => exact (decide_eq_true (h.mp rfl)).symm
  | false => exact (decide_eq_false fun k => absurd (h.mpr k) (by decide)).symm
theorem ev_place {σ : L2.St} {H : Hp} {ta tb tc : TE} {p : Addr} {ns : List Int} {w h s k : Nat} {E : XK} (ha : EvE ta σ H (.ref p)) (g : GardenAt C H p ns w h) (B : Small w h) (hs : s < w * h) (hk : k < 4)
    (hb : ∀ H', Same H H' → EvE tb σ H' (.int (s : Nat))) (hc : ∀ H', Same H H' → EvE tc σ H' (.int (k : Nat))) : EvE (tMeth C "side_place" (spPlace C) [] E ta (tCons tb (tCons tc tNil))) σ H (.int ((place w s k : Nat) : Int)) := by
  obtain ⟨dx, l, h1, h2⟩ := id g
  exact ev_m2 ha h1 (gF_none (by decide) (by decide) (by decide) (by decide)) hb hc fun H1 Q s1 q => ⟨p, ns, w, h, s, k, rfl, g.keep s1, B, hs, hk, q⟩
theorem ev_pass {σ : L2.St} {H : Hp} {ta tb tc : TE} {p : Addr} {ns : List Int} {w h s k : Nat} {E : XK} (ha : EvE ta σ H (.ref p)) (g : GardenAt C H p ns w h) (B : Small w h) (hl : ns.length = (2 * h + 1) * (2 * w + 2)) (hs : s < w * h) (hk : k < 4)
    (hb : ∀ H', Same H H' → EvE tb σ H' (.int (s : Nat))) (hc : ∀ H', Same H H' → EvE tc σ H' (.int (k : Nat))) : EvE (tMeth C "has_passage" (spPass C) [] E ta (tCons tb (tCons tc tNil))) σ H (.bl (decide (ns.getD (place w s k) 0 = 32))) := by
  obtain ⟨dx, l, h1, h2⟩ := id g
  exact ev_m2 ha h1 (gF_none (by decide) (by decide) (by decide) (by decide)) hb hc fun H1 Q s1 q => ⟨p, ns, w, h, s, k, rfl, g.keep s1, B, hl, hs, hk, fun b H2 s2 hb => by
    rw [bool_of hb]
    exact q H2 s2⟩
theorem ev_beyond {σ : L2.St} {H : Hp} {ta tb tc : TE} {p : Addr} {ns : List Int} {w h s k : Nat} {E : XK} (ha : EvE ta σ H (.ref p)) (g : GardenAt C H p ns w h) (hk : k < 4)
    (hb : ∀ H', Same H H' → EvE tb σ H' (.int (s : Nat))) (hc : ∀ H', Same H H' → EvE tc σ H' (.int (k : Nat))) : EvE (tMeth C "square_beyond" (spBeyond C) [] E ta (tCons tb (tCons tc tNil))) σ H (.int (beyondI w s k)) := by
  obtain ⟨dx, l, h1, h2⟩ := id g
  exact ev_m2 ha h1 (gF_none (by decide) (by decide) (by decide) (by decide)) hb hc fun H1 Q s1 q => ⟨p, ns, w, h, s, k, rfl, g.keep s1, hk, q⟩
theorem ev_has {σ : L2.St} {H : Hp} {ta tb : TE} {p : Addr} {ns : List Int} {w h s : Nat} {E : XK} (ha : EvE ta σ H (.ref p)) (g : GardenAt C H p ns w h) (B : Small w h)
    (hb : ∀ H', Same H H' → EvE tb σ H' (.int (s : Nat))) : EvE (tMeth C "has_square" (spHas C) [] E ta (tCons tb tNil)) σ H (.bl (decide (s < w * h))) := by
  obtain ⟨dx, l, h1, h2⟩ := id g
  exact ev_m1 ha h1 (gF_none (by decide) (by decide) (by decide) (by decide)) hb fun H1 Q s1 q => ⟨p, ns, w, h, s, rfl, g.keep s1, B, fun b hb => by
    rw [bool_of hb]
    exact q H1 (Same.refl H1)⟩
theorem scQ : FnScope ["self", "square", "side"] ["self", "square", "side"] (defScope sPass) := ⟨rfl, rfl, rfl, by decide +kernel, rfl, by decide +kernel, by decide +kernel⟩
theorem ok_pass {f fP : Addr} {fd dP : FuncData} (F : Fun K "has_passage" "Garden.has_passage" sPass f fd) (T : Con mg) (X : Txt K mg C) (mP : Meth K C "side_place" fP) (bP : Binds K dP ["self", "square", "side"] [])
    (gP : FnOk P w0 K mg base CX0 1 fP dP ["self", "square", "side"] (spPlace C)) : FnOk P w0 K mg base CX0 2 f fd ["self", "square", "side"] (spPass C) := by
  refine F.ok scQ (fun vs H Q E h => ?_) (fun cdv A outer s H vs Q E hr h => ?_)
  · obtain ⟨p, ns, w, h, s, k, rfl, _⟩ := h
    rfl
  · obtain ⟨p, ns, w, h, s, k, rfl, g, B, hl, hs, hk, q⟩ := h
    obtain ⟨t1, hblank⟩ := T.blank
    refine ⟨_, pss_one (ps_ret (pe_cmpR op_eq (pe_ix ix_list (pe_fld (pv 0) rfl) (pe_meth (pv 0) X.cl mP gP hr bP .nil pass0 (pa_cons (pv 1) (pa_cons (pv 2) pa_nil))) (fun _ _ => rfl)) (pe_glob (v := .int 32) rfl hblank ⟨_, rfl⟩) (nomark _))), ?_⟩
    obtain ⟨dx, l, h1, h2⟩ := id g
    refine do_ret (ev_eq (i := ns.getD (place w s k) 0) (b := decide (ns.getD (place w s k) 0 = 32)) (fun Q q => ⟨_, rfl, p, C, dx, _, _, rfl, h1, X.cl, X.nS, gF_signs, ev_place (ev_var rfl) g B hs hk (fun _ _ => ev_var rfl) (fun _ _ => ev_var rfl) _ fun H1 s1 =>
      ⟨l, _, ((place w s k : Nat) : Int), .int (ns.getD (place w s k) 0), rfl, rfl, .inl (.inl (s1 _ _ h2)), atI_nat ?_, q H1 s1⟩⟩) (fun _ _ => ev_c) (decide_eq_true_iff)) fun H1 s1 => q _ H1 s1 decide_eq_true_iff
    have hp : place w s k < ns.length := by
      rw [hl]
      exact place_lt B hs hk
    rw [List.getElem?_map, List.getElem?_eq_getElem hp, List.getD_eq_getElem?_getD, List.getElem?_eq_getElem hp]
    rfl
theorem scB : FnScope ["self", "square", "side"] ["self", "square", "side"] (defScope sBeyond) := ⟨rfl, rfl, rfl, by decide +kernel, rfl, by decide +kernel, by decide +kernel⟩
theorem ok_beyond {f : Addr} {fd : FuncData} (F : Fun K "square_beyond" "Garden.square_beyond" sBeyond f fd) (X : Txt K mg C) : FnOk P w0 K mg base CX0 1 f fd ["self", "square", "side"] (spBeyond C) := by
  refine F.ok scB (fun vs H Q E h => ?_) (fun cdv A outer s H vs Q E hr h => ?_)
  · obtain ⟨p, ns, w, h, s, k, rfl, _⟩ := h
    rfl
  · obtain ⟨p, ns, w, h, s, k, rfl, g, hk, q⟩ := h
    refine ⟨_, pss_one (ps_ret (pe_op op_add (pv 1) (pe_ix ix_tup (pe_tup (pa_cons (pe_un un_neg (pe_fld (pv 0) rfl)) (pa_cons pe_int (pa_cons (pe_fld (pv 0) rfl) (pa_cons (pe_un un_neg pe_int) pa_nil))))) (pv 2) (fun _ _ => rfl)))), ?_⟩
    have key : [-((w : Nat) : Int), 1, ((w : Nat) : Int), -1][k]? = some (beyondI w s k - (s : Int)) := by
      unfold beyondI
      obtain rfl | rfl | rfl | rfl : k = 0 ∨ k = 1 ∨ k = 2 ∨ k = 3 := by omega
      · show some _ = some _
        rw [if_pos rfl]
        congr 1
        omega
      · show some _ = some _
        rw [if_neg (by decide), if_pos rfl]
        congr 1
        omega
      · show some _ = some _
        rw [if_neg (by decide), if_neg (by decide), if_pos rfl]
        congr 1
        omega
      · show some _ = some _
        rw [if_neg (by decide), if_neg (by decide), if_neg (by decide)]
        congr 1
        omega
    refine do_ret (ev_add (k := beyondI w s k) (ev_var rfl) (fun H4 s4 => ev_pick4 (ev_neg (ev_wide X rfl (g.keep s4))) (fun _ _ => ev_c) (fun _ s' => ev_wide X rfl (g.keep (s4.trans s'))) (fun _ _ => ev_neg ev_c) (fun _ _ => ev_var rfl) key) (by omega)) fun H4 s4 => q H4 s4
end
end Tw

set_option Elab.async false
set_option linter.all false
set_option maxRecDepth 100000
set_option maxHeartbeats 4000000
namespace Tw
open PySem PySem.Spec PyProof.Rows L2
open Maze (Garden)
/-! ### small things of dicts -/
def optV : Option Nat → V
  | none => .non
  | some k => .int (k : Nat)
def natV (n : Nat) : V := .int (n : Nat)
def gnOf (gk : List (Key × V)) : Nat → Bool := fun x => (valV gk (Sum.inl ((x : Nat) : Int))).isSome
theorem inl_eq {x y : Nat} : ((Sum.inl ((x : Nat) : Int) : Key) = Sum.inl ((y : Nat) : Int)) ↔ x = y := by
  constructor
  · intro h
    have := Sum.inl.inj h
    omega
  · rintro rfl
    rfl
theorem gn_put {gk : List (Key × V)} {x : Nat} {v : V} : gnOf (putK gk (Sum.inl ((x : Nat) : Int)) v) = put (gnOf gk) x true := by
  funext y
  unfold gnOf put
  rw [valV_put]
  by_cases h : y = x
  · rw [if_pos (inl_eq.mpr h), if_pos h]
    rfl
  · rw [if_neg (fun k => h (inl_eq.mp k)), if_neg h]
theorem put_len {gk : List (Key × V)} {x : Nat} {v : V} : (putK gk (Sum.inl ((x : Nat) : Int)) v).length = gk.length + (if gnOf gk x = true then 0 else 1) := by
  unfold gnOf
  cases e : valV gk (Sum.inl ((x : Nat) : Int)) with
  | none =>
    rw [putK_new v e, List.length_append]
    rfl
  | some y =>
    unfold putK
    rw [valV_any, e]
    simp
theorem beyond_eq {t : Maze.Bytes} {D : Garden} (S : Shows t D) {s k : Nat} (hs : s < D.squares) (hk : k < 4) (hb : t.getD (place D.wide s k) 0 = 32) : beyondI D.wide s k = ((nextSq D.wide s k : Nat) : Int) := by
  obtain ⟨_, _, p3⟩ := pass S hs hk hb
  have w1 := S.w1
  obtain rfl | rfl | rfl | rfl : k = 0 ∨ k = 1 ∨ k = 2 ∨ k = 3 := by omega
  · have p3 : s - D.wide + D.wide = s := p3
    show (s : Int) - (D.wide : Nat) = ((s - D.wide : Nat) : Int)
    omega
  · rfl
  · rfl
  · have p3 : s - 1 + 1 = s := p3
    show (s : Int) - 1 = ((s - 1 : Nat) : Int)
    omega
theorem same_upd {H H' : Hp} {c : Addr} {o : HO} (s : Same H H') (hc : H c = none) : Same H (upd H' c o) := fun b o' e => by
  rw [upd_ne (ne_of_none e hc)]
  exact s b o' e
theorem nn_int {n : Int} : (!decide (V.int n = V.non)) = true := by simp
theorem nn_non : (!decide (V.non = V.non)) = false := by simp
section
variable {σ : L2.St} {H : Hp} {ta tb : TE}
theorem evt_notN {v : V} {b : Bool} (ha : EvE ta σ H v) (e : (!decide (v = .non)) = b) : EvT (tTest (tOp (fun x y H Q => y = .non ∧ Q (.bl (!decide (x = .non))) H) ta (tC .non))) σ H b := by
  subst e
  exact evt_test fun Q q => ha _ fun H1 s1 => ⟨rfl, q H1 s1⟩
theorem do_append {K : PySem.W.Frag} {D : Ends} {c : Addr} {xs : List V} {v : V} (hi : EvE ta σ H (.ref c)) (ha : ∀ H', Same H H' → EvE tb σ H' v) (hc : H c = some (.lst xs)) (hl : xs.length < sizeLine)
    (h : ∀ H', Same H H' → D.nx σ (upd H' c (.lst (xs ++ [v])))) : tDrop (tBM K "list" rAppend ta (tCons tb tNil)) D σ H :=
  hi _ fun H1 s1 => ⟨.inl ⟨rfl, _, .inl (.inl (s1 _ _ hc))⟩, ha H1 s1 _ fun H2 s2 => ⟨c, xs, v, rfl, rfl, (s1.trans s2) _ _ hc, hl, h H2 (s1.trans s2)⟩⟩
theorem do_pop {K : PySem.W.Frag} {D : Ends} {c : Addr} {xs : List V} {v : V} (hi : EvE ta σ H (.ref c)) (hc : H c = some (.lst (xs ++ [v])))
    (h : ∀ H', Same H H' → D.nx σ (upd H' c (.lst xs))) : tDrop (tBM K "list" rPop ta tNil) D σ H :=
  hi _ fun H1 s1 => ⟨.inl ⟨rfl, _, .inl (.inl (s1 _ _ hc))⟩, c, xs ++ [v], v, rfl, rfl, s1 _ _ hc, by simp, by
    rw [List.dropLast_concat]
    exact h H1 s1⟩
theorem do_put {D : Ends} {d : Addr} {kvs : List (Key × V)} {td tv ty : TE} {v : V} {k : Int} (hv : EvE tv σ H v) (hi : ∀ H', Same H H' → EvE td σ H' (.ref d)) (hy : ∀ H', Same H H' → EvE ty σ H' (.int k)) (hd : H d = some (.dK kvs)) (hl : kvs.length < sizeLine)
    (h : ∀ H', Same H H' → D.nx σ (upd H' d (.dK (putK kvs (Sum.inl k) v)))) : sDPut td ty tv D σ H :=
  hv _ fun H1 s1 => hi H1 s1 _ fun H2 s2 => hy H2 (s1.trans s2) _ fun H3 s3 => ⟨d, _, rfl, DPut.k (k := Sum.inl k) (((s1.trans s2).trans s3) _ _ hd) hl, h H3 ((s1.trans s2).trans s3)⟩
theorem do_appendI {K : PySem.W.Frag} {D : Ends} {c : Addr} {xs : List V} {v : V} (hi : EvE ta σ H (.ref c)) (ha : ∀ H', Same H H' → EvE tb σ H' v) (hc : H c = some (.lst xs)) (hl : xs.length < 1000)
    (h : ∀ H', Same H H' → D.nx σ (upd H' c (.lst (xs ++ [v])))) : tDrop (tBM K "list" rAppend ta (tCons tb tNil)) D σ H := do_append hi ha hc (Nat.lt_trans hl (by decide)) h
theorem ev_din {d : Addr} {kvs : List (Key × V)} {k : Int} (ha : EvE ta σ H (.int k)) (hi : ∀ H', Same H H' → EvE tb σ H' (.ref d)) (hd : H d = some (.dK kvs)) : EvE (tDIn ta tb) σ H (.bl (valV kvs (Sum.inl k)).isSome) :=
  fun Q q => ha _ fun H1 s1 => hi H1 s1 _ fun H2 s2 => ⟨d, _, rfl, DGet.k (k := Sum.inl k) ((s1.trans s2) _ _ hd), q H2 (s1.trans s2)⟩
theorem ev_dnotin {d : Addr} {kvs : List (Key × V)} {k : Int} (ha : EvE ta σ H (.int k)) (hi : ∀ H', Same H H' → EvE tb σ H' (.ref d)) (hd : H d = some (.dK kvs)) : EvE (tDNotIn ta tb) σ H (.bl (!(valV kvs (Sum.inl k)).isSome)) :=
  fun Q q => ha _ fun H1 s1 => hi H1 s1 _ fun H2 s2 => ⟨d, _, rfl, DGet.k (k := Sum.inl k) ((s1.trans s2) _ _ hd), q H2 (s1.trans s2)⟩
theorem do_fld {K : PySem.W.Frag} {D : Ends} {p C dx : Addr} {fs : List (Str × V)} {f : Str} {v : V} (hv : EvE tb σ H v) (ha : ∀ H', Same H H' → EvE ta σ H' (.ref p)) (hp : H p = some (.ins C dx fs)) (c : Cls K C) (n : NoAttr K C f) (hl : fs.length < 1000)
    (h : ∀ H', Same H H' → D.nx σ (upd H' p (.ins C dx (putF f v fs)))) : sFld K ta tb f D σ H :=
  hv _ fun H1 s1 => ha H1 s1 _ fun H2 s2 => ⟨p, C, dx, fs, rfl, (s1.trans s2) _ _ hp, c, n, hl, h H2 (s1.trans s2)⟩
end
/-! ### the walker's object -/
def wF (g t l d e : Addr) (b : Bool) : List (Str × V) := [("garden", .ref g), ("thread", .ref t), ("sides", .ref l), ("seen", .ref d), ("gone", .ref e), ("turning", .bl b)]
section
variable {g t l d e : Addr} {b : Bool}
theorem wF_g : (wF g t l d e b).lookup ("garden" : Str) = some (.ref g) := lk_here
theorem wF_t : (wF g t l d e b).lookup ("thread" : Str) = some (.ref t) := (lk_past (by decide +kernel)).trans lk_here
theorem wF_l : (wF g t l d e b).lookup ("sides" : Str) = some (.ref l) := (lk_past (by decide +kernel)).trans ((lk_past (by decide +kernel)).trans lk_here)
theorem wF_d : (wF g t l d e b).lookup ("seen" : Str) = some (.ref d) := (lk_past (by decide +kernel)).trans ((lk_past (by decide +kernel)).trans ((lk_past (by decide +kernel)).trans lk_here))
theorem wF_e : (wF g t l d e b).lookup ("gone" : Str) = some (.ref e) := (lk_past (by decide +kernel)).trans ((lk_past (by decide +kernel)).trans ((lk_past (by decide +kernel)).trans ((lk_past (by decide +kernel)).trans lk_here)))
theorem wF_b : (wF g t l d e b).lookup ("turning" : Str) = some (.bl b) := (lk_past (by decide +kernel)).trans ((lk_past (by decide +kernel)).trans ((lk_past (by decide +kernel)).trans ((lk_past (by decide +kernel)).trans ((lk_past (by decide +kernel)).trans lk_here))))
theorem wF_none0 {m : Str} (h1 : (m == "garden") = false) (h2 : (m == "thread") = false) (h6 : (m == "sides") = false) (h3 : (m == "seen") = false) (h4 : (m == "gone") = false) (h5 : (m == "turning") = false) : (wF g t l d e b).lookup m = none :=
  (lk_past h1).trans ((lk_past h2).trans ((lk_past h6).trans ((lk_past h3).trans ((lk_past h4).trans ((lk_past h5).trans rfl)))))
/-- no field of this name -/
def NoFld (m : Str) : Prop := ((m == "garden") || ((m == "thread") || ((m == "sides") || ((m == "seen") || ((m == "gone") || (m == "turning")))))) = false
theorem wF_none {m : Str} (h : NoFld m) : (wF g t l d e b).lookup m = none := by
  unfold NoFld at h
  simp only [Bool.or_eq_false_iff] at h
  exact wF_none0 h.1 h.2.1 h.2.2.1 h.2.2.2.1 h.2.2.2.2.1 h.2.2.2.2.2
theorem nf_here : NoFld "here" := by unfold NoFld; decide +kernel
theorem nf_ahead : NoFld "side_ahead" := by unfold NoFld; decide +kernel
theorem nf_side : NoFld "side_not_gone" := by unfold NoFld; decide +kernel
theorem nf_gone : NoFld "is_gone" := by unfold NoFld; decide +kernel
theorem nf_unroll : NoFld "unroll" := by unfold NoFld; decide +kernel
theorem nf_roll : NoFld "roll_up" := by unfold NoFld; decide +kernel
theorem nf_step : NoFld "take_step" := by unfold NoFld; decide +kernel
theorem nf_steps : NoFld "take_steps" := by unfold NoFld; decide +kernel
def w1 (g : Addr) : List (Str × V) := [("garden", .ref g)]
def w2 (g t : Addr) : List (Str × V) := [("garden", .ref g), ("thread", .ref t)]
def w2l (g t l : Addr) : List (Str × V) := [("garden", .ref g), ("thread", .ref t), ("sides", .ref l)]
def w3 (g t l d : Addr) : List (Str × V) := [("garden", .ref g), ("thread", .ref t), ("sides", .ref l), ("seen", .ref d)]
def w4 (g t l d e : Addr) : List (Str × V) := [("garden", .ref g), ("thread", .ref t), ("sides", .ref l), ("seen", .ref d), ("gone", .ref e)]
theorem x1 : putF "garden" (.ref g) [] = w1 g := rfl
theorem x2 : putF "thread" (.ref t) (w1 g) = w2 g t := (put_past (by decide +kernel)).trans rfl
theorem x2l : putF "sides" (.ref l) (w2 g t) = w2l g t l := (put_past (by decide +kernel)).trans (congrArg _ ((put_past (by decide +kernel)).trans rfl))
theorem x3 : putF "seen" (.ref d) (w2l g t l) = w3 g t l d := (put_past (by decide +kernel)).trans (congrArg _ ((put_past (by decide +kernel)).trans (congrArg _ ((put_past (by decide +kernel)).trans rfl))))
theorem x4 : putF "gone" (.ref e) (w3 g t l d) = w4 g t l d e := (put_past (by decide +kernel)).trans (congrArg _ ((put_past (by decide +kernel)).trans (congrArg _ ((put_past (by decide +kernel)).trans (congrArg _ ((put_past (by decide +kernel)).trans rfl))))))
theorem x5 : putF "turning" (.bl b) (w4 g t l d e) = wF g t l d e b :=
  (put_past (by decide +kernel)).trans (congrArg _ ((put_past (by decide +kernel)).trans (congrArg _ ((put_past (by decide +kernel)).trans (congrArg _ ((put_past (by decide +kernel)).trans (congrArg _ ((put_past (by decide +kernel)).trans rfl))))))))
theorem x6 {c : Bool} : putF "turning" (.bl c) (wF g t l d e b) = wF g t l d e c :=
  (put_past (by decide +kernel)).trans (congrArg _ ((put_past (by decide +kernel)).trans (congrArg _ ((put_past (by decide +kernel)).trans (congrArg _ ((put_past (by decide +kernel)).trans (congrArg _ ((put_past (by decide +kernel)).trans (congrArg _ put_here)))))))))
end
structure TxtW (K : PySem.W.Frag) (mg : Str → Option Value) (W : Addr) : Prop where
  cl : Cls K W
  nG : NoAttr K W "garden"
  nT : NoAttr K W "thread"
  nL : NoAttr K W "sides"
  nD : NoAttr K W "seen"
  nE : NoAttr K W "gone"
  nB : NoAttr K W "turning"
  gC : mg "Walker" = some (.ref W)
/-- the walker's objects, as they stand: itself, the thread, its sides, the squares seen, the passages gone -/
structure WAt (W : Addr) (H : Hp) (p dx g t l d e : Addr) (xs ys : List V) (sk gk : List (Key × V)) (b : Bool) : Prop where
  ntl : t ≠ l
  nde : d ≠ e
  p : H p = some (.ins W dx (wF g t l d e b))
  t : H t = some (.lst xs)
  l : H l = some (.lst ys)
  d : H d = some (.dK sk)
  e : H e = some (.dK gk)
section
variable {W : Addr} {H H' : Hp} {p dx g t l d e : Addr} {xs ys : List V} {sk gk : List (Key × V)} {b : Bool}
theorem WAt.keep (A : WAt W H p dx g t l d e xs ys sk gk b) (s : Same H H') : WAt W H' p dx g t l d e xs ys sk gk b :=
  ⟨A.ntl, A.nde, s _ _ A.p, s _ _ A.t, s _ _ A.l, s _ _ A.d, s _ _ A.e⟩
theorem WAt.npt (A : WAt W H p dx g t l d e xs ys sk gk b) : p ≠ t := ne_of A.p A.t (by intro z; cases z)
theorem WAt.npl (A : WAt W H p dx g t l d e xs ys sk gk b) : p ≠ l := ne_of A.p A.l (by intro z; cases z)
theorem WAt.npd (A : WAt W H p dx g t l d e xs ys sk gk b) : p ≠ d := ne_of A.p A.d (by intro z; cases z)
theorem WAt.npe (A : WAt W H p dx g t l d e xs ys sk gk b) : p ≠ e := ne_of A.p A.e (by intro z; cases z)
theorem WAt.ntd (A : WAt W H p dx g t l d e xs ys sk gk b) : t ≠ d := ne_of A.t A.d (by intro z; cases z)
theorem WAt.nte (A : WAt W H p dx g t l d e xs ys sk gk b) : t ≠ e := ne_of A.t A.e (by intro z; cases z)
theorem WAt.nld (A : WAt W H p dx g t l d e xs ys sk gk b) : l ≠ d := ne_of A.l A.d (by intro z; cases z)
theorem WAt.nle (A : WAt W H p dx g t l d e xs ys sk gk b) : l ≠ e := ne_of A.l A.e (by intro z; cases z)
/-! its parts changed, one by one -/
theorem WAt.setP (A : WAt W H p dx g t l d e xs ys sk gk b) {c : Bool} : WAt W (upd H p (.ins W dx (wF g t l d e c))) p dx g t l d e xs ys sk gk c :=
  ⟨A.ntl, A.nde, upd_same, by rw [upd_ne A.npt.symm]; exact A.t, by rw [upd_ne A.npl.symm]; exact A.l, by rw [upd_ne A.npd.symm]; exact A.d, by rw [upd_ne A.npe.symm]; exact A.e⟩
theorem WAt.setT (A : WAt W H p dx g t l d e xs ys sk gk b) {zs : List V} : WAt W (upd H t (.lst zs)) p dx g t l d e zs ys sk gk b :=
  ⟨A.ntl, A.nde, by rw [upd_ne A.npt]; exact A.p, upd_same, by rw [upd_ne A.ntl.symm]; exact A.l, by rw [upd_ne A.ntd.symm]; exact A.d, by rw [upd_ne A.nte.symm]; exact A.e⟩
theorem WAt.setL (A : WAt W H p dx g t l d e xs ys sk gk b) {zs : List V} : WAt W (upd H l (.lst zs)) p dx g t l d e xs zs sk gk b :=
  ⟨A.ntl, A.nde, by rw [upd_ne A.npl]; exact A.p, by rw [upd_ne A.ntl]; exact A.t, upd_same, by rw [upd_ne A.nld.symm]; exact A.d, by rw [upd_ne A.nle.symm]; exact A.e⟩
theorem WAt.setD (A : WAt W H p dx g t l d e xs ys sk gk b) {zs : List (Key × V)} : WAt W (upd H d (.dK zs)) p dx g t l d e xs ys zs gk b :=
  ⟨A.ntl, A.nde, by rw [upd_ne A.npd]; exact A.p, by rw [upd_ne A.ntd]; exact A.t, by rw [upd_ne A.nld]; exact A.l, upd_same, by rw [upd_ne A.nde.symm]; exact A.e⟩
theorem WAt.setE (A : WAt W H p dx g t l d e xs ys sk gk b) {zs : List (Key × V)} : WAt W (upd H e (.dK zs)) p dx g t l d e xs ys sk zs b :=
  ⟨A.ntl, A.nde, by rw [upd_ne A.npe]; exact A.p, by rw [upd_ne A.nte]; exact A.t, by rw [upd_ne A.nle]; exact A.l, by rw [upd_ne A.nde]; exact A.d, upd_same⟩
end
/-- all else stays -/
def Kept (H H' : Hp) (p t l d e : Addr) : Prop := ∀ b o, H b = some o → b ≠ p → b ≠ t → b ≠ l → b ≠ d → b ≠ e → H' b = some o
theorem Kept.same {H H' : Hp} {p t l d e : Addr} (s : Same H H') : Kept H H' p t l d e := fun b o h _ _ _ _ _ => s b o h
theorem Kept.on {H H1 H2 : Hp} {p t l d e a : Addr} {o : HO} (k : Kept H H1 p t l d e) (s : Same H1 H2) (ha : a = p ∨ a = t ∨ a = l ∨ a = d ∨ a = e) : Kept H (upd H2 a o) p t l d e := fun b o' h h1 h2 h3 h4 h5 => by
  have : b ≠ a := by
    rcases ha with rfl | rfl | rfl | rfl | rfl
    · exact h1
    · exact h2
    · exact h3
    · exact h4
    · exact h5
  rw [upd_ne this]
  exact s b o' (k b o' h h1 h2 h3 h4 h5)
def spWInit (W : Addr) : Sp := fun vs H Q _ => ∃ (p dx g : Addr) (s : Nat), vs = [.ref p, .ref g, .int s] ∧ H p = some (.ins W dx []) ∧
  ∀ (H' : Hp) (t l d e : Addr), H t = none → H l = none → H d = none → H e = none → WAt W H' p dx g t l d e [natV s] [] (mergeK [] [(Sum.inl ((s : Nat) : Int), .bl true)]) [] false → (∀ b o, H b = some o → b ≠ p → H' b = some o) → Q .non H'
def spHere (W : Addr) : Sp := fun vs H Q _ => ∃ (p dx g t l d e : Addr) (xs : List V) (v : V) (ys : List V) (sk gk : List (Key × V)) (b : Bool), vs = [.ref p] ∧ WAt W H p dx g t l d e (xs ++ [v]) ys sk gk b ∧ ∀ H', Same H H' → Q v H'
/-- where the walker stands: at square s of a garden -/
structure WIn (C W : Addr) (H : Hp) (p dx g t l d e : Addr) (xs : List V) (s : Nat) (ys : List V) (sk gk : List (Key × V)) (b : Bool) (ns : List Int) (w h : Nat) : Prop where
  A : WAt W H p dx g t l d e (xs ++ [natV s]) ys sk gk b
  gd : GardenAt C H g ns w h
  B : Small w h
  hB : Bytes255 ns
  hl : ns.length = (2 * h + 1) * (2 * w + 2)
  hs : s < w * h
theorem WIn.keep {C W : Addr} {H H' : Hp} {p dx g t l d e : Addr} {xs : List V} {s : Nat} {ys : List V} {sk gk : List (Key × V)} {b : Bool} {ns : List Int} {w h : Nat} (I : WIn C W H p dx g t l d e xs s ys sk gk b ns w h) (k : Same H H') : WIn C W H' p dx g t l d e xs s ys sk gk b ns w h :=
  ⟨I.A.keep k, I.gd.keep k, I.B, I.hB, I.hl, I.hs⟩
def spGone (C W : Addr) : Sp := fun vs H Q _ => ∃ (p dx g t l d e : Addr) (xs : List V) (s k : Nat) (ys : List V) (sk gk : List (Key × V)) (b : Bool) (ns : List Int) (w h : Nat), vs = [.ref p, .int k] ∧ k < 4 ∧ WIn C W H p dx g t l d e xs s ys sk gk b ns w h ∧
  ∀ H', Same H H' → Q (.bl (gnOf gk (place w s k))) H'
def spSide (C W : Addr) : Sp := fun vs H Q _ => ∃ (p dx g t l d e : Addr) (xs : List V) (s : Nat) (ys : List V) (sk gk : List (Key × V)) (b : Bool) (ns : List Int) (w h : Nat), vs = [.ref p] ∧ WIn C W H p dx g t l d e xs s ys sk gk b ns w h ∧
  ∀ H', Same H H' → Q (optV (side (txt ns) w (gnOf gk) s)) H'
def spUnroll (C W : Addr) : Sp := fun vs H Q _ => ∃ (p dx g t l d e : Addr) (xs : List V) (s k n : Nat) (ys : List V) (sk gk : List (Key × V)) (b : Bool) (ns : List Int) (w h : Nat), vs = [.ref p, .int k] ∧ k < 4 ∧ WIn C W H p dx g t l d e xs s ys sk gk b ns w h ∧
  beyondI w s k = ((n : Nat) : Int) ∧ xs.length < 999 ∧ ys.length < 1000 ∧ sk.length < 1000 ∧ gk.length < 1000 ∧
  ∀ H', WAt W H' p dx g t l d e ((xs ++ [natV s]) ++ [natV n]) (ys ++ [natV k]) (putK sk (Sum.inl ((n : Nat) : Int)) (.bl true)) (putK gk (Sum.inl ((place w s k : Nat) : Int)) (.bl true)) (gnOf sk n) → Kept H H' p t l d e → Q .non H'
def spRoll (W : Addr) : Sp := fun vs H Q _ => ∃ (p dx g t l d e : Addr) (xs : List V) (v : V) (ys : List V) (u : V) (sk gk : List (Key × V)) (b : Bool), vs = [.ref p] ∧ WAt W H p dx g t l d e (xs ++ [v]) (ys ++ [u]) sk gk b ∧
  ∀ H', WAt W H' p dx g t l d e xs ys sk gk false → Kept H H' p t l d e → Q .non H'
section
variable {P : Program} {w0 : World} {K : PySem.W.Frag} {mg : Str → Option Value} {base : Heap} {C W : Addr}
section
variable {σ : L2.St} {H : Hp} {p dx g t l d e : Addr} {xs ys : List V} {sk gk : List (Key × V)} {b : Bool} {ta : TE}
theorem ev_wg (X : TxtW K mg W) (ha : EvE ta σ H (.ref p)) (A : WAt W H p dx g t l d e xs ys sk gk b) : EvE (tFld K ta "garden") σ H (.ref g) := ev_fld ha A.p X.cl X.nG wF_g
theorem ev_wt (X : TxtW K mg W) (ha : EvE ta σ H (.ref p)) (A : WAt W H p dx g t l d e xs ys sk gk b) : EvE (tFld K ta "thread") σ H (.ref t) := ev_fld ha A.p X.cl X.nT wF_t
theorem ev_wl (X : TxtW K mg W) (ha : EvE ta σ H (.ref p)) (A : WAt W H p dx g t l d e xs ys sk gk b) : EvE (tFld K ta "sides") σ H (.ref l) := ev_fld ha A.p X.cl X.nL wF_l
theorem ev_wd (X : TxtW K mg W) (ha : EvE ta σ H (.ref p)) (A : WAt W H p dx g t l d e xs ys sk gk b) : EvE (tFld K ta "seen") σ H (.ref d) := ev_fld ha A.p X.cl X.nD wF_d
theorem ev_we (X : TxtW K mg W) (ha : EvE ta σ H (.ref p)) (A : WAt W H p dx g t l d e xs ys sk gk b) : EvE (tFld K ta "gone") σ H (.ref e) := ev_fld ha A.p X.cl X.nE wF_e
theorem ev_wb (X : TxtW K mg W) (ha : EvE ta σ H (.ref p)) (A : WAt W H p dx g t l d e xs ys sk gk b) : EvE (tFld K ta "turning") σ H (.bl b) := ev_fld ha A.p X.cl X.nB wF_b
theorem ev_here {E : XK} {v : V} (ha : EvE ta σ H (.ref p)) (A : WAt W H p dx g t l d e (xs ++ [v]) ys sk gk b) : EvE (tMeth W "here" (spHere W) [] E ta tNil) σ H v :=
  ev_m0 ha A.p (wF_none nf_here) fun H1 Q s1 q => ⟨p, dx, g, t, l, d, e, xs, v, ys, sk, gk, b, rfl, A.keep s1, q⟩
theorem ev_gone {E : XK} {tb : TE} {s k : Nat} {ns : List Int} {w h : Nat} (ha : EvE ta σ H (.ref p)) (I : WIn C W H p dx g t l d e xs s ys sk gk b ns w h) (hk : k < 4) (hb : ∀ H', Same H H' → EvE tb σ H' (.int (k : Nat))) :
    EvE (tMeth W "is_gone" (spGone C W) [] E ta (tCons tb tNil)) σ H (.bl (gnOf gk (place w s k))) :=
  ev_m1 ha I.A.p (wF_none nf_gone) hb fun H1 Q s1 q => ⟨p, dx, g, t, l, d, e, xs, s, k, ys, sk, gk, b, ns, w, h, rfl, hk, I.keep s1, q⟩
theorem ev_side {E : XK} {s : Nat} {ns : List Int} {w h : Nat} (ha : EvE ta σ H (.ref p)) (I : WIn C W H p dx g t l d e xs s ys sk gk b ns w h) :
    EvE (tMeth W "side_not_gone" (spSide C W) [] E ta tNil) σ H (optV (side (txt ns) w (gnOf gk) s)) :=
  ev_m0 ha I.A.p (wF_none nf_side) fun H1 Q s1 q => ⟨p, dx, g, t, l, d, e, xs, s, ys, sk, gk, b, ns, w, h, rfl, I.keep s1, q⟩
end
theorem scHere : FnScope ["self"] ["self"] (defScope sHere) := ⟨rfl, rfl, rfl, by decide +kernel, rfl, by decide +kernel, by decide +kernel⟩
theorem ok_here {f : Addr} {fd : FuncData} (F : Fun K "here" "Walker.here" sHere f fd) (X : TxtW K mg W) : FnOk P w0 K mg base CX0 1 f fd ["self"] (spHere W) := by
  refine F.ok scHere (fun vs H Q E h => ?_) (fun cdv A outer s H vs Q E hr h => ?_)
  · obtain ⟨p, dx, g, t, l, d, e, xs, v, ys, sk, gk, b, rfl, _⟩ := h
    rfl
  · obtain ⟨p, dx, g, t, l, d, e, xs, v, ys, sk, gk, b, rfl, A, q⟩ := h
    refine ⟨_, pss_one (ps_ret (pe_ix ix_list (pe_fld (pv 0) rfl) (pe_un un_neg pe_int) (fun _ _ => rfl))), ?_⟩
    exact ⟨_, rfl, p, W, dx, _, _, rfl, A.p, X.cl, X.nT, wF_t, 1, rfl, t, xs ++ [v], -1, v, rfl, rfl, .inl (.inl A.t), atI_last xs v, q H (Same.refl H)⟩
theorem scWI : FnScope ["self", "garden", "start"] ["self", "garden", "start"] (defScope sWInit) := ⟨rfl, rfl, rfl, by decide +kernel, rfl, by decide +kernel, by decide +kernel⟩
theorem ok_winit {f : Addr} {fd : FuncData} (F : Fun K "__init__" "Walker.__init__" sWInit f fd) (X : TxtW K mg W) : FnOk P w0 K mg base CX0 1 f fd ["self", "garden", "start"] (spWInit W) := by
  refine F.ok scWI (fun vs H Q E h => ?_) (fun cdv A outer s0 H vs Q E hr h => ?_)
  · obtain ⟨p, dx, g, s, rfl, _⟩ := h
    rfl
  · obtain ⟨p, dx, g, s, rfl, hp, q⟩ := h
    refine ⟨_, pss_cons (ps_fld (pv 0) (pv 1) rfl)
      (pss_cons (ps_fld (pv 0) (pe_lst (pa_cons (pv 2) pa_nil)) rfl)
      (pss_cons (ps_fld (pv 0) (pe_lst pa_nil) rfl)
      (pss_cons (ps_fld (pv 0) (pe_disp (pps_cons (pv 2) pe_bl pps_nil) (by rfl) (by rfl) (fun z => by cases z) (by decide)) rfl)
      (pss_cons (ps_fld (pv 0) pe_dnewK rfl)
      (pss_one (ps_fld (pv 0) pe_bl rfl)))))), ?_⟩
    -- self.garden = garden
    refine ⟨_, rfl, _, rfl, p, W, dx, [], rfl, hp, X.cl, X.nG, (by show 0 < 1000; decide), ?_⟩
    rw [x1]
    have k1 : ∀ b o, H b = some o → b ≠ p → upd H p (.ins W dx (w1 g)) b = some o := fun b o e hb => by rw [upd_ne hb]; exact e
    have p1 : upd H p (.ins W dx (w1 g)) p = some (.ins W dx (w1 g)) := upd_same
    generalize upd H p (.ins W dx (w1 g)) = H1 at k1 p1 ⊢
    have free : ∀ {H' : Hp} {a : Addr} {o : HO}, (∀ b o, H b = some o → b ≠ p → H' b = some o) → H' p = some o → H' a = none → H a = none := fun {H' a o} k hp ha => by
      cases e : H a with
      | none => rfl
      | some o =>
        have h1 : a ≠ p := fun z => by subst z; rw [hp] at ha; cases ha
        rw [k a o e h1] at ha
        cases ha
    -- self.thread = [start]
    refine ⟨_, rfl, by show 1 ≤ sizeLine; decide, fun t ht => ?_⟩
    have ht0 := free k1 p1 ht
    have npt : p ≠ t := ne_of_none p1 ht
    refine ⟨_, rfl, p, W, dx, w1 g, rfl, by rw [upd_ne npt]; exact p1, X.cl, X.nT, (by show 1 < 1000; decide), ?_⟩
    rw [x2]
    have k2 : ∀ b o, H b = some o → b ≠ p → upd (upd H1 t (.lst [V.int (s : Nat)])) p (.ins W dx (w2 g t)) b = some o := fun b o e hb => by
      rw [upd_ne hb, upd_ne (ne_of_none e ht0)]
      exact k1 b o e hb
    have p2 : upd (upd H1 t (.lst [V.int (s : Nat)])) p (.ins W dx (w2 g t)) p = some (.ins W dx (w2 g t)) := upd_same
    have t2 : upd (upd H1 t (.lst [V.int (s : Nat)])) p (.ins W dx (w2 g t)) t = some (.lst [V.int (s : Nat)]) := by rw [upd_ne npt.symm, upd_same]
    generalize upd (upd H1 t (.lst [V.int (s : Nat)])) p (.ins W dx (w2 g t)) = H2 at k2 p2 t2 ⊢
    -- self.sides = []
    refine ⟨by show 0 ≤ sizeLine; decide, fun l hl => ?_⟩
    have hl0 := free k2 p2 hl
    have npl : p ≠ l := ne_of_none p2 hl
    have ntl : t ≠ l := ne_of_none t2 hl
    refine ⟨_, rfl, p, W, dx, w2 g t, rfl, by rw [upd_ne npl]; exact p2, X.cl, X.nL, (by show 2 < 1000; decide), ?_⟩
    rw [x2l]
    have k2l : ∀ b o, H b = some o → b ≠ p → upd (upd H2 l (.lst [])) p (.ins W dx (w2l g t l)) b = some o := fun b o e hb => by
      rw [upd_ne hb, upd_ne (ne_of_none e hl0)]
      exact k2 b o e hb
    have p2l : upd (upd H2 l (.lst [])) p (.ins W dx (w2l g t l)) p = some (.ins W dx (w2l g t l)) := upd_same
    have t2l : upd (upd H2 l (.lst [])) p (.ins W dx (w2l g t l)) t = some (.lst [V.int (s : Nat)]) := by rw [upd_ne npt.symm, upd_ne ntl, t2]
    have l2l : upd (upd H2 l (.lst [])) p (.ins W dx (w2l g t l)) l = some (.lst []) := by rw [upd_ne npl.symm, upd_same]
    generalize upd (upd H2 l (.lst [])) p (.ins W dx (w2l g t l)) = H2l at k2l p2l t2l l2l ⊢
    -- self.seen = {start: True}
    refine fun d hd => ⟨_, rfl, upd_same, [(Sum.inl ((s : Nat) : Int), V.bl true)], rfl, by show 1 ≤ 15; decide, ?_⟩
    have hd0 := free k2l p2l hd
    have npd : p ≠ d := ne_of_none p2l hd
    have ntd : t ≠ d := ne_of_none t2l hd
    have nld : l ≠ d := ne_of_none l2l hd
    rw [upd_upd]
    refine ⟨_, rfl, p, W, dx, w2l g t l, rfl, by rw [upd_ne npd]; exact p2l, X.cl, X.nD, (by show 3 < 1000; decide), ?_⟩
    rw [x3]
    have k3 : ∀ b o, H b = some o → b ≠ p → upd (upd H2l d (.dK (mergeK [] [((Sum.inl ((s : Nat) : Int) : Key), V.bl true)]))) p (.ins W dx (w3 g t l d)) b = some o := fun b o e hb => by
      rw [upd_ne hb, upd_ne (ne_of_none e hd0)]
      exact k2l b o e hb
    have p3 : upd (upd H2l d (.dK (mergeK [] [((Sum.inl ((s : Nat) : Int) : Key), V.bl true)]))) p (.ins W dx (w3 g t l d)) p = some (.ins W dx (w3 g t l d)) := upd_same
    have t3 : upd (upd H2l d (.dK (mergeK [] [((Sum.inl ((s : Nat) : Int) : Key), V.bl true)]))) p (.ins W dx (w3 g t l d)) t = some (.lst [V.int (s : Nat)]) := by rw [upd_ne npt.symm, upd_ne ntd, t2l]
    have l3 : upd (upd H2l d (.dK (mergeK [] [((Sum.inl ((s : Nat) : Int) : Key), V.bl true)]))) p (.ins W dx (w3 g t l d)) l = some (.lst []) := by rw [upd_ne npl.symm, upd_ne nld, l2l]
    have d3 : upd (upd H2l d (.dK (mergeK [] [((Sum.inl ((s : Nat) : Int) : Key), V.bl true)]))) p (.ins W dx (w3 g t l d)) d = some (.dK (mergeK [] [((Sum.inl ((s : Nat) : Int) : Key), V.bl true)])) := by rw [upd_ne npd.symm, upd_same]
    generalize upd (upd H2l d (.dK (mergeK [] [((Sum.inl ((s : Nat) : Int) : Key), V.bl true)]))) p (.ins W dx (w3 g t l d)) = H3 at k3 p3 t3 l3 d3 ⊢
    -- self.gone = {}
    refine fun e he => ?_
    have he0 := free k3 p3 he
    have npe : p ≠ e := ne_of_none p3 he
    have nte : t ≠ e := ne_of_none t3 he
    have nle : l ≠ e := ne_of_none l3 he
    have nde : d ≠ e := ne_of_none d3 he
    refine ⟨_, rfl, p, W, dx, w3 g t l d, rfl, by rw [upd_ne npe]; exact p3, X.cl, X.nE, (by show 4 < 1000; decide), ?_⟩
    rw [x4]
    -- self.turning = False
    refine ⟨_, rfl, p, W, dx, w4 g t l d e, rfl, upd_same, X.cl, X.nB, (by show 5 < 1000; decide), ?_⟩
    rw [x5]
    refine q _ t l d e ht0 hl0 hd0 he0 ⟨ntl, nde, upd_same, ?_, ?_, ?_, ?_⟩ fun b o h hb => ?_
    · rw [upd_ne npt.symm, upd_ne npt.symm, upd_ne nte]
      exact t3
    · rw [upd_ne npl.symm, upd_ne npl.symm, upd_ne nle]
      exact l3
    · rw [upd_ne npd.symm, upd_ne npd.symm, upd_ne nde]
      exact d3
    · rw [upd_ne npe.symm, upd_ne npe.symm, upd_same]
    · rw [upd_ne hb, upd_ne hb, upd_ne (ne_of_none h he0)]
      exact k3 b o h hb
end
end Tw

set_option Elab.async false
set_option linter.all false
set_option maxRecDepth 100000
set_option maxHeartbeats 4000000
namespace Tw
open PySem PySem.Spec PyProof.Rows L2
open Maze (Garden)
theorem find4_some {q : Nat → Bool} {i : Nat} (hi : i < 4) (hq : q i = true) (hb : ∀ j, j < i → q j = false) : [0, 1, 2, 3].find? q = some i := by
  obtain rfl | rfl | rfl | rfl : i = 0 ∨ i = 1 ∨ i = 2 ∨ i = 3 := by omega
  · simp [List.find?, hq]
  · simp [List.find?, hq, hb 0 (by omega)]
  · simp [List.find?, hq, hb 0 (by omega), hb 1 (by omega)]
  · simp [List.find?, hq, hb 0 (by omega), hb 1 (by omega), hb 2 (by omega)]
theorem find4_none {q : Nat → Bool} (hb : ∀ j, j < 4 → q j = false) : [0, 1, 2, 3].find? q = none := by
  simp [List.find?, hb 0 (by omega), hb 1 (by omega), hb 2 (by omega), hb 3 (by omega)]
section
variable {P : Program} {w0 : World} {K : PySem.W.Frag} {mg : Str → Option Value} {base : Heap} {C W : Addr}
theorem scG : FnScope ["self", "side"] ["self", "side"] (defScope sGone) := ⟨rfl, rfl, rfl, by decide +kernel, rfl, by decide +kernel, by decide +kernel⟩
theorem ok_gone {f fH fP fQ fB fR : Addr} {fd dH dP dQ dB dR : FuncData} (F : Fun K "is_gone" "Walker.is_gone" sGone f fd) (X : Txt K mg C) (Y : TxtW K mg W) (M : Mts P w0 K mg base C fH fP fQ fB dH dP dQ dB)
    (mR : Meth K W "here" fR) (gR : FnOk P w0 K mg base CX0 1 fR dR ["self"] (spHere W)) (bR : Binds K dR ["self"] []) : FnOk P w0 K mg base CX0 2 f fd ["self", "side"] (spGone C W) := by
  refine F.ok scG (fun vs H Q E h => ?_) (fun cdv A0 outer s0 H vs Q E hr h => ?_)
  · obtain ⟨p, dx, g, t, l, d, e, xs, s, k, ys, sk, gk, b, ns, w, h, rfl, _⟩ := h
    rfl
  · obtain ⟨p, dx, g, t, l, d, e, xs, s, k, ys, sk, gk, b, ns, w, h, rfl, hk, I, q⟩ := h
    have hu := hu_of hr
    refine ⟨_, pss_one (ps_ret (pe_cmp (pc_din hu (pe_meth (pe_fld (pv 0) rfl) X.cl M.mP M.gP hr M.bP .nil pass0 (pa_cons (pe_meth0 (pv 0) Y.cl mR gR hr bR .nil pass0) (pa_cons (pv 1) pa_nil))) (pe_fld (pv 0) rfl)))), ?_⟩
    exact do_ret (ev_din (k := ((place w s k : Nat) : Int)) (ev_place (ev_wg Y (ev_var rfl) I.A) I.gd I.B I.hs hk (fun _ s' => ev_here (ev_var rfl) (I.A.keep s')) (fun _ _ => ev_var rfl)) (fun _ s' => ev_we Y (ev_var rfl) (I.A.keep s')) I.A.e) fun H1 s1 => q H1 s1
theorem scS : FnScope ["self", "side"] ["self"] (defScope sSide) := ⟨rfl, rfl, rfl, by decide +kernel, rfl, by decide +kernel, by decide +kernel⟩
theorem ok_side {f fH fP fQ fB fR fG : Addr} {fd dH dP dQ dB dR dG : FuncData} (F : Fun K "side_not_gone" "Walker.side_not_gone" sSide f fd) (T : Con mg) (X : Txt K mg C) (Y : TxtW K mg W) (M : Mts P w0 K mg base C fH fP fQ fB dH dP dQ dB)
    (mR : Meth K W "here" fR) (gR : FnOk P w0 K mg base CX0 1 fR dR ["self"] (spHere W)) (bR : Binds K dR ["self"] [])
    (mG : Meth K W "is_gone" fG) (gG : FnOk P w0 K mg base CX0 2 fG dG ["self", "side"] (spGone C W)) (bG : Binds K dG ["self", "side"] []) : FnOk P w0 K mg base CX0 3 f fd ["self"] (spSide C W) := by
  refine F.ok scS (fun vs H Q E h => ?_) (fun cdv A0 outer s0 H vs Q E hr h => ?_)
  · obtain ⟨p, dx, g, t, l, d, e, xs, s, ys, sk, gk, b, ns, w, h, rfl, _⟩ := h
    rfl
  · obtain ⟨p, dx, g, t, l, d, e, xs, s, ys, sk, gk, b, ns, w, h, rfl, I, q⟩ := h
    have hu := hu_of hr
    refine ⟨_, pss_cons (ps_for PassesOwn.never rfl (pi_range1 rfl T.range (pa_cons pe_int pa_nil)) (pg_name (i := 1) scS.nd rfl (.inl rfl))
        (pss_one (ps_if (PW.pt (pw_and (pt_val (pe_meth (pe_fld (pv 0) rfl) X.cl M.mQ M.gQ hr M.bQ .nil pass0 (pa_cons (pe_meth0 (pv 0) Y.cl mR gR (hr.mono (by decide)) bR .nil pass0) (pa_cons (pv 1) pa_nil))))
          (pw_and1 (pt_not (pt_val (pe_meth (pv 0) Y.cl mG gG hr bG .nil pass0 (pa_cons (pv 1) pa_nil)))))))
            (pss_one (ps_ret (pv 1))) pss_nil)))
      (pss_one (ps_ret pe_non)), ?_⟩
    have pred : ∀ k, ((txt ns).getD (place w s k) 0 == 32) = decide (ns.getD (place w s k) 0 = 32) := fun k => by
      have := txt_eq I.hB (place w s k) 32 (by decide)
      by_cases h : ns.getD (place w s k) 0 = 32
      · rw [decide_eq_true h]
        exact beq_iff_eq.mpr (this.mpr h)
      · rw [decide_eq_false h]
        exact beq_eq_false_iff_ne.mpr fun k => h (this.mp k)
    refine ⟨4, rfl, by decide, by decide, for_range (lo := 0) (n := 4) (fun i σ H' => Same H H' ∧ (∃ v, σ = [some (V.ref p), v]) ∧ ∀ j, j < i → (((txt ns).getD (place w s j) 0 == 32) && !gnOf gk (place w s j)) = false)
      ⟨Same.refl H, ⟨none, rfl⟩, fun j hj => by omega⟩ (fun i σ H1 hi ⟨s1, ⟨v, e⟩, hall⟩ => ?_) (fun σ H1 ⟨s1, ⟨v, e⟩, hall⟩ => ?_)⟩
    · subst e
      have ei : (0 : Int) + (i : Nat) = ((i : Nat) : Int) := by omega
      rw [ei]
      show tIfS _ _ tNext _ [some (V.ref p), some (V.int (i : Nat))] H1
      refine do_if1 (b := decide (ns.getD (place w s i) 0 = 32) && !gnOf gk (place w s i)) (evt_and (evt_tB (ev_pass (ev_wg Y (ev_var rfl) (I.A.keep s1)) (I.gd.keep s1) I.B I.hl I.hs hi (fun _ s' => ev_here (ev_var rfl) (I.A.keep (s1.trans s'))) (fun _ _ => ev_var rfl)))
        (fun _ s' _ => evt_not (evt_tB (ev_gone (ev_var rfl) (I.keep (s1.trans s')) hi (fun _ _ => ev_var rfl))))) (fun H2 s2 e => ?_) (fun H2 s2 e => ?_)
      · refine ⟨_, rfl, ?_⟩
        have := q H2 (s1.trans s2)
        unfold side at this
        rw [find4_some hi (by rw [pred, e]) hall] at this
        exact this
      · refine ⟨s1.trans s2, ⟨_, rfl⟩, fun j hj => ?_⟩
        rcases Nat.lt_or_ge j i with k | k
        · exact hall j k
        · obtain rfl : j = i := by omega
          rw [pred]
          exact e
    · have := q H1 s1
      unfold side at this
      rw [find4_none hall] at this
      exact this
theorem scU : FnScope ["self", "side", "beyond"] ["self", "side"] (defScope sUnroll) := ⟨rfl, rfl, rfl, by decide +kernel, rfl, by decide +kernel, by decide +kernel⟩
theorem ok_unroll {f fH fP fQ fB fR : Addr} {fd dH dP dQ dB dR : FuncData} (F : Fun K "unroll" "Walker.unroll" sUnroll f fd) (X : Txt K mg C) (Y : TxtW K mg W) (M : Mts P w0 K mg base C fH fP fQ fB dH dP dQ dB)
    (mR : Meth K W "here" fR) (gR : FnOk P w0 K mg base CX0 1 fR dR ["self"] (spHere W)) (bR : Binds K dR ["self"] []) : FnOk P w0 K mg base CX0 2 f fd ["self", "side"] (spUnroll C W) := by
  refine F.ok scU (fun vs H Q E h => ?_) (fun cdv A0 outer s0 H vs Q E hr h => ?_)
  · obtain ⟨p, dx, g, t, l, d, e, xs, s, k, n, ys, sk, gk, b, ns, w, h, rfl, _⟩ := h
    rfl
  · obtain ⟨p, dx, g, t, l, d, e, xs, s, k, n, ys, sk, gk, b, ns, w, h, rfl, hk, I, hn, l1, l4, l2, l3, q⟩ := h
    have hu := hu_of hr
    refine ⟨_, pss_cons (ps_set (i := 2) scU.nd rfl (.inl rfl) (pe_meth (pe_fld (pv 0) rfl) X.cl M.mB M.gB hr M.bB .nil pass0 (pa_cons (pe_meth0 (pv 0) Y.cl mR gR hr bR .nil pass0) (pa_cons (pv 1) pa_nil))))
      (pss_cons (ps_dput hu (pe_fld (pv 0) rfl) (pe_meth (pe_fld (pv 0) rfl) X.cl M.mP M.gP hr M.bP .nil pass0 (pa_cons (pe_meth0 (pv 0) Y.cl mR gR hr bR .nil pass0) (pa_cons (pv 1) pa_nil))) pe_bl rfl)
      (pss_cons (ps_fld (pv 0) (pe_cmp (pc_din hu (pv 2) (pe_fld (pv 0) rfl))) rfl)
      (pss_cons (ps_dput hu (pe_fld (pv 0) rfl) (pv 2) pe_bl rfl)
      (pss_cons (ps_expr (pe_bm PySem.F.plainAttrs_list PySem.F.slot_list_append PySem.F.type_list_append mt_append (pe_fld (pv 0) rfl) (pa_cons (pv 2) pa_nil)))
      (pss_one (ps_expr (pe_bm PySem.F.plainAttrs_list PySem.F.slot_list_append PySem.F.type_list_append mt_append (pe_fld (pv 0) rfl) (pa_cons (pv 1) pa_nil)))))))), ?_⟩
    have line : 2000 < sizeLine := by decide
    -- beyond = ..
    refine do_set (v := natV n) (by unfold natV; rw [← hn]; exact ev_beyond (ev_wg Y (ev_var rfl) I.A) I.gd hk (fun _ s' => ev_here (ev_var rfl) (I.A.keep s')) (fun _ _ => ev_var rfl)) fun H1 s1 => ?_
    have A := I.A.keep s1
    have gd := I.gd.keep s1
    show tSeq _ _ _ [some (V.ref p), some (V.int (k : Nat)), some (natV n)] H1
    -- self.gone[..] = True
    refine do_seq (do_put (k := ((place w s k : Nat) : Int)) (d := e) (kvs := gk) ev_c (fun _ s' => ev_we Y (ev_var rfl) (A.keep s')) (fun H' s' => ev_place (ev_wg Y (ev_var rfl) (A.keep s')) (gd.keep s') I.B I.hs hk (fun _ s2 => ev_here (ev_var rfl) (A.keep (s'.trans s2))) (fun _ _ => ev_var rfl)) A.e (by omega) fun H2 s2 => ?_)
    have A2 := (A.keep s2).setE (zs := putK gk (Sum.inl ((place w s k : Nat) : Int)) (V.bl true))
    have k2 : Kept H (upd H2 e (.dK (putK gk (Sum.inl ((place w s k : Nat) : Int)) (V.bl true)))) p t l d e := (Kept.same s1).on s2 (by simp)
    generalize upd H2 e (.dK (putK gk (Sum.inl ((place w s k : Nat) : Int)) (V.bl true))) = H2b at A2 k2 ⊢
    generalize putK gk (Sum.inl ((place w s k : Nat) : Int)) (V.bl true) = gk2 at A2 q
    dsimp only
    -- self.turning = beyond in self.seen
    refine do_seq (do_fld (v := .bl (gnOf sk n)) (ev_din (k := ((n : Nat) : Int)) (ev_var rfl) (fun _ s' => ev_wd Y (ev_var rfl) (A2.keep s')) A2.d) (fun _ _ => ev_var rfl) A2.p Y.cl Y.nB (by show 6 < 1000; decide) fun H3 s3 => ?_)
    rw [x6]
    have A3 := (A2.keep s3).setP (c := gnOf sk n)
    have k3 : Kept H (upd H3 p (.ins W dx (wF g t l d e (gnOf sk n)))) p t l d e := k2.on s3 (by simp)
    generalize upd H3 p (.ins W dx (wF g t l d e (gnOf sk n))) = H3b at A3 k3 ⊢
    dsimp only
    -- self.seen[beyond] = True
    refine do_seq (do_put (k := ((n : Nat) : Int)) (d := d) (kvs := sk) ev_c (fun _ s' => ev_wd Y (ev_var rfl) (A3.keep s')) (fun H' s' => ev_var rfl) A3.d (by omega) fun H4 s4 => ?_)
    have A4 := (A3.keep s4).setD (zs := putK sk (Sum.inl ((n : Nat) : Int)) (V.bl true))
    have k4 : Kept H (upd H4 d (.dK (putK sk (Sum.inl ((n : Nat) : Int)) (V.bl true)))) p t l d e := k3.on s4 (by simp)
    generalize upd H4 d (.dK (putK sk (Sum.inl ((n : Nat) : Int)) (V.bl true))) = H4b at A4 k4 ⊢
    dsimp only
    -- self.thread.append(beyond)
    refine do_seq (do_appendI (c := t) (xs := xs ++ [natV s]) (v := natV n) (ev_wt Y (ev_var rfl) A4) (fun _ _ => ev_var rfl) A4.t (by rw [List.length_append]; show xs.length + 1 < _; omega) fun H5 s5 => ?_)
    have A5 := (A4.keep s5).setT (zs := xs ++ [natV s] ++ [natV n])
    have k5 : Kept H (upd H5 t (.lst (xs ++ [natV s] ++ [natV n]))) p t l d e := k4.on s5 (by simp)
    generalize upd H5 t (.lst (xs ++ [natV s] ++ [natV n])) = H5b at A5 k5 ⊢
    dsimp only
    -- self.sides.append(side)
    refine do_appendI (c := l) (xs := ys) (v := natV k) (ev_wl Y (ev_var rfl) A5) (fun _ _ => ev_var rfl) A5.l l4 fun H6 s6 => ?_
    exact q _ (A5.keep s6).setL (k5.on s6 (by simp))
theorem scR2 : FnScope ["self"] ["self"] (defScope sRoll) := ⟨rfl, rfl, rfl, by decide +kernel, rfl, by decide +kernel, by decide +kernel⟩
theorem ok_roll {f : Addr} {fd : FuncData} (F : Fun K "roll_up" "Walker.roll_up" sRoll f fd) (Y : TxtW K mg W) : FnOk P w0 K mg base CX0 1 f fd ["self"] (spRoll W) := by
  refine F.ok scR2 (fun vs H Q E h => ?_) (fun cdv A0 outer s0 H vs Q E hr h => ?_)
  · obtain ⟨p, dx, g, t, l, d, e, xs, v, ys, u, sk, gk, b, rfl, _⟩ := h
    rfl
  · obtain ⟨p, dx, g, t, l, d, e, xs, v, ys, u, sk, gk, b, rfl, A, q⟩ := h
    refine ⟨_, pss_cons (ps_expr (pe_bm0 PySem.F.plainAttrs_list PySem.F.slot_list_pop PySem.F.type_list_pop mt_pop (pe_fld (pv 0) rfl)))
      (pss_cons (ps_expr (pe_bm0 PySem.F.plainAttrs_list PySem.F.slot_list_pop PySem.F.type_list_pop mt_pop (pe_fld (pv 0) rfl)))
      (pss_one (ps_fld (pv 0) pe_bl rfl))), ?_⟩
    refine do_seq (do_pop (c := t) (xs := xs) (v := v) (ev_wt Y (ev_var rfl) A) A.t fun H1 s1 => ?_)
    have A1 := (A.keep s1).setT (zs := xs)
    have k1 : Kept H (upd H1 t (.lst xs)) p t l d e := (Kept.same (Same.refl H)).on s1 (by simp)
    generalize upd H1 t (.lst xs) = H1b at A1 k1 ⊢
    dsimp only
    refine do_seq (do_pop (c := l) (xs := ys) (v := u) (ev_wl Y (ev_var rfl) A1) A1.l fun H2 s2 => ?_)
    have A2 := (A1.keep s2).setL (zs := ys)
    have k2 : Kept H (upd H2 l (.lst ys)) p t l d e := k1.on s2 (by simp)
    generalize upd H2 l (.lst ys) = H2b at A2 k2 ⊢
    dsimp only
    refine ⟨_, rfl, p, W, dx, wF g t l d e b, rfl, A2.p, Y.cl, Y.nB, (by show 6 < 1000; decide), ?_⟩
    rw [x6]
    exact q _ A2.setP (k2.on (Same.refl _) (by simp))
end
end Tw

set_option Elab.async false
set_option linter.all false
set_option maxRecDepth 100000
set_option maxHeartbeats 4000000
namespace Tw
open PySem PySem.Spec PyProof.Rows L2
open Maze (Garden)
/-- what a walk needs to know of its garden -/
structure Ctx (C : Addr) (H : Hp) (g : Addr) (ns : List Int) (D : Garden) : Prop where
  gd : GardenAt C H g ns D.wide D.high
  hB : Bytes255 ns
  S : Shows (txt ns) D
theorem Ctx.keep {C : Addr} {H H' : Hp} {g : Addr} {ns : List Int} {D : Garden} (c : Ctx C H g ns D) (s : Same H H') : Ctx C H' g ns D := ⟨c.gd.keep s, c.hB, c.S⟩
theorem Ctx.small {C : Addr} {H : Hp} {g : Addr} {ns : List Int} {D : Garden} (c : Ctx C H g ns D) : Small D.wide D.high := ⟨c.S.w1, c.S.w2, c.S.h1, c.S.h2⟩
theorem Ctx.len {C : Addr} {H : Hp} {g : Addr} {ns : List Int} {D : Garden} (c : Ctx C H g ns D) : ns.length = (2 * D.high + 1) * (2 * D.wide + 2) := by
  have := c.S.len
  rw [txt_len] at this
  exact this
/-- the walker stands as the walk does: behind the states pre, at z; what H0 has isn't its own -/
structure Stand (W : Addr) (H0 H : Hp) (p g : Addr) (D : Garden) (s : Nat) (pre : List Maze.Thread) (z : Maze.Thread) (dx t l d e : Addr) (sk gk : List (Key × V)) : Prop where
  A : WAt W H p dx g t l d e ((D.lying z).map natV) ((sidesOf z).map natV) sk gk z.turn.isSome
  p0 : H0 p = none
  t0 : H0 t = none
  l0 : H0 l = none
  d0 : H0 d = none
  e0 : H0 e = none
  S : Same H0 H
  L : Lie D s pre z (gnOf sk) (gnOf gk)
  sl : sk.length = z.seen.length
  gl : gk.length ≤ pre.length
def Stands (W : Addr) (H0 H : Hp) (p g : Addr) (D : Garden) (s : Nat) (pre : List Maze.Thread) (z : Maze.Thread) : Prop := ∃ dx t l d e sk gk, Stand W H0 H p g D s pre z dx t l d e sk gk
section
variable {W : Addr} {H0 H H' : Hp} {p g : Addr} {D : Garden} {s : Nat} {pre : List Maze.Thread} {z : Maze.Thread} {dx t l d e : Addr} {sk gk : List (Key × V)}
theorem Stand.keep (I : Stand W H0 H p g D s pre z dx t l d e sk gk) (k : Same H H') : Stand W H0 H' p g D s pre z dx t l d e sk gk :=
  ⟨I.A.keep k, I.p0, I.t0, I.l0, I.d0, I.e0, I.S.trans k, I.L, I.sl, I.gl⟩
theorem Stands.keep (I : Stands W H0 H p g D s pre z) (k : Same H H') : Stands W H0 H' p g D s pre z := by
  obtain ⟨dx, t, l, d, e, sk, gk, I⟩ := I
  exact ⟨dx, t, l, d, e, sk, gk, I.keep k⟩
theorem Stands.same (I : Stands W H0 H p g D s pre z) : Same H0 H := by
  obtain ⟨dx, t, l, d, e, sk, gk, I⟩ := I
  exact I.S
theorem Stand.kept (I : Stand W H0 H p g D s pre z dx t l d e sk gk) (k : Kept H H' p t l d e) : Same H0 H' := fun b o h =>
  k b o (I.S b o h) (ne_of_none h I.p0) (ne_of_none h I.t0) (ne_of_none h I.l0) (ne_of_none h I.d0) (ne_of_none h I.e0)
theorem Stands.reach (I : Stands W H0 H p g D s pre z) : Reach D s pre z := by
  obtain ⟨dx, t, l, d, e, sk, gk, I⟩ := I
  exact I.L.R
/-- the walker itself, as a method of its own is called -/
theorem Stands.obj (I : Stands W H0 H p g D s pre z) : ∃ dx fs, H p = some (.ins W dx fs) ∧ ∀ m, NoFld m → fs.lookup m = none := by
  obtain ⟨dx, t, l, d, e, sk, gk, I⟩ := I
  exact ⟨dx, _, I.A.p, fun m h => wF_none h⟩
/-- what stands at the thread's end -/
theorem Stand.last (I : Stand W H0 H p g D s pre z dx t l d e sk gk) : ∃ xl : List Nat, D.lying z = xl ++ [z.at_] ∧ WAt W H p dx g t l d e (xl.map natV ++ [natV z.at_]) ((sidesOf z).map natV) sk gk z.turn.isSome := by
  obtain ⟨xl, hxl⟩ := @lying_last D z
  have A := I.A
  rw [hxl, List.map_append] at A
  exact ⟨xl, hxl, A⟩
end
def spAhead (C W : Addr) : Sp := fun vs H Q _ => ∃ (H0 : Hp) (p g : Addr) (ns : List Int) (D : Garden) (s : Nat) (pre : List Maze.Thread) (z : Maze.Thread), vs = [.ref p] ∧ Ctx C H0 g ns D ∧ Stands W H0 H p g D s pre z ∧
  ∀ H', Same H H' → Q (natV (ahead D z)) H'
def spStep (C W : Addr) : Sp := fun vs H Q _ => ∃ (H0 : Hp) (p g : Addr) (ns : List Int) (D : Garden) (s : Nat) (pre : List Maze.Thread) (z : Maze.Thread), vs = [.ref p] ∧ Ctx C H0 g ns D ∧ Stands W H0 H p g D s pre z ∧
  (D.threadStep z = none → ∀ H', Stands W H0 H' p g D s pre z → Q (.bl false) H') ∧
  ∀ y, D.threadStep z = some y → ∀ H', Stands W H0 H' p g D s (pre ++ [z]) y → Q (.bl true) H'
def spSteps (C W : Addr) : Sp := fun vs H Q _ => ∃ (H0 : Hp) (p g : Addr) (ns : List Int) (D : Garden) (s n : Nat), vs = [.ref p, .int n] ∧ n ≤ 4294967295 ∧ Ctx C H0 g ns D ∧ Stands W H0 H p g D s [] (Maze.threadBegin s) ∧
  (D.threadAt s n = none → ∀ H', Same H0 H' → Q (.bl false) H') ∧
  ∀ pre z, D.threadAt s n = some z → pre.length = n → ∀ H', Stands W H0 H' p g D s pre z → Q (.bl true) H'
section
variable {P : Program} {w0 : World} {K : PySem.W.Frag} {mg : Str → Option Value} {base : Heap} {C W : Addr}
/-- the walker's methods as they stand -/
structure Wms (P : Program) (w0 : World) (K : PySem.W.Frag) (mg : Str → Option Value) (base : Heap) (C W : Addr) (fS fG fU fR : Addr) (dS dG dU dR : FuncData) : Prop where
  mS : Meth K W "side_not_gone" fS
  mG : Meth K W "is_gone" fG
  mU : Meth K W "unroll" fU
  mR : Meth K W "roll_up" fR
  bS : Binds K dS ["self"] []
  bG : Binds K dG ["self", "side"] []
  bU : Binds K dU ["self", "side"] []
  bR : Binds K dR ["self"] []
  gS : FnOk P w0 K mg base CX0 3 fS dS ["self"] (spSide C W)
  gG : FnOk P w0 K mg base CX0 2 fG dG ["self", "side"] (spGone C W)
  gU : FnOk P w0 K mg base CX0 2 fU dU ["self", "side"] (spUnroll C W)
  gR : FnOk P w0 K mg base CX0 1 fR dR ["self"] (spRoll W)
theorem ev_len2 {σ : L2.St} {H : Hp} {ta : TE} {a : Addr} {xs : List V} {n : Int} (ha : EvE ta σ H (.ref a)) (h : H a = some (.lst xs)) (hn : (xs.length : Int) = n) :
    EvE (tCB (fun xs H Q => ∃ p ys, xs = [V.ref p] ∧ (SqL K H p ys ∨ SqT K H p ys) ∧ Q (.int ys.length) H) (tCons ta tNil)) σ H (.int n) := ev_len ha (.inl (.inl h)) hn
theorem ctx_in {H0 H : Hp} {p g : Addr} {ns : List Int} {D : Garden} {s : Nat} {pre : List Maze.Thread} {z : Maze.Thread} {dx t l d e : Addr} {sk gk : List (Key × V)} {xl : List Nat} (c : Ctx C H0 g ns D) (I : Stand W H0 H p g D s pre z dx t l d e sk gk)
    (A : WAt W H p dx g t l d e (xl.map natV ++ [natV z.at_]) ((sidesOf z).map natV) sk gk z.turn.isSome) : WIn C W H p dx g t l d e (xl.map natV) z.at_ ((sidesOf z).map natV) sk gk z.turn.isSome ns D.wide D.high :=
  ⟨A, (c.keep I.S).gd, c.small, c.hB, c.len, lie_lt I.L⟩
theorem scAh : FnScope ["self", "side"] ["self"] (defScope sAhead) := ⟨rfl, rfl, rfl, by decide +kernel, rfl, by decide +kernel, by decide +kernel⟩
theorem ok_ahead {f fS fG fU fR : Addr} {fd dS dG dU dR : FuncData} (F : Fun K "side_ahead" "Walker.side_ahead" sAhead f fd) (T : Con mg) (Y : TxtW K mg W) (M : Wms P w0 K mg base C W fS fG fU fR dS dG dU dR) : FnOk P w0 K mg base CX0 4 f fd ["self"] (spAhead C W) := by
  refine F.ok scAh (fun vs H Q E h => ?_) (fun cdv A0 outer s0 H vs Q E hr h => ?_)
  · obtain ⟨H0, p, g, ns, D, s, pre, z, rfl, _⟩ := h
    rfl
  · obtain ⟨H0, p, g, ns, D, s, pre, z, rfl, c, ⟨dx, t, l, d, e, sk, gk, I⟩, q⟩ := h
    have hu := hu_of hr
    obtain ⟨t4, hended⟩ := T.ended
    refine ⟨_, pss_cons (ps_set (i := 1) scAh.nd rfl (.inl rfl) (pe_ifExp (pt_val (pe_fld (pv 0) rfl)) pe_non (pe_meth0 (pv 0) Y.cl M.mS M.gS hr M.bS .nil pass0)))
      (pss_cons (ps_if (pt_cmpR op_notN (pv 1) pe_non (nomark _)) (pss_one (ps_ret (pv 1))) pss_nil)
      (pss_cons (ps_if (pt_cmpR op_gt (pe_callB call_len_seq (by rfl) T.len PySem.boot_len (pa_cons (pe_fld (pv 0) rfl) pa_nil)) pe_int (nomark _))
        (pss_one (ps_ret (pe_op op_mod (pe_op op_add (pe_ix ix_list (pe_fld (pv 0) rfl) (pe_un un_neg pe_int) (fun _ _ => rfl)) pe_int) pe_int))) pss_nil)
      (pss_one (ps_ret (pe_glob (v := .int 4) rfl hended ⟨_, rfl⟩))))), ?_⟩
    obtain ⟨xl, hxl, A⟩ := I.last
    have Wi := ctx_in c I A
    -- side = ..
    refine do_set (v := if z.turn.isSome = true then .non else optV (D.fresh z)) (ev_if (b := z.turn.isSome) (evt_tB (ev_wb Y (ev_var rfl) A)) (fun _ _ => ev_c) (fun H1 s1 => by
      rw [← lie_side c.S I.L]
      exact ev_side (ev_var rfl) (Wi.keep s1))) fun H1 s1 => ?_
    show tSeq _ _ _ [some (V.ref p), some (if z.turn.isSome = true then V.non else optV (D.fresh z))] H1
    have A1 := A.keep s1
    have test : ∀ H2 v, Same H1 H2 → EvT (tTest (tOp (rI0 fun i j => .bl (decide (j < i))) (tCB (fun xs H Q => ∃ p ys, xs = [V.ref p] ∧ (SqL K H p ys ∨ SqT K H p ys) ∧ Q (.int ys.length) H) (tCons (tFld K (tVar 0) "sides") tNil)) (tC (V.int 0)))) [some (V.ref p), v] H2 (decide (0 < (sidesOf z).length)) := fun H2 v s2 =>
      evt_test (ev_cmp (C := fun i j => decide (j < i)) (i := ((sidesOf z).length : Nat)) (j := 0) (ev_len2 (a := l) (ev_wl Y (ev_var rfl) (A1.keep s2)) (s2 _ _ A1.l) (by rw [List.length_map])) (fun _ _ => ev_c) (by
        apply decide_eq_decide.mpr
        omega))
    rcases lie_ways I.L with ⟨ht, hf, hl⟩ | ⟨h1, h2⟩ | ⟨k, ht, hf⟩
    · -- the end
      obtain ⟨e1, _⟩ := lie_over hf hl
      rw [ht, hf] at *
      refine do_seq (do_if1 (b := false) (evt_notN (v := .non) (ev_var rfl) nn_non) (fun _ _ h => nomatch h) fun H2 s2 _ => ?_)
      dsimp only
      refine do_seq (do_if1 (test H2 _ s2) (fun H3 s3 h3 => ?_) (fun H3 s3 _ => ?_))
      · rw [hl] at h3
        cases h3
      · have := q H3 ((s1.trans s2).trans s3)
        rw [e1] at this
        exact this
    · -- back
      obtain ⟨k, ss, hk, e2, e1, _⟩ := lie_last c.S I.L h1 h2
      have ev : (if z.turn.isSome = true then V.non else optV (D.fresh z)) = V.non := by
        rcases h1 with h1 | h1
        · rw [if_pos h1]
        · rw [h1]
          split
          · rfl
          · rfl
      rw [ev]
      refine do_seq (do_if1 (b := false) (evt_notN (v := .non) (ev_var rfl) nn_non) (fun _ _ h => nomatch h) fun H2 s2 _ => ?_)
      dsimp only
      refine do_seq (do_if1 (test H2 _ s2) (fun H3 s3 h3 => ?_) (fun H3 s3 h3 => ?_))
      · have A3 := A1.keep (s2.trans s3)
        have s13 := (s1.trans s2).trans s3
        refine do_ret (ev_mod (i := (((k + 2) % 4 : Nat) : Int) + 2) (j := 4) (k := ((k : Nat) : Int)) (ev_add (i := (((k + 2) % 4 : Nat) : Int)) (j := 2) (fun Q q => ?_) (fun _ _ => ev_c) rfl) (fun _ _ => ev_c) (by decide) (by omega)) fun H4 s4 => ?_
        · refine ⟨_, rfl, p, W, dx, _, _, rfl, A3.p, Y.cl, Y.nL, wF_l, 1, rfl, l, (ss.map natV) ++ [natV ((k + 2) % 4)], -1, natV ((k + 2) % 4), rfl, rfl, .inl (.inl ?_), atI_last _ _, q H3 (Same.refl H3)⟩
          have := A3.l
          rw [e2, List.map_append] at this
          exact this
        · have := q H4 (s13.trans s4)
          rw [e1] at this
          exact this
      · exfalso
        have h3 := of_decide_eq_false h3
        apply h2
        cases hq : sidesOf z with
        | nil => rfl
        | cons a r =>
          rw [hq] at h3
          exact absurd (show 0 < r.length + 1 by omega) h3
    · -- on
      obtain ⟨e1, _⟩ := lie_first c.S I.L ht hf
      rw [ht, hf]
      refine do_seq (do_if1 (b := true) (evt_notN (v := .int (k : Nat)) (ev_var rfl) nn_int) (fun H2 s2 _ => ?_) (fun _ _ h => nomatch h))
      refine ⟨_, rfl, ?_⟩
      have := q H2 (s1.trans s2)
      rw [e1] at this
      exact this
theorem scT : FnScope ["self", "side"] ["self"] (defScope sStep) := ⟨rfl, rfl, rfl, by decide +kernel, rfl, by decide +kernel, by decide +kernel⟩
theorem ok_step1 {f fS fG fU fR fA : Addr} {fd dS dG dU dR dA : FuncData} (F : Fun K "take_step" "Walker.take_step" sStep f fd) (T : Con mg) (Y : TxtW K mg W) (M : Wms P w0 K mg base C W fS fG fU fR dS dG dU dR)
    (mA : Meth K W "side_ahead" fA) (gA : FnOk P w0 K mg base CX0 4 fA dA ["self"] (spAhead C W)) (bA : Binds K dA ["self"] []) : FnOk P w0 K mg base CX0 5 f fd ["self"] (spStep C W) := by
  refine F.ok scT (fun vs H Q E h => ?_) (fun cdv A0 outer s0 H vs Q E hr h => ?_)
  · obtain ⟨H0, p, g, ns, D, s, pre, z, rfl, _⟩ := h
    rfl
  · obtain ⟨H0, p, g, ns, D, s, pre, z, rfl, c, ⟨dx, t, l, d, e, sk, gk, I⟩, q0, q1⟩ := h
    have hu := hu_of hr
    obtain ⟨t4, hended⟩ := T.ended
    refine ⟨_, pss_cons (ps_set (i := 1) scT.nd rfl (.inl rfl) (pe_meth0 (pv 0) Y.cl mA gA hr bA .nil pass0))
      (pss_cons (ps_if (pt_cmpR op_eq (pv 1) (pe_glob (v := .int 4) rfl hended ⟨_, rfl⟩) (nomark _)) (pss_one (ps_ret pe_bl)) pss_nil)
      (pss_cons (ps_if (pt_val (pe_meth (pv 0) Y.cl M.mG M.gG (hr.mono (by decide)) M.bG .nil pass0 (pa_cons (pv 1) pa_nil)))
        (pss_one (ps_expr (pe_meth0 (pv 0) Y.cl M.mR M.gR (hr.mono (by decide)) M.bR .nil pass0)))
        (pss_one (ps_expr (pe_meth (pv 0) Y.cl M.mU M.gU (hr.mono (by decide)) M.bU .nil pass0 (pa_cons (pv 1) pa_nil)))))
      (pss_one (ps_ret pe_bl)))), ?_⟩
    have G := graph c.S
    have hpre : pre.length ≤ 4 * D.squares := reach_le G I.L.R
    have hsq := squares_le c.S
    have hz := lie_lt I.L
    -- side = self.side_ahead()
    refine do_set (v := natV (ahead D z)) (ev_m0 (ev_var rfl) I.A.p (wF_none nf_ahead) fun H1 Q s1 q => ⟨H0, p, g, ns, D, s, pre, z, rfl, c, ⟨dx, t, l, d, e, sk, gk, I.keep s1⟩, q⟩) fun H1 s1 => ?_
    show tSeq _ _ _ [some (V.ref p), some (natV (ahead D z))] H1
    have I1 := I.keep s1
    refine do_seq (do_if1 (b := decide (ahead D z = 4)) (evt_test (ev_eq (i := ((ahead D z : Nat) : Int)) (j := 4) (ev_var rfl) (fun _ _ => ev_c) (by rw [decide_eq_true_iff]; omega))) (fun H2 s2 h4 => ?_) (fun H2 s2 h4 => ?_))
    · refine q0 ?_ H2 ⟨dx, t, l, d, e, sk, gk, I1.keep s2⟩
      have h4 := of_decide_eq_true h4
      cases st : D.threadStep z with
      | none => rfl
      | some y =>
        have := ahead_step c.S I.L st
        omega
    have h4 := of_decide_eq_false h4
    have I2 := I1.keep s2
    obtain ⟨xl, hxl, A⟩ := I2.last
    have Wi := ctx_in c I2 A
    have hlen := I.L.ln
    rw [hxl, List.length_append] at hlen
    have hlen : xl.length + 1 ≤ pre.length + 1 := hlen
    dsimp only
    rcases lie_ways I.L with ⟨ht, hf, hl⟩ | ⟨h1, h2⟩ | ⟨k, ht, hf⟩
    · exact absurd (lie_over hf hl).1 h4
    · -- back
      obtain ⟨k, ss, hk, e2, e1, hg, y, st, L, f1, f2, f3, f4, f5⟩ := lie_last c.S I.L h1 h2
      rw [e1]
      refine do_seq (do_if (b := true) (evt_tB (by rw [← hg]; exact ev_gone (ev_var rfl) Wi hk (fun _ _ => ev_var rfl))) (fun H3 s3 _ => ?_) (fun _ _ h => nomatch h))
      have A3 := A.keep s3
      rw [e2, List.map_append] at A3
      have e4 : D.lying y = xl := by
        rw [hxl] at f1
        exact (List.append_inj_left' f1 rfl).symm
      refine ⟨_, rfl, p, dx, _, rfl, A3.p, wF_none nf_roll, p, dx, g, t, l, d, e, xl.map natV, natV z.at_, ss.map natV, natV ((k + 2) % 4), sk, gk, _, rfl, A3, fun H4 A4 k4 => ?_⟩
      refine q1 y st H4 ⟨dx, t, l, d, e, sk, gk, ⟨by rw [e4, f2, f4]; exact A4, I.p0, I.t0, I.l0, I.d0, I.e0, (I2.keep s3).kept k4, L, by rw [f3]; exact I.sl, ?_⟩⟩
      rw [List.length_append]
      have := I.gl
      omega
    · -- on
      obtain ⟨hk, r1, r2, r3⟩ := fresh_some hf
      have hb := ((isStep_iff c.S hk).mp r1).2
      have eb := beyond_eq c.S hz hk hb
      obtain ⟨e1, hg, y, st, L, f1, f2, f3, f4, f5⟩ := lie_first c.S I.L ht hf
      rw [e1]
      refine do_seq (do_if (b := false) (evt_tB (by rw [← hg]; exact ev_gone (ev_var rfl) Wi hk (fun _ _ => ev_var rfl))) (fun _ _ h => nomatch h) (fun H3 s3 _ => ?_))
      have Wi3 := Wi.keep s3
      have sl := I.sl
      have gl := I.gl
      have sl2 := I.L.sl
      have sd := @sides_len D z
      have ln := I.L.ln
      refine ⟨_, rfl, p, dx, _, rfl, Wi3.A.p, wF_none nf_unroll, _, rfl, p, dx, g, t, l, d, e, xl.map natV, z.at_, k, nextSq D.wide z.at_ k, (sidesOf z).map natV, sk, gk, _, ns, D.wide, D.high, rfl, hk, Wi3, eb, ?_, ?_, ?_, ?_, fun H4 A4 k4 => ?_⟩
      · rw [List.length_map]
        omega
      · rw [List.length_map]
        omega
      · omega
      · omega
      refine q1 y st H4 ⟨dx, t, l, d, e, putK sk (Sum.inl ((nextSq D.wide z.at_ k : Nat) : Int)) (.bl true), putK gk (Sum.inl ((place D.wide z.at_ k : Nat) : Int)) (.bl true), ⟨?_, I.p0, I.t0, I.l0, I.d0, I.e0, (I2.keep s3).kept k4, ?_, ?_, ?_⟩⟩
      · rw [f1, f2, f4, hxl, List.map_append, List.map_append, List.map_append]
        exact A4
      · rw [gn_put, gn_put]
        exact L
      · rw [put_len, f3, I.sl]
      · have := length_putK gk (Sum.inl ((place D.wide z.at_ k : Nat) : Int)) (.bl true)
        rw [List.length_append]
        show _ ≤ pre.length + 1
        omega
end
end Tw

set_option Elab.async false
set_option linter.all false
set_option maxRecDepth 100000
set_option maxHeartbeats 4000000
namespace Tw
open PySem PySem.Spec PyProof.Rows L2
open Maze (Garden)
/-! ### a square's refusal, and what is due -/
def told (a : Maze.Ans) : List Int := a.code :: a.nums.map fun n => ((n : Nat) : Int)
/-- what z a square's refusal is: of all drawings, then of the square -/
inductive RefuseS (ns : List Int) (s : Nat) : Int → Prop where
  | big : 1024 < ns.length → RefuseS ns s (-2)
  | bad : ns.length ≤ 1024 → (¬ ∃ w h, Drawn (txt ns) w h) → RefuseS ns s (-6)
  | none (D : Garden) : ns.length ≤ 1024 → Maze.readDrawing (txt ns) = .ok D → D.squares ≤ s → RefuseS ns s (-4)
  | ok (D : Garden) : ns.length ≤ 1024 → Maze.readDrawing (txt ns) = .ok D → s < D.squares → RefuseS ns s 0
section
variable {ns : List Int} {F : Garden → Maze.Ans}
theorem gd_big (h : 1024 < ns.length) : told (Maze.ofGarden (txt ns) F) = [-2] := by
  unfold Maze.ofGarden
  rw [if_pos (by rw [txt_len]; exact h)]
  rfl
theorem gd_bad (h : ns.length ≤ 1024) (hd : ¬ ∃ w h, Drawn (txt ns) w h) : told (Maze.ofGarden (txt ns) F) = [-6] := by
  unfold Maze.ofGarden
  rw [if_neg (by rw [txt_len]; show ¬ 1024 < _; omega)]
  cases e : Maze.readDrawing (txt ns) with
  | error p => rfl
  | ok D => exact absurd ⟨_, _, (shows_of e).toDrawn⟩ hd
theorem gd_ok {D : Garden} (h : ns.length ≤ 1024) (e : Maze.readDrawing (txt ns) = .ok D) : Maze.ofGarden (txt ns) F = F D := by
  unfold Maze.ofGarden
  rw [if_neg (by rw [txt_len]; show ¬ 1024 < _; omega), e]
theorem sq_refused {s : Nat} {z : Int} (h : RefuseS ns s z) (hz : z ≠ 0) : told (MazeT.ofSquare (txt ns) s F) = [z] := by
  unfold MazeT.ofSquare
  cases h with
  | big h => exact gd_big h
  | bad h hd => exact gd_bad h hd
  | none D h e hs =>
    rw [gd_ok h e, if_pos hs]
    rfl
  | ok D h e hs => exact absurd rfl hz
theorem sq_ok {s : Nat} {D : Garden} (h : ns.length ≤ 1024) (e : Maze.readDrawing (txt ns) = .ok D) (hs : s < D.squares) : MazeT.ofSquare (txt ns) s F = F D := by
  unfold MazeT.ofSquare
  rw [gd_ok h e, if_neg (by omega)]
theorem of_ok {s : Nat} {z : Int} (h : RefuseS ns s z) (hz : z = 0) : ∃ D, ns.length ≤ 1024 ∧ Maze.readDrawing (txt ns) = .ok D ∧ s < D.squares := by
  cases h with
  | big h => cases hz
  | bad h hd => cases hz
  | none D h e hs => cases hz
  | ok D h e hs => exact ⟨D, h, e, hs⟩
end
section
variable {P : Program} {w0 : World} {K : PySem.W.Frag} {mg : Str → Option Value} {base : Heap} {C W : Addr}
/-- a walker as it is made stands at the walk's beginning -/
theorem stands_new {H0 H : Hp} {p dx g t l d e : Addr} {D : Garden} {s : Nat} (hs : s < D.squares) (A : WAt W H p dx g t l d e [natV s] [] (mergeK [] [(Sum.inl ((s : Nat) : Int), .bl true)]) [] false)
    (hp : H0 p = none) (ht : H0 t = none) (hl : H0 l = none) (hd : H0 d = none) (he : H0 e = none) (k : Same H0 H) : Stands W H0 H p g D s [] (Maze.threadBegin s) := by
  refine ⟨dx, t, l, d, e, _, _, ⟨A, hp, ht, hl, hd, he, k, ?_, rfl, Nat.le_refl _⟩⟩
  have e1 : gnOf (mergeK [] [(Sum.inl ((s : Nat) : Int), V.bl true)]) = put (fun _ => false) s true := by
    have : mergeK [] [(Sum.inl ((s : Nat) : Int), V.bl true)] = putK [] (Sum.inl ((s : Nat) : Int)) (V.bl true) := rfl
    rw [this, gn_put]
    rfl
  rw [e1]
  exact lie_begin hs
/-- a walker made in a garden that stands -/
theorem madeW {σ : L2.St} {H : Hp} {g : Addr} {s : Nat} {ns : List Int} {D : Garden} {E2 : XK} {Q : VK} {ta tb : TE} (c : Ctx C H g ns D) (hs : s < D.squares)
    (ha : EvE ta σ H (.ref g)) (hb : ∀ H', Same H H' → EvE tb σ H' (.int (s : Nat)))
    (q : ∀ (H0 H' : Hp) (p : Addr), Same H H0 → Ctx C H0 g ns D → Stands W H0 H' p g D s [] (Maze.threadBegin s) → Q (.ref p) H') :
    tMake W (spWInit W) [] E2 (tCons ta (tCons tb tNil)) σ H Q := by
  refine ha _ fun H1 s1 => hb H1 s1 _ fun H2 s2 => fun y dy ny ndy ney => ?_
  refine ⟨y, dy, g, s, rfl, upd_same, fun H4 t l d e ht hl hd he A kp2 => ⟨rfl, ?_⟩⟩
  have s4 : Same H2 H4 := Same.made ny ndy kp2
  have sd : Same H2 (upd (upd H2 dy (.own y)) y (.ins W dy [])) := same_new (same_new (Same.refl H2) ndy) (by rw [upd_ne ney.symm]; exact ny)
  exact q H2 H4 y (s1.trans s2) (c.keep (s1.trans s2)) (stands_new hs A ny (sd.free ht) (sd.free hl) (sd.free hd) (sd.free he) s4)
/-- a walker made anew -/
theorem made {σ : L2.St} {H : Hp} {a : Addr} {s : Nat} {ns : List Int} {D : Garden} {i j : Nat} {E1 E2 : XK} {Q : VK} (hS : SqL K H a (ns.map V.int)) (hB : Bytes255 ns) (hlen : ns.length ≤ 1024) (hr1 : Maze.readDrawing (txt ns) = .ok D) (hs : s < D.squares)
    (ei : σ[i]? = some (some (V.ref a))) (ej : σ[j]? = some (some (V.int s)))
    (q : ∀ (H0 H' : Hp) (p g : Addr), Same H H0 → Ctx C H0 g ns D → Stands W H0 H' p g D s [] (Maze.threadBegin s) → Q (.ref p) H') :
    tMake W (spWInit W) [] E2 (tCons (tMake C (spInit K C) [] E1 (tCons (tVar i) tNil)) (tCons (tVar j) tNil)) σ H Q := by
  have S := shows_of hr1
  refine ⟨_, ei, fun x dx nx nd ne => ?_⟩
  refine ⟨x, dx, a, ns, D.wide, D.high, rfl, upd_same, ?_, hB, hlen, S.toDrawn, fun H3 gd kp => ⟨rfl, ?_⟩⟩
  · exact (same_new (same_new (Same.refl H) nd) (by rw [upd_ne ne.symm]; exact nx)).seq hS
  have s3 := Same.made nx nd kp
  refine ⟨_, ej, fun y dy ny ndy ney => ?_⟩
  refine ⟨y, dy, x, s, rfl, upd_same, fun H4 t l d e ht hl hd he A kp2 => ⟨rfl, ?_⟩⟩
  have s4 : Same H3 H4 := Same.made ny ndy kp2
  have sd : Same H3 (upd (upd H3 dy (.own y)) y (.ins W dy [])) := same_new (same_new (Same.refl H3) ndy) (by rw [upd_ne ney.symm]; exact ny)
  refine q H3 H4 y x s3 ⟨gd, hB, S⟩ (stands_new hs A ny (sd.free ht) (sd.free hl) (sd.free hd) (sd.free he) s4)
end
end Tw

set_option Elab.async false
set_option linter.all false
set_option maxRecDepth 100000
set_option maxHeartbeats 4000000
namespace Tw
open PySem PySem.Spec PyProof.Rows L2
open Maze (Garden)
/-! ### what the desk's defs need -/
def EvA (t : TA) (σ : L2.St) (H : Hp) (vs : List V) : Prop := ∀ Q : List V → Hp → Prop, (∀ H', Same H H' → Q vs H') → t σ H Q
section
variable {σ : L2.St} {H : Hp} {ta : TE} {t : TA} {v : V} {vs : List V}
theorem ea_nil : EvA tNil σ H [] := fun Q q => q H (Same.refl H)
theorem ea_cons (ha : EvE ta σ H v) (hb : ∀ H', Same H H' → EvA t σ H' vs) : EvA (tCons ta t) σ H (v :: vs) := fun Q q => ha _ fun H1 s1 => hb H1 s1 _ fun H2 s2 => q H2 (s1.trans s2)
theorem do_retL {D : Ends} (ha : EvA t σ H vs) (hl : vs.length ≤ sizeLine) (h : ∀ H' p, H' p = some (.lst vs) → D.rt (.ref p) H') : tRet (tLst t) D σ H :=
  ha _ fun H1 s1 => ⟨hl, fun p _ => h _ p upd_same⟩
theorem ev_lenD {a : Addr} {kvs : List (Key × V)} {n : Int} (ha : EvE ta σ H (.ref a)) (h : H a = some (.dK kvs)) (hn : (kvs.length : Int) = n) :
    EvE (tCB (fun xs H Q => ∃ a kvs, xs = [V.ref a] ∧ H a = some (.dK kvs) ∧ Q (.int kvs.length) H) (tCons ta tNil)) σ H (.int n) :=
  fun Q q => ha _ fun H1 s1 => ⟨a, kvs, rfl, s1 _ _ h, by rw [hn]; exact q H1 s1⟩
end
/-! an object of the caller's beside the walker -/
theorem Stands.add {W : Addr} {H0 H : Hp} {p g q : Addr} {o : HO} {D : Garden} {s : Nat} {pre : List Maze.Thread} {z : Maze.Thread} (I : Stands W H0 H p g D s pre z) (hq : H q = none) : Stands W (upd H0 q o) (upd H q o) p g D s pre z := by
  obtain ⟨dx, t, l, d, e, sk, gk, I⟩ := I
  have A := I.A
  refine ⟨dx, t, l, d, e, sk, gk, ⟨A.keep (same_new (Same.refl H) hq), ?_, ?_, ?_, ?_, ?_, fun b o' h => ?_, I.L, I.sl, I.gl⟩⟩
  · rw [upd_ne (ne_of_none A.p hq)]; exact I.p0
  · rw [upd_ne (ne_of_none A.t hq)]; exact I.t0
  · rw [upd_ne (ne_of_none A.l hq)]; exact I.l0
  · rw [upd_ne (ne_of_none A.d hq)]; exact I.d0
  · rw [upd_ne (ne_of_none A.e hq)]; exact I.e0
  · by_cases hb : b = q
    · subst hb
      rw [upd_same] at h ⊢
      exact h
    · rw [upd_ne hb] at h ⊢
      exact I.S _ _ h
theorem Stands.swap {W : Addr} {H0 H : Hp} {p g q : Addr} {o o2 : HO} {D : Garden} {s : Nat} {pre : List Maze.Thread} {z : Maze.Thread} (I : Stands W (upd H0 q o) H p g D s pre z) : Stands W (upd H0 q o2) (upd H q o2) p g D s pre z := by
  obtain ⟨dx, t, l, d, e, sk, gk, I⟩ := I
  have A := I.A
  have ne : ∀ {b : Addr}, upd H0 q o b = none → b ≠ q := fun {b} h e => by
    subst e
    rw [upd_same] at h
    cases h
  have n1 := ne I.p0
  have n2 := ne I.t0
  have n3 := ne I.d0
  have n4 := ne I.e0
  have n5 := ne I.l0
  have f : ∀ {b : Addr}, upd H0 q o b = none → upd H0 q o2 b = none := fun {b} h => by
    have := ne h
    rw [upd_ne this] at h ⊢
    exact h
  refine ⟨dx, t, l, d, e, sk, gk, ⟨⟨A.ntl, A.nde, by rw [upd_ne n1]; exact A.p, by rw [upd_ne n2]; exact A.t, by rw [upd_ne n5]; exact A.l, by rw [upd_ne n3]; exact A.d, by rw [upd_ne n4]; exact A.e⟩, f I.p0, f I.t0, f I.l0, f I.d0, f I.e0, fun b o' h => ?_, I.L, I.sl, I.gl⟩⟩
  by_cases hb : b = q
  · subst hb
    rw [upd_same] at h ⊢
    exact h
  · rw [upd_ne hb] at h ⊢
    refine I.S _ _ ?_
    rw [upd_ne hb]
    exact h
/-- a def of the desk: of a square and a drawing, what is due by PyWqbacp -/
def giving (due : List Int) (Q : VK) : Prop := ∀ (H' : Hp) (p : Addr), H' p = some (.lst (due.map V.int)) → Q (.ref p) H'
section
variable {P : Program} {w0 : World} {K : PySem.W.Frag} {mg : Str → Option Value} {base : Heap} {C W : Addr}
/-- the classes that the desk uses -/
structure Wks (P : Program) (w0 : World) (K : PySem.W.Frag) (mg : Str → Option Value) (base : Heap) (C W : Addr) (fI fJ fT fR : Addr) (dI dJ dT dR : FuncData) : Prop where
  MI : Mk K C fI
  gI : FnOk P w0 K mg base CX0 1 fI dI ["self", "signs"] (spInit K C)
  bI : Binds K dI ["self", "signs"] []
  MJ : Mk K W fJ
  gJ : FnOk P w0 K mg base CX0 1 fJ dJ ["self", "garden", "start"] (spWInit W)
  bJ : Binds K dJ ["self", "garden", "start"] []
  mT : Meth K W "take_step" fT
  gT : FnOk P w0 K mg base CX0 5 fT dT ["self"] (spStep C W)
  bT : Binds K dT ["self"] []
  mR : Meth K W "here" fR
  gR : FnOk P w0 K mg base CX0 1 fR dR ["self"] (spHere W)
  bR : Binds K dR ["self"] []
end
end Tw

set_option Elab.async false
set_option linter.all false
set_option maxRecDepth 100000
set_option maxHeartbeats 4000000
namespace Tw
open PySem PySem.Spec PyProof.Rows L2
open Maze (Garden)
/-! ### a square's refusal (a row in which it is reached) -/
def spSqRef (K : PySem.W.Frag) : Sp := fun vs H Q _ => ∃ (a : Addr) (s : Nat) (ns : List Int), vs = [.int s, .ref a] ∧ SqL K H a (ns.map V.int) ∧ Bytes255 ns ∧
  ∀ (z : Int) (H' : Hp), Same H H' → RefuseS ns s z → Q (.int z) H'
section
variable {P : Program} {w0 : World} {K : PySem.W.Frag} {mg : Str → Option Value} {base : Heap} {C W : Addr}
theorem scQR : FnScope ["square", "signs", "refusal"] ["square", "signs"] (defScope sSqRef) := ⟨rfl, rfl, rfl, by decide +kernel, rfl, by decide +kernel, by decide +kernel⟩
theorem ok_sqref {f fH fP fQ fB fR fI : Addr} {fd dH dP dQ dB dR dI : FuncData} (F : Fun K "square_refusal" "square_refusal" sSqRef f fd) (X : Txt K mg C) (M : Mts P w0 K mg base C fH fP fQ fB dH dP dQ dB)
    (gR : FnOk P w0 K mg base CX0 3 fR dR ["signs"] (spRef K)) (kR : PySem.W.keepIn K (.ref fR) = true) (bR : Binds K dR ["signs"] []) (nR : mg "drawing_refusal" = some (.ref fR))
    (MK : Mk K C fI) (gI : FnOk P w0 K mg base CX0 1 fI dI ["self", "signs"] (spInit K C)) (bI : Binds K dI ["self", "signs"] []) :
    FnOk P w0 K mg base CX0 4 f fd ["square", "signs"] (spSqRef K) := by
  refine F.ok scQR (fun vs H Q E h => ?_) (fun cdv A outer s0 H vs Q E hr h => ?_)
  · obtain ⟨a, s, ns, rfl, _⟩ := h
    rfl
  · obtain ⟨a, s, ns, rfl, hS, hB, k⟩ := h
    refine ⟨_, pss_cons (ps_set (i := 2) scQR.nd rfl (.inl rfl) (pe_call gR hr rfl nR kR bR .nil pass0 (pa_cons (pv 1) pa_nil)))
      (pss_cons (ps_if (pt_cmpR op_ne (pv 2) pe_int (nomark _)) (pss_one (ps_ret (pv 2))) pss_nil)
      (pss_cons (ps_if (pt_not (pt_val (pe_meth (pe_make MK gI (hr.mono (by decide)) rfl X.gC bI .nil pass0 (pa_cons (pv 1) pa_nil)) X.cl M.mH M.gH (hr.mono (by decide)) M.bH .nil pass0 (pa_cons (pv 0) pa_nil)))) (pss_one (ps_ret (pe_un un_neg pe_int))) pss_nil)
      (pss_one (ps_ret pe_int)))), ?_⟩
    refine ⟨_, rfl, a, ns, rfl, hS, hB, fun z H1 s1 hz => ?_⟩
    show tSeq _ _ _ [some (V.int (s : Nat)), some (V.ref a), some (V.int z)] H1
    refine do_seq (do_if1 (b := decide (z ≠ 0)) (evt_test (ev_ne (ev_var rfl) (fun _ _ => ev_c) (by rw [decide_eq_true_iff]))) (fun H2 s2 e => ?_) (fun H2 s2 e => ?_))
    · refine ⟨_, rfl, k z H2 (s1.trans s2) ?_⟩
      rcases hz with ⟨h1, rfl⟩ | ⟨h1, h2, rfl⟩ | ⟨h1, h2, rfl⟩
      · exact .big h1
      · exact .bad h1 h2
      · exact absurd rfl (of_decide_eq_true e)
    have hz0 : z = 0 := Classical.byContradiction fun h => by rw [decide_eq_true h] at e; cases e
    obtain ⟨hlen, w, h, hD⟩ : ns.length ≤ 1024 ∧ ∃ w h, Drawn (txt ns) w h := by
      rcases hz with ⟨h1, h2⟩ | ⟨h1, h2, h3⟩ | ⟨h1, h2, h3⟩
      · omega
      · omega
      · exact ⟨h1, h2⟩
    obtain ⟨D, hr1, hw, hh⟩ := reads hD
    have S := shows_of hr1
    have s2 := s1.trans s2
    have B : Small D.wide D.high := ⟨S.w1, S.w2, S.h1, S.h2⟩
    dsimp only
    refine do_seq (do_if1 (b := !decide (s < D.squares)) (evt_not (evt_tB fun Q q => ?_)) (fun H4 s4 e => ?_) (fun H4 s4 e => ?_))
    · refine ⟨_, rfl, fun x dx nx nd ne => ?_⟩
      refine ⟨x, dx, a, ns, D.wide, D.high, rfl, upd_same, ?_, hB, hlen, S.toDrawn, fun H3 gd kp => ⟨rfl, ?_⟩⟩
      · exact (same_new (same_new (Same.refl H2) nd) (by rw [upd_ne ne.symm]; exact nx)).seq (s2.seq hS)
      obtain ⟨dj, l, g1, g2⟩ := id gd
      refine ⟨x, dj, _, rfl, g1, gF_none (by decide) (by decide) (by decide) (by decide), _, rfl, x, ns, D.wide, D.high, s, rfl, gd, B, fun b hb => ?_⟩
      rw [bool_of hb]
      exact q H3 (Same.made nx nd kp)
    · refine ⟨4, rfl, k (-4) H4 (s2.trans s4) (.none D hlen hr1 ?_)⟩
      rw [Bool.not_eq_true', decide_eq_false_iff_not] at e
      omega
    · refine k 0 H4 (s2.trans s4) (.ok D hlen hr1 ?_)
      rw [Bool.not_eq_false', decide_eq_true_iff] at e
      exact e
/-- the defs and classes that the desk uses -/
structure Dms (P : Program) (w0 : World) (K : PySem.W.Frag) (mg : Str → Option Value) (base : Heap) (C W : Addr) (fQ fI fJ fT fR : Addr) (dQ dI dJ dT dR : FuncData) : Prop extends Wks P w0 K mg base C W fI fJ fT fR dI dJ dT dR where
  gQ : FnOk P w0 K mg base CX0 4 fQ dQ ["square", "signs"] (spSqRef K)
  kQ : PySem.W.keepIn K (.ref fQ) = true
  bQ : Binds K dQ ["square", "signs"] []
  nQ : mg "square_refusal" = some (.ref fQ)
end
end Tw

set_option Elab.async false
set_option linter.all false
set_option maxRecDepth 100000
set_option maxHeartbeats 4000000
namespace Tw
open PySem PySem.Spec PyProof.Rows L2
open Maze (Garden)
theorem due_finds (s u : Nat) (ns : List Int) : PyWqbacp.finds s u ns = told (MazeT.ofSquare (txt ns) s fun D => if D.squares ≤ u then Maze.says (-4) else match D.finds s u with
    | none => Maze.says (-5)
    | some n => Maze.tells [n]) := rfl
def greater (s u : Nat) : Nat := if u > s then u else s
theorem max_eq {s u : Nat} : (if ((u : Nat) : Int) > ((s : Nat) : Int) then ((u : Nat) : Int) else ((s : Nat) : Int)) = ((greater s u : Nat) : Int) := by
  unfold greater
  by_cases h : u > s
  · rw [if_pos h, if_pos (by omega)]
  · rw [if_neg h, if_neg (by omega)]
theorem greater_lt {s u n : Nat} : greater s u < n ↔ s < n ∧ u < n := by
  unfold greater
  split
  · omega
  · omega
theorem finds_refused {s u : Nat} {ns : List Int} {z : Int} (h : RefuseS ns (greater s u) z) (hz : z ≠ 0) : PyWqbacp.finds s u ns = [z] := by
  rw [due_finds]
  cases h with
  | big h => exact gd_big h
  | bad h hd => exact gd_bad h hd
  | none D h e hs =>
    unfold MazeT.ofSquare
    rw [gd_ok h e]
    by_cases h1 : D.squares ≤ s
    · rw [if_pos h1]
      rfl
    · have h2 : D.squares ≤ u := by
        have := (greater_lt (s := s) (u := u) (n := D.squares)).mpr
        omega
      rw [if_neg h1]
      dsimp only
      rw [if_pos h2]
      rfl
  | ok D h e hs => exact absurd rfl hz
theorem finds_ok {s u : Nat} {ns : List Int} {D : Garden} (h : ns.length ≤ 1024) (e : Maze.readDrawing (txt ns) = .ok D) (hs : s < D.squares) (hu : u < D.squares) : PyWqbacp.finds s u ns = told (match D.finds s u with
    | none => Maze.says (-5)
    | some n => Maze.tells [n]) := by
  rw [due_finds, sq_ok h e hs]
  rw [if_neg (by omega)]
def spFinds (K : PySem.W.Frag) : Sp := fun vs H Q _ => ∃ (a : Addr) (s u : Nat) (ns : List Int), vs = [.int s, .int u, .ref a] ∧ u ≤ 4294967295 ∧ SqL K H a (ns.map V.int) ∧ Bytes255 ns ∧ giving (PyWqbacp.finds s u ns) Q
section
variable {P : Program} {w0 : World} {K : PySem.W.Frag} {mg : Str → Option Value} {base : Heap} {C W : Addr}
theorem scFinds : FnScope ["s", "u", "garden", "refusal", "walker", "steps"] ["s", "u", "garden"] (defScope sDesk) := ⟨rfl, rfl, rfl, by decide +kernel, rfl, by decide +kernel, by decide +kernel⟩
theorem ok_finds {f fQ fI fJ fT fR : Addr} {fd dQ dI dJ dT dR : FuncData} (F : Fun K "finds" "finds" sDesk f fd) (T : Con mg) (X : Txt K mg C) (Y : TxtW K mg W) (M : Dms P w0 K mg base C W fQ fI fJ fT fR dQ dI dJ dT dR)
    (hmax : mg "max" = none) : FnOk P w0 K mg base CX0 6 f fd ["s", "u", "garden"] (spFinds K) := by
  refine F.ok scFinds (fun vs H Q E h => ?_) (fun cdv A0 outer s0 H vs Q E hr h => ?_)
  · obtain ⟨a, s, u, ns, rfl, _⟩ := h
    rfl
  · obtain ⟨a, s, u, ns, rfl, hu0, hS, hB, k⟩ := h
    refine ⟨_, pss_cons (ps_set (i := 3) scFinds.nd rfl (.inl rfl) (pe_call M.gQ (hr.mono (by decide)) rfl M.nQ M.kQ M.bQ .nil pass0 (pa_cons (pe_callB (call_max2 rfl) (by rfl) hmax boot_max (pa_cons (pv 0) (pa_cons (pv 1) pa_nil))) (pa_cons (pv 2) pa_nil))))
      (pss_cons (ps_if (pt_cmpR op_ne (pv 3) pe_int (nomark _)) (pss_one (ps_ret (pe_lst (pa_cons (pv 3) pa_nil)))) pss_nil)
      (pss_cons (ps_set (i := 4) scFinds.nd rfl (.inl rfl) (pe_make M.MJ M.gJ (hr.mono (by decide)) rfl Y.gC M.bJ .nil pass0 (pa_cons (pe_make M.MI M.gI (hr.mono (by decide)) rfl X.gC M.bI .nil pass0 (pa_cons (pv 2) pa_nil)) (pa_cons (pv 0) pa_nil))))
      (pss_cons (ps_set (i := 5) scFinds.nd rfl (.inl rfl) pe_int)
      (pss_cons (ps_while PassesOwn.never (pt_cmpR op_ne (pe_meth0 (pv 4) Y.cl M.mR M.gR (hr.mono (by decide)) M.bR .nil pass0) (pv 1) (nomark _))
        (pss_cons (ps_if (pt_not (pt_val (pe_meth0 (pv 4) Y.cl M.mT M.gT hr M.bT .nil pass0))) (pss_one (ps_ret (pe_lst (pa_cons (pe_un un_neg pe_int) pa_nil)))) pss_nil)
        (pss_one (ps_aug (i := 5) scFinds.nd rfl (.inl rfl) pe_int ip_add))))
      (pss_one (ps_ret (pe_lst (pa_cons pe_int (pa_cons (pv 5) pa_nil))))))))), ?_⟩
    refine ⟨_, rfl, _, rfl, _, _, rfl, _, rfl, a, greater s u, ns, by rw [max_eq]; rfl, hS, hB, fun z H1 s1 hz => ?_⟩
    show tSeq _ _ _ [some (V.int (s : Nat)), some (V.int (u : Nat)), some (V.ref a), some (V.int z), none, none] H1
    refine do_seq (do_if1 (b := decide (z ≠ 0)) (evt_test (ev_ne (ev_var rfl) (fun _ _ => ev_c) (by rw [decide_eq_true_iff]))) (fun H2 s2 e => ?_) (fun H2 s2 e => ?_))
    · refine do_retL (vs := [V.int z]) (ea_cons (ev_var rfl) fun _ _ => ea_nil) (by show 1 ≤ sizeLine; decide) fun H' p hp => k H' p ?_
      rw [finds_refused hz (of_decide_eq_true e)]
      exact hp
    have hz0 : z = 0 := Classical.byContradiction fun h => by rw [decide_eq_true h] at e; cases e
    obtain ⟨D, hlen, hr1, hsu⟩ := of_ok hz hz0
    obtain ⟨hs, hu⟩ := greater_lt.mp hsu
    have s2 := s1.trans s2
    dsimp only
    refine do_seq (made (W := W) (s2.seq hS) hB hlen hr1 hs rfl rfl fun H0 H3 p g s3 c I => ?_)
    dsimp only
    show tSeq (tAsg _ _) _ _ [some (V.int (s : Nat)), some (V.int (u : Nat)), some (V.ref a), some (V.int z), some (V.ref p), none] H3
    have due := finds_ok hlen hr1 hs hu
    have G := graph c.S
    have hsq := squares_le c.S
    -- steps = 0
    refine do_seq (do_set (v := V.int 0) ev_c fun H4 s4 => ?_)
    have I := I.keep s4
    show tSeq (tWhile _ _) _ _ [some (V.int (s : Nat)), some (V.int (u : Nat)), some (V.ref a), some (V.int z), some (V.ref p), some (V.int ((0 : Nat) : Int))] H4
    refine do_seq ⟨fun m σ H' => ∃ pre y, σ = [some (V.int (s : Nat)), some (V.int (u : Nat)), some (V.ref a), some (V.int z), some (V.ref p), some (V.int ((pre.length : Nat) : Int))] ∧ m = 4 * D.squares + 2 - pre.length ∧ Stands W H0 H' p g D s pre y ∧ ∀ x, x ∈ pre → x.at_ ≠ u, ⟨_, [], _, rfl, rfl, I, fun _ h => nomatch h⟩, ?_⟩
    rintro m σ H' ⟨pre, y, rfl, rfl, I, hno⟩
    obtain ⟨dx, t, l, d, e, sk, gk, J⟩ := id I
    obtain ⟨xl, hxl, A⟩ := J.last
    have tst : EvT (tTest (tOp rNe (tMeth W "here" (spHere W) [] E0 (tVar 4) tNil) (tVar 1))) [some (V.int (s : Nat)), some (V.int (u : Nat)), some (V.ref a), some (V.int z), some (V.ref p), some (V.int ((pre.length : Nat) : Int))] H' (decide (y.at_ ≠ u)) :=
      evt_test (ev_ne (i := ((y.at_ : Nat) : Int)) (j := ((u : Nat) : Int)) (ev_here (ev_var rfl) A) (fun _ _ => ev_var rfl) (by rw [decide_eq_true_iff]; omega))
    refine tst _ fun H5 s5 => ?_
    have I5 := I.keep s5
    by_cases hy : y.at_ = u
    · rw [decide_eq_false (fun h => h hy)]
      refine iteF ?_
      refine do_retL (vs := [V.int 0, V.int ((pre.length : Nat) : Int)]) (ea_cons ev_c fun _ _ => ea_cons (ev_var rfl) fun _ _ => ea_nil) (by show 2 ≤ sizeLine; decide) fun H' q hq => k H' q ?_
      rw [due, finds_some G I.reach hno hy]
      exact hq
    · rw [decide_eq_true hy]
      refine iteT ⟨_, fun σ' H' n => n, ?_⟩
      obtain ⟨dx, fs, hp0, hnf⟩ := I5.obj
      refine do_seq ⟨_, rfl, p, dx, _, rfl, hp0, hnf _ nf_step, H0, p, g, ns, D, s, pre, y, rfl, c, I5, fun st H6 J => ⟨_, rfl, iteT ?_⟩, fun x st H6 J => ⟨_, rfl, iteF ?_⟩⟩
      · refine ⟨5, rfl, by show 1 ≤ sizeLine; decide, fun q hq => k _ q ?_⟩
        rw [upd_same, due, finds_none G I.reach st hno hy]
        rfl
      · have hpre := reach_le G J.reach
        rw [List.length_append] at hpre
        have hpre : pre.length + 1 ≤ 4 * D.squares := hpre
        refine ⟨_, rfl, _, _, rfl, rfl, ?_⟩
        refine ⟨4 * D.squares + 2 - (pre ++ [y]).length, ?_, pre ++ [y], x, ?_, rfl, J, fun v hv => ?_⟩
        · rw [List.length_append]
          show 4 * D.squares + 2 - (pre.length + 1) < _
          omega
        · rw [List.length_append]
          rfl
        · rcases List.mem_append.mp hv with hv | hv
          · exact hno v hv
          · rw [List.mem_singleton] at hv
            rw [hv]
            exact hy
end
end Tw

set_option Elab.async false
set_option linter.all false
set_option maxRecDepth 100000
set_option maxHeartbeats 4000000
namespace Tw
open PySem PySem.Spec PyProof.Rows L2
open PySem.W (Codec)
/-! ### the end: what the top has written -/
theorem all_mk {P : Program} {w : World} {K : PySem.W.Frag} {h : Heap} {mg : Str → Option Value} {fa C W fR fD fF fA fV fI fH fP fQ fB fJ fG fT fE fO fZ fU fL fM : Addr} (X : K.In h) (G : h.Ns mainGlobals mg) (hfa : mg "finds" = some (.ref fa))
    {odR anR odD anD odF anF odA anA odV anV odI anI odH anH odP anP odQ anQ odB anB odJ anJ odG anG odT anT odE anE odO anO odZ anZ odU anU odL anL odM anM : Option Addr} {slR slD slF slA slV slI slH slP slQ slB slJ slG slT slE slO slZ slU slL slM : Array (Option Value)} {ocR kVR dcR pmR cdR ctR ocD kVD dcD pmD cdD ctD ocF kVF dcF pmF cdF ctF ocA kVA dcA pmA cdA ctA ocV kVV dcV pmV cdV ctV ocI kVI dcI pmI cdI ctI ocH kVH dcH pmH cdH ctH ocP kVP dcP pmP cdP ctP ocQ kVQ dcQ pmQ cdQ ctQ ocB kVB dcB pmB cdB ctB ocJ kVJ dcJ pmJ cdJ ctJ ocG kVG dcG pmG cdG ctG ocT kVT dcT pmT cdT ctT ocE kVE dcE pmE cdE ctE ocO kVO dcO pmO cdO ctO ocZ kVZ dcZ pmZ cdZ ctZ ocU kVU dcU pmU cdU ctU ocL kVL dcL pmL cdL ctL ocM kVM dcM pmM cdM ctM : Value} {t1 t2 t3 t4 t5 t6 t7 t8 : Tok}
    (aC : PySem.W.nsIn K mainGlobals "Garden" = some (some (.ref C)))
    (aW : PySem.W.nsIn K mainGlobals "Walker" = some (some (.ref W)))
    (aR : PySem.W.nsIn K mainGlobals "drawing_refusal" = some (some (.ref fR)))
    (lR : K.lookup fR = some ⟨ocR, odR, .func (PySem.W.fnOf "drawing_refusal" "drawing_refusal" (defArgs sRefusal) (defBody sRefusal) (defScope sRefusal) .none kVR dcR pmR anR cdR ctR), slR⟩) (cR : PySem.W.codeIn K cdR "drawing_refusal" = true) (kR : PySem.W.keepIn K (.ref fR) = true)
    (aD : PySem.W.nsIn K mainGlobals "is_drawing" = some (some (.ref fD)))
    (lD : K.lookup fD = some ⟨ocD, odD, .func (PySem.W.fnOf "is_drawing" "is_drawing" (defArgs sIsDraw) (defBody sIsDraw) (defScope sIsDraw) .none kVD dcD pmD anD cdD ctD), slD⟩) (cD : PySem.W.codeIn K cdD "is_drawing" = true) (kD : PySem.W.keepIn K (.ref fD) = true)
    (aF : PySem.W.nsIn K mainGlobals "fits_squares" = some (some (.ref fF)))
    (lF : K.lookup fF = some ⟨ocF, odF, .func (PySem.W.fnOf "fits_squares" "fits_squares" (defArgs sFits) (defBody sFits) (defScope sFits) .none kVF dcF pmF anF cdF ctF), slF⟩) (cF : PySem.W.codeIn K cdF "fits_squares" = true) (kF : PySem.W.keepIn K (.ref fF) = true)
    (aA : PySem.W.nsIn K mainGlobals "signs_allowed" = some (some (.ref fA)))
    (lA : K.lookup fA = some ⟨ocA, odA, .func (PySem.W.fnOf "signs_allowed" "signs_allowed" (defArgs sAllow) (defBody sAllow) (defScope sAllow) .none kVA dcA pmA anA cdA ctA), slA⟩) (cA : PySem.W.codeIn K cdA "signs_allowed" = true) (kA : PySem.W.keepIn K (.ref fA) = true)
    (aV : PySem.W.nsIn K mainGlobals "square_refusal" = some (some (.ref fV)))
    (lV : K.lookup fV = some ⟨ocV, odV, .func (PySem.W.fnOf "square_refusal" "square_refusal" (defArgs sSqRef) (defBody sSqRef) (defScope sSqRef) .none kVV dcV pmV anV cdV ctV), slV⟩) (cV : PySem.W.codeIn K cdV "square_refusal" = true) (kV : PySem.W.keepIn K (.ref fV) = true)
    (aI : PySem.W.findIn K (.ref C) "__init__" = some (some (.ref fI))) (iI : PySem.W.isFn K (.ref fI) = true)
    (lI : K.lookup fI = some ⟨ocI, odI, .func (PySem.W.fnOf "__init__" "Garden.__init__" (defArgs sInit) (defBody sInit) (defScope sInit) .none kVI dcI pmI anI cdI ctI), slI⟩) (cI : PySem.W.codeIn K cdI "Garden.__init__" = true) (kI : PySem.W.keepIn K (.ref fI) = true)
    (aH : PySem.W.findIn K (.ref C) "has_square" = some (some (.ref fH))) (iH : PySem.W.isFn K (.ref fH) = true)
    (lH : K.lookup fH = some ⟨ocH, odH, .func (PySem.W.fnOf "has_square" "Garden.has_square" (defArgs sHas) (defBody sHas) (defScope sHas) .none kVH dcH pmH anH cdH ctH), slH⟩) (cH : PySem.W.codeIn K cdH "Garden.has_square" = true) (kH : PySem.W.keepIn K (.ref fH) = true)
    (aP : PySem.W.findIn K (.ref C) "side_place" = some (some (.ref fP))) (iP : PySem.W.isFn K (.ref fP) = true)
    (lP : K.lookup fP = some ⟨ocP, odP, .func (PySem.W.fnOf "side_place" "Garden.side_place" (defArgs sPlace) (defBody sPlace) (defScope sPlace) .none kVP dcP pmP anP cdP ctP), slP⟩) (cP : PySem.W.codeIn K cdP "Garden.side_place" = true) (kP : PySem.W.keepIn K (.ref fP) = true)
    (aQ : PySem.W.findIn K (.ref C) "has_passage" = some (some (.ref fQ))) (iQ : PySem.W.isFn K (.ref fQ) = true)
    (lQ : K.lookup fQ = some ⟨ocQ, odQ, .func (PySem.W.fnOf "has_passage" "Garden.has_passage" (defArgs sPass) (defBody sPass) (defScope sPass) .none kVQ dcQ pmQ anQ cdQ ctQ), slQ⟩) (cQ : PySem.W.codeIn K cdQ "Garden.has_passage" = true) (kQ : PySem.W.keepIn K (.ref fQ) = true)
    (aB : PySem.W.findIn K (.ref C) "square_beyond" = some (some (.ref fB))) (iB : PySem.W.isFn K (.ref fB) = true)
    (lB : K.lookup fB = some ⟨ocB, odB, .func (PySem.W.fnOf "square_beyond" "Garden.square_beyond" (defArgs sBeyond) (defBody sBeyond) (defScope sBeyond) .none kVB dcB pmB anB cdB ctB), slB⟩) (cB : PySem.W.codeIn K cdB "Garden.square_beyond" = true) (kB : PySem.W.keepIn K (.ref fB) = true)
    (aJ : PySem.W.findIn K (.ref W) "__init__" = some (some (.ref fJ))) (iJ : PySem.W.isFn K (.ref fJ) = true)
    (lJ : K.lookup fJ = some ⟨ocJ, odJ, .func (PySem.W.fnOf "__init__" "Walker.__init__" (defArgs sWInit) (defBody sWInit) (defScope sWInit) .none kVJ dcJ pmJ anJ cdJ ctJ), slJ⟩) (cJ : PySem.W.codeIn K cdJ "Walker.__init__" = true) (kJ : PySem.W.keepIn K (.ref fJ) = true)
    (aG : PySem.W.findIn K (.ref W) "here" = some (some (.ref fG))) (iG : PySem.W.isFn K (.ref fG) = true)
    (lG : K.lookup fG = some ⟨ocG, odG, .func (PySem.W.fnOf "here" "Walker.here" (defArgs sHere) (defBody sHere) (defScope sHere) .none kVG dcG pmG anG cdG ctG), slG⟩) (cG : PySem.W.codeIn K cdG "Walker.here" = true) (kG : PySem.W.keepIn K (.ref fG) = true)
    (aT : PySem.W.findIn K (.ref W) "take_step" = some (some (.ref fT))) (iT : PySem.W.isFn K (.ref fT) = true)
    (lT : K.lookup fT = some ⟨ocT, odT, .func (PySem.W.fnOf "take_step" "Walker.take_step" (defArgs sStep) (defBody sStep) (defScope sStep) .none kVT dcT pmT anT cdT ctT), slT⟩) (cT : PySem.W.codeIn K cdT "Walker.take_step" = true) (kT : PySem.W.keepIn K (.ref fT) = true)
    (aE : PySem.W.findIn K (.ref W) "side_ahead" = some (some (.ref fE))) (iE : PySem.W.isFn K (.ref fE) = true)
    (lE : K.lookup fE = some ⟨ocE, odE, .func (PySem.W.fnOf "side_ahead" "Walker.side_ahead" (defArgs sAhead) (defBody sAhead) (defScope sAhead) .none kVE dcE pmE anE cdE ctE), slE⟩) (cE : PySem.W.codeIn K cdE "Walker.side_ahead" = true) (kE : PySem.W.keepIn K (.ref fE) = true)
    (aO : PySem.W.findIn K (.ref W) "is_gone" = some (some (.ref fO))) (iO : PySem.W.isFn K (.ref fO) = true)
    (lO : K.lookup fO = some ⟨ocO, odO, .func (PySem.W.fnOf "is_gone" "Walker.is_gone" (defArgs sGone) (defBody sGone) (defScope sGone) .none kVO dcO pmO anO cdO ctO), slO⟩) (cO : PySem.W.codeIn K cdO "Walker.is_gone" = true) (kO : PySem.W.keepIn K (.ref fO) = true)
    (aZ : PySem.W.findIn K (.ref W) "side_not_gone" = some (some (.ref fZ))) (iZ : PySem.W.isFn K (.ref fZ) = true)
    (lZ : K.lookup fZ = some ⟨ocZ, odZ, .func (PySem.W.fnOf "side_not_gone" "Walker.side_not_gone" (defArgs sSide) (defBody sSide) (defScope sSide) .none kVZ dcZ pmZ anZ cdZ ctZ), slZ⟩) (cZ : PySem.W.codeIn K cdZ "Walker.side_not_gone" = true) (kZ : PySem.W.keepIn K (.ref fZ) = true)
    (aU : PySem.W.findIn K (.ref W) "unroll" = some (some (.ref fU))) (iU : PySem.W.isFn K (.ref fU) = true)
    (lU : K.lookup fU = some ⟨ocU, odU, .func (PySem.W.fnOf "unroll" "Walker.unroll" (defArgs sUnroll) (defBody sUnroll) (defScope sUnroll) .none kVU dcU pmU anU cdU ctU), slU⟩) (cU : PySem.W.codeIn K cdU "Walker.unroll" = true) (kU : PySem.W.keepIn K (.ref fU) = true)
    (aL : PySem.W.findIn K (.ref W) "roll_up" = some (some (.ref fL))) (iL : PySem.W.isFn K (.ref fL) = true)
    (lL : K.lookup fL = some ⟨ocL, odL, .func (PySem.W.fnOf "roll_up" "Walker.roll_up" (defArgs sRoll) (defBody sRoll) (defScope sRoll) .none kVL dcL pmL anL cdL ctL), slL⟩) (cL : PySem.W.codeIn K cdL "Walker.roll_up" = true) (kL : PySem.W.keepIn K (.ref fL) = true)
    (aM : PySem.W.nsIn K mainGlobals "finds" = some (some (.ref fM)))
    (lM : K.lookup fM = some ⟨ocM, odM, .func (PySem.W.fnOf "finds" "finds" (defArgs sDesk) (defBody sDesk) (defScope sDesk) .none kVM dcM pmM anM cdM ctM), slM⟩) (cM : PySem.W.codeIn K cdM "finds" = true) (kM : PySem.W.keepIn K (.ref fM) = true)
    (g1 : PySem.W.plainGet K C Str.empty = true) (g2 : PySem.W.hasDictIn K C = true) (g3 : PySem.W.plainOver K C = true) (g4 : PySem.W.findIn K (.ref C) "__setattr__" = some (some (.builtin "object.__setattr__"))) (g5 : PySem.W.makesIn K C = true) (g6 : PySem.W.keepIn K (.ref C) = true)
    (w1 : PySem.W.plainGet K W Str.empty = true) (w2 : PySem.W.hasDictIn K W = true) (w3 : PySem.W.plainOver K W = true) (w4 : PySem.W.findIn K (.ref W) "__setattr__" = some (some (.builtin "object.__setattr__"))) (w5 : PySem.W.makesIn K W = true) (w6 : PySem.W.keepIn K (.ref W) = true)
    (n1 : PySem.W.findIn K (.ref C) "signs" = some none) (n2 : PySem.W.findIn K (.ref C) "line_length" = some none) (n3 : PySem.W.findIn K (.ref C) "wide" = some none) (n4 : PySem.W.findIn K (.ref C) "high" = some none) (m1 : PySem.W.findIn K (.ref W) "garden" = some none) (m2 : PySem.W.findIn K (.ref W) "thread" = some none) (m3 : PySem.W.findIn K (.ref W) "sides" = some none) (m4 : PySem.W.findIn K (.ref W) "seen" = some none) (m5 : PySem.W.findIn K (.ref W) "gone" = some none) (m6 : PySem.W.findIn K (.ref W) "turning" = some none)
    (q1 : PySem.W.nsIn K mainGlobals "ROW_END" = some (some (.int 10 t1)))
    (q2 : PySem.W.nsIn K mainGlobals "BLANK" = some (some (.int 32 t2)))
    (q3 : PySem.W.nsIn K mainGlobals "CORNER" = some (some (.int 43 t3)))
    (q4 : PySem.W.nsIn K mainGlobals "LEVEL_HEDGE" = some (some (.int 45 t4)))
    (q5 : PySem.W.nsIn K mainGlobals "UPRIGHT_HEDGE" = some (some (.int 124 t5)))
    (q6 : PySem.W.nsIn K mainGlobals "MOST_BYTES" = some (some (.int 1024 t6)))
    (q7 : PySem.W.nsIn K mainGlobals "MOST_SQUARES_ALONG" = some (some (.int 10 t7)))
    (q8 : PySem.W.nsIn K mainGlobals "ENDED" = some (some (.int 4 t8)))
    (z1 : PySem.W.nsIn K mainGlobals "len" = some none)
    (z2 : PySem.W.nsIn K mainGlobals "list" = some none)
    (z3 : PySem.W.nsIn K mainGlobals "range" = some none)
    (z4 : PySem.W.nsIn K mainGlobals "enumerate" = some none)
    (z5 : PySem.W.nsIn K mainGlobals "max" = some none)
    : ∃ fd : FuncData, (∀ (s : Shared) (us : List Value), us.length = (["s", "u", "garden"] : List Str).length → BindsTo s fd ⟨us, []⟩ ((["s", "u", "garden"] : List Str).zip us)) ∧ ∀ base : Heap, K.In base → base.Ns mainGlobals mg → FnOk P w K mg base CX0 6 fa fd ["s", "u", "garden"] (spFinds K) := by
  have e := hfa.symm.trans (PySem.W.mg_of X G aM)
  cases e
  have T : Con mg := ⟨⟨_, PySem.W.mg_of X G q1⟩, ⟨_, PySem.W.mg_of X G q2⟩, ⟨_, PySem.W.mg_of X G q3⟩, ⟨_, PySem.W.mg_of X G q4⟩, ⟨_, PySem.W.mg_of X G q5⟩, ⟨_, PySem.W.mg_of X G q6⟩, ⟨_, PySem.W.mg_of X G q7⟩, ⟨_, PySem.W.mg_of X G q8⟩, PySem.W.mg_none_of X G z1, PySem.W.mg_none_of X G z2, PySem.W.mg_none_of X G z3, PySem.W.mg_none_of X G z4⟩
  have T2 : Txt K mg C := ⟨⟨g1, g2, g3, g4⟩, n1, n2, n3, n4, PySem.W.mg_of X G aC⟩
  have T3 : TxtW K mg W := ⟨⟨w1, w2, w3, w4⟩, m1, m2, m3, m4, m5, m6, PySem.W.mg_of X G aW⟩
  have FR := fun_mk (st := sRefusal) lR cR kR
  have bR := FR.binds (ps := ["signs"]) fun _ _ _ _ _ _ us hl => match us, hl with | [_], _ => rfl
  have FD := fun_mk (st := sIsDraw) lD cD kD
  have bD := FD.binds (ps := ["signs"]) fun _ _ _ _ _ _ us hl => match us, hl with | [_], _ => rfl
  have FF := fun_mk (st := sFits) lF cF kF
  have bF := FF.binds (ps := ["count"]) fun _ _ _ _ _ _ us hl => match us, hl with | [_], _ => rfl
  have FA := fun_mk (st := sAllow) lA cA kA
  have bA := FA.binds (ps := ["place", "columns", "lines"]) fun _ _ _ _ _ _ us hl => match us, hl with | [_, _, _], _ => rfl
  have FV := fun_mk (st := sSqRef) lV cV kV
  have bV := FV.binds (ps := ["square", "signs"]) fun _ _ _ _ _ _ us hl => match us, hl with | [_, _], _ => rfl
  have FI := fun_mk (st := sInit) lI cI kI
  have bI := FI.binds (ps := ["self", "signs"]) fun _ _ _ _ _ _ us hl => match us, hl with | [_, _], _ => rfl
  have FH := fun_mk (st := sHas) lH cH kH
  have bH := FH.binds (ps := ["self", "square"]) fun _ _ _ _ _ _ us hl => match us, hl with | [_, _], _ => rfl
  have FP := fun_mk (st := sPlace) lP cP kP
  have bP := FP.binds (ps := ["self", "square", "side"]) fun _ _ _ _ _ _ us hl => match us, hl with | [_, _, _], _ => rfl
  have FQ := fun_mk (st := sPass) lQ cQ kQ
  have bQ := FQ.binds (ps := ["self", "square", "side"]) fun _ _ _ _ _ _ us hl => match us, hl with | [_, _, _], _ => rfl
  have FB := fun_mk (st := sBeyond) lB cB kB
  have bB := FB.binds (ps := ["self", "square", "side"]) fun _ _ _ _ _ _ us hl => match us, hl with | [_, _, _], _ => rfl
  have FJ := fun_mk (st := sWInit) lJ cJ kJ
  have bJ := FJ.binds (ps := ["self", "garden", "start"]) fun _ _ _ _ _ _ us hl => match us, hl with | [_, _, _], _ => rfl
  have FG := fun_mk (st := sHere) lG cG kG
  have bG := FG.binds (ps := ["self"]) fun _ _ _ _ _ _ us hl => match us, hl with | [_], _ => rfl
  have FT := fun_mk (st := sStep) lT cT kT
  have bT := FT.binds (ps := ["self"]) fun _ _ _ _ _ _ us hl => match us, hl with | [_], _ => rfl
  have FE := fun_mk (st := sAhead) lE cE kE
  have bE := FE.binds (ps := ["self"]) fun _ _ _ _ _ _ us hl => match us, hl with | [_], _ => rfl
  have FO := fun_mk (st := sGone) lO cO kO
  have bO := FO.binds (ps := ["self", "side"]) fun _ _ _ _ _ _ us hl => match us, hl with | [_, _], _ => rfl
  have FZ := fun_mk (st := sSide) lZ cZ kZ
  have bZ := FZ.binds (ps := ["self"]) fun _ _ _ _ _ _ us hl => match us, hl with | [_], _ => rfl
  have FU := fun_mk (st := sUnroll) lU cU kU
  have bU := FU.binds (ps := ["self", "side"]) fun _ _ _ _ _ _ us hl => match us, hl with | [_, _], _ => rfl
  have FL := fun_mk (st := sRoll) lL cL kL
  have bL := FL.binds (ps := ["self"]) fun _ _ _ _ _ _ us hl => match us, hl with | [_], _ => rfl
  have FM := fun_mk (st := sDesk) lM cM kM
  refine ⟨PySem.W.fnOf "finds" "finds" (defArgs sDesk) (defBody sDesk) (defScope sDesk) .none kVM dcM pmM anM cdM ctM, fun s us hu => match us, hu with | [_, _, _], _ => .of_eq rfl, fun base _ _ => ?_⟩
  have gD := ok_draw (P := P) (w := w) (base := base) FD T FF bF (PySem.W.mg_of X G aF) FA bA (PySem.W.mg_of X G aA)
  have gR := ok_ref (P := P) (w := w) (base := base) FR T gD kD bD (PySem.W.mg_of X G aD)
  have gI := ok_init (P := P) (w0 := w) (base := base) FI T T2
  have gH := ok_has (P := P) (w0 := w) (base := base) FH T2
  have gP := ok_place (P := P) (w0 := w) (base := base) FP T2
  have mP : Meth K C "side_place" fP := ⟨aP, iP, kP⟩
  have gQ := ok_pass (P := P) (w0 := w) (base := base) FQ T T2 mP bP gP
  have gB := ok_beyond (P := P) (w0 := w) (base := base) FB T2
  have M : Mts P w K mg base C fH fP fQ fB _ _ _ _ := ⟨⟨aH, iH, kH⟩, mP, ⟨aQ, iQ, kQ⟩, ⟨aB, iB, kB⟩, bH, bP, bQ, bB, gH, gP, gQ, gB⟩
  have gJ := ok_winit (P := P) (w0 := w) (base := base) FJ T3
  have mG : Meth K W "here" fG := ⟨aG, iG, kG⟩
  have gG := ok_here (P := P) (w0 := w) (base := base) FG T3
  have mO : Meth K W "is_gone" fO := ⟨aO, iO, kO⟩
  have gO := ok_gone FO T2 T3 M mG gG bG
  have gZ := ok_side FZ T T2 T3 M mG gG bG mO gO bO
  have gU := ok_unroll FU T2 T3 M mG gG bG
  have gL := ok_roll (P := P) (w0 := w) (base := base) FL T3
  have WM : Wms P w K mg base C W fZ fO fU fL _ _ _ _ := ⟨⟨aZ, iZ, kZ⟩, mO, ⟨aU, iU, kU⟩, ⟨aL, iL, kL⟩, bZ, bO, bU, bL, gZ, gO, gU, gL⟩
  have mE : Meth K W "side_ahead" fE := ⟨aE, iE, kE⟩
  have gE := ok_ahead FE T T3 WM
  have gT := ok_step1 FT T T3 WM mE gE bE
  have mT : Meth K W "take_step" fT := ⟨aT, iT, kT⟩
  have WK : Wks P w K mg base C W fI fJ fT fG _ _ _ _ := ⟨⟨g5, aI, iI, g6⟩, gI, bI, ⟨w5, aJ, iJ, w6⟩, gJ, bJ, mT, gT, bT, mG, gG, bG⟩
  have gV := ok_sqref FV T2 M gR kR bR (PySem.W.mg_of X G aR) ⟨g5, aI, iI, g6⟩ gI bI
  have DM : Dms P w K mg base C W fV fI fJ fT fG _ _ _ _ _ := ⟨WK, gV, kV, bV, PySem.W.mg_of X G aV⟩
  exact ok_finds FM T T2 T3 DM (PySem.W.mg_none_of X G z5)
end Tw
open PySem PySem.W PyProof.Rows
set_option maxRecDepth 100000 in
set_option maxHeartbeats 8000000 in
theorem PySem.Challenge.cw_threadwalk_s04_finds_holds : PySem.Challenge.rw_threadwalk_s04_finds.Holds := by
  w_on; k_headS; (case hw => exact ⟨[.int 0, .int 0, .list []], by decide +kernel, by decide +kernel⟩)
  k_fillS
  refine L2.walk_specK (r := PySem.Challenge.rw_threadwalk_s04_finds) (k := 6) (CX := L2.CX0) (ps := ["s", "u", "garden"]) (sp := Tw.spFinds) (by decide +kernel) rfl rfl ⟨rfl, by decide, by decide⟩ (fun w h Y => PySem.W.kIn_of Y) ?F ?S (fun _ _ _ _ z => z)
  case F =>
    intro w mg fa h Y KX G hmg
    refine' Tw.all_mk KX G hmg ?aC ?aW ?aR ?lR ?cR ?kR ?aD ?lD ?cD ?kD ?aF ?lF ?cF ?kF ?aA ?lA ?cA ?kA ?aV ?lV ?cV ?kV ?aI ?iI ?lI ?cI ?kI ?aH ?iH ?lH ?cH ?kH ?aP ?iP ?lP ?cP ?kP ?aQ ?iQ ?lQ ?cQ ?kQ ?aB ?iB ?lB ?cB ?kB ?aJ ?iJ ?lJ ?cJ ?kJ ?aG ?iG ?lG ?cG ?kG ?aT ?iT ?lT ?cT ?kT ?aE ?iE ?lE ?cE ?kE ?aO ?iO ?lO ?cO ?kO ?aZ ?iZ ?lZ ?cZ ?kZ ?aU ?iU ?lU ?cU ?kU ?aL ?iL ?lL ?cL ?kL ?aM ?lM ?cM ?kM ?g1 ?g2 ?g3 ?g4 ?g5 ?g6 ?w1 ?w2 ?w3 ?w4 ?w5 ?w6 ?n1 ?n2 ?n3 ?n4 ?m1 ?m2 ?m3 ?m4 ?m5 ?m6 ?q1 ?q2 ?q3 ?q4 ?q5 ?q6 ?q7 ?q8 ?z1 ?z2 ?z3 ?z4 ?z5
    (case aC => k_is)
    (case aW => k_is)
    (case aR => k_is)
    (case lR => k_is)
    (case cR => k_is)
    (case kR => k_is)
    (case aD => k_is)
    (case lD => k_is)
    (case cD => k_is)
    (case kD => k_is)
    (case aF => k_is)
    (case lF => k_is)
    (case cF => k_is)
    (case kF => k_is)
    (case aA => k_is)
    (case lA => k_is)
    (case cA => k_is)
    (case kA => k_is)
    (case aV => k_is)
    (case lV => k_is)
    (case cV => k_is)
    (case kV => k_is)
    (case aI => k_is)
    (case iI => k_is)
    (case lI => k_is)
    (case cI => k_is)
    (case kI => k_is)
    (case aH => k_is)
    (case iH => k_is)
    (case lH => k_is)
    (case cH => k_is)
    (case kH => k_is)
    (case aP => k_is)
    (case iP => k_is)
    (case lP => k_is)
    (case cP => k_is)
    (case kP => k_is)
    (case aQ => k_is)
    (case iQ => k_is)
    (case lQ => k_is)
    (case cQ => k_is)
    (case kQ => k_is)
    (case aB => k_is)
    (case iB => k_is)
    (case lB => k_is)
    (case cB => k_is)
    (case kB => k_is)
    (case aJ => k_is)
    (case iJ => k_is)
    (case lJ => k_is)
    (case cJ => k_is)
    (case kJ => k_is)
    (case aG => k_is)
    (case iG => k_is)
    (case lG => k_is)
    (case cG => k_is)
    (case kG => k_is)
    (case aT => k_is)
    (case iT => k_is)
    (case lT => k_is)
    (case cT => k_is)
    (case kT => k_is)
    (case aE => k_is)
    (case iE => k_is)
    (case lE => k_is)
    (case cE => k_is)
    (case kE => k_is)
    (case aO => k_is)
    (case iO => k_is)
    (case lO => k_is)
    (case cO => k_is)
    (case kO => k_is)
    (case aZ => k_is)
    (case iZ => k_is)
    (case lZ => k_is)
    (case cZ => k_is)
    (case kZ => k_is)
    (case aU => k_is)
    (case iU => k_is)
    (case lU => k_is)
    (case cU => k_is)
    (case kU => k_is)
    (case aL => k_is)
    (case iL => k_is)
    (case lL => k_is)
    (case cL => k_is)
    (case kL => k_is)
    (case aM => k_is)
    (case lM => k_is)
    (case cM => k_is)
    (case kM => k_is)
    (case g1 => k_is)
    (case g2 => k_is)
    (case g3 => k_is)
    (case g4 => k_is)
    (case g5 => k_is)
    (case g6 => k_is)
    (case w1 => k_is)
    (case w2 => k_is)
    (case w3 => k_is)
    (case w4 => k_is)
    (case w5 => k_is)
    (case w6 => k_is)
    (case n1 => k_is)
    (case n2 => k_is)
    (case n3 => k_is)
    (case n4 => k_is)
    (case m1 => k_is)
    (case m2 => k_is)
    (case m3 => k_is)
    (case m4 => k_is)
    (case m5 => k_is)
    (case m6 => k_is)
    (case q1 => k_is)
    (case q2 => k_is)
    (case q3 => k_is)
    (case q4 => k_is)
    (case q5 => k_is)
    (case q6 => k_is)
    (case q7 => k_is)
    (case q8 => k_is)
    (case z1 => k_is)
    (case z2 => k_is)
    (case z3 => k_is)
    (case z4 => k_is)
    (case z5 => k_is)
  case S =>
    intro K H xs a hO hwi hask hx
    cases hx with
    | cons h1 h2 =>
      cases h2 with
      | cons h2 h3 =>
        cases h3 with
        | cons h3 h4 =>
          cases h4
          cases h1
          cases h2
          cases h3 with
          | lst hs ha =>
            have e := L2.ints_dw a.2.2.1 _ ha
            subst e
            have q : (Codec.inInt 0 4294967295 a.1 && (Codec.inInt 0 4294967295 a.2.1 && ((Codec.inLen 0 4000 a.2.2.1 && a.2.2.1.all (Codec.inInt 0 255)) && true))) = true := hwi
            rw [Bool.and_eq_true, Bool.and_eq_true, Bool.and_eq_true, Bool.and_eq_true] at q
            obtain ⟨q1, q3, ⟨_, q2⟩, _⟩ := q
            have q1 := Codec.inInt_iff.mp q1
            have q3 := Codec.inInt_iff.mp q3
            have e1 : (a.1.toNat : Int) = a.1 := Int.toNat_of_nonneg q1.1
            have e3 : (a.2.1.toNat : Int) = a.2.1 := Int.toNat_of_nonneg q3.1
            refine ⟨_, a.1.toNat, a.2.1.toNat, a.2.2.1, by rw [e1, e3], by omega, hs, fun n hn => Codec.inInt_iff.mp (List.all_eq_true.mp q2 n hn), fun H' p hp => ?_⟩
            rw [e1, e3] at hp
            exact .lst (L2.SqL.of hp) (L2.dw_ints _)
#print axioms PySem.Challenge.cw_threadwalk_s04_finds_holds
