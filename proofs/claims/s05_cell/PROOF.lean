import PyProof.Rows.All
import Wide.All
import OpenK.AllK
import Wide.FinOn
import Open.SpecLaws
import KE.OsGo
import HandS.ForSpec
import HandS.Comp
import PySem.Challenge.RW_knotcharts_s05_cell
set_option Elab.async false
set_option linter.all false
set_option maxRecDepth 100000
set_option maxHeartbeats 4000000
namespace Kc
/-! ### the text's rows -/
abbrev Rows := List (List Int)
def spStep (s : Rows × List Int) (b : Int) : Rows × List Int := if b = 10 then (s.1 ++ [s.2], []) else (s.1, s.2 ++ [b])
def splitGo (t : List Int) : Rows × List Int := t.foldl spStep ([], [])
def splitRows (t : List Int) : Rows := (splitGo t).1
def isCol (b : Int) : Bool := decide (97 ≤ b ∧ b ≤ 122 ∨ 65 ≤ b ∧ b ≤ 90 ∨ 48 ≤ b ∧ b ≤ 57)
def rowOk (w : Nat) (r : List Int) : Bool := decide (r.length = w) && r.all isCol
def wide (rows : Rows) : Nat := (rows.headD []).length
def chartOk (rows : Rows) : Bool := decide (1 ≤ wide rows ∧ wide rows ≤ 512 ∧ rows.length ≤ 512 ∧ wide rows * rows.length ≤ 65536) && rows.all (rowOk (wide rows))
def textOk (t : List Int) : Bool := decide (t ≠ []) && (decide (t.getLast? = some 10) && chartOk (splitRows t))
def refusal (t : List Int) : Int := if 66048 < t.length then -2 else if textOk t = true then 0 else -6

/-! ### bytes and colours -/
def by8 (x : Int) : UInt8 := UInt8.ofNat x.toNat
def colN (x : Int) : Nat := (Rg.colourOf (by8 x)).getD 0
def inB (x : Int) : Prop := 0 ≤ x ∧ x ≤ 255
theorem text_eq (t : List Int) : RugBNeutral.text t = t.map by8 := by
  unfold RugBNeutral.text RugBNeutral.nats
  rw [List.map_map]; rfl
theorem byte_facts : ∀ n : Fin 256,
    (isCol ((n.val : Nat) : Int) = (Rg.colourOf (UInt8.ofNat n.val)).isSome) ∧
    (∀ k, Rg.colourOf (UInt8.ofNat n.val) = some k → Rg.byteOf k = UInt8.ofNat n.val ∧ k < 62) := by
  have h : ∀ n : Fin 256, ((isCol ((n.val : Nat) : Int) == (Rg.colourOf (UInt8.ofNat n.val)).isSome) && (match Rg.colourOf (UInt8.ofNat n.val) with | none => true | some k => (Rg.byteOf k == UInt8.ofNat n.val) && decide (k < 62))) = true := by decide +kernel
  intro n
  have q := h n
  rw [Bool.and_eq_true] at q
  refine ⟨eq_of_beq q.1, fun k e => ?_⟩
  have q2 := q.2
  rw [e] at q2
  simp only [Bool.and_eq_true] at q2
  exact ⟨eq_of_beq q2.1, of_decide_eq_true q2.2⟩
theorem by8_inj {x y : Int} (hx : inB x) (hy : inB y) (h : by8 x = by8 y) : x = y := by
  unfold by8 at h
  have h2 := congrArg UInt8.toNat h
  simp only [UInt8.toNat_ofNat'] at h2
  unfold inB at hx hy
  omega
theorem inB_fin {x : Int} (h : inB x) : ∃ n : Fin 256, ((n.val : Nat) : Int) = x := by
  unfold inB at h
  exact ⟨⟨x.toNat, by omega⟩, by simp; omega⟩
theorem col_isSome {x : Int} (h : inB x) : (Rg.colourOf (by8 x)).isSome = isCol x := by
  obtain ⟨n, rfl⟩ := inB_fin h
  exact ((byte_facts n).1).symm
theorem col_byte {x : Int} {k : Nat} (h : inB x) (e : Rg.colourOf (by8 x) = some k) : Rg.byteOf k = by8 x ∧ k < 62 := by
  obtain ⟨n, rfl⟩ := inB_fin h
  exact (byte_facts n).2 k e
theorem col_some {x : Int} (h : inB x) (c : isCol x = true) : Rg.colourOf (by8 x) = some (colN x) := by
  have q := col_isSome h
  rw [c] at q
  obtain ⟨k, e⟩ := Option.isSome_iff_exists.mp q
  unfold colN
  rw [e]; rfl
theorem col_none {x : Int} (h : inB x) (c : isCol x = false) : Rg.colourOf (by8 x) = none := by
  have q := col_isSome h
  rw [c] at q
  exact Option.isSome_eq_false_iff.mp q |> fun z => Option.isNone_iff_eq_none.mp z
theorem isCol_inB {x : Int} (c : isCol x = true) : inB x := by
  unfold isCol at c
  have := of_decide_eq_true c
  unfold inB; omega
theorem colN_inj {x y : Int} (cx : isCol x = true) (cy : isCol y = true) (h : colN x = colN y) : x = y := by
  have hx := isCol_inB cx
  have hy := isCol_inB cy
  have e1 := (col_byte hx (col_some hx cx)).1
  have e2 := (col_byte hy (col_some hy cy)).1
  exact by8_inj hx hy (by rw [← e1, ← e2, h])
theorem isCol_ne {x : Int} (c : isCol x = true) : x ≠ 10 := by
  unfold isCol at c
  have := of_decide_eq_true c
  omega

/-! ### the split -/
theorem go_append (t : List Int) : ∀ (s : Rows × List Int), (t.foldl spStep s).1.flatMap (fun r => r ++ [10]) ++ (t.foldl spStep s).2 = s.1.flatMap (fun r => r ++ [10]) ++ (s.2 ++ t) := by
  induction t with
  | nil => intro s; simp
  | cons x r ih =>
    intro s
    rw [List.foldl_cons, ih]
    unfold spStep
    by_cases h : x = 10
    · subst h; simp
    · simp [h]
theorem split_join (t : List Int) : (splitRows t).flatMap (fun r => r ++ [10]) ++ (splitGo t).2 = t := by
  have := go_append t ([], [])
  simpa [splitRows, splitGo] using this
theorem go_last (t : List Int) (s : Rows × List Int) : (t ++ [10]).foldl spStep s = ((t.foldl spStep s).1 ++ [(t.foldl spStep s).2], []) := by
  rw [List.foldl_append]
  show spStep _ 10 = _
  unfold spStep; simp
theorem split_last {t : List Int} (h : t.getLast? = some 10) : (splitGo t).2 = [] ∧ splitRows t ≠ [] := by
  obtain ⟨ys, e⟩ := List.getLast?_eq_some_iff.mp h
  subst e
  unfold splitRows splitGo
  rw [go_last]
  exact ⟨rfl, by simp⟩
theorem getLast_of {t : List Int} (h1 : (splitGo t).2 = []) (h2 : splitRows t ≠ []) : t.getLast? = some 10 := by
  have e := split_join t
  rw [h1, List.append_nil] at e
  obtain ⟨ys, y, q⟩ : ∃ ys y, splitRows t = ys ++ [y] := ⟨_, _, (List.dropLast_concat_getLast h2).symm⟩
  rw [q] at e
  rw [← e]
  simp
/-- the specification's parts are the rows and what is left -/
theorem cut_parts : ∀ (t : List Int) (p : Nat) (s : List Int) (acc : Rows), (∀ x ∈ t, inB x) →
    acc.map (List.map by8) ++ (Rg.cut Rg.LF p (s.map by8) (t.map by8)).map Prod.snd = ((t.foldl spStep (acc, s)).1 ++ [(t.foldl spStep (acc, s)).2]).map (List.map by8)
  | [], p, s, acc, _ => by simp [Rg.cut]
  | x :: r, p, s, acc, h => by
    rw [List.foldl_cons, List.map_cons]
    have hx : inB x := h x (by simp)
    have hr : ∀ y ∈ r, inB y := fun y hy => h y (by simp [hy])
    have hc : (by8 x = Rg.LF) ↔ x = 10 := ⟨fun e => by8_inj hx (by unfold inB; omega) (e.trans rfl), fun e => by rw [e]; rfl⟩
    unfold Rg.cut
    by_cases e : x = 10
    · rw [if_pos (hc.mpr e)]
      have ih := cut_parts r (p + (s.map by8).length + 1) [] (acc ++ [s]) hr
      rw [show spStep (acc, s) x = (acc ++ [s], []) by unfold spStep; rw [if_pos e], ← ih]
      simp
    · rw [if_neg (fun z => e (hc.mp z))]
      have ih := cut_parts r p (s ++ [x]) acc hr
      rw [show spStep (acc, s) x = (acc, s ++ [x]) by unfold spStep; rw [if_neg e]]
      rw [← ih]
      simp
theorem parts (t : List Int) (h : ∀ x ∈ t, inB x) : ((Rg.cut Rg.LF 0 [] (t.map by8)).map fun (x : Nat × Rg.Bytes) => x.2.map Rg.colourOf).dropLast = (splitRows t).map fun r => r.map fun x => Rg.colourOf (by8 x) := by
  have q := cut_parts t 0 [] [] h
  have e : (Rg.cut Rg.LF 0 [] (t.map by8)).map (fun (x : Nat × Rg.Bytes) => x.2.map Rg.colourOf) = ((Rg.cut Rg.LF 0 [] (t.map by8)).map Prod.snd).map (List.map Rg.colourOf) := by
    rw [List.map_map]; rfl
  rw [e]
  have q2 : (Rg.cut Rg.LF 0 [] (t.map by8)).map Prod.snd = ((splitGo t).1 ++ [(splitGo t).2]).map (List.map by8) := by
    simpa [splitGo] using q
  rw [q2, List.map_map, List.map_append, List.map_singleton, List.dropLast_concat]
  unfold splitRows
  apply List.map_congr_left
  intro r _
  simp
/-- the chart of rows -/
def chartR (rows : Rows) : Rg.Chart := ⟨wide rows, rows.length, rows.map (List.map colN)⟩
theorem filt_len (r : List Int) (h : ∀ x ∈ r, inB x) : ((r.map fun x => Rg.colourOf (by8 x)).filterMap id).map Rg.byteOf = (r.filter isCol).map by8 := by
  induction r with
  | nil => rfl
  | cons x r ih =>
    have hx : inB x := h x (by simp)
    have ih := ih (fun y hy => h y (by simp [hy]))
    by_cases c : isCol x = true
    · have e := col_some hx c
      rw [List.map_cons, e, List.filterMap_cons_some (by rfl), List.map_cons, ih, List.filter_cons_of_pos c, List.map_cons, (col_byte hx e).1]
    · have c' : isCol x = false := by simpa using c
      rw [List.map_cons, col_none hx c', List.filterMap_cons_none (by rfl), ih, List.filter_cons_of_neg c]
theorem filt_all (r : List Int) (h : r.all isCol = true) : (r.map fun x => Rg.colourOf (by8 x)).filterMap id = r.map colN := by
  induction r with
  | nil => rfl
  | cons x r ih =>
    rw [List.all_cons, Bool.and_eq_true] at h
    rw [List.map_cons, col_some (isCol_inB h.1) h.1, List.filterMap_cons_some (by rfl), ih h.2, List.map_cons]
theorem flat_len (l : Rows) : (l.flatMap fun r => r ++ [10]).length = (l.map fun r => r.length + 1).sum := by
  induction l with
  | nil => rfl
  | cons r l ih =>
    simp [ih]
    omega
theorem filt_full : ∀ (l : Rows), (l.map fun r => (r.filter isCol).length + 1).sum ≤ (l.map fun r => r.length + 1).sum ∧
    ((l.map fun r => (r.filter isCol).length + 1).sum = (l.map fun r => r.length + 1).sum → ∀ r ∈ l, r.all isCol = true)
  | [] => ⟨by simp, fun _ r h => by simp at h⟩
  | r :: l => by
    have ih := filt_full l
    have q : (r.filter isCol).length ≤ r.length := List.length_filter_le ..
    refine ⟨by simp only [List.map_cons, List.sum_cons]; omega, fun e => ?_⟩
    simp only [List.map_cons, List.sum_cons] at e
    intro r' hr'
    rcases List.mem_cons.mp hr' with rfl | hr'
    · have e1 : (r'.filter isCol).length = r'.length := by omega
      have e2 := List.length_filter_eq_length_iff.mp e1
      exact List.all_eq_true.mpr e2
    · exact ih.2 (by omega) r' hr'
theorem text_len (rows : Rows) (h : ∀ r ∈ rows, ∀ x ∈ r, inB x) : ((rows.map fun r => (r.map fun x => Rg.colourOf (by8 x)).filterMap id).flatMap fun r => r.map Rg.byteOf ++ [Rg.LF]) = rows.flatMap fun r => (r.filter isCol).map by8 ++ [Rg.LF] := by
  rw [List.flatMap_map]
  induction rows with
  | nil => rfl
  | cons r l ih =>
    rw [List.flatMap_cons, List.flatMap_cons, filt_len r (h r (by simp)), ih (fun r' hr' => h r' (by simp [hr']))]
theorem mem_split {t : List Int} (h : ∀ x ∈ t, inB x) : ∀ r ∈ splitRows t, ∀ x ∈ r, inB x := by
  intro r hr x hx
  apply h
  rw [← split_join t]
  rw [List.mem_append]
  left
  rw [List.mem_flatMap]
  exact ⟨r, hr, by simp [hx]⟩
theorem rowOk_of {w : Nat} {r : List Int} (h : rowOk w r = true) : r.length = w ∧ r.all isCol = true := by
  unfold rowOk at h
  rw [Bool.and_eq_true] at h
  exact ⟨of_decide_eq_true h.1, h.2⟩
structure Good (rows : Rows) : Prop where
  w1 : 1 ≤ wide rows
  w2 : wide rows ≤ 512
  h1 : 1 ≤ rows.length
  h2 : rows.length ≤ 512
  wh : wide rows * rows.length ≤ 65536
  len : ∀ r ∈ rows, r.length = wide rows
  col : ∀ r ∈ rows, r.all isCol = true
theorem good_of {t : List Int} (h : textOk t = true) : Good (splitRows t) ∧ (splitGo t).2 = [] := by
  unfold textOk chartOk at h
  simp only [Bool.and_eq_true] at h
  obtain ⟨_, h2, h3, h4⟩ := h
  have ⟨l1, l2⟩ := split_last (of_decide_eq_true h2)
  have ⟨a, b, c, d⟩ := of_decide_eq_true h3
  have e := List.all_eq_true.mp h4
  exact ⟨⟨a, b, List.length_pos_iff.mpr l2, c, d, fun r hr => (rowOk_of (e r hr)).1, fun r hr => (rowOk_of (e r hr)).2⟩, l1⟩
theorem chart_some {t : List Int} (hb : ∀ x ∈ t, inB x) (h : textOk t = true) : Rg.chartOf (t.map by8) = some (chartR (splitRows t)) := by
  obtain ⟨g, l1⟩ := good_of h
  unfold Rg.chartOf
  rw [parts t hb]
  have e1 : ((splitRows t).map fun r => r.map fun x => Rg.colourOf (by8 x)).map (fun (r : List (Option Nat)) => r.filterMap id) = (splitRows t).map (List.map colN) := by
    rw [List.map_map]
    apply List.map_congr_left
    intro r hr
    exact filt_all r (g.col r hr)
  have e2 : (((splitRows t).map fun r => r.map fun x => Rg.colourOf (by8 x)).headD []).length = wide (splitRows t) := by
    unfold wide
    cases splitRows t with
    | nil => rfl
    | cons r l => simp
  simp only [e1, e2, List.length_map]
  have hc : (chartR (splitRows t)).right = true ∧ (chartR (splitRows t)).text = t.map by8 := by
    constructor
    · unfold Rg.Chart.right Rg.sizeOk chartR Rg.SIDE Rg.KNOTS Rg.COLOURS
      simp only [Bool.and_eq_true, decide_eq_true_eq, List.length_map, List.all_map, List.all_eq_true, Function.comp]
      refine ⟨⟨g.w1, g.w2, g.h1, g.h2⟩, g.wh, trivial, fun r hr => ⟨g.len r hr, fun x hx => ?_⟩⟩
      have c := List.all_eq_true.mp (g.col r hr) x hx
      exact (col_byte (isCol_inB c) (col_some (isCol_inB c) c)).2
    · unfold Rg.Chart.text chartR
      have z := text_len (splitRows t) (mem_split hb)
      have z1 : (splitRows t).map (fun r => (r.map fun x => Rg.colourOf (by8 x)).filterMap id) = (splitRows t).map (List.map colN) := List.map_congr_left fun r hr => filt_all r (g.col r hr)
      rw [z1] at z
      show ((splitRows t).map (List.map colN)).flatMap _ = _
      rw [z]
      have e := split_join t
      rw [l1, List.append_nil] at e
      rw [← congrArg (List.map by8) e, List.map_flatMap]
      have q : ∀ l : Rows, (∀ r ∈ l, r.all isCol = true) → (l.flatMap fun r => (r.filter isCol).map by8 ++ [Rg.LF]) = l.flatMap fun r => (r ++ [10]).map by8 := by
        intro l
        induction l with
        | nil => intro _; rfl
        | cons r l ih =>
          intro hl
          rw [List.flatMap_cons, List.flatMap_cons, ih (fun r' hr' => hl r' (by simp [hr']))]
          rw [List.filter_eq_self.mpr (List.all_eq_true.mp (hl r (by simp))), List.map_append]
          rfl
      exact q _ g.col
  exact if_pos hc
theorem chart_none {t : List Int} (hb : ∀ x ∈ t, inB x) (h : textOk t = false) : Rg.chartOf (t.map by8) = none := by
  unfold Rg.chartOf
  rw [parts t hb]
  apply if_neg
  rintro ⟨hr, ht⟩
  have hm := mem_split hb
  -- the text's length tells that all are colours
  have z := text_len (splitRows t) hm
  unfold Rg.Chart.text at ht
  simp only [List.map_map] at ht
  have z0 : ((splitRows t).map fun r => (r.map fun x => Rg.colourOf (by8 x)).filterMap id) = (splitRows t).map ((fun (r : List (Option Nat)) => r.filterMap id) ∘ fun r => r.map fun x => Rg.colourOf (by8 x)) := rfl
  rw [z0] at z
  rw [z] at ht
  have e := split_join t
  have hl := congrArg List.length ht
  rw [List.length_map] at hl
  have hl2 := congrArg List.length e
  rw [List.length_append, flat_len] at hl2
  have hl3 : ((splitRows t).flatMap fun r => (r.filter isCol).map by8 ++ [Rg.LF]).length = ((splitRows t).map fun r => (r.filter isCol).length + 1).sum := by
    induction splitRows t with
    | nil => rfl
    | cons r l ih =>
      simp [ih]
      omega
  obtain ⟨f1, f2⟩ := filt_full (splitRows t)
  have hnil : (splitGo t).2 = [] := List.length_eq_zero_iff.mp (by omega)
  have hcol := f2 (by omega)
  unfold Rg.Chart.right Rg.sizeOk Rg.SIDE Rg.KNOTS Rg.COLOURS at hr
  simp only [Bool.and_eq_true, decide_eq_true_eq, List.length_map] at hr
  obtain ⟨⟨a, b, c, d⟩, e1, _, e2⟩ := hr
  have e3 : (((splitRows t).map fun r => r.map fun x => Rg.colourOf (by8 x)).headD []).length = wide (splitRows t) := by
    unfold wide
    cases splitRows t with
    | nil => rfl
    | cons r l => simp
  rw [e3] at a b e1 e2
  have hne : splitRows t ≠ [] := List.length_pos_iff.mp c
  have hlast := getLast_of hnil hne
  have : textOk t = true := by
    unfold textOk chartOk
    simp only [Bool.and_eq_true, decide_eq_true_eq]
    refine ⟨fun q => by rw [q] at hlast; simp at hlast, hlast, ⟨a, b, d, e1⟩, ?_⟩
    rw [List.all_eq_true] at e2 ⊢
    intro r hr
    have q := e2 ((r.map fun x => Rg.colourOf (by8 x)).filterMap id) (by
      rw [List.mem_map]
      exact ⟨r.map fun x => Rg.colourOf (by8 x), List.mem_map.mpr ⟨r, hr, rfl⟩, rfl⟩)
    rw [Bool.and_eq_true] at q
    unfold rowOk
    rw [Bool.and_eq_true]
    refine ⟨?_, hcol r hr⟩
    have q1 := of_decide_eq_true q.1
    rw [filt_all r (hcol r hr), List.length_map] at q1
    exact decide_eq_true q1
  rw [this] at h
  cases h
end Kc

namespace Kc
/-! ### the field -/
def at0 (rows : Rows) (X Y : Nat) : Int := (rows.getD Y []).getD X 0
def fld (rows : Rows) (X Y : Int) : Int := at0 rows (X % (wide rows : Int)).toNat (Y % (rows.length : Int)).toNat
/-- of one breadth, at least one knot -/
structure Rect (W H : Nat) (rows : Rows) : Prop where
  w1 : 1 ≤ W
  h1 : 1 ≤ H
  high : rows.length = H
  len : ∀ r ∈ rows, r.length = W
theorem Rect.wide {W H : Nat} {rows : Rows} (g : Rect W H rows) : Kc.wide rows = W := by
  unfold Kc.wide
  have h := g.h1
  have h2 := g.high
  cases rows with
  | nil => simp at h2; omega
  | cons r l => exact g.len r (by simp)
theorem Good.rect {rows : Rows} (g : Good rows) : Rect (wide rows) rows.length rows := ⟨g.w1, g.h1, rfl, g.len⟩
theorem Rect.row {W H : Nat} {rows : Rows} (g : Rect W H rows) {y : Nat} (hy : y < H) : ∃ r, rows[y]? = some r ∧ r.length = W ∧ r ∈ rows := by
  have h2 := g.high
  have q : y < rows.length := by omega
  exact ⟨rows[y], List.getElem?_eq_getElem q, g.len _ (List.getElem_mem q), List.getElem_mem q⟩
theorem Rect.fld_eq {W H : Nat} {rows : Rows} (g : Rect W H rows) (X Y : Int) : fld rows X Y = at0 rows (X % (W : Int)).toNat (Y % (H : Int)).toNat := by
  unfold fld
  rw [g.wide, g.high]
theorem Rect.fld_nat {W H : Nat} {rows : Rows} (g : Rect W H rows) {x y : Nat} (hx : x < W) (hy : y < H) : fld rows (x : Int) (y : Int) = at0 rows x y := by
  rw [g.fld_eq, Int.emod_eq_of_lt (by omega) (by omega), Int.emod_eq_of_lt (by omega) (by omega)]
  simp
theorem Rect.fld_add {W H : Nat} {rows : Rows} (g : Rect W H rows) (X Y k l : Int) : fld rows (X + W * k) (Y + H * l) = fld rows X Y := by
  rw [g.fld_eq, g.fld_eq, Int.add_mul_emod_self_left, Int.add_mul_emod_self_left]
/-- every place is one of the chart's, sides apart -/
theorem mod_place (W : Nat) (h : 1 ≤ W) (X : Int) : ∃ (x : Nat) (k : Int), x < W ∧ X = (x : Int) + W * k := by
  refine ⟨(X % (W : Int)).toNat, X / (W : Int), ?_, ?_⟩
  · have h1 := Int.emod_nonneg X (show (W : Int) ≠ 0 by omega)
    have h2 := Int.emod_lt_of_pos X (show (0 : Int) < W by omega)
    omega
  · have h1 := Int.emod_nonneg X (show (W : Int) ≠ 0 by omega)
    rw [Int.toNat_of_nonneg h1]
    exact (Int.emod_add_mul_ediv X W).symm
/-! ### turns -/
def tp (m : Nat) (x y : Int) : Int × Int :=
  if m = 0 then (x, y) else if m = 1 then (-y, x) else if m = 2 then (-x, -y) else if m = 3 then (y, -x) else if m = 4 then (-x, y) else if m = 5 then (-y, -x) else if m = 6 then (x, -y) else (y, x)
theorem lt8 {m : Nat} (h : m < 8) : m = 0 ∨ m = 1 ∨ m = 2 ∨ m = 3 ∨ m = 4 ∨ m = 5 ∨ m = 6 ∨ m = 7 := by omega
theorem turn_tp {m : Nat} (h : m < 8) (x y : Int) : Rg.turn m (x, y) = tp m x y := by
  rcases lt8 h with rfl | rfl | rfl | rfl | rfl | rfl | rfl | rfl <;> simp [Rg.turn, Rg.quarter, tp]
theorem tp_even {m : Nat} (h : m < 8) (e : m % 2 = 0) : ∃ s t : Int, (s = 1 ∨ s = -1) ∧ (t = 1 ∨ t = -1) ∧ ∀ x y, tp m x y = (s * x, t * y) := by
  rcases lt8 h with rfl | rfl | rfl | rfl | rfl | rfl | rfl | rfl <;> simp at e
  · exact ⟨1, 1, .inl rfl, .inl rfl, fun x y => by simp [tp]⟩
  · exact ⟨-1, -1, .inr rfl, .inr rfl, fun x y => by simp [tp]⟩
  · exact ⟨-1, 1, .inr rfl, .inl rfl, fun x y => by simp [tp]⟩
  · exact ⟨1, -1, .inl rfl, .inr rfl, fun x y => by simp [tp]⟩
theorem tp_odd {m : Nat} (h : m < 8) (e : m % 2 = 1) : ∃ s t : Int, (s = 1 ∨ s = -1) ∧ (t = 1 ∨ t = -1) ∧ ∀ x y, tp m x y = (s * y, t * x) := by
  rcases lt8 h with rfl | rfl | rfl | rfl | rfl | rfl | rfl | rfl <;> simp at e
  · exact ⟨-1, 1, .inr rfl, .inl rfl, fun x y => by simp [tp]⟩
  · exact ⟨1, -1, .inl rfl, .inr rfl, fun x y => by simp [tp]⟩
  · exact ⟨-1, -1, .inr rfl, .inr rfl, fun x y => by simp [tp]⟩
  · exact ⟨1, 1, .inl rfl, .inl rfl, fun x y => by simp [tp]⟩
/-! ### symmetries of a field -/
def SymF (F : Int → Int → Int) (m : Nat) (a b : Int) : Prop := ∀ X Y, F ((tp m X Y).1 + a) ((tp m X Y).2 + b) = F X Y
def Per (f : Int → Int) (n : Int) : Prop := ∀ X, f (X + n) = f X
theorem Per.mul {f : Int → Int} {n : Int} (h : Per f n) (k : Int) : Per f (n * k) := by
  have hn : ∀ j : Nat, Per f (n * j) := by
    intro j
    induction j with
    | zero => intro X; simp
    | succ j ih =>
      intro X
      have e : X + n * ((j + 1 : Nat) : Int) = (X + n * j) + n := by
        have : n * ((j + 1 : Nat) : Int) = n * j + n := by
          rw [Int.natCast_succ, Int.mul_add, Int.mul_one]
        omega
      rw [e, h, ih]
  intro X
  by_cases c : 0 ≤ k
  · have := hn k.toNat X
    rwa [Int.toNat_of_nonneg c] at this
  · have := hn (-k).toNat (X + n * k)
    rw [Int.toNat_of_nonneg (by omega)] at this
    rw [← this]
    congr 1
    rw [Int.mul_neg]
    omega
theorem Per.neg {f : Int → Int} {n : Int} (h : Per f n) : Per f (-n) := by
  have := h.mul (-1)
  rwa [Int.mul_neg, Int.mul_one] at this
theorem Per.gcd {f : Int → Int} : ∀ (m n : Nat), Per f m → Per f n → Per f (Nat.gcd m n) := by
  intro m n
  induction m, n using Nat.gcd.induction with
  | H0 n => intro _ h; rwa [Nat.gcd_zero_left]
  | H1 m n hm ih =>
    intro h1 h2
    rw [Nat.gcd_rec]
    refine ih (fun X => ?_) h1
    have e := h1.mul ((n / m : Nat) : Int) (X + ((n % m : Nat) : Int))
    rw [← e]
    have q : X + ((n % m : Nat) : Int) + (m : Int) * ((n / m : Nat) : Int) = X + (n : Int) := by
      have := Nat.mod_add_div n m
      have z : ((n % m : Nat) : Int) + (m : Int) * ((n / m : Nat) : Int) = (n : Int) := by exact_mod_cast this
      omega
    rw [q]
    exact h2 X
theorem Per.dvd {f : Int → Int} {m n : Nat} (h : Per f m) (d : m ∣ n) : Per f n := by
  obtain ⟨k, rfl⟩ := d
  have := h.mul (k : Int)
  intro X
  rw [Int.natCast_mul]
  exact this X
/-- the field repeats by n to the side, by k down -/
structure Rep (F : Int → Int → Int) (n k : Nat) : Prop where
  x : ∀ Y, Per (fun X => F X Y) n
  y : ∀ X, Per (fun Y => F X Y) k
theorem Rep.add {F : Int → Int → Int} {n k : Nat} (r : Rep F n k) (X Y i j : Int) : F (X + n * i) (Y + k * j) = F X Y := by
  have h1 := ((r.x (Y + k * j)).mul i) X
  have h2 := ((r.y X).mul j) Y
  exact h1.trans h2
theorem Rect.rep {W H : Nat} {rows : Rows} (g : Rect W H rows) : Rep (fld rows) W H := by
  constructor
  · intro Y X
    have := g.fld_add X Y 1 0
    simpa using this
  · intro X Y
    have := g.fld_add X Y 0 1
    simpa using this
/-- told by the places of a cell that the turn brings onto itself -/
theorem sym_cell {F : Int → Int → Int} {W H m : Nat} {a b : Int} (r : Rep F W H) (hW : 1 ≤ W) (hH : 1 ≤ H) (hm : m < 8) (sq : m % 2 = 0 ∨ W = H) :
    SymF F m a b ↔ ∀ x y : Nat, x < W → y < H → F ((tp m x y).1 + a) ((tp m x y).2 + b) = F x y := by
  refine ⟨fun h x y _ _ => h x y, fun h X Y => ?_⟩
  obtain ⟨x, k, hx, rfl⟩ := mod_place W hW X
  obtain ⟨y, l, hy, rfl⟩ := mod_place H hH Y
  rw [r.add]
  rw [← h x y hx hy]
  by_cases e : m % 2 = 0
  · obtain ⟨s, t, _, _, q⟩ := tp_even hm e
    rw [q, q]
    have := r.add (s * x + a) (t * y + b) (s * k) (t * l)
    rw [← this]
    congr 1
    · simp only [Int.mul_add, Int.mul_left_comm, Int.mul_comm, Int.mul_assoc]; omega
    · simp only [Int.mul_add, Int.mul_left_comm, Int.mul_comm, Int.mul_assoc]; omega
  · obtain ⟨s, t, _, _, q⟩ := tp_odd hm (by omega)
    have e2 : W = H := by omega
    subst e2
    rw [q, q]
    have := r.add (s * y + a) (t * x + b) (s * l) (t * k)
    rw [← this]
    congr 1
    · simp only [Int.mul_add, Int.mul_left_comm, Int.mul_comm, Int.mul_assoc]; omega
    · simp only [Int.mul_add, Int.mul_left_comm, Int.mul_comm, Int.mul_assoc]; omega
/-- a symmetry with a quarter in it turns the sides' steps -/
theorem sym_odd_rep {F : Int → Int → Int} {W H m : Nat} {a b : Int} (r : Rep F W H) (hm : m < 8) (od : m % 2 = 1) (h : SymF F m a b) : Rep F H W := by
  obtain ⟨s, t, hs, ht, q⟩ := tp_odd hm od
  have ss : s * s = 1 := by rcases hs with rfl | rfl <;> rfl
  have tt : t * t = 1 := by rcases ht with rfl | rfl <;> rfl
  -- any place (X, Y) is the turn of (t (Y - b), s (X - a)), moved on
  have key : ∀ X Y : Int, F X Y = F (t * (Y - b)) (s * (X - a)) := by
    intro X Y
    have := h (t * (Y - b)) (s * (X - a))
    rw [q] at this
    rw [← this]
    congr 1
    · show X = s * (s * (X - a)) + a
      rw [← Int.mul_assoc, ss]; omega
    · show Y = t * (t * (Y - b)) + b
      rw [← Int.mul_assoc, tt]; omega
  constructor
  · intro Y X
    show F (X + H) Y = F X Y
    rw [key (X + H) Y, key X Y]
    have := r.add (t * (Y - b)) (s * (X - a)) 0 s
    rw [← this]
    congr 1
    · simp
    · simp only [Int.mul_add, Int.mul_sub, Int.mul_comm]; omega
  · intro X Y
    show F X (Y + W) = F X Y
    rw [key X (Y + W), key X Y]
    have := r.add (t * (Y - b)) (s * (X - a)) t 0
    rw [← this]
    congr 1
    · simp only [Int.mul_add, Int.mul_sub, Int.mul_comm]; omega
    · simp
theorem Rep.gcd {F : Int → Int → Int} {W H : Nat} (r : Rep F W H) (q : Rep F H W) : Rep F (Nat.gcd W H) (Nat.gcd W H) :=
  ⟨fun Y => (r.x Y).gcd _ _ (q.x Y), fun X => (q.y X).gcd _ _ (r.y X)⟩
theorem Rep.ofGcd {F : Int → Int → Int} {W H : Nat} (r : Rep F (Nat.gcd W H) (Nat.gcd W H)) : Rep F H W :=
  ⟨fun Y => (r.x Y).dvd (Nat.gcd_dvd_right W H), fun X => (r.y X).dvd (Nat.gcd_dvd_left W H)⟩
/-! ### the specification's symmetries are the field's -/
theorem at2_eq {rows : Rows} (g : Good rows) (p : Rg.Place) : (chartR rows).at2 p = colN (fld rows p.1 p.2) := by
  unfold Rg.Chart.at2 Rg.wrap Rg.Chart.at_ chartR
  have g2 := g.rect
  rw [g2.fld_eq]
  unfold at0
  have hy := Int.emod_nonneg p.2 (show ((rows.length : Nat) : Int) ≠ 0 by have := g.h1; omega)
  have hy2 := Int.emod_lt_of_pos p.2 (show (0 : Int) < ((rows.length : Nat) : Int) by have := g.h1; omega)
  have hx := Int.emod_nonneg p.1 (show ((wide rows : Nat) : Int) ≠ 0 by have := g.w1; omega)
  have hx2 := Int.emod_lt_of_pos p.1 (show (0 : Int) < ((wide rows : Nat) : Int) by have := g.w1; omega)
  obtain ⟨r, e, el, em⟩ := g2.row (y := (p.2 % (rows.length : Int)).toNat) (by omega)
  have e2 : (p.1 % (wide rows : Int)).toNat < r.length := by omega
  simp only [List.getD_eq_getElem?_getD, List.getElem?_map, e, Option.map_some, Option.getD_some]
  rw [List.getElem?_eq_getElem e2]
  rfl
theorem fld_col {rows : Rows} (g : Good rows) (X Y : Int) : isCol (fld rows X Y) = true := by
  have g2 := g.rect
  rw [g2.fld_eq]
  unfold at0
  have hy := Int.emod_nonneg Y (show ((rows.length : Nat) : Int) ≠ 0 by have := g.h1; omega)
  have hy2 := Int.emod_lt_of_pos Y (show (0 : Int) < ((rows.length : Nat) : Int) by have := g.h1; omega)
  have hx := Int.emod_nonneg X (show ((wide rows : Nat) : Int) ≠ 0 by have := g.w1; omega)
  have hx2 := Int.emod_lt_of_pos X (show (0 : Int) < ((wide rows : Nat) : Int) by have := g.w1; omega)
  obtain ⟨r, e, el, em⟩ := g2.row (y := (Y % (rows.length : Int)).toNat) (by omega)
  have e2 : (X % (wide rows : Int)).toNat < r.length := by omega
  simp only [List.getD_eq_getElem?_getD, e, Option.getD_some]
  rw [List.getElem?_eq_getElem e2]
  exact List.all_eq_true.mp (g.col r em) _ (List.getElem_mem e2)
theorem at2_beq {rows : Rows} (g : Good rows) (p q : Rg.Place) : ((chartR rows).at2 p == (chartR rows).at2 q) = true ↔ fld rows p.1 p.2 = fld rows q.1 q.2 := by
  rw [at2_eq g, at2_eq g, beq_iff_eq]
  exact ⟨fun h => colN_inj (fld_col g _ _) (fld_col g _ _) h, fun h => by rw [h]⟩
theorem grid_all {w h : Nat} {f : Nat × Nat → Bool} : (Rg.grid w h).all f = true ↔ ∀ x y : Nat, x < w → y < h → f (x, y) = true := by
  unfold Rg.grid
  rw [List.all_eq_true]
  constructor
  · intro q x y hx hy
    exact q (x, y) (List.mem_flatMap.mpr ⟨y, List.mem_range.mpr hy, List.mem_map.mpr ⟨x, List.mem_range.mpr hx, rfl⟩⟩)
  · intro q p hp
    obtain ⟨y, hy, hp⟩ := List.mem_flatMap.mp hp
    obtain ⟨x, hx, rfl⟩ := List.mem_map.mp hp
    exact q x y (List.mem_range.mp hx) (List.mem_range.mp hy)
theorem stepBy_iff {rows : Rows} (g : Good rows) (a b : Int) : Rg.isStepBy (chartR rows) a b = true ↔ ∀ X Y, fld rows (X + a) (Y + b) = fld rows X Y := by
  unfold Rg.isStepBy
  rw [grid_all]
  simp only [at2_beq g]
  constructor
  · intro h X Y
    have := (sym_cell (m := 0) (a := a) (b := b) g.rect.rep g.w1 g.h1 (by omega) (.inl rfl)).mpr (fun x y hx hy => h x y hx hy)
    exact this X Y
  · intro h x y _ _
    exact h x y
theorem keeps_iff {rows : Rows} (g : Good rows) {m : Nat} (hm : m < 8) (a b : Int) (w h : Nat) :
    ((Rg.grid w h).all fun (p : Nat × Nat) => (chartR rows).at2 ((Rg.Sym.mk m a b).act ((p.1 : Int), (p.2 : Int))) == (chartR rows).at2 ((p.1 : Int), (p.2 : Int))) = true ↔
    ∀ x y : Nat, x < w → y < h → fld rows ((tp m x y).1 + a) ((tp m x y).2 + b) = fld rows x y := by
  rw [grid_all]
  simp only [at2_beq g, Rg.Sym.act, turn_tp hm]
theorem isSym_iff {rows : Rows} (g : Good rows) {m : Nat} (hm : m < 8) (a b : Int) : Rg.isSym (chartR rows) ⟨m, a, b⟩ = true ↔ SymF (fld rows) m a b := by
  have r := g.rect.rep
  unfold Rg.isSym Rg.MOTIONS
  simp only [Bool.and_eq_true, decide_eq_true_eq]
  by_cases e : m % 2 = 0
  · rw [if_pos e]
    rw [show ((chartR rows).wide) = wide rows from rfl, show ((chartR rows).high) = rows.length from rfl, keeps_iff g hm]
    rw [sym_cell r g.w1 g.h1 hm (.inl e)]
    exact ⟨fun h => h.2, fun h => ⟨hm, h⟩⟩
  · rw [if_neg e]
    rw [show ((chartR rows).wide) = wide rows from rfl, show ((chartR rows).high) = rows.length from rfl]
    simp only [Bool.and_eq_true, keeps_iff g hm, stepBy_iff g]
    constructor
    · rintro ⟨_, h1, h2, h3⟩
      have q : Rep (fld rows) rows.length (wide rows) := ⟨fun Y X => by have := h1 X Y; simpa using this, fun X Y => by have := h2 X Y; simpa using this⟩
      have rg := r.gcd q
      have gp : 1 ≤ Nat.gcd (wide rows) rows.length := Nat.gcd_pos_of_pos_left _ g.w1
      exact (sym_cell rg gp gp hm (.inr rfl)).mpr h3
    · intro h
      have q := sym_odd_rep r hm (by omega) h
      refine ⟨hm, fun X Y => ?_, fun X Y => ?_, fun x y _ _ => h x y⟩
      · have := q.x Y X; simpa using this
      · have := q.y X Y; simpa using this
end Kc

namespace Kc
/-! ### the turned cell -/
def tX (W m : Nat) (x y : Nat) : Nat := ((tp m x y).1 % (W : Int)).toNat
def tY (H m : Nat) (x y : Nat) : Nat := ((tp m x y).2 % (H : Int)).toNat
theorem toNat_mod_lt {W : Nat} (h : 1 ≤ W) (z : Int) : (z % (W : Int)).toNat < W := by
  have h1 := Int.emod_nonneg z (show (W : Int) ≠ 0 by omega)
  have h2 := Int.emod_lt_of_pos z (show (0 : Int) < W by omega)
  omega
theorem toNat_mod_cast {W : Nat} (h : 1 ≤ W) (z : Int) : (((z % (W : Int)).toNat : Nat) : Int) = z % (W : Int) := Int.toNat_of_nonneg (Int.emod_nonneg z (by omega))
/-- a rest tells its number up to the sides -/
theorem mod_back {W : Nat} (h : 1 ≤ W) (z : Int) : ∃ k : Int, z = (((z % (W : Int)).toNat : Nat) : Int) + W * k := ⟨z / W, by
  rw [toNat_mod_cast h]
  exact (Int.emod_add_mul_ediv z W).symm⟩
theorem near {W : Nat} {x x' : Nat} {k : Int} (hx : x < W) (hx' : x' < W) (h : (x : Int) - x' = W * k) : x = x' := by
  have d : W ∣ ((x : Int) - x').natAbs := by
    have := Int.natAbs_dvd_natAbs.mpr (show (W : Int) ∣ (x : Int) - x' from ⟨k, h⟩)
    rwa [Int.natAbs_natCast] at this
  have := Nat.eq_zero_of_dvd_of_lt d (by omega)
  omega
theorem mod_inj {W : Nat} {x x' : Nat} {s : Int} (hs : s = 1 ∨ s = -1) (hx : x < W) (hx' : x' < W) (h : ((s * x) % (W : Int)).toNat = ((s * x') % (W : Int)).toNat) : x = x' := by
  have hW : 1 ≤ W := by omega
  obtain ⟨k, e⟩ := mod_back hW (s * x)
  obtain ⟨l, e'⟩ := mod_back hW (s * x')
  rw [h] at e
  have e3 : s * x - s * x' = W * (k - l) := by
    rw [Int.mul_sub]
    omega
  rcases hs with rfl | rfl
  · exact near (k := k - l) hx hx' (by omega)
  · refine near (k := -(k - l)) hx hx' ?_
    rw [Int.mul_neg]
    omega
theorem tp_inj {W H m x y x' y' : Nat} (hm : m < 8) (sq : m % 2 = 0 ∨ W = H) (hx : x < W) (hy : y < H) (hx' : x' < W) (hy' : y' < H) (h1 : tX W m x y = tX W m x' y') (h2 : tY H m x y = tY H m x' y') : x = x' ∧ y = y' := by
  unfold tX at h1
  unfold tY at h2
  by_cases e : m % 2 = 0
  · obtain ⟨s, t, hs, ht, q⟩ := tp_even hm e
    rw [q, q] at h1 h2
    exact ⟨mod_inj hs hx hx' h1, mod_inj ht hy hy' h2⟩
  · obtain ⟨s, t, hs, ht, q⟩ := tp_odd hm (by omega)
    have e2 : W = H := by omega
    subst e2
    rw [q, q] at h1 h2
    exact ⟨mod_inj ht hx hx' h2, mod_inj hs hy hy' h1⟩
theorem mod_surj {W X : Nat} {s : Int} (hs : s = 1 ∨ s = -1) (hX : X < W) : ∃ x : Nat, x < W ∧ ((s * x) % (W : Int)).toNat = X := by
  have hW : 1 ≤ W := by omega
  have ss : s * s = 1 := by rcases hs with rfl | rfl <;> rfl
  refine ⟨((s * X) % (W : Int)).toNat, toNat_mod_lt hW _, ?_⟩
  obtain ⟨k, e⟩ := mod_back hW (s * X)
  have e2 : s * ((((s * X) % (W : Int)).toNat : Nat) : Int) = (X : Int) + W * (-(s * k)) := by
    have : s * (s * X) = s * (((((s * X) % (W : Int)).toNat : Nat) : Int) + W * k) := congrArg (s * ·) e
    rw [← Int.mul_assoc, ss, Int.mul_add, Int.one_mul] at this
    have z : s * (W * k) = W * (s * k) := by rw [← Int.mul_assoc, Int.mul_comm s, Int.mul_assoc]
    rw [Int.mul_neg]
    omega
  rw [e2, Int.add_mul_emod_self_left, Int.emod_eq_of_lt (by omega) (by omega)]
  simp
theorem tp_surj {W H m X Y : Nat} (hm : m < 8) (sq : m % 2 = 0 ∨ W = H) (hX : X < W) (hY : Y < H) : ∃ x y : Nat, x < W ∧ y < H ∧ tX W m x y = X ∧ tY H m x y = Y := by
  unfold tX tY
  by_cases e : m % 2 = 0
  · obtain ⟨s, t, hs, ht, q⟩ := tp_even hm e
    obtain ⟨x, hx, ex⟩ := mod_surj hs hX
    obtain ⟨y, hy, ey⟩ := mod_surj ht hY
    exact ⟨x, y, hx, hy, by rw [q]; exact ex, by rw [q]; exact ey⟩
  · obtain ⟨s, t, hs, ht, q⟩ := tp_odd hm (by omega)
    have e2 : W = H := by omega
    subst e2
    obtain ⟨x, hx, ex⟩ := mod_surj ht hY
    obtain ⟨y, hy, ey⟩ := mod_surj hs hX
    exact ⟨x, y, hx, hy, by rw [q]; exact ey, by rw [q]; exact ex⟩
/-- so far turned: the places ahead of the k-th -/
structure Img (W H m k : Nat) (cell img : Rows) : Prop where
  rect : Rect W H img
  at_ : ∀ x y : Nat, x < W → y < H → y * W + x < k → at0 img (tX W m x y) (tY H m x y) = at0 cell x y
theorem Img.start {W H m : Nat} {cell : Rows} (hW : 1 ≤ W) (hH : 1 ≤ H) : Img W H m 0 cell (List.replicate H (List.replicate W 0)) :=
  ⟨⟨hW, hH, List.length_replicate, fun r hr => by rw [(List.mem_replicate.mp hr).2, List.length_replicate]⟩, fun x y _ _ h => by omega⟩
theorem place_inj {W x y x' y' : Nat} (hx : x < W) (hx' : x' < W) (h : y * W + x = y' * W + x') : x = x' ∧ y = y' := by
  have h1 : (y * W + x) % W = x := by rw [Nat.mul_comm, Nat.mul_add_mod, Nat.mod_eq_of_lt hx]
  have h2 : (y' * W + x') % W = x' := by rw [Nat.mul_comm, Nat.mul_add_mod, Nat.mod_eq_of_lt hx']
  have e : x = x' := by rw [← h1, ← h2, h]
  subst e
  have : y * W = y' * W := by omega
  exact ⟨rfl, Nat.eq_of_mul_eq_mul_right (by omega) this⟩
theorem at0_set {img : Rows} {Y X X' Y' : Nat} {r : List Int} {v : Int} (e : img[Y]? = some r) (hX : X < r.length) : at0 (img.set Y (r.set X v)) X' Y' = if X' = X ∧ Y' = Y then v else at0 img X' Y' := by
  unfold at0
  have hY := (List.getElem?_eq_some_iff.mp e).1
  simp only [List.getD_eq_getElem?_getD]
  by_cases h1 : Y' = Y
  · subst h1
    rw [List.getElem?_set_self hY, e]
    simp only [Option.getD_some]
    by_cases h2 : X' = X
    · subst h2
      rw [List.getElem?_set_self hX, if_pos (by simp)]
      rfl
    · rw [List.getElem?_set_ne (Ne.symm h2), if_neg (fun z => h2 z.1)]
  · rw [List.getElem?_set_ne (Ne.symm h1), if_neg (fun z => h1 z.2)]
theorem Img.step {W H m x y : Nat} {cell img : Rows} {r : List Int} (I : Img W H m (y * W + x) cell img) (hm : m < 8) (sq : m % 2 = 0 ∨ W = H) (hx : x < W) (hy : y < H) (e : img[tY H m x y]? = some r) :
    Img W H m (y * W + x + 1) cell (img.set (tY H m x y) (r.set (tX W m x y) (at0 cell x y))) := by
  have g := I.rect
  have hr : r.length = W := g.len r (List.mem_of_getElem? e)
  have hX : tX W m x y < r.length := by rw [hr]; exact toNat_mod_lt g.w1 _
  refine ⟨⟨g.w1, g.h1, by rw [List.length_set]; exact g.high, fun q hq => ?_⟩, fun x' y' hx' hy' hk => ?_⟩
  · rcases List.mem_or_eq_of_mem_set hq with hq | rfl
    · exact g.len q hq
    · rw [List.length_set, hr]
  · rw [at0_set e hX]
    by_cases c : tX W m x' y' = tX W m x y ∧ tY H m x' y' = tY H m x y
    · obtain ⟨e1, e2⟩ := tp_inj hm sq hx' hy' hx hy c.1 c.2
      rw [if_pos c, e1, e2]
    · rw [if_neg c]
      refine I.at_ x' y' hx' hy' ?_
      have : y' * W + x' ≠ y * W + x := fun z => by
        obtain ⟨e1, e2⟩ := place_inj hx' hx z
        subst e1 e2
        exact c ⟨rfl, rfl⟩
      omega
abbrev ImgOf (W H m : Nat) (cell img : Rows) : Prop := Img W H m (H * W) cell img
theorem place_lt {W H x y : Nat} (hx : x < W) (hy : y < H) : y * W + x < H * W := by
  have : (y + 1) * W ≤ H * W := Nat.mul_le_mul_right _ hy
  rw [Nat.succ_mul] at this
  omega
/-! ### the image moved on -/
def rot (l : Nat) (r : List Int) : List Int := r.drop l ++ r.take l
def fitRow (cell img : Rows) (a b : Int) (y : Nat) : Bool := decide (rot (a % (wide cell : Int)).toNat (cell.getD (((y : Int) + b) % (cell.length : Int)).toNat []) = img.getD y [])
def fitsB (cell img : Rows) (a b : Int) : Bool := (List.range cell.length).all (fitRow cell img a b)
theorem rot_get {r : List Int} {l x : Nat} (hl : l < r.length) (hx : x < r.length) : (rot l r)[x]? = r[(x + l) % r.length]? := by
  unfold rot
  by_cases h : x < r.length - l
  · rw [List.getElem?_append_left (by rw [List.length_drop]; exact h), List.getElem?_drop, Nat.mod_eq_of_lt (by omega), Nat.add_comm]
  · rw [List.getElem?_append_right (by rw [List.length_drop]; omega), List.length_drop, List.getElem?_take_of_lt (by omega)]
    have : (x + l) % r.length = x - (r.length - l) := by
      rw [Nat.mod_eq_sub_mod (by omega), Nat.mod_eq_of_lt (by omega)]
      omega
    rw [this]
theorem row_ext {r s : List Int} {W : Nat} (h1 : r.length = W) (h2 : s.length = W) : r = s ↔ ∀ x, x < W → r.getD x 0 = s.getD x 0 := by
  refine ⟨fun h x _ => by rw [h], fun h => ?_⟩
  apply List.ext_getElem (by omega)
  intro x hx hx'
  have := h x (by omega)
  simp only [List.getD_eq_getElem?_getD, List.getElem?_eq_getElem hx, List.getElem?_eq_getElem hx', Option.getD_some] at this
  exact this
theorem mod_add_nat {W : Nat} (hW : 1 ≤ W) (x : Nat) (a : Int) : (x + (a % (W : Int)).toNat) % W = (((x : Int) + a) % (W : Int)).toNat := by
  have e : ((((x + (a % (W : Int)).toNat) % W : Nat)) : Int) = ((x : Int) + a) % (W : Int) := by
    rw [Int.natCast_emod, Int.natCast_add, toNat_mod_cast hW, Int.add_emod_emod]
  have q := congrArg Int.toNat e
  rwa [Int.toNat_natCast] at q
theorem fitRow_iff {W H : Nat} {cell img : Rows} {a b : Int} (g : Rect W H cell) (g2 : Rect W H img) {y : Nat} (hy : y < H) : fitRow cell img a b y = true ↔ ∀ x : Nat, x < W → fld cell (x + a) (y + b) = at0 img x y := by
  unfold fitRow
  rw [decide_eq_true_eq, g.wide, g.high]
  obtain ⟨r, e, hr, _⟩ := g.row (y := (((y : Int) + b) % (H : Int)).toNat) (toNat_mod_lt g.h1 _)
  obtain ⟨s, e2, hs, _⟩ := g2.row (y := y) hy
  have e' : cell.getD (((y : Int) + b) % (H : Int)).toNat [] = r := by rw [List.getD_eq_getElem?_getD, e]; rfl
  have e2' : img.getD y [] = s := by rw [List.getD_eq_getElem?_getD, e2]; rfl
  rw [e', e2']
  have hl : (a % (W : Int)).toNat < r.length := by rw [hr]; exact toNat_mod_lt g.w1 _
  have hrot : (rot (a % (W : Int)).toNat r).length = W := by
    unfold rot
    rw [List.length_append, List.length_drop, List.length_take]
    omega
  rw [row_ext hrot hs]
  have key : ∀ x : Nat, x < W → (rot (a % (W : Int)).toNat r).getD x 0 = fld cell (x + a) (y + b) := by
    intro x hx
    rw [List.getD_eq_getElem?_getD, rot_get hl (by omega), hr, mod_add_nat g.w1, g.fld_eq]
    unfold at0
    rw [e', List.getD_eq_getElem?_getD]
  have key2 : ∀ x : Nat, at0 img x y = s.getD x 0 := fun x => by unfold at0; rw [e2']
  constructor
  · intro h x hx
    rw [← key x hx, key2, h x hx]
  · intro h x hx
    rw [key x hx, ← key2, h x hx]
theorem fits_iff {W H m : Nat} {cell img : Rows} {a b : Int} (g : Rect W H cell) (I : ImgOf W H m cell img) (hm : m < 8) (sq : m % 2 = 0 ∨ W = H) :
    fitsB cell img a b = true ↔ ∀ x y : Nat, x < W → y < H → fld cell ((tp m x y).1 + a) ((tp m x y).2 + b) = fld cell x y := by
  unfold fitsB
  rw [List.all_eq_true]
  have h0 : (∀ y ∈ List.range cell.length, fitRow cell img a b y = true) ↔ ∀ X Y : Nat, X < W → Y < H → fld cell (X + a) (Y + b) = at0 img X Y := by
    rw [g.high]
    constructor
    · intro h X Y hX hY
      exact (fitRow_iff g I.rect hY).mp (h Y (List.mem_range.mpr hY)) X hX
    · intro h y hy
      exact (fitRow_iff g I.rect (List.mem_range.mp hy)).mpr fun x hx => h x y hx (List.mem_range.mp hy)
  rw [h0]
  have mv : ∀ x y : Nat, fld cell (((tX W m x y : Nat) : Int) + a) (((tY H m x y : Nat) : Int) + b) = fld cell ((tp m x y).1 + a) ((tp m x y).2 + b) := by
    intro x y
    obtain ⟨k, e⟩ := mod_back g.w1 (tp m x y).1
    obtain ⟨l, e'⟩ := mod_back g.h1 (tp m x y).2
    have := g.fld_add (((tX W m x y : Nat) : Int) + a) (((tY H m x y : Nat) : Int) + b) k l
    rw [← this]
    unfold tX tY
    congr 1
    · omega
    · omega
  constructor
  · intro h x y hx hy
    rw [← mv, h (tX W m x y) (tY H m x y) (toNat_mod_lt g.w1 _) (toNat_mod_lt g.h1 _), I.at_ x y hx hy (place_lt hx hy), g.fld_nat hx hy]
  · intro h X Y hX hY
    obtain ⟨x, y, hx, hy, rfl, rfl⟩ := tp_surj hm sq hX hY
    rw [mv, I.at_ x y hx hy (place_lt hx hy), h x y hx hy, g.fld_nat hx hy]
/-! ### the square cell -/
def cutRows (g : Nat) (rows : Rows) : Rows := (rows.take g).map (List.take g)
def tileRow (n : Nat) (r : List Int) : List Int := (List.replicate n r).flatten
def tiled (W g h : Nat) (cell : Rows) : Rows := (List.range h).map fun y => tileRow (W / g) (cell.getD (y % g) [])
def sqSide (rows : Rows) : Nat := Nat.gcd (wide rows) rows.length
def sqOk (rows : Rows) : Bool := decide (rows = tiled (wide rows) (sqSide rows) rows.length (cutRows (sqSide rows) rows))
theorem tile_get {g : Nat} {l : List Int} (hl : l.length = g) (hg : 1 ≤ g) : ∀ (n x : Nat), x < n * g → (tileRow n l)[x]? = l[x % g]?
  | 0, x, h => by omega
  | n + 1, x, h => by
    unfold tileRow
    rw [List.replicate_succ, List.flatten_cons]
    by_cases c : x < g
    · rw [List.getElem?_append_left (by omega), Nat.mod_eq_of_lt c]
    · rw [List.getElem?_append_right (by omega), hl]
      have := tile_get hl hg n (x - g) (by rw [Nat.add_mul, Nat.one_mul] at h; omega)
      unfold tileRow at this
      rw [this, (Nat.mod_eq_sub_mod (show x ≥ g by omega)).symm]
theorem tile_len (n : Nat) (l : List Int) : (tileRow n l).length = n * l.length := by
  unfold tileRow
  induction n with
  | zero => simp
  | succ n ih =>
    rw [List.replicate_succ, List.flatten_cons, List.length_append, ih, Nat.succ_mul]
    omega
section
variable {W H : Nat} {rows : Rows}
theorem cut_at {g x y : Nat} (hx : x < g) (hy : y < g) : at0 (cutRows g rows) x y = at0 rows x y := by
  unfold at0 cutRows
  simp only [List.getD_eq_getElem?_getD, List.getElem?_map, List.getElem?_take_of_lt hy]
  cases rows[y]? with
  | none => rfl
  | some r =>
    simp only [Option.map_some, Option.getD_some, List.getElem?_take_of_lt hx]
theorem cut_rect (g : Rect W H rows) {n : Nat} (h1 : 1 ≤ n) (hW : n ≤ W) (hH : n ≤ H) : Rect n n (cutRows n rows) := by
  refine ⟨h1, h1, ?_, fun r hr => ?_⟩
  · unfold cutRows
    have := g.high
    rw [List.length_map, List.length_take]
    omega
  · unfold cutRows at hr
    obtain ⟨q, hq, rfl⟩ := List.mem_map.mp hr
    have := g.len q (List.mem_of_mem_take hq)
    rw [List.length_take]
    omega
theorem sq_pos (g : Rect W H rows) : 1 ≤ Nat.gcd W H ∧ Nat.gcd W H ≤ W ∧ Nat.gcd W H ≤ H := by
  have h1 := g.w1
  have h2 := g.h1
  exact ⟨Nat.gcd_pos_of_pos_left _ h1, Nat.gcd_le_left _ h1, Nat.gcd_le_right _ h2⟩
theorem tiled_rect (g : Rect W H rows) : Rect W H (tiled W (Nat.gcd W H) H (cutRows (Nat.gcd W H) rows)) := by
  obtain ⟨p1, p2, p3⟩ := sq_pos g
  have gc := cut_rect g p1 p2 p3
  refine ⟨g.w1, g.h1, by unfold tiled; rw [List.length_map, List.length_range], fun r hr => ?_⟩
  unfold tiled at hr
  obtain ⟨y, hy, rfl⟩ := List.mem_map.mp hr
  obtain ⟨q, e, hq, _⟩ := gc.row (y := y % Nat.gcd W H) (Nat.mod_lt _ p1)
  rw [tile_len, List.getD_eq_getElem?_getD, e, Option.getD_some, hq]
  exact Nat.div_mul_cancel (Nat.gcd_dvd_left W H)
theorem tiled_at (g : Rect W H rows) {x y : Nat} (hx : x < W) (hy : y < H) : at0 (tiled W (Nat.gcd W H) H (cutRows (Nat.gcd W H) rows)) x y = at0 rows (x % Nat.gcd W H) (y % Nat.gcd W H) := by
  obtain ⟨p1, p2, p3⟩ := sq_pos g
  have gc := cut_rect g p1 p2 p3
  rw [← cut_at (rows := rows) (Nat.mod_lt x p1) (Nat.mod_lt y p1)]
  obtain ⟨q, e, hq, _⟩ := gc.row (y := y % Nat.gcd W H) (Nat.mod_lt _ p1)
  unfold at0 tiled
  have e0 : (cutRows (Nat.gcd W H) rows).getD (y % Nat.gcd W H) [] = q := by rw [List.getD_eq_getElem?_getD, e]; rfl
  rw [e0]
  have e1 : ((List.range H).map fun y => tileRow (W / Nat.gcd W H) ((cutRows (Nat.gcd W H) rows).getD (y % Nat.gcd W H) [])).getD y [] = tileRow (W / Nat.gcd W H) q := by
    rw [List.getD_eq_getElem?_getD, List.getElem?_map, List.getElem?_range hy]
    show tileRow _ ((cutRows (Nat.gcd W H) rows).getD (y % Nat.gcd W H) []) = _
    rw [e0]
  rw [e1, List.getD_eq_getElem?_getD, List.getD_eq_getElem?_getD, tile_get hq p1 _ _ (by rw [Nat.div_mul_cancel (Nat.gcd_dvd_left W H)]; exact hx)]
theorem rows_ext {r s : Rows} (g : Rect W H r) (g2 : Rect W H s) : r = s ↔ ∀ x y, x < W → y < H → at0 r x y = at0 s x y := by
  refine ⟨fun h x y _ _ => by rw [h], fun h => ?_⟩
  have l1 := g.high
  have l2 := g2.high
  apply List.ext_getElem (by omega)
  intro y hy hy'
  have e1 : r.getD y [] = r[y] := by rw [List.getD_eq_getElem?_getD, List.getElem?_eq_getElem hy]; rfl
  have e2 : s.getD y [] = s[y] := by rw [List.getD_eq_getElem?_getD, List.getElem?_eq_getElem hy']; rfl
  refine (row_ext (g.len _ (List.getElem_mem hy)) (g2.len _ (List.getElem_mem hy'))).mpr fun x hx => ?_
  have := h x y hx (by omega)
  unfold at0 at this
  rwa [e1, e2] at this
theorem sqOk_iff (g : Rect W H rows) : sqOk rows = true ↔ Rep (fld rows) (Nat.gcd W H) (Nat.gcd W H) := by
  obtain ⟨p1, p2, p3⟩ := sq_pos g
  unfold sqOk sqSide
  rw [decide_eq_true_eq, g.wide, g.high, rows_ext g (tiled_rect g)]
  constructor
  · intro h
    have hf : ∀ X Y : Int, fld rows X Y = at0 rows (X % (Nat.gcd W H : Int)).toNat (Y % (Nat.gcd W H : Int)).toNat := by
      intro X Y
      rw [g.fld_eq, h _ _ (toNat_mod_lt g.w1 _) (toNat_mod_lt g.h1 _), tiled_at g (toNat_mod_lt g.w1 _) (toNat_mod_lt g.h1 _)]
      have c : ∀ (Z : Int) (N : Nat), 1 ≤ N → Nat.gcd W H ∣ N → (Z % (N : Int)).toNat % Nat.gcd W H = (Z % (Nat.gcd W H : Int)).toNat := by
        intro Z N hN d
        have e : ((((Z % (N : Int)).toNat % Nat.gcd W H : Nat)) : Int) = Z % (Nat.gcd W H : Int) := by
          rw [Int.natCast_emod, toNat_mod_cast hN, Int.emod_emod_of_dvd _ (Int.natCast_dvd_natCast.mpr d)]
        have q := congrArg Int.toNat e
        rwa [Int.toNat_natCast] at q
      rw [c X W g.w1 (Nat.gcd_dvd_left W H), c Y H g.h1 (Nat.gcd_dvd_right W H)]
    constructor
    · intro Y X
      show fld rows (X + (Nat.gcd W H : Int)) Y = fld rows X Y
      rw [hf, hf, Int.add_emod_right]
    · intro X Y
      show fld rows X (Y + (Nat.gcd W H : Int)) = fld rows X Y
      rw [hf, hf, Int.add_emod_right]
  · intro r x y hx hy
    rw [tiled_at g hx hy, ← g.fld_nat hx hy, ← g.fld_nat (x := x % Nat.gcd W H) (y := y % Nat.gcd W H) (Nat.lt_of_le_of_lt (Nat.mod_le _ _) hx) (Nat.lt_of_le_of_lt (Nat.mod_le _ _) hy)]
    have := r.add ((x % Nat.gcd W H : Nat) : Int) ((y % Nat.gcd W H : Nat) : Int) ((x / Nat.gcd W H : Nat) : Int) ((y / Nat.gcd W H : Nat) : Int)
    rw [← this]
    have a1 := Nat.mod_add_div x (Nat.gcd W H)
    have a2 := Nat.mod_add_div y (Nat.gcd W H)
    congr 1
    · exact_mod_cast a1.symm
    · exact_mod_cast a2.symm
theorem sq_fld (g : Rect W H rows) (h : sqOk rows = true) (X Y : Int) : fld (cutRows (Nat.gcd W H) rows) X Y = fld rows X Y := by
  obtain ⟨p1, p2, p3⟩ := sq_pos g
  have gc := cut_rect g p1 p2 p3
  have r := (sqOk_iff g).mp h
  rw [gc.fld_eq, cut_at (toNat_mod_lt p1 _) (toNat_mod_lt p1 _)]
  have hx := toNat_mod_lt p1 X
  have hy := toNat_mod_lt p1 Y
  rw [← g.fld_nat (Nat.lt_of_lt_of_le hx p2) (Nat.lt_of_lt_of_le hy p3)]
  obtain ⟨k, e⟩ := mod_back p1 X
  obtain ⟨l, e'⟩ := mod_back p1 Y
  have := r.add (((X % (Nat.gcd W H : Int)).toNat : Nat) : Int) (((Y % (Nat.gcd W H : Int)).toNat : Nat) : Int) k l
  rw [← this, ← e, ← e']
end
/-! ### what has decides -/
/-- the cell that a motion's turn brings onto itself -/
def cellFor (rows : Rows) (m : Nat) : Option Rows := if m % 2 = 1 then (if sqOk rows = true then some (cutRows (sqSide rows) rows) else none) else some rows
/-- its breadth and height -/
def cW (rows : Rows) (m : Nat) : Nat := if m % 2 = 1 then sqSide rows else wide rows
def cH (rows : Rows) (m : Nat) : Nat := if m % 2 = 1 then sqSide rows else rows.length
theorem cell_none {rows : Rows} {m : Nat} {a b : Int} (g : Good rows) (hm : m < 8) (h : cellFor rows m = none) : Rg.isSym (chartR rows) ⟨m, a, b⟩ = false := by
  unfold cellFor at h
  by_cases od : m % 2 = 1
  · rw [if_pos od] at h
    by_cases c : sqOk rows = true
    · rw [if_pos c] at h; cases h
    · apply Bool.eq_false_iff.mpr
      intro z
      have s := (isSym_iff g hm a b).mp z
      have r := g.rect.rep
      exact c ((sqOk_iff g.rect).mpr (r.gcd (sym_odd_rep r hm od s)))
  · rw [if_neg od] at h; cases h
theorem cell_some {rows cell : Rows} {m : Nat} (g : Good rows) (h : cellFor rows m = some cell) : Rect (cW rows m) (cH rows m) cell ∧ (m % 2 = 0 ∨ cW rows m = cH rows m) ∧ (∀ X Y, fld cell X Y = fld rows X Y) ∧ Rep (fld rows) (cW rows m) (cH rows m) := by
  unfold cellFor at h
  unfold cW cH
  by_cases od : m % 2 = 1
  · rw [if_pos od] at h
    rw [if_pos od, if_pos od]
    by_cases c : sqOk rows = true
    · rw [if_pos c] at h
      cases h
      obtain ⟨p1, p2, p3⟩ := sq_pos g.rect
      exact ⟨cut_rect g.rect p1 p2 p3, .inr rfl, fun X Y => sq_fld g.rect c X Y, (sqOk_iff g.rect).mp c⟩
    · rw [if_neg c] at h; cases h
  · rw [if_neg od] at h
    rw [if_neg od, if_neg od]
    cases h
    exact ⟨g.rect, .inl (by omega), fun _ _ => rfl, g.rect.rep⟩
theorem fits_sym {rows cell img : Rows} {m : Nat} {a b : Int} (g : Good rows) (hm : m < 8) (h : cellFor rows m = some cell) (I : ImgOf (cW rows m) (cH rows m) m cell img) : fitsB cell img a b = Rg.isSym (chartR rows) ⟨m, a, b⟩ := by
  obtain ⟨gc, sq, hf, r⟩ := cell_some g h
  apply Bool.eq_iff_iff.mpr
  rw [fits_iff gc I hm sq, isSym_iff g hm, sym_cell r gc.w1 gc.h1 hm sq]
  simp only [hf]
end Kc

namespace Kc
open PySem PySem.Spec PyProof.Rows L2
/-! ### heaps -/
theorem same_upd {H : Hp} {p : Addr} {o : HO} (h : H p = none) : Same H (upd H p o) := fun b x e => by
  rw [upd_ne (ne_of_none e h)]
  exact e
/-- a store at what was not there at first -/
theorem same_put {H H' : Hp} {p : Addr} {o : HO} (s : Same H H') (h : H p = none) : Same H (upd H' p o) := fun b x e => by
  rw [upd_ne (ne_of_none e h)]
  exact s b x e
theorem same_new {H H' : Hp} {p : Addr} {o : HO} (s : Same H H') (h : H' p = none) : Same H (upd H' p o) := same_put s (Same.free s h)
/-- a list of ints -/
def IntsAt (H : Hp) (a : Addr) (r : List Int) : Prop := H a = some (.lst (r.map V.int))
/-- a list of lists of ints, at these addresses -/
def RowsAt (H : Hp) (p : Addr) (ps : List Addr) (rows : Rows) : Prop := H p = some (.lst (ps.map V.ref)) ∧ ps.length = rows.length ∧ ∀ (i : Nat) (a : Addr) (r : List Int), ps[i]? = some a → rows[i]? = some r → IntsAt H a r
theorem same_ints {H H' : Hp} (s : Same H H') {a : Addr} {r : List Int} (h : IntsAt H a r) : IntsAt H' a r := s _ _ h
theorem same_rows {H H' : Hp} (s : Same H H') {p : Addr} {ps : List Addr} {rows : Rows} (h : RowsAt H p ps rows) : RowsAt H' p ps rows := ⟨s _ _ h.1, h.2.1, fun i a r e1 e2 => s _ _ (h.2.2 i a r e1 e2)⟩
theorem RowsAt.get {H : Hp} {p : Addr} {ps : List Addr} {rows : Rows} (h : RowsAt H p ps rows) {i : Nat} {r : List Int} (e : rows[i]? = some r) : ∃ a, ps[i]? = some a ∧ IntsAt H a r := by
  have hi := (List.getElem?_eq_some_iff.mp e).1
  have hj : i < ps.length := by rw [h.2.1]; exact hi
  exact ⟨ps[i], List.getElem?_eq_getElem hj, h.2.2 i _ _ (List.getElem?_eq_getElem hj) e⟩
theorem line_lt {n : Nat} (h : n ≤ 16777215) : n < sizeLine := by rw [sizeLine_eq]; omega
theorem line_le {n : Nat} (h : n ≤ 16777216) : n ≤ sizeLine := by rw [sizeLine_eq]; omega
theorem map_get {α β : Type} {f : α → β} {l : List α} {i : Nat} {y : β} (h : (l.map f)[i]? = some y) : ∃ x, l[i]? = some x ∧ y = f x := by
  rw [List.getElem?_map] at h
  obtain ⟨x, e, rfl⟩ := Option.map_eq_some_iff.mp h
  exact ⟨x, e, rfl⟩
theorem take_succ {α : Type} {l : List α} {i : Nat} {x : α} (h : l[i]? = some x) : l.take (i + 1) = l.take i ++ [x] := by
  rw [List.take_add_one, h]; rfl
theorem rel_int (i : Int) (t : Tok) : RelV (.int i) (.int i t) := ⟨t, rfl⟩
theorem yes_ite {σ : L2.St} {H : Hp} {A B : Hp → Prop} (h : A H) : tYes σ H (fun b H3 => if b = true then A H3 else B H3) := by
  show (if true = true then A H else B H)
  rw [if_pos rfl]
  exact h
theorem RowsAt.there {H : Hp} {p : Addr} {ps : List Addr} {rows : Rows} (h : RowsAt H p ps rows) {a : Addr} (ha : a ∈ ps) : ∃ o, H a = some o := by
  obtain ⟨i, hi, rfl⟩ := List.mem_iff_getElem.mp ha
  have hj : i < rows.length := by rw [← h.2.1]; exact hi
  exact ⟨_, h.2.2 i _ _ (List.getElem?_eq_getElem hi) (List.getElem?_eq_getElem hj)⟩
theorem RowsAt.put {H : Hp} {p b : Addr} {ps : List Addr} {rows : Rows} {o : HO} (h : RowsAt H p ps rows) (hb : p ≠ b) (hn : b ∉ ps) : RowsAt (upd H b o) p ps rows := by
  refine ⟨by rw [upd_ne hb]; exact h.1, h.2.1, fun i a r e1 e2 => ?_⟩
  have : a ≠ b := fun z => hn (z ▸ List.mem_of_getElem? e1)
  show upd H b o a = _
  rw [upd_ne this]
  exact h.2.2 i a r e1 e2
theorem RowsAt.push {H : Hp} {p q : Addr} {ps : List Addr} {rows : Rows} {r : List Int} (h : RowsAt H p ps rows) (hq : IntsAt H q r) (hp : p ∉ ps) (hpq : p ≠ q) : RowsAt (upd H p (.lst (ps.map V.ref ++ [.ref q]))) p (ps ++ [q]) (rows ++ [r]) := by
  refine ⟨by rw [upd_same, List.map_append]; rfl, by rw [List.length_append, List.length_append, h.2.1]; rfl, fun i a r' e1 e2 => ?_⟩
  have hl := h.2.1
  by_cases hi : i < ps.length
  · rw [List.getElem?_append_left hi] at e1
    rw [List.getElem?_append_left (by omega)] at e2
    have : a ≠ p := fun z => hp (z ▸ List.mem_of_getElem? e1)
    show upd H p _ a = _
    rw [upd_ne this]
    exact h.2.2 i a r' e1 e2
  · have hlt := (List.getElem?_eq_some_iff.mp e1).1
    rw [List.length_append, List.length_singleton] at hlt
    have hi2 : i = ps.length := by omega
    subst hi2
    rw [List.getElem?_append_right (Nat.le_refl _)] at e1
    rw [hl, List.getElem?_append_right (Nat.le_refl _)] at e2
    simp at e1 e2
    subst e1 e2
    show upd H p _ q = _
    rw [upd_ne (Ne.symm hpq)]
    exact hq
/-! ### promises -/
def spColour : Sp := fun vs H Q _ => ∃ b : Int, vs = [.int b] ∧ Q (.bl (isCol b)) H
def spChartRow (K : PySem.W.Frag) : Sp := fun vs H Q _ => ∃ (a : Addr) (w : Nat) (r : List Int), vs = [.ref a, .int w] ∧ SqL K H a (r.map V.int) ∧ r.length ≤ 70000 ∧ ∀ H', Same H H' → Q (.bl (rowOk w r)) H'
def spIsChart : Sp := fun vs H Q _ => ∃ (p : Addr) (ps : List Addr) (rows : Rows), vs = [.ref p] ∧ RowsAt H p ps rows ∧ rows ≠ [] ∧ rows.length ≤ 70000 ∧ (∀ r ∈ rows, r.length ≤ 70000) ∧ ∀ H', Same H H' → Q (.bl (chartOk rows)) H'
def spSplit (K : PySem.W.Frag) : Sp := fun vs H Q _ => ∃ (a : Addr) (t : List Int), vs = [.ref a] ∧ SqL K H a (t.map V.int) ∧ t.length ≤ 70000 ∧ ∀ H' p ps, Same H H' → RowsAt H' p ps (splitRows t) → Q (.ref p) H'
def spRefusal (K : PySem.W.Frag) : Sp := fun vs H Q _ => ∃ (a : Addr) (t : List Int), vs = [.ref a] ∧ SqL K H a (t.map V.int) ∧ t.length ≤ 70000 ∧ ∀ H', Same H H' → Q (.int (refusal t)) H'
end Kc

namespace Kc
open PySem PySem.Spec PyProof.Rows L2
theorem go_take {t : List Int} {i : Nat} {z : Int} (h : t[i]? = some z) : splitGo (t.take (i + 1)) = spStep (splitGo (t.take i)) z := by
  unfold splitGo
  rw [take_succ h, List.foldl_append]
  rfl
theorem go_len (t : List Int) : ∀ s : Rows × List Int, (t.foldl spStep s).1.length ≤ s.1.length + t.length ∧ (t.foldl spStep s).2.length ≤ s.2.length + t.length := by
  induction t with
  | nil => intro s; simp
  | cons x r ih =>
    intro s
    rw [List.foldl_cons]
    have := ih (spStep s x)
    unfold spStep at this ⊢
    by_cases h : x = 10
    · simp [h] at this ⊢
      omega
    · simp [h] at this ⊢
      omega
theorem go_len0 (t : List Int) : (splitGo t).1.length ≤ t.length ∧ (splitGo t).2.length ≤ t.length := by
  have := go_len t ([], [])
  simpa [splitGo] using this
/-! ### data that is compared -/
def dInts (r : List Int) : PyData := .list (r.map PyData.int)
def dRows (rows : Rows) : PyData := .list (rows.map dInts)
theorem ints_lay : ∀ r : List Int, PyData.canLayAll0 (r.map PyData.int) = true ∧ PyData.depthAll (r.map PyData.int) = 0
  | [] => by simp [PyData.canLayAll0, PyData.depthAll]
  | x :: r => by
    have ih := ints_lay r
    simp [PyData.canLayAll0, PyData.depthAll, PyData.canLay0, PyData.depth, ih]
theorem rows_lay : ∀ rows : Rows, PyData.canLayAll0 (rows.map dInts) = true ∧ PyData.depthAll (rows.map dInts) ≤ 1
  | [] => by simp [PyData.canLayAll0, PyData.depthAll]
  | r :: rows => by
    have ih := rows_lay rows
    have h := ints_lay r
    simp [PyData.canLayAll0, PyData.depthAll, dInts, PyData.canLay0, PyData.depth, h]
    refine ⟨ih.1, ?_⟩
    have := ih.2
    omega
theorem ints_shaped (r : List Int) : SeqAt.shaped (dInts r) = true := by
  have h := ints_lay r
  show ((dInts r).canLay0 && decide ((dInts r).depth ≤ 64)) = true
  simp [dInts, PyData.canLay0, PyData.depth, h]
theorem rows_shaped (rows : Rows) : SeqAt.shaped (dRows rows) = true := by
  have h := rows_lay rows
  show ((dRows rows).canLay0 && decide ((dRows rows).depth ≤ 64)) = true
  simp only [dRows, PyData.canLay0, PyData.depth, h.1, Bool.true_and, decide_eq_true_eq]
  omega
theorem ints_eqvAll : ∀ r s : List Int, PyData.eqvAll (r.map PyData.int) (s.map PyData.int) = decide (r = s)
  | [], [] => by simp [PyData.eqvAll]
  | [], y :: s => by simp [PyData.eqvAll]
  | x :: r, [] => by simp [PyData.eqvAll]
  | x :: r, y :: s => by
    have ih := ints_eqvAll r s
    simp only [List.map_cons, PyData.eqvAll, PyData.eqv, ih]
    by_cases h : x = y <;> simp [h]
theorem ints_eqv (r s : List Int) : PyData.eqv (dInts r) (dInts s) = decide (r = s) := by
  simp only [dInts, PyData.eqv]
  exact ints_eqvAll r s
theorem rows_eqvAll : ∀ r s : Rows, PyData.eqvAll (r.map dInts) (s.map dInts) = decide (r = s)
  | [], [] => by simp [PyData.eqvAll]
  | [], y :: s => by simp [PyData.eqvAll]
  | x :: r, [] => by simp [PyData.eqvAll]
  | x :: r, y :: s => by
    have ih := rows_eqvAll r s
    simp only [List.map_cons, PyData.eqvAll, ints_eqv, ih]
    by_cases h : x = y <;> simp [h]
theorem rows_eqv (r s : Rows) : PyData.eqv (dRows r) (dRows s) = decide (r = s) := by
  simp only [dRows, PyData.eqv]
  exact rows_eqvAll r s
theorem ints_all {K : PySem.W.Frag} {H : Hp} : ∀ r : List Int, DpAll K H (r.map V.int) (r.map PyData.int)
  | [] => .nil
  | x :: r => .cons (.int x) (ints_all r)
theorem ints_dp {K : PySem.W.Frag} {H : Hp} {a : Addr} {r : List Int} (h : IntsAt H a r) : Dp K H (.ref a) (dInts r) := .lst (SqL.of h) (ints_all r)
theorem rows_all {K : PySem.W.Frag} {H : Hp} : ∀ (ps : List Addr) (rows : Rows), ps.length = rows.length → (∀ (i : Nat) (a : Addr) (r : List Int), ps[i]? = some a → rows[i]? = some r → IntsAt H a r) → DpAll K H (ps.map V.ref) (rows.map dInts)
  | [], [], _, _ => .nil
  | [], _ :: _, h, _ => by simp at h
  | _ :: _, [], h, _ => by simp at h
  | p :: ps, r :: rows, h, q => .cons (ints_dp (q 0 p r rfl rfl)) (rows_all ps rows (by simpa using h) fun i a r e1 e2 => q (i + 1) a r (by simpa using e1) (by simpa using e2))
theorem rows_dp {K : PySem.W.Frag} {H : Hp} {p : Addr} {ps : List Addr} {rows : Rows} (h : RowsAt H p ps rows) : Dp K H (.ref p) (dRows rows) := .lst (SqL.of h.1) (rows_all ps rows h.2.1 h.2.2)
/-! ### slices, places -/
theorem cut_to (xs : List V) (n : Nat) : cutV xs none (some (n : Int)) = xs.take n := by
  unfold cutV
  rw [show HT.sIx xs.length xs.length (some (n : Int)) = min n xs.length from HT.sIx_nat xs.length xs.length n, HT.sIx_none]
  simp
theorem cut_from (xs : List V) (n : Nat) : cutV xs (some (n : Int)) none = xs.drop n := by
  unfold cutV
  rw [show HT.sIx xs.length 0 (some (n : Int)) = min n xs.length from HT.sIx_nat xs.length 0 n, HT.sIx_none]
  by_cases h : n ≤ xs.length
  · rw [Nat.min_eq_left h]
    exact List.take_of_length_le (by rw [List.length_drop]; omega)
  · rw [Nat.min_eq_right (by omega), List.drop_of_length_le (by omega), List.drop_of_length_le (by omega)]
    simp
theorem ixN_nat {n : Nat} {i : Int} (h0 : 0 ≤ i) (h1 : i < n) : ixN n i = some i.toNat := by
  unfold ixN
  rw [if_pos h0, if_pos h1]
theorem RowsAt.store {H : Hp} {p a : Addr} {ps : List Addr} {rows : Rows} {i : Nat} {r : List Int} (h : RowsAt H p ps rows) (nd : ps.Nodup) (hp : p ∉ ps) (e : ps[i]? = some a) : RowsAt (upd H a (.lst (r.map V.int))) p ps (rows.set i r) := by
  have hpa : p ≠ a := fun z => hp (z ▸ List.mem_of_getElem? e)
  refine ⟨by rw [upd_ne hpa]; exact h.1, by rw [List.length_set]; exact h.2.1, fun j b s e1 e2 => ?_⟩
  by_cases c : j = i
  · subst c
    rw [e] at e1
    cases e1
    have hj : j < rows.length := by rw [← h.2.1]; exact (List.getElem?_eq_some_iff.mp e).1
    rw [List.getElem?_set_self hj] at e2
    cases e2
    exact upd_same
  · rw [List.getElem?_set_ne (Ne.symm c)] at e2
    have : b ≠ a := fun z => by
      subst z
      exact c (nd_ix nd e1 e)
    show upd H a _ b = _
    rw [upd_ne this]
    exact h.2.2 j b s e1 e2
theorem zeros_map : ∀ n : Nat, (List.replicate n [V.int 0]).flatten = (List.replicate n (0 : Int)).map V.int
  | 0 => rfl
  | n + 1 => by
    rw [List.replicate_succ, List.flatten_cons, zeros_map n, List.replicate_succ]
    rfl
theorem tile_map (r : List Int) : ∀ n : Nat, (List.replicate n (r.map V.int)).flatten = (tileRow n r).map V.int
  | 0 => rfl
  | n + 1 => by
    unfold tileRow
    rw [List.replicate_succ, List.flatten_cons, tile_map r n, List.replicate_succ, List.flatten_cons, List.map_append]
    rfl
/-! ### promises -/
def spMeasure : Sp := fun vs H Q _ => ∃ n m : Nat, vs = [.int n, .int m] ∧ Q (.int (Nat.gcd n m : Nat)) H
def spPlace : Sp := fun vs H Q _ => ∃ (m : Nat) (x y : Int), vs = [.int m, .int x, .int y] ∧ m < 8 ∧ ∀ H' p, Same H H' → H' p = some (.tup [.int (tp m x y).1, .int (tp m x y).2]) → Q (.ref p) H'
def spSquare : Sp := fun vs H Q _ => ∃ (p : Addr) (ps : List Addr) (rows : Rows), vs = [.ref p] ∧ RowsAt H p ps rows ∧ Rect (wide rows) rows.length rows ∧ wide rows ≤ 70000 ∧ rows.length ≤ 70000 ∧
  (sqOk rows = true → ∀ H' q qs, Same H H' → RowsAt H' q qs (cutRows (sqSide rows) rows) → Q (.ref q) H') ∧ (sqOk rows = false → ∀ H', Same H H' → Q .non H')
def spCellFor : Sp := fun vs H Q _ => ∃ (p : Addr) (ps : List Addr) (rows : Rows) (m : Nat), vs = [.ref p, .int m] ∧ RowsAt H p ps rows ∧ Rect (wide rows) rows.length rows ∧ wide rows ≤ 70000 ∧ rows.length ≤ 70000 ∧
  (∀ cell, cellFor rows m = some cell → ∀ H' q qs, Same H H' → RowsAt H' q qs cell → Q (.ref q) H') ∧ (cellFor rows m = none → ∀ H', Same H H' → Q .non H')
def spTurned : Sp := fun vs H Q _ => ∃ (p : Addr) (ps : List Addr) (cell : Rows) (m W Ht : Nat), vs = [.ref p, .int m] ∧ RowsAt H p ps cell ∧ Rect W Ht cell ∧ W ≤ 70000 ∧ Ht ≤ 70000 ∧ m < 8 ∧ (m % 2 = 0 ∨ W = Ht) ∧
  ∀ H' q qs img, Same H H' → RowsAt H' q qs img → ImgOf W Ht m cell img → Q (.ref q) H'
def spFits : Sp := fun vs H Q _ => ∃ (p : Addr) (ps : List Addr) (cell : Rows) (q : Addr) (qs : List Addr) (img : Rows) (W Ht : Nat) (a b : Int), vs = [.ref p, .ref q, .int a, .int b] ∧ RowsAt H p ps cell ∧ RowsAt H q qs img ∧ Rect W Ht cell ∧ Rect W Ht img ∧ W ≤ 70000 ∧ Ht ≤ 70000 ∧
  ∀ H', Same H H' → Q (.bl (fitsB cell img a b)) H'
end Kc

namespace Kc
open PySem PySem.Spec PyProof.Rows L2
/-! ### the specification over texts, and bounds -/
theorem ref_ok {t : List Int} (h : ¬ refusal t < 0) : ¬ 66048 < t.length ∧ textOk t = true := by
  unfold refusal at h
  by_cases c : 66048 < t.length
  · rw [if_pos c] at h
    omega
  · rw [if_neg c] at h
    refine ⟨c, ?_⟩
    cases e : textOk t with
    | true => rfl
    | false =>
      rw [e] at h
      simp at h
/-- the specification over texts -/
theorem ofChart_eq (t : List Int) (h : ∀ x ∈ t, inB x) (f : Rg.Chart → Rg.Ans) : RugBNeutral.shown (RugB.ofChart (RugBNeutral.text t) f) = if refusal t < 0 then [refusal t] else RugBNeutral.shown (f (chartR (splitRows t))) := by
  unfold RugB.ofChart
  rw [text_eq, List.length_map]
  unfold refusal
  by_cases c : 66048 < t.length
  · rw [if_pos (show Rg.TEXT < t.length from c), if_pos c]
    rfl
  · rw [if_neg (show ¬ Rg.TEXT < t.length from c), if_neg c]
    cases e : textOk t with
    | true =>
      rw [chart_some h e]
      rfl
    | false =>
      rw [chart_none h e]
      rfl
theorem split_len {t : List Int} : ∀ r ∈ splitRows t, r.length ≤ t.length := by
  intro r hr
  have e := congrArg List.length (split_join t)
  rw [List.length_append, flat_len] at e
  have : ∀ l : Rows, r ∈ l → r.length ≤ (l.map fun r => r.length + 1).sum := by
    intro l
    induction l with
    | nil => intro z; simp at z
    | cons x l ih =>
      intro z
      rw [List.map_cons, List.sum_cons]
      rcases List.mem_cons.mp z with rfl | z
      · omega
      · have := ih z
        omega
  have := this _ hr
  omega
theorem good_wide {t : List Int} (h : t.length ≤ 70000) : wide (splitRows t) ≤ 70000 ∧ (splitRows t).length ≤ 70000 := by
  have gl := (go_len0 t).1
  constructor
  · unfold wide
    cases hc : splitRows t with
    | nil => simp
    | cons r l =>
      have := split_len (t := t) r (by rw [hc]; simp)
      show r.length ≤ 70000
      omega
  · show (splitGo t).1.length ≤ 70000
    omega
theorem cell_le {rows : Rows} (g : Good rows) (m : Nat) : cW rows m ≤ 512 ∧ cH rows m ≤ 512 := by
  have h1 := g.w2
  have h2 := g.h2
  have h3 := sq_pos g.rect
  unfold cW cH sqSide
  by_cases c : m % 2 = 1
  · rw [if_pos c, if_pos c]
    omega
  · rw [if_neg c, if_neg c]
    omega
end Kc

namespace Kc
open PySem PySem.Spec PyProof.Rows L2
def topS (i : Nat) : Stmt := PySem.Challenge.pw_knotcharts_s05_cell.main.body.getD i (.Pass ⟨0, 0, 0, 0⟩)
abbrev sCell : Stmt := topS 8
abbrev sRefusal : Stmt := topS 9
abbrev sSplit : Stmt := topS 10
abbrev sIsChart : Stmt := topS 11
abbrev sChartRow : Stmt := topS 12
abbrev sColour : Stmt := topS 13
abbrev sRepeat : Stmt := topS 14
abbrev sAcross : Stmt := topS 15
abbrev sDown : Stmt := topS 16
abbrev sFits : Stmt := topS 17
end Kc
namespace Kc
open PySem PySem.Spec PyProof.Rows L2
section
variable {P : Program} {w : World} {K : PySem.W.Frag} {mg : Str → Option Value} {base : Heap}
theorem scColour : FnScope ["byte"] ["byte"] (defScope sColour) := ⟨rfl, rfl, rfl, by decide +kernel, rfl, by decide +kernel, by decide +kernel⟩
theorem ok_colour {f : Addr} {fd : FuncData} {k : Nat} (F : Fun K "is_colour" "is_colour" sColour f fd) : FnOk P w K mg base CX0 (k + 1) f fd ["byte"] spColour := by
  refine F.ok scColour (fun vs H Q E h => ?_) (fun cdv A outer s H vs Q E hr h => ?_)
  · obtain ⟨b, rfl, _⟩ := h
    rfl
  · obtain ⟨b, rfl, q⟩ := h
    refine ⟨_, pss_one (ps_ret (pe_or (pe_chain op_le op_le pe_int (pv 0) pe_int) (pe_or (pe_chain op_le op_le pe_int (pv 0) pe_int) (pe_one (pe_chain op_le op_le pe_int (pv 0) pe_int))))), ?_⟩
    have go : ∀ (lo hi : Int) (R : V → Hp → Prop), R (.bl (decide (lo ≤ b ∧ b ≤ hi))) H → tChain (rI0 fun i j => .bl (decide (i ≤ j))) (rI0 fun i j => .bl (decide (i ≤ j))) (tC (.int lo)) (tVar 0) (tC (.int hi)) (start ["byte"] [.int b]) H R := by
      intro lo hi R hR
      refine ⟨.int b, rfl, lo, b, rfl, rfl, _, rfl, ite2 (fun h => ⟨b, hi, rfl, rfl, ?_⟩) (fun h => ?_)⟩
      · have h1 := of_decide_eq_true h
        show R (.bl (decide (b ≤ hi))) H
        rw [show decide (b ≤ hi) = decide (lo ≤ b ∧ b ≤ hi) by simp [h1]]
        exact hR
      · have h1 : ¬ lo ≤ b := fun z => h (decide_eq_true z)
        rw [show decide (lo ≤ b ∧ b ≤ hi) = false by simp [h1]] at hR
        exact hR
    refine go _ _ _ ⟨_, rfl, ite2 (fun h1 => ?_) (fun h1 => go _ _ _ ⟨_, rfl, ite2 (fun h2 => ?_) (fun h2 => go _ _ _ ?_)⟩)⟩
    all_goals (simp only [decide_eq_true_eq] at *)
    · rw [show isCol b = true by unfold isCol; exact decide_eq_true (by omega)] at q
      exact q
    · rw [show isCol b = true by unfold isCol; exact decide_eq_true (by omega)] at q
      exact q
    · rw [show isCol b = decide (48 ≤ b ∧ b ≤ 57) by unfold isCol; exact decide_eq_decide.mpr (by omega)] at q
      exact q
theorem scChartRow : FnScope ["row", "width", "byte"] ["row", "width"] (defScope sChartRow) := ⟨rfl, rfl, rfl, by decide +kernel, rfl, by decide +kernel, by decide +kernel⟩
theorem ok_chartRow {f fC : Addr} {fd fdC : FuncData} {k : Nat} (F : Fun K "is_chart_row" "is_chart_row" sChartRow f fd) (G : FnOk P w K mg base CX0 (k + 1) fC fdC ["byte"] spColour) (kC : PySem.W.keepIn K (.ref fC) = true)
    (bC : Binds K fdC ["byte"] []) (mC : mg "is_colour" = some (.ref fC)) (ml : mg "len" = none) (ma : mg "all" = none) : FnOk P w K mg base CX0 (k + 2) f fd ["row", "width"] (spChartRow K) := by
  refine F.ok scChartRow (fun vs H Q E h => ?_) (fun cdv A outer s H vs Q E hr h => ?_)
  · obtain ⟨a, wd, r, rfl, _⟩ := h
    rfl
  · obtain ⟨a, wd, r, rfl, hS, hlen, q⟩ := h
    refine ⟨_, pss_one (ps_ret (pe_and (pe_cmpR op_eq (pe_callB call_len_seq (by rfl) ml PySem.boot_len (pa_cons (pv 0) pa_nil)) (pv 1) (nomark _))
      (pe_one (pe_callB (cr_all rfl) (by rfl) ma (by decide +kernel) (pa_cons (pe_lc (own := [("byte", 2)]) (g := gName 2) (tt := tYes) rfl scChartRow.nd (pi_list (pv 0)) (blkOk_by (own := [("byte", 2)]) (N := ["row", "width", "byte"]) (sc := defScope sChartRow) (by decide +kernel))
        (fun _ _ _ _ _ => pg_name (i := 2) scChartRow.nd rfl (Or.inl rfl)) (fun _ _ _ _ _ => pts_nil) (fun _ _ _ _ _ => pe_call G hr (by rfl) mC kC bC .nil pass0 (pa_cons (pv 2) pa_nil))) pa_nil))))), ?_⟩
    refine ⟨.ref a, rfl, a, r.map V.int, rfl, .inl hS, .int wd, rfl, rfl, _, rfl, ite2 (fun e => ?_) (fun e => ?_)⟩
    · have e1 : r.length = wd := by
        have := V.int.inj (of_decide_eq_true e)
        rw [List.length_map] at this
        omega
      refine ⟨.ref a, rfl, a, rfl, ⟨_, hS⟩, fun D nD => lc_list (K := K) (a := a) (xs := r.map V.int) (fun i H' => Same H H' ∧ H' D = some (.lst ((r.take i).map fun x => V.bl (isCol x)))) ⟨same_upd nD, upd_same⟩ (fun i H' _ ⟨sm, _⟩ => sm.seq hS) ?_ ?_⟩
      · rintro i x H' hx ⟨sm, hD⟩
        obtain ⟨z, hz, rfl⟩ := map_get hx
        refine ⟨rfl, ?_⟩
        refine yes_ite ?_
        refine ⟨_, rfl, z, rfl, _, hD, ?_, same_put sm nD, ?_⟩
        · rw [List.length_map, List.length_take]
          exact line_lt (by omega)
        · rw [upd_same, take_succ hz, List.map_append]
          rfl
      · rintro H' ⟨sm, hD⟩
        rw [List.length_map, List.take_length] at hD
        refine ⟨D, r.map isCol, rfl, SqL.of (by rw [List.map_map]; exact hD), ?_⟩
        have := q H' sm
        rw [show rowOk wd r = (r.map isCol).all id by unfold rowOk; rw [decide_eq_true e1, List.all_map]; rfl] at this
        exact this
    · have e1 : ¬ r.length = wd := fun z => e (decide_eq_true (by rw [List.length_map, z]))
      have := q H (Same.refl H)
      rw [show rowOk wd r = false by unfold rowOk; rw [decide_eq_false e1]; rfl] at this
      exact this
end
end Kc

namespace Kc
open PySem PySem.Spec PyProof.Rows L2
section
variable {P : Program} {w : World} {K : PySem.W.Frag} {mg : Str → Option Value} {base : Heap}
theorem scSplit : FnScope ["t", "rows", "row", "byte"] ["t"] (defScope sSplit) := ⟨rfl, rfl, rfl, by decide +kernel, rfl, by decide +kernel, by decide +kernel⟩
theorem ok_split {f : Addr} {fd : FuncData} {k : Nat} {tk : Tok} (F : Fun K "split_rows" "split_rows" sSplit f fd) (mE : mg "ROW_END" = some (.int 10 tk)) : FnOk P w K mg base CX0 (k + 1) f fd ["t"] (spSplit K) := by
  refine F.ok scSplit (fun vs H Q E h => ?_) (fun cdv A outer s H vs Q E hr h => ?_)
  · obtain ⟨a, t, rfl, _⟩ := h
    rfl
  · obtain ⟨a, t, rfl, hS, hlen, q⟩ := h
    refine ⟨_, pss_cons (ps_set (i := 1) scSplit.nd rfl (.inl rfl) (pe_lst pa_nil)) (pss_cons (ps_set (i := 2) scSplit.nd rfl (.inl rfl) (pe_lst pa_nil))
      (pss_cons (ps_for PassesOwn.never rfl (pi_list (pv 0)) (pg_name (i := 3) scSplit.nd rfl (Or.inl rfl))
        (pss_one (ps_if (pt_cmpR op_eq (pv 3) (pe_glob rfl mE (rel_int _ _)) (nomark _))
          (pss_cons (ps_expr (pe_bm PySem.F.plainAttrs_list PySem.F.slot_list_append PySem.F.type_list_append mt_append (pv 1) (pa_cons (pv 2) pa_nil)))
            (pss_one (ps_set (i := 2) scSplit.nd rfl (.inl rfl) (pe_lst pa_nil))))
          (pss_one (ps_expr (pe_bm PySem.F.plainAttrs_list PySem.F.slot_list_append PySem.F.type_list_append mt_append (pv 2) (pa_cons (pv 3) pa_nil)))))))
      (pss_one (ps_ret (pv 1))))), ?_⟩
    refine ⟨Nat.zero_le _, fun p np => ⟨Nat.zero_le _, fun q0 nq0 => ?_⟩⟩
    have nq0' : p ≠ q0 := ne_of_none (upd_same (H := H) (a := p) (o := .lst [])) nq0
    have nqH : H q0 = none := by rwa [upd_ne (Ne.symm nq0')] at nq0
    refine ⟨_, rfl, a, rfl, ⟨_, (same_put (same_upd np) nqH).seq hS⟩, for_list (K := K) (a := a) (xs := t.map V.int)
      (fun i σ H' => ∃ (c : Addr) (ps : List Addr) (y : Option V), σ = [some (.ref a), some (.ref p), some (.ref c), y] ∧ Same H H' ∧ H c = none ∧ p ≠ c ∧ c ∉ ps ∧ p ∉ ps ∧ RowsAt H' p ps (splitGo (t.take i)).1 ∧ IntsAt H' c (splitGo (t.take i)).2)
      ⟨q0, [], none, rfl, same_put (same_upd np) nqH, nqH, nq0', by simp, by simp, ⟨?_, rfl, fun i a r e => by simp at e⟩, upd_same⟩ (fun i σ H' _ ⟨_, _, _, _, sm, _⟩ => sm.seq hS) ?_ ?_⟩
    · rw [upd_ne nq0', upd_same]
      rfl
    · rintro i x σ H' hx ⟨c, ps, y, rfl, sm, nc, npc, hcp, hpp, hR, hI⟩
      obtain ⟨z, hz, rfl⟩ := map_get hx
      have g := go_take hz
      have hi : i < t.length := (List.getElem?_eq_some_iff.mp hz).1
      have gl := go_len0 (t.take i)
      rw [List.length_take] at gl
      refine ⟨_, rfl, rfl, _, rfl, ite2 (fun e => ?_) (fun e => ?_)⟩
      · have e1 : z = 10 := V.int.inj (of_decide_eq_true e)
        rw [show spStep (splitGo (t.take i)) z = ((splitGo (t.take i)).1 ++ [(splitGo (t.take i)).2], []) by unfold spStep; rw [if_pos e1]] at g
        refine ⟨.ref p, rfl, .inl ⟨rfl, _, SqL.of hR.1⟩, .ref c, rfl, p, _, _, rfl, rfl, hR.1, ?_, ?_⟩
        · rw [List.length_map, hR.2.1]
          exact line_lt (by omega)
        · refine ⟨Nat.zero_le _, fun c2 nc2 => ?_⟩
          have hR2 := hR.push hI hpp npc
          have n1 : p ≠ c2 := ne_of_none hR2.1 nc2
          have n2 : c2 ∉ ps ++ [c] := fun z => by
            obtain ⟨o, ho⟩ := hR2.there z
            rw [nc2] at ho
            cases ho
          have nH : H c2 = none := Same.free (same_put sm np) nc2
          refine ⟨c2, ps ++ [c], some (.int z), rfl, same_put (same_put sm np) nH, nH, n1, n2, ?_, ?_, ?_⟩
          · intro hm
            rcases List.mem_append.mp hm with hm | hm
            · exact hpp hm
            · exact npc (List.mem_singleton.mp hm)
          · rw [g]
            exact hR2.put n1 n2
          · rw [g]
            exact upd_same
      · have e1 : ¬ z = 10 := fun q => e (decide_eq_true (by rw [q]))
        rw [show spStep (splitGo (t.take i)) z = ((splitGo (t.take i)).1, (splitGo (t.take i)).2 ++ [z]) by unfold spStep; rw [if_neg e1]] at g
        refine ⟨.ref c, rfl, .inl ⟨rfl, _, SqL.of hI⟩, .int z, rfl, c, _, _, rfl, rfl, hI, ?_, ?_⟩
        · rw [List.length_map]
          exact line_lt (by omega)
        · refine ⟨c, ps, some (.int z), rfl, same_put sm nc, nc, npc, hcp, hpp, ?_, ?_⟩
          · rw [g]
            exact hR.put npc hcp
          · rw [g]
            show upd H' c _ c = _
            rw [upd_same, List.map_append]
            rfl
    · rintro σ H' ⟨c, ps, y, rfl, sm, nc, npc, hcp, hpp, hR, hI⟩
      rw [List.length_map, List.take_length] at hR
      exact ⟨_, rfl, q H' p ps sm hR⟩
theorem scIsChart : FnScope ["rows", "height", "width", "row"] ["rows"] (defScope sIsChart) := ⟨rfl, rfl, rfl, by decide +kernel, rfl, by decide +kernel, by decide +kernel⟩
theorem ok_isChart {f fC : Addr} {fd fdC : FuncData} {k : Nat} {t1 t2 t3 : Tok} (F : Fun K "is_chart" "is_chart" sIsChart f fd) (G : FnOk P w K mg base CX0 (k + 1) fC fdC ["row", "width"] (spChartRow K)) (kC : PySem.W.keepIn K (.ref fC) = true)
    (bC : Binds K fdC ["row", "width"] []) (mC : mg "is_chart_row" = some (.ref fC)) (ml : mg "len" = none) (ma : mg "all" = none) (mW : mg "WIDEST" = some (.int 512 t1)) (mH : mg "HIGHEST" = some (.int 512 t2)) (mK : mg "MOST_KNOTS" = some (.int 65536 t3)) :
    FnOk P w K mg base CX0 (k + 2) f fd ["rows"] spIsChart := by
  refine F.ok scIsChart (fun vs H Q E h => ?_) (fun cdv A outer s H vs Q E hr h => ?_)
  · obtain ⟨p, ps, rows, rfl, _⟩ := h
    rfl
  · obtain ⟨p, ps, rows, rfl, hR, hne, hl1, hl2, q⟩ := h
    refine ⟨_, pss_cons (ps_set (i := 1) scIsChart.nd rfl (.inl rfl) (pe_callB call_len_seq (by rfl) ml PySem.boot_len (pa_cons (pv 0) pa_nil)))
      (pss_cons (ps_set (i := 2) scIsChart.nd rfl (.inr rfl) (pe_callB call_len_seq (by rfl) ml PySem.boot_len (pa_cons (pe_ix ix_list (pv 0) pe_int (fun _ _ => rfl)) pa_nil)))
      (pss_cons (ps_if (PW.pt (pw_or (pt_cmpR op_lt (pv 2) pe_int (nomark _)) (pw_or (pt_cmpR op_gt (pv 2) (pe_glob rfl mW (rel_int _ _)) (nomark _)) (pw_or (pt_cmpR op_gt (pv 1) (pe_glob rfl mH (rel_int _ _)) (nomark _)) (pw_or1 (pt_cmpR op_gt (pe_op op_mul (pv 2) (pv 1)) (pe_glob rfl mK (rel_int _ _)) (nomark _)))))))
        (pss_one (ps_ret pe_bl)) pss_nil)
      (pss_one (ps_ret (pe_callB (cr_all rfl) (by rfl) ma (by decide +kernel) (pa_cons (pe_lc (own := [("row", 3)]) (g := gName 3) (tt := tYes) rfl scIsChart.nd (pi_list (pv 0)) (blkOk_by (own := [("row", 3)]) (N := ["rows", "height", "width", "row"]) (sc := defScope sIsChart) (by decide +kernel))
        (fun _ _ _ _ _ => pg_name (i := 3) scIsChart.nd rfl (Or.inl rfl)) (fun _ _ _ _ _ => pts_nil) (fun _ _ _ _ _ => pe_call G hr (by rfl) mC kC bC .nil pass0 (pa_cons (pv 3) (pa_cons (pv 2) pa_nil)))) pa_nil)))))), ?_⟩
    obtain ⟨r0, rest, rfl⟩ : ∃ r0 rest, rows = r0 :: rest := by
      cases rows with
      | nil => exact absurd rfl hne
      | cons r0 rest => exact ⟨r0, rest, rfl⟩
    obtain ⟨a0, ha0, hI0⟩ := hR.get (i := 0) (r := r0) rfl
    have hps : ((ps.map V.ref).length : Int) = ((r0 :: rest).length : Int) := by rw [List.length_map, hR.2.1]
    have hr0 : ((r0.map V.int).length : Int) = (wide (r0 :: rest) : Int) := by rw [List.length_map]; rfl
    refine ⟨_, rfl, p, _, rfl, .inl (SqL.of hR.1), ?_⟩
    rw [hps]
    refine ⟨_, rfl, p, _, 0, .ref a0, rfl, rfl, SqL.of hR.1, atI_nat (j := 0) (by rw [List.getElem?_map, ha0]; rfl), a0, _, rfl, .inl (SqL.of hI0), ?_⟩
    rw [hr0]
    have hw : wide (r0 :: rest) ≤ 70000 := hl2 r0 (by simp)
    generalize hwd : wide (r0 :: rest) = wd at *
    generalize hht : (r0 :: rest).length = ht at *
    have no : ¬ (1 ≤ wd ∧ wd ≤ 512 ∧ ht ≤ 512 ∧ wd * ht ≤ 65536) → Q (.bl false) H := fun z => by
      have := q H (Same.refl H)
      unfold chartOk at this
      rw [hwd, hht, decide_eq_false z] at this
      exact this
    have hcast : ((wd : Int) * (ht : Int)) = ((wd * ht : Nat) : Int) := by rw [Int.natCast_mul]
    refine ⟨_, rfl, wd, 1, rfl, rfl, _, rfl, ite2 (fun e => ?_) (fun e => ⟨_, rfl, wd, 512, rfl, rfl, _, rfl, ite2 (fun e2 => ?_) (fun e2 => ⟨_, rfl, ht, 512, rfl, rfl, _, rfl, ite2 (fun e3 => ?_) (fun e3 => ?_)⟩)⟩)⟩
    · refine iteT (no fun z => ?_)
      have := of_decide_eq_true e
      omega
    · refine iteT (no fun z => ?_)
      have := of_decide_eq_true e2
      omega
    · refine iteT (no fun z => ?_)
      have := of_decide_eq_true e3
      omega
    · have e : ¬ ((wd : Int) < 1) := fun z => e (decide_eq_true z)
      have e2 : ¬ ((512 : Int) < wd) := fun z => e2 (decide_eq_true z)
      have e3 : ¬ ((512 : Int) < ht) := fun z => e3 (decide_eq_true z)
      refine ⟨_, rfl, _, rfl, wd, ht, rfl, rfl, .inl (by omega), wd * ht, 65536, rfl, rfl, _, rfl, ite2 (fun e4 => no fun z => ?_) (fun e4 => ?_)⟩
      · have := of_decide_eq_true e4
        rw [hcast] at this
        omega
      · have e4 : ¬ ((65536 : Int) < (wd : Int) * ht) := fun z => e4 (decide_eq_true z)
        rw [hcast] at e4
        refine ⟨_, rfl, p, rfl, ⟨_, SqL.of hR.1⟩, fun D nD => lc_list (K := K) (a := p) (xs := ps.map V.ref) (fun i H' => Same H H' ∧ H' D = some (.lst (((r0 :: rest).take i).map fun x => V.bl (rowOk wd x)))) ⟨same_upd nD, upd_same⟩ (fun i H' _ ⟨sm, _⟩ => SqL.of (sm _ _ hR.1)) ?_ ?_⟩
        · rintro i x H' hx ⟨sm, hD⟩
          obtain ⟨a, ha, rfl⟩ := map_get hx
          have hi : i < (r0 :: rest).length := by
            rw [← hR.2.1]
            exact (List.getElem?_eq_some_iff.mp ha).1
          have hz : (r0 :: rest)[i]? = some (r0 :: rest)[i] := List.getElem?_eq_getElem hi
          have hI := hR.2.2 i a _ ha hz
          refine ⟨rfl, ?_⟩
          refine yes_ite ?_
          refine ⟨_, rfl, _, rfl, a, wd, (r0 :: rest)[i], rfl, SqL.of (sm _ _ hI), hl2 _ (List.getElem_mem hi), fun H2 sm2 => ⟨_, sm2 _ _ hD, ?_, same_put (sm.trans sm2) nD, ?_⟩⟩
          · rw [List.length_map, List.length_take]
            exact line_lt (by omega)
          · rw [upd_same, take_succ hz, List.map_append]
            rfl
        · rintro H' ⟨sm, hD⟩
          rw [List.length_map, hR.2.1, List.take_length] at hD
          refine ⟨D, (r0 :: rest).map (rowOk wd), rfl, SqL.of (by rw [List.map_map]; exact hD), ?_⟩
          have := q H' sm
          unfold chartOk at this
          rw [hwd, hht, decide_eq_true (show 1 ≤ wd ∧ wd ≤ 512 ∧ ht ≤ 512 ∧ wd * ht ≤ 65536 by omega)] at this
          rw [List.all_map]
          exact this
theorem scRefusal : FnScope ["t"] ["t"] (defScope sRefusal) := ⟨rfl, rfl, rfl, by decide +kernel, rfl, by decide +kernel, by decide +kernel⟩
theorem ok_refusal {f fC fS : Addr} {fd fdC fdS : FuncData} {k : Nat} {t1 t2 t3 t4 : Tok} (F : Fun K "text_refusal" "text_refusal" sRefusal f fd) (GC : FnOk P w K mg base CX0 (k + 1) fC fdC ["rows"] spIsChart) (kC : PySem.W.keepIn K (.ref fC) = true) (bC : Binds K fdC ["rows"] []) (mC : mg "is_chart" = some (.ref fC))
    (GS : FnOk P w K mg base CX0 (k + 1) fS fdS ["t"] (spSplit K)) (kS : PySem.W.keepIn K (.ref fS) = true) (bS : Binds K fdS ["t"] []) (mS : mg "split_rows" = some (.ref fS)) (ml : mg "len" = none)
    (mE : mg "ROW_END" = some (.int 10 t1)) (mL : mg "LONGEST_TEXT" = some (.int 66048 t2)) (mR2 : mg "REFUSED_LONG_TEXT" = some (.int (-2) t3)) (mR6 : mg "REFUSED_NO_CHART" = some (.int (-6) t4)) : FnOk P w K mg base CX0 (k + 2) f fd ["t"] (spRefusal K) := by
  refine F.ok scRefusal (fun vs H Q E h => ?_) (fun cdv A outer s H vs Q E hr h => ?_)
  · obtain ⟨a, t, rfl, _⟩ := h
    rfl
  · obtain ⟨a, t, rfl, hS, hlen, q⟩ := h
    refine ⟨_, pss_cons (ps_if (pt_cmpR op_gt (pe_callB call_len_seq (by rfl) ml PySem.boot_len (pa_cons (pv 0) pa_nil)) (pe_glob rfl mL (rel_int _ _)) (nomark _)) (pss_one (ps_ret (pe_glob rfl mR2 (rel_int _ _)))) pss_nil)
      (pss_cons (ps_if (PW.pt (pw_or (pt_cmpR op_eq (pe_callB call_len_seq (by rfl) ml PySem.boot_len (pa_cons (pv 0) pa_nil)) pe_int (nomark _)) (pw_or (pt_cmpR op_ne (pe_ix ix_list (pv 0) (pe_un un_neg pe_int) (fun _ _ => rfl)) (pe_glob rfl mE (rel_int _ _)) (nomark _))
        (pw_or1 (pt_not (pt_val (pe_call GC hr (by rfl) mC kC bC .nil pass0 (pa_cons (pe_call GS hr (by rfl) mS kS bS .nil pass0 (pa_cons (pv 0) pa_nil)) pa_nil))))))))
        (pss_one (ps_ret (pe_glob rfl mR6 (rel_int _ _)))) pss_nil)
      (pss_one (ps_ret pe_int))), ?_⟩
    refine ⟨_, rfl, a, _, rfl, .inl hS, _, 66048, rfl, rfl, _, rfl, ite2 (fun e => ?_) (fun e => ?_)⟩
    · have e1 := of_decide_eq_true e
      rw [List.length_map] at e1
      have := q H (Same.refl H)
      unfold refusal at this
      rw [if_pos (by omega)] at this
      exact this
    · have e1 : ¬ ((66048 : Int) < ((t.map V.int).length : Nat)) := fun z => e (decide_eq_true z)
      rw [List.length_map] at e1
      have no : ∀ H', Same H H' → textOk t = false → Q (.int (-6)) H' := fun H' sm z => by
        have := q H' sm
        unfold refusal at this
        rw [if_neg (by omega), z] at this
        exact this
      refine ⟨_, rfl, a, _, rfl, .inl hS, rfl, _, rfl, ite2 (fun e2 => ?_) (fun e2 => ?_)⟩
      · have e3 := V.int.inj (of_decide_eq_true e2)
        rw [List.length_map] at e3
        refine iteT (no H (Same.refl H) ?_)
        have : t = [] := List.length_eq_zero_iff.mp (by omega)
        rw [this]
        rfl
      · have ht : t ≠ [] := fun z => e2 (decide_eq_true (by rw [z]; rfl))
        obtain ⟨ys, y, rfl⟩ : ∃ ys y, t = ys ++ [y] := ⟨_, _, (List.dropLast_concat_getLast ht).symm⟩
        refine ⟨_, rfl, _, rfl, a, _, -1, .int y, rfl, rfl, hS, by rw [List.map_append]; exact atI_last _ _, rfl, _, rfl, ite2 (fun e3 => ?_) (fun e3 => ?_)⟩
        · refine iteT (no H (Same.refl H) ?_)
          have : y ≠ 10 := fun z => by
            rw [z] at e3
            simp at e3
          unfold textOk
          rw [show decide ((ys ++ [y]).getLast? = some 10) = false by simp [this]]
          simp
        · have hy : y = 10 := by
            apply Classical.byContradiction
            intro z
            apply e3
            simp [z]
          subst hy
          have hlast : (ys ++ [10]).getLast? = some (10 : Int) := by simp
          have hsl := split_last hlast
          have gl := go_len0 (ys ++ [10])
          refine ⟨_, rfl, a, ys ++ [10], rfl, hS, hlen, fun H1 p ps sm hR => ⟨p, ps, _, rfl, hR, hsl.2, Nat.le_trans gl.1 hlen, fun r hr => ?_, fun H2 sm2 => ⟨_, rfl, ?_⟩⟩⟩
          · have e := congrArg List.length (split_join (ys ++ [10]))
            rw [List.length_append, flat_len] at e
            have : ∀ l : Rows, r ∈ l → r.length ≤ (l.map fun r => r.length + 1).sum := by
              intro l
              induction l with
              | nil => intro z; simp at z
              | cons x l ih =>
                intro z
                rw [List.map_cons, List.sum_cons]
                rcases List.mem_cons.mp z with rfl | z
                · omega
                · have := ih z
                  omega
            have := this _ hr
            omega
          · have ok : textOk (ys ++ [10]) = chartOk (splitRows (ys ++ [10])) := by
              unfold textOk
              rw [decide_eq_true ht, decide_eq_true hlast]
              rfl
            cases hc : chartOk (splitRows (ys ++ [10])) with
            | false =>
              refine iteT (no H2 (sm.trans sm2) (by rw [ok, hc]))
            | true =>
              refine iteF ?_
              have := q H2 (sm.trans sm2)
              unfold refusal at this
              rw [if_neg (by omega), ok, hc] at this
              exact this
end
end Kc

namespace Kc
open PySem PySem.Spec PyProof.Rows L2
section
variable {P : Program} {w : World} {K : PySem.W.Frag} {mg : Str → Option Value} {base : Heap}
theorem scFits : FnScope ["tile", "image", "a", "b", "height", "left", "y", "row"] ["tile", "image", "a", "b"] (defScope sFits) := ⟨rfl, rfl, rfl, by decide +kernel, rfl, by decide +kernel, by decide +kernel⟩
theorem ok_fits {f : Addr} {fd : FuncData} {k : Nat} (F : Fun K "fits" "fits" sFits f fd) (ml : mg "len" = none) (mr : mg "range" = none) : FnOk P w K mg base CX0 (k + 1) f fd ["tile", "image", "a", "b"] spFits := by
  refine F.ok scFits (fun vs H Q E h => ?_) (fun cdv A outer s H vs Q E hr h => ?_)
  · obtain ⟨p, ps, cell, p2, ps2, img, W, Ht, a, b, rfl, _⟩ := h
    rfl
  · obtain ⟨p, ps, cell, p2, ps2, img, W, Ht, a, b, rfl, hR, hR2, g, g2, hW, hHt, q⟩ := h
    refine ⟨_, pss_cons (ps_set (i := 4) scFits.nd rfl (.inl rfl) (pe_callB call_len_seq (by rfl) ml PySem.boot_len (pa_cons (pv 0) pa_nil)))
      (pss_cons (ps_set (i := 5) scFits.nd rfl (.inl rfl) (pe_op op_mod (pv 2) (pe_callB call_len_seq (by rfl) ml PySem.boot_len (pa_cons (pe_ix ix_list (pv 0) pe_int (fun _ _ => rfl)) pa_nil))))
      (pss_cons (ps_for PassesOwn.never rfl (pi_range1 rfl mr (pa_cons (pv 4) pa_nil)) (pg_name (i := 6) scFits.nd rfl (Or.inl rfl))
        (pss_cons (ps_set (i := 7) scFits.nd rfl (.inl rfl) (pe_ix ix_list (pv 0) (pe_op op_mod (pe_op op_add (pv 6) (pv 3)) (pv 4)) (fun _ _ => rfl)))
        (pss_one (ps_if (pt_cmpR (op_neD hr.units) (pe_op op_cat (pe_slice sl_list (pv 7) (po_some (pv 5)) po_none) (pe_slice sl_list (pv 7) po_none (po_some (pv 5)))) (pe_ix ix_list (pv 1) (pv 6) (fun _ _ => rfl)) (nomark _))
          (pss_one (ps_ret pe_bl)) pss_nil))))
      (pss_one (ps_ret pe_bl)))), ?_⟩
    obtain ⟨r0, e0, hr0, _⟩ := g.row (y := 0) g.h1
    obtain ⟨a0, ha0, hI0⟩ := hR.get e0
    have hps : ((ps.map V.ref).length : Int) = (Ht : Int) := by rw [List.length_map, hR.2.1, g.high]
    have hrl : ((r0.map V.int).length : Int) = (W : Int) := by rw [List.length_map, hr0]
    have hWp : (0 : Int) < W := by have := g.w1; omega
    have hHp : (0 : Int) < Ht := by have := g.h1; omega
    refine ⟨_, rfl, p, _, rfl, .inl (SqL.of hR.1), ?_⟩
    rw [hps]
    refine ⟨_, rfl, _, rfl, p, _, 0, .ref a0, rfl, rfl, SqL.of hR.1, atI_nat (j := 0) (by rw [List.getElem?_map, ha0]; rfl), a0, _, rfl, .inl (SqL.of hI0), ?_⟩
    rw [hrl]
    refine ⟨a, W, rfl, rfl, hWp, _, rfl, Ht, rfl, by omega, by omega, ?_⟩
    rw [show (Ht : Int).toNat = Ht from Int.toNat_natCast _]
    refine for_range (lo := 0) (n := Ht) (fun i σ H' => ∃ (yv rv : Option V), σ = [some (.ref p), some (.ref p2), some (.int a), some (.int b), some (.int Ht), some (.int (a % (W : Int))), yv, rv] ∧ Same H H' ∧ ∀ j, j < i → fitRow cell img a b j = true)
      ⟨none, none, rfl, Same.refl H, fun j h => by omega⟩ ?_ ?_
    · rintro y σ H' hy ⟨yv, rv, rfl, sm, hf⟩
      have hC := same_rows sm hR
      have hM := same_rows sm hR2
      obtain ⟨rc, erc, hrc, _⟩ := g.row (y := (((y : Int) + b) % (Ht : Int)).toNat) (toNat_mod_lt g.h1 _)
      obtain ⟨ac, hac, hIc⟩ := hC.get erc
      obtain ⟨ri, eri, hri, _⟩ := g2.row hy
      obtain ⟨ai, hai, hIi⟩ := hM.get eri
      refine ⟨_, rfl, _, rfl, _, rfl, (0 : Int) + y, b, rfl, rfl, _, rfl, (0 : Int) + y + b, Ht, rfl, rfl, hHp, p, _, ((0 : Int) + y + b) % (Ht : Int), .ref ac, rfl, rfl, SqL.of hC.1, ?_, ?_⟩
      · exact at_of (j := (((y : Int) + b) % (Ht : Int)).toNat) (by rw [toNat_mod_cast g.h1, Int.zero_add]) (by rw [List.getElem?_map, hac]; rfl)
      have hleft : a % (W : Int) = (((a % (W : Int)).toNat : Nat) : Int) := (toNat_mod_cast g.w1 a).symm
      refine ⟨_, rfl, _, rfl, (a % (W : Int)), rfl, ac, _, rfl, SqL.of hIc, fun c nc => ?_⟩
      have smc : Same H' (upd H' c (.lst (cutV (rc.map V.int) (some (a % (W : Int))) none))) := same_upd nc
      refine ⟨_, rfl, _, rfl, _, rfl, ac, _, rfl, SqL.of (same_ints smc hIc), fun d nd => ?_⟩
      have cd : c ≠ d := ne_of_none upd_same nd
      refine ⟨c, d, _, _, rfl, rfl, by rw [upd_ne cd, upd_same], upd_same, ?_, fun e ne => ?_⟩
      · rw [hleft, cut_from, cut_to, List.length_drop, List.length_take, List.length_map]
        exact line_le (by omega)
      have smd := same_new (o := .lst (cutV (rc.map V.int) none (some (a % (W : Int))))) smc nd
      have sme := same_new (o := .lst (cutV (rc.map V.int) (some (a % (W : Int))) none ++ cutV (rc.map V.int) none (some (a % (W : Int))))) smd ne
      have hv : cutV (rc.map V.int) (some (a % (W : Int))) none ++ cutV (rc.map V.int) none (some (a % (W : Int))) = (rot (a % (W : Int)).toNat rc).map V.int := by
        rw [hleft, cut_from, cut_to, ← hleft]
        unfold rot
        rw [List.map_append, List.map_drop, List.map_take]
      have hRot : IntsAt (upd (upd (upd H' c (.lst (cutV (rc.map V.int) (some (a % (W : Int))) none))) d (.lst (cutV (rc.map V.int) none (some (a % (W : Int)))))) e (.lst (cutV (rc.map V.int) (some (a % (W : Int))) none ++ cutV (rc.map V.int) none (some (a % (W : Int)))))) e (rot (a % (W : Int)).toNat rc) := by
        show upd _ e _ e = _
        rw [upd_same, hv]
      have hM2 := same_rows sme hM
      have hIi2 := same_ints sme hIi
      have fr : fitRow cell img a b y = decide (rot (a % (W : Int)).toNat rc = ri) := by
        unfold fitRow
        rw [g.wide, g.high, List.getD_eq_getElem?_getD, erc, List.getD_eq_getElem?_getD, eri]
        rfl
      refine ⟨_, rfl, _, rfl, p2, _, (0 : Int) + y, .ref ai, rfl, rfl, SqL.of hM2.1, at_of (j := y) (by omega) (by rw [List.getElem?_map, hai]; rfl), dInts (rot (a % (W : Int)).toNat rc), dInts ri, ints_dp hRot, ints_dp hIi2, ints_shaped _, ints_shaped _, _, rfl, ?_⟩
      rw [ints_eqv, ← fr]
      cases hc : fitRow cell img a b y with
      | true =>
        refine iteF ⟨_, _, rfl, sm.trans sme, fun j hj => ?_⟩
        by_cases e1 : j = y
        · rw [e1]
          exact hc
        · exact hf j (by omega)
      | false =>
        refine iteT ?_
        have := q _ (sm.trans sme)
        rw [show fitsB cell img a b = false by
          unfold fitsB
          rw [g.high]
          apply Bool.eq_false_iff.mpr
          intro z
          rw [List.all_eq_true] at z
          rw [z y (List.mem_range.mpr hy)] at hc
          cases hc] at this
        exact this
    · rintro σ H' ⟨yv, rv, rfl, sm, hf⟩
      have := q _ sm
      rw [show fitsB cell img a b = true by
        unfold fitsB
        rw [g.high, List.all_eq_true]
        exact fun j hj => hf j (List.mem_range.mp hj)] at this
      exact this
end
end Kc

namespace Kc
/-! ### steps, and the least repeat -/
/-- the first of a range at which it holds -/
theorem first_is {n k : Nat} {f : Nat → Bool} (hk : k < n) (h : f k = true) (h0 : ∀ j, j < k → f j = false) : Rg.firstFrom n f = k := by
  unfold Rg.firstFrom
  have : (List.range n).find? f = some k := by
    rw [List.find?_range_eq_some]
    refine ⟨h, List.mem_range.mpr hk, fun j hj => ?_⟩
    rw [h0 j hj]; rfl
  rw [this]
  rfl
theorem mod_nat {W x : Nat} (h : x < W) : ((x : Int) % (W : Int)).toNat = x := by
  rw [Int.emod_eq_of_lt (by omega) (by omega)]
  simp
/-- rows are their own image -/
theorem img_self {rows : Rows} {W H : Nat} (g : Rect W H rows) : ImgOf W H 0 rows rows := by
  refine ⟨g, fun x y hx hy _ => ?_⟩
  have e1 : tX W 0 x y = x := mod_nat hx
  have e2 : tY H 0 x y = y := mod_nat hy
  rw [e1, e2]
/-- a step -/
def stp (rows : Rows) (a b : Int) : Bool := Rg.isSym (chartR rows) ⟨0, a, b⟩
theorem fits_step {rows : Rows} (g : Good rows) (a b : Int) : fitsB rows rows a b = stp rows a b :=
  fits_sym (m := 0) (cell := rows) g (by omega) rfl (img_self g.rect)
theorem stp_iff {rows : Rows} (g : Good rows) (a b : Int) : stp rows a b = true ↔ ∀ X Y, fld rows (X + a) (Y + b) = fld rows X Y := isSym_iff g (m := 0) (by omega) a b
theorem stp_w {rows : Rows} (g : Good rows) : stp rows (wide rows : Int) 0 = true := by
  rw [stp_iff g]
  intro X Y
  have := g.rect.rep.x Y X
  simpa using this
theorem stp_h {rows : Rows} (g : Good rows) : stp rows 0 (rows.length : Int) = true := by
  rw [stp_iff g]
  intro X Y
  have := g.rect.rep.y X Y
  simpa using this
/-- steps to the side taken off -/
theorem stp_mod {rows : Rows} (g : Good rows) {p : Nat} (hp : 1 ≤ p) (h : stp rows (p : Int) 0 = true) (a k : Nat) (ha : stp rows (a : Int) (k : Int) = true) : stp rows ((a % p : Nat) : Int) (k : Int) = true := by
  rw [stp_iff g] at h ha ⊢
  have per : ∀ Y, Per (fun X => fld rows X Y) p := fun Y X => by
    have := h X Y
    simpa using this
  intro X Y
  rw [← ha X Y]
  have := (per (Y + k)).mul ((a / p : Nat) : Int) (X + ((a % p : Nat) : Int))
  rw [← this]
  have e := Nat.mod_add_div a p
  congr 1
  have e2 : ((a % p : Nat) : Int) + (p : Int) * ((a / p : Nat) : Int) = (a : Int) := by exact_mod_cast e
  omega
/-- p, r and q -/
theorem least_p {rows : Rows} (g : Good rows) {p : Nat} (h1 : 1 ≤ p) (h2 : p ≤ wide rows) (h : stp rows (p : Int) 0 = true) (h0 : ∀ j : Nat, 1 ≤ j → j < p → stp rows (j : Int) 0 = false) : (Rg.leastOf (chartR rows)).p = p := by
  refine first_is (n := wide rows + 1) (by omega) ?_ fun j hj => ?_
  · show (decide (0 < p) && stp rows (p : Int) 0) = true
    rw [h, decide_eq_true (by omega)]; rfl
  · show (decide (0 < j) && stp rows (j : Int) 0) = false
    by_cases c : 0 < j
    · rw [h0 j c hj, Bool.and_false]
    · rw [decide_eq_false c, Bool.false_and]
/-- is there a step by k down, with any to the side -/
def down (rows : Rows) (p k : Nat) : Bool := (List.range p).any fun a => stp rows (a : Int) (k : Int)
theorem down_p {rows : Rows} (g : Good rows) {p : Nat} (h1 : 1 ≤ p) (h2 : p ≤ wide rows) (h : stp rows (p : Int) 0 = true) (k : Nat) : down rows p k = down rows (wide rows) k := by
  apply Bool.eq_iff_iff.mpr
  unfold down
  simp only [List.any_eq_true, List.mem_range]
  constructor
  · rintro ⟨a, ha, e⟩
    exact ⟨a, by omega, e⟩
  · rintro ⟨a, ha, e⟩
    exact ⟨a % p, Nat.mod_lt _ h1, stp_mod g h1 h a k e⟩
theorem down_false {rows : Rows} {p k : Nat} (h : ∀ a, a < p → stp rows (a : Int) (k : Int) = false) : down rows p k = false := by
  unfold down
  apply Bool.eq_false_iff.mpr
  intro z
  obtain ⟨a, ha, e⟩ := List.any_eq_true.mp z
  rw [h a (List.mem_range.mp ha)] at e
  cases e
theorem down_true {rows : Rows} {p k a : Nat} (ha : a < p) (h : stp rows (a : Int) (k : Int) = true) : down rows p k = true :=
  List.any_eq_true.mpr ⟨a, List.mem_range.mpr ha, h⟩
theorem least_r {rows : Rows} (g : Good rows) {p r : Nat} (h1 : 1 ≤ p) (h2 : p ≤ wide rows) (h : stp rows (p : Int) 0 = true) (r1 : 1 ≤ r) (r2 : r ≤ rows.length) (hr : down rows p r = true) (h0 : ∀ j : Nat, 1 ≤ j → j < r → down rows p j = false) : (Rg.leastOf (chartR rows)).r = r := by
  refine first_is (n := rows.length + 1) (by omega) ?_ fun j hj => ?_
  · show (decide (0 < r) && down rows (wide rows) r) = true
    rw [← down_p g h1 h2 h, hr, decide_eq_true (by omega)]; rfl
  · show (decide (0 < j) && down rows (wide rows) j) = false
    by_cases c : 0 < j
    · rw [← down_p g h1 h2 h, h0 j c hj, Bool.and_false]
    · rw [decide_eq_false c, Bool.false_and]
theorem least_q {rows : Rows} {q r : Nat} (hr : (Rg.leastOf (chartR rows)).r = r) (h2 : q < wide rows) (h : stp rows (q : Int) (r : Int) = true) (h0 : ∀ j : Nat, j < q → stp rows (j : Int) (r : Int) = false) : (Rg.leastOf (chartR rows)).q = q := by
  show Rg.firstFrom (wide rows) (fun a => stp rows (a : Int) (((Rg.leastOf (chartR rows)).r : Nat) : Int)) = q
  rw [hr]
  exact first_is h2 h h0
/-- the least step to the side is one, from 1 to the breadth -/
theorem p_facts {rows : Rows} (g : Good rows) : ∃ p : Nat, (Rg.leastOf (chartR rows)).p = p ∧ 1 ≤ p ∧ p ≤ wide rows ∧ stp rows (p : Int) 0 = true := by
  have key : ∀ n : Nat, n ≤ wide rows → (∀ j : Nat, 1 ≤ j → j < wide rows - n → stp rows (j : Int) 0 = false) → 1 ≤ wide rows - n → ∃ p : Nat, (Rg.leastOf (chartR rows)).p = p ∧ 1 ≤ p ∧ p ≤ wide rows ∧ stp rows (p : Int) 0 = true := by
    intro n
    induction n with
    | zero =>
      intro _ h0 h1
      exact ⟨wide rows, least_p g h1 (Nat.le_refl _) (stp_w g) (fun j a b => h0 j a (by omega)), h1, Nat.le_refl _, stp_w g⟩
    | succ n ih =>
      intro hn h0 h1
      cases e : stp rows ((wide rows - (n + 1) : Nat) : Int) 0 with
      | true => exact ⟨_, least_p g h1 (by omega) e h0, h1, by omega, e⟩
      | false =>
        refine ih (by omega) (fun j a b => ?_) (by omega)
        by_cases c : j = wide rows - (n + 1)
        · rw [c]; exact e
        · exact h0 j a (by omega)
  have := g.w1
  exact key (wide rows - 1) (by omega) (fun j a b => by omega) (by omega)
end Kc

namespace Kc
/-! ### the chart of the least repeat -/
theorem first_ex {n k : Nat} {f : Nat → Bool} (hk : k < n) (h : f k = true) : ∃ j, Rg.firstFrom n f = j ∧ j ≤ k ∧ f j = true ∧ ∀ i, i < j → f i = false := by
  unfold Rg.firstFrom
  cases e : (List.range n).find? f with
  | none =>
    have := List.find?_eq_none.mp e k (List.mem_range.mpr hk)
    exact absurd h this
  | some j =>
    have q := List.find?_range_eq_some.mp e
    refine ⟨j, rfl, ?_, q.1, fun i hi => ?_⟩
    · apply Nat.le_of_not_lt
      intro z
      have := q.2.2 k z
      rw [h] at this
      cases this
    · have := q.2.2 i hi
      simpa using this
theorem r_facts {rows : Rows} (g : Good rows) : ∃ r : Nat, (Rg.leastOf (chartR rows)).r = r ∧ 1 ≤ r ∧ r ≤ rows.length ∧ down rows (wide rows) r = true := by
  have hd : down rows (wide rows) rows.length = true := down_true (a := 0) (by have := g.w1; omega) (stp_h g)
  have h1 := g.h1
  obtain ⟨j, e, l, t, _⟩ := first_ex (n := rows.length + 1) (k := rows.length) (f := fun k => decide (0 < k) && down rows (wide rows) k) (by omega) (by rw [hd, decide_eq_true (by omega)]; rfl)
  simp only [Bool.and_eq_true, decide_eq_true_eq] at t
  exact ⟨j, e, by omega, l, t.2⟩
def byteInt (c : UInt8) : Int := (c.toNat : Int)
theorem byteInt_by8 {x : Int} (h : inB x) : byteInt (by8 x) = x := by
  unfold byteInt by8
  unfold inB at h
  simp only [UInt8.toNat_ofNat']
  omega
/-- the rows of the least repeat, and their text -/
def cellRows (rows : Rows) : Rows := (rows.take (Rg.leastOf (chartR rows)).r).map (List.take (Rg.leastOf (chartR rows)).p)
def textOf (rows : Rows) : List Int := rows.flatMap fun r => r ++ [10]
theorem range_map_getD {α β : Type} (l : List α) (d : α) (n : Nat) (h : n ≤ l.length) (f : α → β) : (List.range n).map (fun i => f (l.getD i d)) = (l.take n).map f := by
  apply List.ext_getElem
  · simp; omega
  · intro i h1 h2
    simp only [List.length_map, List.length_range] at h1
    simp only [List.getElem_map, List.getElem_range, List.getElem_take, List.getD_eq_getElem?_getD, List.getElem?_eq_getElem (show i < l.length by omega), Option.getD_some]
theorem cell_rows {rows : Rows} (g : Good rows) : (chartR rows).cell.rows = (cellRows rows).map (List.map colN) := by
  obtain ⟨p, ep, p1, p2, _⟩ := p_facts g
  obtain ⟨r, er, r1, r2, _⟩ := r_facts g
  unfold Rg.Chart.cell Rg.Chart.cutOut Rg.Chart.by_ cellRows
  rw [ep, er]
  simp only [Nat.zero_add]
  unfold Rg.Chart.at_ chartR
  simp only
  have e0 : ∀ y, y < r → ∀ x, x < p → ((rows.map (List.map colN)).getD y []).getD x 0 = colN ((rows.getD y []).getD x 0) := by
    intro y hy x hx
    obtain ⟨q, e, hq, _⟩ := g.rect.row (y := y) (by omega)
    simp only [List.getD_eq_getElem?_getD, List.getElem?_map, e, Option.map_some, Option.getD_some]
    rw [List.getElem?_eq_getElem (show x < q.length by omega)]
    rfl
  have e1 : (List.range r).map (fun y => (List.range p).map fun x => ((rows.map (List.map colN)).getD y []).getD x 0) = (List.range r).map (fun y => ((fun q : List Int => (q.take p).map colN) (rows.getD y []))) := by
    apply List.map_congr_left
    intro y hy
    have hy := List.mem_range.mp hy
    obtain ⟨q, e, hq, _⟩ := g.rect.row (y := y) (by omega)
    have eq : rows.getD y [] = q := by rw [List.getD_eq_getElem?_getD, e]; rfl
    have e2 : (List.range p).map (fun x => ((rows.map (List.map colN)).getD y []).getD x 0) = (List.range p).map fun x => colN (q.getD x 0) := by
      apply List.map_congr_left
      intro x hx
      rw [e0 y hy x (List.mem_range.mp hx), eq]
    rw [e2, eq]
    exact range_map_getD q 0 p (by omega) colN
  rw [e1, range_map_getD rows [] r r2 (fun q : List Int => (q.take p).map colN), List.map_map]
  rfl
theorem cellRows_mem {rows : Rows} (g : Good rows) : ∀ r ∈ cellRows rows, r.all isCol = true := by
  intro r hr
  unfold cellRows at hr
  obtain ⟨q, hq, rfl⟩ := List.mem_map.mp hr
  have := g.col q (List.mem_of_mem_take hq)
  rw [List.all_eq_true] at this ⊢
  exact fun x hx => this x (List.mem_of_mem_take hx)
theorem text_bytes (rows : Rows) (h : ∀ r ∈ rows, r.all isCol = true) : ((rows.map (List.map colN)).flatMap fun (r : List Nat) => r.map Rg.byteOf ++ [Rg.LF]).map byteInt = textOf rows := by
  unfold textOf
  induction rows with
  | nil => rfl
  | cons r l ih =>
    rw [List.map_cons, List.flatMap_cons, List.flatMap_cons, List.map_append, ih (fun r' hr' => h r' (by simp [hr']))]
    congr 1
    have hr := h r (by simp)
    rw [List.map_append, List.map_map, List.map_map]
    congr 1
    rw [List.all_eq_true] at hr
    conv => rhs; rw [← List.map_id r]
    apply List.map_congr_left
    intro x hx
    have c := hr x hx
    show byteInt (Rg.byteOf (colN x)) = x
    rw [(col_byte (isCol_inB c) (col_some (isCol_inB c) c)).1, byteInt_by8 (isCol_inB c)]
theorem cell_shown {rows : Rows} (g : Good rows) : RugBNeutral.shown (RugB.whole (chartR rows).cell) = ((textOf (cellRows rows)).length : Int) :: textOf (cellRows rows) := by
  have e : (chartR rows).cell.text.map byteInt = textOf (cellRows rows) := by
    unfold Rg.Chart.text
    rw [cell_rows g]
    exact text_bytes _ (cellRows_mem g)
  unfold RugB.whole RugBNeutral.shown
  simp only [List.nil_append]
  have e2 : (chartR rows).cell.text.map (fun (c : UInt8) => (c.toNat : Int)) = textOf (cellRows rows) := e
  rw [e2, ← e, List.length_map]
end Kc

namespace Kc
open PySem PySem.Spec PyProof.Rows L2
/-! ### the least step to the side -/
def spAcross : Sp := fun vs H Q _ => ∃ (p : Addr) (ps : List Addr) (rows : Rows), vs = [.ref p] ∧ RowsAt H p ps rows ∧ Good rows ∧ ∀ H', Same H H' → Q (.int (Rg.leastOf (chartR rows)).p) H'
section
variable {P : Program} {w : World} {K : PySem.W.Frag} {mg : Str → Option Value} {base : Heap}
theorem scAcross : FnScope ["rows", "width", "p"] ["rows"] (defScope sAcross) := ⟨rfl, rfl, rfl, by decide +kernel, rfl, by decide +kernel, by decide +kernel⟩
theorem ok_across {f fF : Addr} {fd fdF : FuncData} {k : Nat} (F : Fun K "least_step_across" "least_step_across" sAcross f fd)
    (GF : FnOk P w K mg base CX0 (k + 1) fF fdF ["tile", "image", "a", "b"] spFits) (kF : PySem.W.keepIn K (.ref fF) = true) (bF : Binds K fdF ["tile", "image", "a", "b"] []) (mF : mg "fits" = some (.ref fF))
    (ml : mg "len" = none) (mr : mg "range" = none) : FnOk P w K mg base CX0 (k + 2) f fd ["rows"] spAcross := by
  refine F.ok scAcross (fun vs H Q E h => ?_) (fun cdv A outer s H vs Q E hr h => ?_)
  · obtain ⟨p, ps, rows, rfl, _⟩ := h
    rfl
  · obtain ⟨p, ps, rows, rfl, hR, g, q⟩ := h
    refine ⟨_, pss_cons (ps_set (i := 1) scAcross.nd rfl (.inl rfl) (pe_callB call_len_seq (by rfl) ml PySem.boot_len (pa_cons (pe_ix ix_list (pv 0) pe_int (fun _ _ => rfl)) pa_nil)))
      (pss_cons (ps_for PassesOwn.never rfl (pi_range2 rfl mr (pa_cons pe_int (pa_cons (pv 1) pa_nil))) (pg_name (i := 2) scAcross.nd rfl (Or.inl rfl))
        (pss_one (ps_if (pt_val (pe_call GF hr (by rfl) mF kF bF .nil pass0 (pa_cons (pv 0) (pa_cons (pv 0) (pa_cons (pv 2) (pa_cons pe_int pa_nil))))))
          (pss_one (ps_ret (pv 2))) pss_nil)))
      (pss_one (ps_ret (pv 1)))), ?_⟩
    obtain ⟨r0, e0, hr0, _⟩ := g.rect.row (y := 0) g.h1
    obtain ⟨a0, ha0, hI0⟩ := hR.get e0
    have hrl : ((r0.map V.int).length : Int) = (wide rows : Int) := by rw [List.length_map, hr0]
    have hw := g.w2
    have hw1 := g.w1
    have hh := g.h2
    refine ⟨_, rfl, p, _, 0, .ref a0, rfl, rfl, SqL.of hR.1, atI_nat (j := 0) (by rw [List.getElem?_map, ha0]; rfl), a0, _, rfl, .inl (SqL.of hI0), ?_⟩
    rw [hrl]
    refine ⟨_, rfl, 1, wide rows, rfl, ⟨by decide, by decide, by omega, by omega⟩, ?_⟩
    rw [show ((wide rows : Int) - 1).toNat = wide rows - 1 by omega]
    refine for_range (lo := 1) (n := wide rows - 1) (fun i σ H' => ∃ (pv : Option V), σ = [some (.ref p), some (.int (wide rows)), pv] ∧ Same H H' ∧ ∀ j : Nat, 1 ≤ j → j < i + 1 → stp rows (j : Int) 0 = false)
      ⟨none, rfl, Same.refl H, fun j h1 h2 => by omega⟩ ?_ ?_
    · rintro i σ H' hi ⟨pv, rfl, sm, h0⟩
      refine ⟨_, rfl, _, rfl, _, rfl, p, ps, rows, p, ps, rows, wide rows, rows.length, (1 : Int) + i, 0, rfl, same_rows sm hR, same_rows sm hR, g.rect, g.rect, by omega, by omega, fun H4 sm4 => ⟨_, rfl, ?_⟩⟩
      rw [fits_step g, show (1 : Int) + (i : Int) = ((i + 1 : Nat) : Int) by omega]
      cases hs : stp rows ((i + 1 : Nat) : Int) 0 with
      | true =>
        refine iteT ⟨_, rfl, ?_⟩
        have := q H4 (sm.trans sm4)
        rw [least_p g (p := i + 1) (by omega) (by omega) hs h0] at this
        exact this
      | false =>
        refine iteF ⟨_, rfl, sm.trans sm4, fun j h1 h2 => ?_⟩
        by_cases c : j = i + 1
        · rw [c]; exact hs
        · exact h0 j h1 (by omega)
    · rintro σ H' ⟨pv, rfl, sm, h0⟩
      refine ⟨_, rfl, ?_⟩
      have := q H' sm
      rw [least_p g (p := wide rows) (by omega) (by omega) (stp_w g) (fun j h1 h2 => h0 j h1 (by omega))] at this
      exact this
end
end Kc

namespace Kc
open PySem PySem.Spec PyProof.Rows L2
/-! ### the least repeat -/
def spDown : Sp := fun vs H Q _ => ∃ (p : Addr) (ps : List Addr) (rows : Rows), vs = [.ref p, .int (Rg.leastOf (chartR rows)).p] ∧ RowsAt H p ps rows ∧ Good rows ∧
  ∀ H' d, Same H H' → H' d = some (.tup [.int (Rg.leastOf (chartR rows)).q, .int (Rg.leastOf (chartR rows)).r]) → Q (.ref d) H'
def spRepeat : Sp := fun vs H Q _ => ∃ (p : Addr) (ps : List Addr) (rows : Rows), vs = [.ref p] ∧ RowsAt H p ps rows ∧ Good rows ∧
  ∀ H' d, Same H H' → H' d = some (.tup [.int (Rg.leastOf (chartR rows)).p, .int (Rg.leastOf (chartR rows)).q, .int (Rg.leastOf (chartR rows)).r]) → Q (.ref d) H'
section
variable {P : Program} {w : World} {K : PySem.W.Frag} {mg : Str → Option Value} {base : Heap}
theorem scDown : FnScope ["rows", "p", "height", "r", "q"] ["rows", "p"] (defScope sDown) := ⟨rfl, rfl, rfl, by decide +kernel, rfl, by decide +kernel, by decide +kernel⟩
theorem ok_down {f fF : Addr} {fd fdF : FuncData} {k : Nat} (F : Fun K "least_step_down" "least_step_down" sDown f fd)
    (GF : FnOk P w K mg base CX0 (k + 1) fF fdF ["tile", "image", "a", "b"] spFits) (kF : PySem.W.keepIn K (.ref fF) = true) (bF : Binds K fdF ["tile", "image", "a", "b"] []) (mF : mg "fits" = some (.ref fF))
    (ml : mg "len" = none) (mr : mg "range" = none) : FnOk P w K mg base CX0 (k + 2) f fd ["rows", "p"] spDown := by
  refine F.ok scDown (fun vs H Q E h => ?_) (fun cdv A outer s H vs Q E hr h => ?_)
  · obtain ⟨p, ps, rows, rfl, _⟩ := h
    rfl
  · obtain ⟨p, ps, rows, rfl, hR, g, q⟩ := h
    refine ⟨_, pss_cons (ps_set (i := 2) scDown.nd rfl (.inl rfl) (pe_callB call_len_seq (by rfl) ml PySem.boot_len (pa_cons (pv 0) pa_nil)))
      (pss_cons (ps_for PassesOwn.never rfl (pi_range2 rfl mr (pa_cons pe_int (pa_cons (pv 2) pa_nil))) (pg_name (i := 3) scDown.nd rfl (Or.inl rfl))
        (pss_one (ps_for PassesOwn.never rfl (pi_range1 rfl mr (pa_cons (pv 1) pa_nil)) (pg_name (i := 4) scDown.nd rfl (Or.inl rfl))
          (pss_one (ps_if (pt_val (pe_call GF hr (by rfl) mF kF bF .nil pass0 (pa_cons (pv 0) (pa_cons (pv 0) (pa_cons (pv 4) (pa_cons (pv 3) pa_nil))))))
            (pss_one (ps_ret (pe_tup (pa_cons (pv 4) (pa_cons (pv 3) pa_nil))))) pss_nil)))))
      (pss_one (ps_ret (pe_tup (pa_cons pe_int (pa_cons (pv 2) pa_nil)))))), ?_⟩
    obtain ⟨W, eW, W1, W2, hW⟩ := p_facts g
    have hps : ((ps.map V.ref).length : Int) = (rows.length : Int) := by rw [List.length_map, hR.2.1]
    have hw := g.w2
    have hh := g.h2
    have hh1 := g.h1
    rw [eW]
    refine ⟨_, rfl, p, _, rfl, .inl (SqL.of hR.1), ?_⟩
    rw [hps]
    refine ⟨_, rfl, 1, rows.length, rfl, ⟨by decide, by decide, by omega, by omega⟩, ?_⟩
    rw [show ((rows.length : Int) - 1).toNat = rows.length - 1 by omega]
    refine for_range (lo := 1) (n := rows.length - 1) (fun i σ H' => ∃ (rv qv : Option V), σ = [some (.ref p), some (.int W), some (.int rows.length), rv, qv] ∧ Same H H' ∧ ∀ j : Nat, 1 ≤ j → j < i + 1 → down rows W j = false)
      ⟨none, none, rfl, Same.refl H, fun j h1 h2 => by omega⟩ ?_ ?_
    · rintro i σ H' hi ⟨rv, qv, rfl, sm, h0⟩
      refine ⟨_, rfl, W, rfl, by omega, by omega, ?_⟩
      rw [show (W : Int).toNat = W from Int.toNat_natCast _]
      refine for_range (lo := 0) (n := W) (fun a σ H' => ∃ (qv : Option V), σ = [some (.ref p), some (.int W), some (.int rows.length), some (.int ((i + 1 : Nat) : Int)), qv] ∧ Same H H' ∧ ∀ j : Nat, j < a → stp rows (j : Int) ((i + 1 : Nat) : Int) = false)
        ⟨qv, by rw [show (1 : Int) + (i : Int) = ((i + 1 : Nat) : Int) by omega]; rfl, sm, fun j h => by omega⟩ ?_ ?_
      · rintro a σ H3 ha ⟨qv, rfl, sm3, h1⟩
        refine ⟨_, rfl, _, rfl, _, rfl, _, rfl, p, ps, rows, p, ps, rows, wide rows, rows.length, (0 : Int) + a, ((i + 1 : Nat) : Int), rfl, same_rows sm3 hR, same_rows sm3 hR, g.rect, g.rect, by omega, by omega, fun H4 sm4 => ⟨_, rfl, ?_⟩⟩
        rw [fits_step g, Int.zero_add]
        cases hs : stp rows (a : Int) ((i + 1 : Nat) : Int) with
        | true =>
          refine iteT ⟨_, rfl, _, rfl, show 2 ≤ sizeLine by decide, fun d nd => ?_⟩
          have er : (Rg.leastOf (chartR rows)).r = i + 1 := least_r g W1 W2 hW (by omega) (by omega) (down_true ha hs) h0
          have eq : (Rg.leastOf (chartR rows)).q = a := least_q er (by omega) hs h1
          have := q _ d (same_new (o := .tup [.int a, .int ((i + 1 : Nat) : Int)]) (sm3.trans sm4) nd)
          rw [eq, er] at this
          exact this upd_same
        | false =>
          refine iteF ⟨_, rfl, sm3.trans sm4, fun j h2 => ?_⟩
          by_cases c : j = a
          · rw [c]; exact hs
          · exact h1 j (by omega)
      · rintro σ H3 ⟨qv, rfl, sm3, h1⟩
        refine ⟨_, _, rfl, sm3, fun j h2 h3 => ?_⟩
        by_cases c : j = i + 1
        · rw [c]; exact down_false h1
        · exact h0 j h2 (by omega)
    · rintro σ H' ⟨rv, qv, rfl, sm, h0⟩
      refine ⟨_, rfl, show 2 ≤ sizeLine by decide, fun d nd => ?_⟩
      have er : (Rg.leastOf (chartR rows)).r = rows.length := least_r g W1 W2 hW (by omega) (by omega) (down_true (a := 0) (by omega) (stp_h g)) (fun j h1 h2 => h0 j h1 (by omega))
      have eq : (Rg.leastOf (chartR rows)).q = 0 := least_q er (by omega) (stp_h g) (fun j h => by omega)
      have := q _ d (same_new (o := .tup [.int 0, .int rows.length]) sm nd)
      rw [eq, er] at this
      exact this upd_same
theorem scRepeat : FnScope ["rows", "p", "down"] ["rows"] (defScope sRepeat) := ⟨rfl, rfl, rfl, by decide +kernel, rfl, by decide +kernel, by decide +kernel⟩
theorem ok_repeat {f fA fD : Addr} {fd fdA fdD : FuncData} {k : Nat} (F : Fun K "least_repeat" "least_repeat" sRepeat f fd)
    (GA : FnOk P w K mg base CX0 (k + 1) fA fdA ["rows"] spAcross) (kA : PySem.W.keepIn K (.ref fA) = true) (bA : Binds K fdA ["rows"] []) (mA : mg "least_step_across" = some (.ref fA))
    (GD : FnOk P w K mg base CX0 (k + 1) fD fdD ["rows", "p"] spDown) (kD : PySem.W.keepIn K (.ref fD) = true) (bD : Binds K fdD ["rows", "p"] []) (mD : mg "least_step_down" = some (.ref fD)) : FnOk P w K mg base CX0 (k + 2) f fd ["rows"] spRepeat := by
  refine F.ok scRepeat (fun vs H Q E h => ?_) (fun cdv A outer s H vs Q E hr h => ?_)
  · obtain ⟨p, ps, rows, rfl, _⟩ := h
    rfl
  · obtain ⟨p, ps, rows, rfl, hR, g, q⟩ := h
    refine ⟨_, pss_cons (ps_set (i := 1) scRepeat.nd rfl (.inl rfl) (pe_call GA hr (by rfl) mA kA bA .nil pass0 (pa_cons (pv 0) pa_nil)))
      (pss_cons (ps_set (i := 2) scRepeat.nd rfl (.inl rfl) (pe_call GD hr (by rfl) mD kD bD .nil pass0 (pa_cons (pv 0) (pa_cons (pv 1) pa_nil))))
      (pss_one (ps_ret (pe_tup (pa_cons (pv 1) (pa_cons (pe_ix ix_tup (pv 2) pe_int (fun _ _ => rfl)) (pa_cons (pe_ix ix_tup (pv 2) pe_int (fun _ _ => rfl)) pa_nil))))))), ?_⟩
    refine ⟨_, rfl, p, ps, _, rfl, hR, g, fun H3 sm3 => ⟨_, rfl, _, rfl, p, ps, _, rfl, same_rows sm3 hR, g, fun H4 d sm4 hd => ?_⟩⟩
    refine ⟨_, rfl, _, rfl, d, _, 0, _, rfl, rfl, SqT.of hd, atI_nat (j := 0) rfl, _, rfl, d, _, 1, _, rfl, rfl, SqT.of hd, atI_nat (j := 1) rfl, show 3 ≤ sizeLine by decide, fun r nr => q _ r (same_new (sm3.trans sm4) nr) upd_same⟩
end
end Kc

namespace Kc
open PySem PySem.Spec PyProof.Rows L2
/-! ### what is due of cell -/
def cellAns (t : List Int) : List Int := if refusal t < 0 then [refusal t] else ((textOf (cellRows (splitRows t))).length : Int) :: textOf (cellRows (splitRows t))
theorem cell_eq (t : List Int) (h : ∀ x ∈ t, inB x) : PyWqbbcf.cell t = cellAns t := by
  show RugBNeutral.shown (RugB.ofChart (RugBNeutral.text t) _) = _
  rw [ofChart_eq t h]
  unfold cellAns
  by_cases c : refusal t < 0
  · rw [if_pos c, if_pos c]
  · rw [if_neg c, if_neg c]
    exact cell_shown (good_of (ref_ok c).2).1
theorem textOf_le : ∀ (l : Rows) (n : Nat), (∀ r ∈ l, r.length ≤ n) → (textOf l).length ≤ l.length * (n + 1)
  | [], n, _ => by simp [textOf]
  | r :: l, n, h => by
    have ih := textOf_le l n fun r' hr' => h r' (by simp [hr'])
    have h1 := h r (by simp)
    unfold textOf at ih ⊢
    rw [List.flatMap_cons, List.length_append, List.length_append, show (r :: l).length * (n + 1) = l.length * (n + 1) + (n + 1) from Nat.succ_mul _ _]
    show r.length + 1 + _ ≤ _
    omega
theorem textOf_add (l : Rows) (r : List Int) : textOf (l ++ [r]) = textOf l ++ (r ++ [10]) := by
  unfold textOf
  rw [List.flatMap_append]
  simp
def spCell (K : PySem.W.Frag) : Sp := fun vs H Q _ => ∃ (ad : Addr) (t : List Int), vs = [.ref ad] ∧ SqL K H ad (t.map V.int) ∧ t.length ≤ 70000 ∧ ∀ H' p, H' p = some (.lst ((cellAns t).map V.int)) → Q (.ref p) H'
section
variable {P : Program} {w : World} {K : PySem.W.Frag} {mg : Str → Option Value} {base : Heap}
theorem scCell : FnScope ["t", "refusal", "rows", "repeat", "written", "row"] ["t"] (defScope sCell) := ⟨rfl, rfl, rfl, by decide +kernel, rfl, by decide +kernel, by decide +kernel⟩
theorem ok_cell {f fR fS fP : Addr} {fd fdR fdS fdP : FuncData} {k : Nat} {t1 : Tok} (F : Fun K "cell" "cell" sCell f fd)
    (GR : FnOk P w K mg base CX0 (k + 1) fR fdR ["t"] (spRefusal K)) (kR : PySem.W.keepIn K (.ref fR) = true) (bR : Binds K fdR ["t"] []) (mR : mg "text_refusal" = some (.ref fR))
    (GS : FnOk P w K mg base CX0 (k + 1) fS fdS ["t"] (spSplit K)) (kS : PySem.W.keepIn K (.ref fS) = true) (bS : Binds K fdS ["t"] []) (mS : mg "split_rows" = some (.ref fS))
    (GP : FnOk P w K mg base CX0 (k + 1) fP fdP ["rows"] spRepeat) (kP : PySem.W.keepIn K (.ref fP) = true) (bP : Binds K fdP ["rows"] []) (mP : mg "least_repeat" = some (.ref fP))
    (ml : mg "len" = none) (mE : mg "ROW_END" = some (.int 10 t1)) : FnOk P w K mg base CX0 (k + 2) f fd ["t"] (spCell K) := by
  refine F.ok scCell (fun vs H Q E h => ?_) (fun cdv A outer s H vs Q E hr h => ?_)
  · obtain ⟨ad, t, rfl, _⟩ := h
    rfl
  · obtain ⟨ad, t, rfl, hS, hlen, q⟩ := h
    refine ⟨_, pss_cons (ps_set (i := 1) scCell.nd rfl (.inl rfl) (pe_call GR hr (by rfl) mR kR bR .nil pass0 (pa_cons (pv 0) pa_nil)))
      (pss_cons (ps_if (pt_cmpR op_lt (pv 1) pe_int (nomark _)) (pss_one (ps_ret (pe_lst (pa_cons (pv 1) pa_nil)))) pss_nil)
      (pss_cons (ps_set (i := 2) scCell.nd rfl (.inl rfl) (pe_call GS hr (by rfl) mS kS bS .nil pass0 (pa_cons (pv 0) pa_nil)))
      (pss_cons (ps_set (i := 3) scCell.nd rfl (.inl rfl) (pe_call GP hr (by rfl) mP kP bP .nil pass0 (pa_cons (pv 2) pa_nil)))
      (pss_cons (ps_set (i := 4) scCell.nd rfl (.inl rfl) (pe_lst pa_nil))
      (pss_cons (ps_for PassesOwn.never rfl (pi_list (pe_slice sl_list (pv 2) po_none (po_some (pe_ix ix_tup (pv 3) pe_int (fun _ _ => rfl))))) (pg_name (i := 5) scCell.nd rfl (Or.inl rfl))
        (pss_one (ps_expr (pe_bm PySem.F.plainAttrs_list PySem.F.slot_list_extend PySem.F.type_list_extend mt_extend (pv 4)
          (pa_cons (pe_op op_cat (pe_slice sl_list (pv 5) po_none (po_some (pe_ix ix_tup (pv 3) pe_int (fun _ _ => rfl)))) (pe_lst (pa_cons (pe_glob rfl mE (rel_int _ _)) pa_nil))) pa_nil)))))
      (pss_one (ps_ret (pe_op op_cat (pe_lst (pa_cons (pe_callB call_len_seq (by rfl) ml PySem.boot_len (pa_cons (pv 4) pa_nil)) pa_nil)) (pv 4))))))))), ?_⟩
    refine ⟨_, rfl, ad, t, rfl, hS, hlen, fun H1 sm1 => ?_⟩
    refine ⟨_, rfl, refusal t, 0, rfl, rfl, _, rfl, ite2 (fun e => ?_) (fun e => ?_)⟩
    · have e1 : refusal t < 0 := of_decide_eq_true e
      refine ⟨_, rfl, show 1 ≤ sizeLine by decide, fun p np => q _ p ?_⟩
      unfold cellAns
      rw [upd_same, if_pos e1]
      rfl
    · have e1 : ¬ refusal t < 0 := fun z => e (decide_eq_true z)
      obtain ⟨c1, c2⟩ := ref_ok e1
      obtain ⟨g, hnil⟩ := good_of c2
      refine ⟨_, rfl, ad, t, rfl, sm1.seq hS, hlen, fun H2 p ps sm2 hR => ⟨_, rfl, p, ps, _, rfl, hR, g, fun H3 d sm3 hd => ?_⟩⟩
      have ans : cellAns t = ((textOf (cellRows (splitRows t))).length : Int) :: textOf (cellRows (splitRows t)) := by
        unfold cellAns
        rw [if_neg e1]
      obtain ⟨P0, eP, p1, p2, _⟩ := p_facts g
      obtain ⟨R0, eR, r1, r2, _⟩ := r_facts g
      generalize hrows : splitRows t = rows at *
      have hw := g.w2
      have hh := g.h2
      have hcr : cellRows rows = (rows.take R0).map (List.take P0) := by
        unfold cellRows
        rw [eP, eR]
      have hcl : (cellRows rows).length = R0 := by
        rw [hcr, List.length_map, List.length_take]
        omega
      have hcm : ∀ r ∈ cellRows rows, r.length ≤ 512 := by
        intro r hr
        rw [hcr] at hr
        obtain ⟨z, hz, rfl⟩ := List.mem_map.mp hr
        have := g.len z (List.mem_of_mem_take hz)
        rw [List.length_take]
        omega
      have hle : ∀ i, (textOf ((cellRows rows).take i)).length ≤ 262656 := fun i => by
        have h1 := textOf_le ((cellRows rows).take i) 512 fun r hr => hcm r (List.mem_of_mem_take hr)
        have h2 : ((cellRows rows).take i).length ≤ 512 := by
          rw [List.length_take]
          omega
        omega
      rw [eP, eR] at hd
      refine ⟨Nat.zero_le _, fun D nD => ?_⟩
      have hd1 : upd H3 D (.lst []) d = _ := same_upd nD _ _ hd
      have hR1 : RowsAt (upd H3 D (.lst [])) p ps rows := same_rows (same_upd nD) (same_rows sm3 hR)
      refine ⟨_, rfl, _, rfl, d, _, 2, _, rfl, rfl, SqT.of hd1, atI_nat (j := 2) rfl, R0, rfl, p, _, rfl, SqL.of hR1.1, fun c nc => ?_⟩
      have Dc : D ≠ c := ne_of_none upd_same nc
      have ncH : H3 c = none := by rwa [upd_ne (Ne.symm Dc)] at nc
      have hcut : cutV (ps.map V.ref) none (some (R0 : Int)) = (ps.take R0).map V.ref := by rw [cut_to, List.map_take]
      have hc : upd (upd H3 D (.lst [])) c (.lst (cutV (ps.map V.ref) none (some (R0 : Int)))) c = some (.lst ((ps.take R0).map V.ref)) := by rw [upd_same, hcut]
      refine ⟨c, rfl, ⟨_, SqL.of hc⟩, for_list (K := K) (a := c) (xs := (ps.take R0).map V.ref) (fun i σ H' => ∃ (rv : Option V), σ = [some (.ref ad), some (.int (refusal t)), some (.ref p), some (.ref d), some (.ref D), rv] ∧ Same H3 H' ∧ H' c = some (.lst ((ps.take R0).map V.ref)) ∧ IntsAt H' D (textOf ((cellRows rows).take i)))
        ⟨none, rfl, same_put (same_upd nD) ncH, hc, ?_⟩ (fun i σ H' _ ⟨_, _, _, hc', _⟩ => SqL.of hc') ?_ ?_⟩
      · show upd _ c _ D = _
        rw [upd_ne Dc, upd_same]
        rfl
      · rintro i x σ H' hx ⟨rv, rfl, sm, hc', hD⟩
        obtain ⟨a, ha, rfl⟩ := map_get hx
        have hi : i < R0 := by
          have := (List.getElem?_eq_some_iff.mp ha).1
          rw [List.length_take] at this
          omega
        rw [List.getElem?_take_of_lt hi] at ha
        obtain ⟨r, er, hrl, _⟩ := g.rect.row (y := i) (by omega)
        have hI : IntsAt H' a r := same_ints (sm3.trans sm) (hR.2.2 i a r ha er)
        have hd' : H' d = _ := sm _ _ hd
        have hci : (cellRows rows)[i]? = some (r.take P0) := by
          rw [hcr, List.getElem?_map, List.getElem?_take_of_lt hi, er]
          rfl
        refine ⟨.ref D, rfl, .inl ⟨rfl, _, SqL.of hD⟩, _, rfl, _, rfl, d, _, 0, _, rfl, rfl, SqT.of hd', atI_nat (j := 0) rfl, P0, rfl, a, _, rfl, SqL.of hI, fun e ne => ?_⟩
        have hv : cutV (r.map V.int) none (some (P0 : Int)) = (r.take P0).map V.int := by rw [cut_to, List.map_take]
        rw [hv]
        refine ⟨show 1 ≤ sizeLine by decide, fun f2 nf => ?_⟩
        have ef : e ≠ f2 := ne_of_none upd_same nf
        have lt : (r.take P0).length ≤ 512 := hcm _ (List.mem_of_getElem? hci)
        refine ⟨e, f2, _, _, rfl, rfl, by rw [upd_ne ef, upd_same], upd_same, ?_, fun u nu => ?_⟩
        · rw [List.length_map]
          exact line_le (by show (r.take P0).length + 1 ≤ _; omega)
        have De : D ≠ e := ne_of_none hD ne
        have Df : D ≠ f2 := ne_of_none (show upd H' e _ D = _ by rw [upd_ne De]; exact hD) nf
        have ce : c ≠ e := ne_of_none hc' ne
        have cf : c ≠ f2 := ne_of_none (show upd H' e _ c = _ by rw [upd_ne ce]; exact hc') nf
        have Du : D ≠ u := ne_of_none (show upd (upd H' e _) f2 _ D = _ by rw [upd_ne Df, upd_ne De]; exact hD) nu
        have cu : c ≠ u := ne_of_none (show upd (upd H' e _) f2 _ c = _ by rw [upd_ne cf, upd_ne ce]; exact hc') nu
        refine ⟨D, u, _, _, rfl, rfl, by rw [upd_ne Du, upd_ne Df, upd_ne De]; exact hD, upd_same, ?_, _, rfl, same_put (same_new (same_new (same_new sm ne) nf) nu) nD, ?_, ?_⟩
        · have := hle i
          rw [List.length_map, List.length_append, List.length_map]
          exact line_le (by show _ + ((r.take P0).length + 1) ≤ _; omega)
        · rw [upd_ne (Ne.symm Dc), upd_ne cu, upd_ne cf, upd_ne ce]
          exact hc'
        · show upd _ D _ D = _
          rw [upd_same, take_succ hci, textOf_add, List.map_append, List.map_append]
          rfl
      · rintro σ H' ⟨rv, rfl, sm, hc', hD⟩
        rw [List.length_map, List.length_take, hR.2.1, Nat.min_eq_left (by omega), List.take_of_length_le (by omega)] at hD
        refine ⟨_, rfl, D, _, rfl, .inl (SqL.of hD), show 1 ≤ sizeLine by decide, fun l nl => ?_⟩
        have Dl : D ≠ l := ne_of_none hD nl
        refine ⟨_, rfl, l, D, _, _, rfl, rfl, upd_same, by rw [upd_ne Dl]; exact hD, ?_, fun u nu => q _ u ?_⟩
        · have := hle R0
          rw [List.take_of_length_le (by omega)] at this
          rw [List.length_map]
          exact line_le (by show 1 + _ ≤ _; omega)
        · rw [upd_same, ans, List.length_map]
          rfl
end
end Kc

namespace Kc
open PySem PySem.Spec PyProof.Rows L2
theorem all_mk {P : Program} {w : World} {K : PySem.W.Frag} {h : Heap} {mg : Str → Option Value} {fa : Addr} (X : K.In h) (G : h.Ns mainGlobals mg) (hfa : mg "cell" = some (.ref fa))
    {f_cell : Addr} {od_cell an_cell : Option Addr} {sl_cell : Array (Option Value)} {oc_cell kV_cell dc_cell pm_cell cd_cell ct_cell : Value}
    (a_cell : PySem.W.nsIn K mainGlobals "cell" = some (some (.ref f_cell)))
    (l_cell : K.lookup f_cell = some ⟨oc_cell, od_cell, .func (PySem.W.fnOf "cell" "cell" (defArgs sCell) (defBody sCell) (defScope sCell) .none kV_cell dc_cell pm_cell an_cell cd_cell ct_cell), sl_cell⟩)
    (c_cell : PySem.W.codeIn K cd_cell "cell" = true) (k_cell : PySem.W.keepIn K (.ref f_cell) = true)
    {f_text_refusal : Addr} {od_text_refusal an_text_refusal : Option Addr} {sl_text_refusal : Array (Option Value)} {oc_text_refusal kV_text_refusal dc_text_refusal pm_text_refusal cd_text_refusal ct_text_refusal : Value}
    (a_text_refusal : PySem.W.nsIn K mainGlobals "text_refusal" = some (some (.ref f_text_refusal)))
    (l_text_refusal : K.lookup f_text_refusal = some ⟨oc_text_refusal, od_text_refusal, .func (PySem.W.fnOf "text_refusal" "text_refusal" (defArgs sRefusal) (defBody sRefusal) (defScope sRefusal) .none kV_text_refusal dc_text_refusal pm_text_refusal an_text_refusal cd_text_refusal ct_text_refusal), sl_text_refusal⟩)
    (c_text_refusal : PySem.W.codeIn K cd_text_refusal "text_refusal" = true) (k_text_refusal : PySem.W.keepIn K (.ref f_text_refusal) = true)
    {f_split_rows : Addr} {od_split_rows an_split_rows : Option Addr} {sl_split_rows : Array (Option Value)} {oc_split_rows kV_split_rows dc_split_rows pm_split_rows cd_split_rows ct_split_rows : Value}
    (a_split_rows : PySem.W.nsIn K mainGlobals "split_rows" = some (some (.ref f_split_rows)))
    (l_split_rows : K.lookup f_split_rows = some ⟨oc_split_rows, od_split_rows, .func (PySem.W.fnOf "split_rows" "split_rows" (defArgs sSplit) (defBody sSplit) (defScope sSplit) .none kV_split_rows dc_split_rows pm_split_rows an_split_rows cd_split_rows ct_split_rows), sl_split_rows⟩)
    (c_split_rows : PySem.W.codeIn K cd_split_rows "split_rows" = true) (k_split_rows : PySem.W.keepIn K (.ref f_split_rows) = true)
    {f_is_chart : Addr} {od_is_chart an_is_chart : Option Addr} {sl_is_chart : Array (Option Value)} {oc_is_chart kV_is_chart dc_is_chart pm_is_chart cd_is_chart ct_is_chart : Value}
    (a_is_chart : PySem.W.nsIn K mainGlobals "is_chart" = some (some (.ref f_is_chart)))
    (l_is_chart : K.lookup f_is_chart = some ⟨oc_is_chart, od_is_chart, .func (PySem.W.fnOf "is_chart" "is_chart" (defArgs sIsChart) (defBody sIsChart) (defScope sIsChart) .none kV_is_chart dc_is_chart pm_is_chart an_is_chart cd_is_chart ct_is_chart), sl_is_chart⟩)
    (c_is_chart : PySem.W.codeIn K cd_is_chart "is_chart" = true) (k_is_chart : PySem.W.keepIn K (.ref f_is_chart) = true)
    {f_is_chart_row : Addr} {od_is_chart_row an_is_chart_row : Option Addr} {sl_is_chart_row : Array (Option Value)} {oc_is_chart_row kV_is_chart_row dc_is_chart_row pm_is_chart_row cd_is_chart_row ct_is_chart_row : Value}
    (a_is_chart_row : PySem.W.nsIn K mainGlobals "is_chart_row" = some (some (.ref f_is_chart_row)))
    (l_is_chart_row : K.lookup f_is_chart_row = some ⟨oc_is_chart_row, od_is_chart_row, .func (PySem.W.fnOf "is_chart_row" "is_chart_row" (defArgs sChartRow) (defBody sChartRow) (defScope sChartRow) .none kV_is_chart_row dc_is_chart_row pm_is_chart_row an_is_chart_row cd_is_chart_row ct_is_chart_row), sl_is_chart_row⟩)
    (c_is_chart_row : PySem.W.codeIn K cd_is_chart_row "is_chart_row" = true) (k_is_chart_row : PySem.W.keepIn K (.ref f_is_chart_row) = true)
    {f_is_colour : Addr} {od_is_colour an_is_colour : Option Addr} {sl_is_colour : Array (Option Value)} {oc_is_colour kV_is_colour dc_is_colour pm_is_colour cd_is_colour ct_is_colour : Value}
    (a_is_colour : PySem.W.nsIn K mainGlobals "is_colour" = some (some (.ref f_is_colour)))
    (l_is_colour : K.lookup f_is_colour = some ⟨oc_is_colour, od_is_colour, .func (PySem.W.fnOf "is_colour" "is_colour" (defArgs sColour) (defBody sColour) (defScope sColour) .none kV_is_colour dc_is_colour pm_is_colour an_is_colour cd_is_colour ct_is_colour), sl_is_colour⟩)
    (c_is_colour : PySem.W.codeIn K cd_is_colour "is_colour" = true) (k_is_colour : PySem.W.keepIn K (.ref f_is_colour) = true)
    {f_least_repeat : Addr} {od_least_repeat an_least_repeat : Option Addr} {sl_least_repeat : Array (Option Value)} {oc_least_repeat kV_least_repeat dc_least_repeat pm_least_repeat cd_least_repeat ct_least_repeat : Value}
    (a_least_repeat : PySem.W.nsIn K mainGlobals "least_repeat" = some (some (.ref f_least_repeat)))
    (l_least_repeat : K.lookup f_least_repeat = some ⟨oc_least_repeat, od_least_repeat, .func (PySem.W.fnOf "least_repeat" "least_repeat" (defArgs sRepeat) (defBody sRepeat) (defScope sRepeat) .none kV_least_repeat dc_least_repeat pm_least_repeat an_least_repeat cd_least_repeat ct_least_repeat), sl_least_repeat⟩)
    (c_least_repeat : PySem.W.codeIn K cd_least_repeat "least_repeat" = true) (k_least_repeat : PySem.W.keepIn K (.ref f_least_repeat) = true)
    {f_least_step_across : Addr} {od_least_step_across an_least_step_across : Option Addr} {sl_least_step_across : Array (Option Value)} {oc_least_step_across kV_least_step_across dc_least_step_across pm_least_step_across cd_least_step_across ct_least_step_across : Value}
    (a_least_step_across : PySem.W.nsIn K mainGlobals "least_step_across" = some (some (.ref f_least_step_across)))
    (l_least_step_across : K.lookup f_least_step_across = some ⟨oc_least_step_across, od_least_step_across, .func (PySem.W.fnOf "least_step_across" "least_step_across" (defArgs sAcross) (defBody sAcross) (defScope sAcross) .none kV_least_step_across dc_least_step_across pm_least_step_across an_least_step_across cd_least_step_across ct_least_step_across), sl_least_step_across⟩)
    (c_least_step_across : PySem.W.codeIn K cd_least_step_across "least_step_across" = true) (k_least_step_across : PySem.W.keepIn K (.ref f_least_step_across) = true)
    {f_least_step_down : Addr} {od_least_step_down an_least_step_down : Option Addr} {sl_least_step_down : Array (Option Value)} {oc_least_step_down kV_least_step_down dc_least_step_down pm_least_step_down cd_least_step_down ct_least_step_down : Value}
    (a_least_step_down : PySem.W.nsIn K mainGlobals "least_step_down" = some (some (.ref f_least_step_down)))
    (l_least_step_down : K.lookup f_least_step_down = some ⟨oc_least_step_down, od_least_step_down, .func (PySem.W.fnOf "least_step_down" "least_step_down" (defArgs sDown) (defBody sDown) (defScope sDown) .none kV_least_step_down dc_least_step_down pm_least_step_down an_least_step_down cd_least_step_down ct_least_step_down), sl_least_step_down⟩)
    (c_least_step_down : PySem.W.codeIn K cd_least_step_down "least_step_down" = true) (k_least_step_down : PySem.W.keepIn K (.ref f_least_step_down) = true)
    {f_fits : Addr} {od_fits an_fits : Option Addr} {sl_fits : Array (Option Value)} {oc_fits kV_fits dc_fits pm_fits cd_fits ct_fits : Value}
    (a_fits : PySem.W.nsIn K mainGlobals "fits" = some (some (.ref f_fits)))
    (l_fits : K.lookup f_fits = some ⟨oc_fits, od_fits, .func (PySem.W.fnOf "fits" "fits" (defArgs sFits) (defBody sFits) (defScope sFits) .none kV_fits dc_fits pm_fits an_fits cd_fits ct_fits), sl_fits⟩)
    (c_fits : PySem.W.codeIn K cd_fits "fits" = true) (k_fits : PySem.W.keepIn K (.ref f_fits) = true)
    {t_LONGEST_TEXT : Tok} (g_LONGEST_TEXT : PySem.W.nsIn K mainGlobals "LONGEST_TEXT" = some (some (.int 66048 t_LONGEST_TEXT)))
    {t_MOST_KNOTS : Tok} (g_MOST_KNOTS : PySem.W.nsIn K mainGlobals "MOST_KNOTS" = some (some (.int 65536 t_MOST_KNOTS)))
    {t_WIDEST : Tok} (g_WIDEST : PySem.W.nsIn K mainGlobals "WIDEST" = some (some (.int 512 t_WIDEST)))
    {t_HIGHEST : Tok} (g_HIGHEST : PySem.W.nsIn K mainGlobals "HIGHEST" = some (some (.int 512 t_HIGHEST)))
    {t_ROW_END : Tok} (g_ROW_END : PySem.W.nsIn K mainGlobals "ROW_END" = some (some (.int 10 t_ROW_END)))
    {t_REFUSED_LONG_TEXT : Tok} (g_REFUSED_LONG_TEXT : PySem.W.nsIn K mainGlobals "REFUSED_LONG_TEXT" = some (some (.int (-2) t_REFUSED_LONG_TEXT)))
    {t_REFUSED_NO_CHART : Tok} (g_REFUSED_NO_CHART : PySem.W.nsIn K mainGlobals "REFUSED_NO_CHART" = some (some (.int (-6) t_REFUSED_NO_CHART)))
    (y_len : PySem.W.nsIn K mainGlobals "len" = some none)
    (y_range : PySem.W.nsIn K mainGlobals "range" = some none)
    (y_all : PySem.W.nsIn K mainGlobals "all" = some none)
    : ∃ fd : FuncData, (∀ (s : Shared) (us : List Value), us.length = (["t"] : List Str).length → BindsTo s fd ⟨us, []⟩ ((["t"] : List Str).zip us)) ∧ ∀ base : Heap, K.In base → base.Ns mainGlobals mg → FnOk P w K mg base CX0 7 fa fd ["t"] (spCell K) := by
  have e := hfa.symm.trans (PySem.W.mg_of X G a_cell)
  cases e
  have F_cell := fun_mk (st := sCell) l_cell c_cell k_cell
  have b_cell := F_cell.binds (ps := ["t"]) fun _ _ _ _ _ _ us hl => match us, hl with | [_], _ => rfl
  have m_cell := PySem.W.mg_of X G a_cell
  have F_text_refusal := fun_mk (st := sRefusal) l_text_refusal c_text_refusal k_text_refusal
  have b_text_refusal := F_text_refusal.binds (ps := ["t"]) fun _ _ _ _ _ _ us hl => match us, hl with | [_], _ => rfl
  have m_text_refusal := PySem.W.mg_of X G a_text_refusal
  have F_split_rows := fun_mk (st := sSplit) l_split_rows c_split_rows k_split_rows
  have b_split_rows := F_split_rows.binds (ps := ["t"]) fun _ _ _ _ _ _ us hl => match us, hl with | [_], _ => rfl
  have m_split_rows := PySem.W.mg_of X G a_split_rows
  have F_is_chart := fun_mk (st := sIsChart) l_is_chart c_is_chart k_is_chart
  have b_is_chart := F_is_chart.binds (ps := ["rows"]) fun _ _ _ _ _ _ us hl => match us, hl with | [_], _ => rfl
  have m_is_chart := PySem.W.mg_of X G a_is_chart
  have F_is_chart_row := fun_mk (st := sChartRow) l_is_chart_row c_is_chart_row k_is_chart_row
  have b_is_chart_row := F_is_chart_row.binds (ps := ["row", "width"]) fun _ _ _ _ _ _ us hl => match us, hl with | [_, _], _ => rfl
  have m_is_chart_row := PySem.W.mg_of X G a_is_chart_row
  have F_is_colour := fun_mk (st := sColour) l_is_colour c_is_colour k_is_colour
  have b_is_colour := F_is_colour.binds (ps := ["byte"]) fun _ _ _ _ _ _ us hl => match us, hl with | [_], _ => rfl
  have m_is_colour := PySem.W.mg_of X G a_is_colour
  have F_least_repeat := fun_mk (st := sRepeat) l_least_repeat c_least_repeat k_least_repeat
  have b_least_repeat := F_least_repeat.binds (ps := ["rows"]) fun _ _ _ _ _ _ us hl => match us, hl with | [_], _ => rfl
  have m_least_repeat := PySem.W.mg_of X G a_least_repeat
  have F_least_step_across := fun_mk (st := sAcross) l_least_step_across c_least_step_across k_least_step_across
  have b_least_step_across := F_least_step_across.binds (ps := ["rows"]) fun _ _ _ _ _ _ us hl => match us, hl with | [_], _ => rfl
  have m_least_step_across := PySem.W.mg_of X G a_least_step_across
  have F_least_step_down := fun_mk (st := sDown) l_least_step_down c_least_step_down k_least_step_down
  have b_least_step_down := F_least_step_down.binds (ps := ["rows", "p"]) fun _ _ _ _ _ _ us hl => match us, hl with | [_, _], _ => rfl
  have m_least_step_down := PySem.W.mg_of X G a_least_step_down
  have F_fits := fun_mk (st := sFits) l_fits c_fits k_fits
  have b_fits := F_fits.binds (ps := ["tile", "image", "a", "b"]) fun _ _ _ _ _ _ us hl => match us, hl with | [_, _, _, _], _ => rfl
  have m_fits := PySem.W.mg_of X G a_fits
  have m_LONGEST_TEXT := PySem.W.mg_of X G g_LONGEST_TEXT
  have m_MOST_KNOTS := PySem.W.mg_of X G g_MOST_KNOTS
  have m_WIDEST := PySem.W.mg_of X G g_WIDEST
  have m_HIGHEST := PySem.W.mg_of X G g_HIGHEST
  have m_ROW_END := PySem.W.mg_of X G g_ROW_END
  have m_REFUSED_LONG_TEXT := PySem.W.mg_of X G g_REFUSED_LONG_TEXT
  have m_REFUSED_NO_CHART := PySem.W.mg_of X G g_REFUSED_NO_CHART
  have z_len := PySem.W.mg_none_of X G y_len
  have z_range := PySem.W.mg_none_of X G y_range
  have z_all := PySem.W.mg_none_of X G y_all
  refine ⟨PySem.W.fnOf "cell" "cell" (defArgs sCell) (defBody sCell) (defScope sCell) .none kV_cell dc_cell pm_cell an_cell cd_cell ct_cell, fun s us hu => match us, hu with | [_], _ => .of_eq rfl, fun base _ _ => ?_⟩
  · have G1 := ok_colour (P := P) (w := w) (K := K) (mg := mg) (base := base) (k := 2) F_is_colour
    have G2 := ok_chartRow (k := 2) F_is_chart_row G1 k_is_colour b_is_colour m_is_colour z_len z_all
    have G3 := ok_isChart (k := 3) F_is_chart G2 k_is_chart_row b_is_chart_row m_is_chart_row z_len z_all m_WIDEST m_HIGHEST m_MOST_KNOTS
    have GS3 := ok_split (P := P) (w := w) (K := K) (mg := mg) (base := base) (k := 4) F_split_rows m_ROW_END
    have GS := ok_split (P := P) (w := w) (K := K) (mg := mg) (base := base) (k := 5) F_split_rows m_ROW_END
    have GR := ok_refusal (k := 4) F_text_refusal G3 k_is_chart b_is_chart m_is_chart GS3 k_split_rows b_split_rows m_split_rows z_len m_ROW_END m_LONGEST_TEXT m_REFUSED_LONG_TEXT m_REFUSED_NO_CHART
    have GF := ok_fits (P := P) (w := w) (K := K) (mg := mg) (base := base) (k := 3) F_fits z_len z_range
    have GA := ok_across (k := 3) F_least_step_across GF k_fits b_fits m_fits z_len z_range
    have GD := ok_down (k := 3) F_least_step_down GF k_fits b_fits m_fits z_len z_range
    have GP := ok_repeat (k := 4) F_least_repeat GA k_least_step_across b_least_step_across m_least_step_across GD k_least_step_down b_least_step_down m_least_step_down
    exact ok_cell (k := 5) F_cell GR k_text_refusal b_text_refusal m_text_refusal GS k_split_rows b_split_rows m_split_rows GP k_least_repeat b_least_repeat m_least_repeat z_len m_ROW_END
end Kc
open PySem PySem.W PyProof.Rows
set_option maxRecDepth 100000 in
set_option maxHeartbeats 8000000 in
theorem PySem.Challenge.cw_knotcharts_s05_cell_holds : PySem.Challenge.rw_knotcharts_s05_cell.Holds := by
  w_on; k_headS; (case hw => exact ⟨[.list []], by decide +kernel, by decide +kernel⟩)
  k_fillS
  refine L2.walk_specK (r := PySem.Challenge.rw_knotcharts_s05_cell) (k := 7) (CX := L2.CX0) (ps := ["t"]) (sp := Kc.spCell) (by decide +kernel) rfl rfl ⟨rfl, by decide, by decide⟩ (fun w h Y => PySem.W.kIn_of Y) ?F ?S (fun _ _ _ _ z => z)
  case F =>
    intro w mg fa h Y KX G hmg
    refine' Kc.all_mk KX G hmg ?a_cell ?l_cell ?c_cell ?k_cell ?a_text_refusal ?l_text_refusal ?c_text_refusal ?k_text_refusal ?a_split_rows ?l_split_rows ?c_split_rows ?k_split_rows ?a_is_chart ?l_is_chart ?c_is_chart ?k_is_chart ?a_is_chart_row ?l_is_chart_row ?c_is_chart_row ?k_is_chart_row ?a_is_colour ?l_is_colour ?c_is_colour ?k_is_colour ?a_least_repeat ?l_least_repeat ?c_least_repeat ?k_least_repeat ?a_least_step_across ?l_least_step_across ?c_least_step_across ?k_least_step_across ?a_least_step_down ?l_least_step_down ?c_least_step_down ?k_least_step_down ?a_fits ?l_fits ?c_fits ?k_fits ?g_LONGEST_TEXT ?g_MOST_KNOTS ?g_WIDEST ?g_HIGHEST ?g_ROW_END ?g_REFUSED_LONG_TEXT ?g_REFUSED_NO_CHART ?y_len ?y_range ?y_all
    (case a_cell => k_is)
    (case l_cell => k_is)
    (case c_cell => k_is)
    (case k_cell => k_is)
    (case a_text_refusal => k_is)
    (case l_text_refusal => k_is)
    (case c_text_refusal => k_is)
    (case k_text_refusal => k_is)
    (case a_split_rows => k_is)
    (case l_split_rows => k_is)
    (case c_split_rows => k_is)
    (case k_split_rows => k_is)
    (case a_is_chart => k_is)
    (case l_is_chart => k_is)
    (case c_is_chart => k_is)
    (case k_is_chart => k_is)
    (case a_is_chart_row => k_is)
    (case l_is_chart_row => k_is)
    (case c_is_chart_row => k_is)
    (case k_is_chart_row => k_is)
    (case a_is_colour => k_is)
    (case l_is_colour => k_is)
    (case c_is_colour => k_is)
    (case k_is_colour => k_is)
    (case a_least_repeat => k_is)
    (case l_least_repeat => k_is)
    (case c_least_repeat => k_is)
    (case k_least_repeat => k_is)
    (case a_least_step_across => k_is)
    (case l_least_step_across => k_is)
    (case c_least_step_across => k_is)
    (case k_least_step_across => k_is)
    (case a_least_step_down => k_is)
    (case l_least_step_down => k_is)
    (case c_least_step_down => k_is)
    (case k_least_step_down => k_is)
    (case a_fits => k_is)
    (case l_fits => k_is)
    (case c_fits => k_is)
    (case k_fits => k_is)
    (case g_LONGEST_TEXT => k_is)
    (case g_MOST_KNOTS => k_is)
    (case g_WIDEST => k_is)
    (case g_HIGHEST => k_is)
    (case g_ROW_END => k_is)
    (case g_REFUSED_LONG_TEXT => k_is)
    (case g_REFUSED_NO_CHART => k_is)
    (case y_len => k_is)
    (case y_range => k_is)
    (case y_all => k_is)
  case S =>
    intro K H xs a hO hwi hask hx
    obtain ⟨t, u⟩ := a
    cases hx with
    | cons h7 h8 =>
      cases h8
      cases h7 with
      | lst hs ha =>
        have e := L2.ints_dw t _ ha
        subst e
        have w1 : ((Codec.inLen 0 66100 t && t.all (Codec.inInt 0 255)) && true) = true := hwi
        simp only [Bool.and_eq_true, List.all_eq_true, and_true] at w1
        obtain ⟨w3, w4⟩ := w1
        have tl : t.length ≤ 66100 := (Codec.inNat_iff.mp w3).2
        have tb : ∀ x ∈ t, Kc.inB x := fun x hx => by
          have q := w4 x hx
          unfold Codec.inInt at q
          rw [Bool.and_eq_true] at q
          exact ⟨of_decide_eq_true q.1, of_decide_eq_true q.2⟩
        refine ⟨_, t, rfl, hs, by omega, fun H' p hp => ?_⟩
        refine .lst (L2.SqL.of (xs := (Kc.cellAns t).map L2.V.int) hp) ?_
        show L2.DwAll K H' _ ((PyWqbbcf.cell t).map WData.int)
        rw [Kc.cell_eq t tb]
        exact L2.dw_ints _
#print axioms PySem.Challenge.cw_knotcharts_s05_cell_holds
