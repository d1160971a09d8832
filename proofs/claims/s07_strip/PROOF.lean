import PyProof.Rows.All
import Wide.All
import OpenK.AllK
import Wide.FinOn
import Open.SpecLaws
import KE.OsGo
import HandS.ForSpec
import HandS.Comp
import PySem.Challenge.RW_knotcharts_s07_strip
set_option Elab.async false
set_option linter.all false
set_option maxRecDepth 100000
set_option maxHeartbeats 4000000
namespace Kc
/-! ### the text's rows -/
abbrev Rows := List (List Int)
def spStep (s : Rows × List Int) (b : Int) : Rows × List Int := if b = 10 then (s.1 ++ [s.2], []) else (s.1, s.2 ++ [b])
def splitGo (t : List Int) : Rows × List Int := t.foldl spStep ([], [])
def splitRows (t : List Int) : Rows := (splitGo t).1
def isCol (b : Int) : Bool := decide (97 ≤ b ∧ b ≤ 122 ∨ 65 ≤ b ∧ b ≤ 90 ∨ 48 ≤ b ∧ b ≤ 57)
def rowOk (w : Nat) (r : List Int) : Bool := decide (r.length = w) && r.all isCol
def wide (rows : Rows) : Nat := (rows.headD []).length
def chartOk (rows : Rows) : Bool := decide (1 ≤ wide rows ∧ wide rows ≤ 512 ∧ rows.length ≤ 512 ∧ wide rows * rows.length ≤ 65536) && rows.all (rowOk (wide rows))
def textOk (t : List Int) : Bool := decide (t ≠ []) && (decide (t.getLast? = some 10) && chartOk (splitRows t))
def refusal (t : List Int) : Int := if 66048 < t.length then -2 else if textOk t = true then 0 else -6

/-! ### bytes and colours -/
def by8 (x : Int) : UInt8 := UInt8.ofNat x.toNat
def colN (x : Int) : Nat := (Rg.colourOf (by8 x)).getD 0
def inB (x : Int) : Prop := 0 ≤ x ∧ x ≤ 255
theorem text_eq (t : List Int) : RugBNeutral.text t = t.map by8 := by
  unfold RugBNeutral.text RugBNeutral.nats
  rw [List.map_map]; rfl
theorem byte_facts : ∀ n : Fin 256,
    (isCol ((n.val : Nat) : Int) = (Rg.colourOf (UInt8.ofNat n.val)).isSome) ∧
    (∀ k, Rg.colourOf (UInt8.ofNat n.val) = some k → Rg.byteOf k = UInt8.ofNat n.val ∧ k < 62) := by
  have h : ∀ n : Fin 256, ((isCol ((n.val : Nat) : Int) == (Rg.colourOf (UInt8.ofNat n.val)).isSome) && (match Rg.colourOf (UInt8.ofNat n.val) with | none => true | some k => (Rg.byteOf k == UInt8.ofNat n.val) && decide (k < 62))) = true := by decide +kernel
  intro n
  have q := h n
  rw [Bool.and_eq_true] at q
  refine ⟨eq_of_beq q.1, fun k e => ?_⟩
  have q2 := q.2
  rw [e] at q2
  simp only [Bool.and_eq_true] at q2
  exact ⟨eq_of_beq q2.1, of_decide_eq_true q2.2⟩
theorem by8_inj {x y : Int} (hx : inB x) (hy : inB y) (h : by8 x = by8 y) : x = y := by
  unfold by8 at h
  have h2 := congrArg UInt8.toNat h
  simp only [UInt8.toNat_ofNat'] at h2
  unfold inB at hx hy
  omega
theorem inB_fin {x : Int} (h : inB x) : ∃ n : Fin 256, ((n.val : Nat) : Int) = x := by
  unfold inB at h
  exact ⟨⟨x.toNat, by omega⟩, by simp; omega⟩
theorem col_isSome {x : Int} (h : inB x) : (Rg.colourOf (by8 x)).isSome = isCol x := by
  obtain ⟨n, rfl⟩ := inB_fin h
  exact ((byte_facts n).1).symm
theorem col_byte {x : Int} {k : Nat} (h : inB x) (e : Rg.colourOf (by8 x) = some k) : Rg.byteOf k = by8 x ∧ k < 62 := by
  obtain ⟨n, rfl⟩ := inB_fin h
  exact (byte_facts n).2 k e
theorem col_some {x : Int} (h : inB x) (c : isCol x = true) : Rg.colourOf (by8 x) = some (colN x) := by
  have q := col_isSome h
  rw [c] at q
  obtain ⟨k, e⟩ := Option.isSome_iff_exists.mp q
  unfold colN
  rw [e]; rfl
theorem col_none {x : Int} (h : inB x) (c : isCol x = false) : Rg.colourOf (by8 x) = none := by
  have q := col_isSome h
  rw [c] at q
  exact Option.isSome_eq_false_iff.mp q |> fun z => Option.isNone_iff_eq_none.mp z
theorem isCol_inB {x : Int} (c : isCol x = true) : inB x := by
  unfold isCol at c
  have := of_decide_eq_true c
  unfold inB; omega
theorem colN_inj {x y : Int} (cx : isCol x = true) (cy : isCol y = true) (h : colN x = colN y) : x = y := by
  have hx := isCol_inB cx
  have hy := isCol_inB cy
  have e1 := (col_byte hx (col_some hx cx)).1
  have e2 := (col_byte hy (col_some hy cy)).1
  exact by8_inj hx hy (by rw [← e1, ← e2, h])
theorem isCol_ne {x : Int} (c : isCol x = true) : x ≠ 10 := by
  unfold isCol at c
  have := of_decide_eq_true c
  omega

/-! ### the split -/
theorem go_append (t : List Int) : ∀ (s : Rows × List Int), (t.foldl spStep s).1.flatMap (fun r => r ++ [10]) ++ (t.foldl spStep s).2 = s.1.flatMap (fun r => r ++ [10]) ++ (s.2 ++ t) := by
  induction t with
  | nil => intro s; simp
  | cons x r ih =>
    intro s
    rw [List.foldl_cons, ih]
    unfold spStep
    by_cases h : x = 10
    · subst h; simp
    · simp [h]
theorem split_join (t : List Int) : (splitRows t).flatMap (fun r => r ++ [10]) ++ (splitGo t).2 = t := by
  have := go_append t ([], [])
  simpa [splitRows, splitGo] using this
theorem go_last (t : List Int) (s : Rows × List Int) : (t ++ [10]).foldl spStep s = ((t.foldl spStep s).1 ++ [(t.foldl spStep s).2], []) := by
  rw [List.foldl_append]
  show spStep _ 10 = _
  unfold spStep; simp
theorem split_last {t : List Int} (h : t.getLast? = some 10) : (splitGo t).2 = [] ∧ splitRows t ≠ [] := by
  obtain ⟨ys, e⟩ := List.getLast?_eq_some_iff.mp h
  subst e
  unfold splitRows splitGo
  rw [go_last]
  exact ⟨rfl, by simp⟩
theorem getLast_of {t : List Int} (h1 : (splitGo t).2 = []) (h2 : splitRows t ≠ []) : t.getLast? = some 10 := by
  have e := split_join t
  rw [h1, List.append_nil] at e
  obtain ⟨ys, y, q⟩ : ∃ ys y, splitRows t = ys ++ [y] := ⟨_, _, (List.dropLast_concat_getLast h2).symm⟩
  rw [q] at e
  rw [← e]
  simp
/-- the specification's parts are the rows and what is left -/
theorem cut_parts : ∀ (t : List Int) (p : Nat) (s : List Int) (acc : Rows), (∀ x ∈ t, inB x) →
    acc.map (List.map by8) ++ (Rg.cut Rg.LF p (s.map by8) (t.map by8)).map Prod.snd = ((t.foldl spStep (acc, s)).1 ++ [(t.foldl spStep (acc, s)).2]).map (List.map by8)
  | [], p, s, acc, _ => by simp [Rg.cut]
  | x :: r, p, s, acc, h => by
    rw [List.foldl_cons, List.map_cons]
    have hx : inB x := h x (by simp)
    have hr : ∀ y ∈ r, inB y := fun y hy => h y (by simp [hy])
    have hc : (by8 x = Rg.LF) ↔ x = 10 := ⟨fun e => by8_inj hx (by unfold inB; omega) (e.trans rfl), fun e => by rw [e]; rfl⟩
    unfold Rg.cut
    by_cases e : x = 10
    · rw [if_pos (hc.mpr e)]
      have ih := cut_parts r (p + (s.map by8).length + 1) [] (acc ++ [s]) hr
      rw [show spStep (acc, s) x = (acc ++ [s], []) by unfold spStep; rw [if_pos e], ← ih]
      simp
    · rw [if_neg (fun z => e (hc.mp z))]
      have ih := cut_parts r p (s ++ [x]) acc hr
      rw [show spStep (acc, s) x = (acc, s ++ [x]) by unfold spStep; rw [if_neg e]]
      rw [← ih]
      simp
theorem parts (t : List Int) (h : ∀ x ∈ t, inB x) : ((Rg.cut Rg.LF 0 [] (t.map by8)).map fun (x : Nat × Rg.Bytes) => x.2.map Rg.colourOf).dropLast = (splitRows t).map fun r => r.map fun x => Rg.colourOf (by8 x) := by
  have q := cut_parts t 0 [] [] h
  have e : (Rg.cut Rg.LF 0 [] (t.map by8)).map (fun (x : Nat × Rg.Bytes) => x.2.map Rg.colourOf) = ((Rg.cut Rg.LF 0 [] (t.map by8)).map Prod.snd).map (List.map Rg.colourOf) := by
    rw [List.map_map]; rfl
  rw [e]
  have q2 : (Rg.cut Rg.LF 0 [] (t.map by8)).map Prod.snd = ((splitGo t).1 ++ [(splitGo t).2]).map (List.map by8) := by
    simpa [splitGo] using q
  rw [q2, List.map_map, List.map_append, List.map_singleton, List.dropLast_concat]
  unfold splitRows
  apply List.map_congr_left
  intro r _
  simp
/-- the chart of rows -/
def chartR (rows : Rows) : Rg.Chart := ⟨wide rows, rows.length, rows.map (List.map colN)⟩
theorem filt_len (r : List Int) (h : ∀ x ∈ r, inB x) : ((r.map fun x => Rg.colourOf (by8 x)).filterMap id).map Rg.byteOf = (r.filter isCol).map by8 := by
  induction r with
  | nil => rfl
  | cons x r ih =>
    have hx : inB x := h x (by simp)
    have ih := ih (fun y hy => h y (by simp [hy]))
    by_cases c : isCol x = true
    · have e := col_some hx c
      rw [List.map_cons, e, List.filterMap_cons_some (by rfl), List.map_cons, ih, List.filter_cons_of_pos c, List.map_cons, (col_byte hx e).1]
    · have c' : isCol x = false := by simpa using c
      rw [List.map_cons, col_none hx c', List.filterMap_cons_none (by rfl), ih, List.filter_cons_of_neg c]
theorem filt_all (r : List Int) (h : r.all isCol = true) : (r.map fun x => Rg.colourOf (by8 x)).filterMap id = r.map colN := by
  induction r with
  | nil => rfl
  | cons x r ih =>
    rw [List.all_cons, Bool.and_eq_true] at h
    rw [List.map_cons, col_some (isCol_inB h.1) h.1, List.filterMap_cons_some (by rfl), ih h.2, List.map_cons]
theorem flat_len (l : Rows) : (l.flatMap fun r => r ++ [10]).length = (l.map fun r => r.length + 1).sum := by
  induction l with
  | nil => rfl
  | cons r l ih =>
    simp [ih]
    omega
theorem filt_full : ∀ (l : Rows), (l.map fun r => (r.filter isCol).length + 1).sum ≤ (l.map fun r => r.length + 1).sum ∧
    ((l.map fun r => (r.filter isCol).length + 1).sum = (l.map fun r => r.length + 1).sum → ∀ r ∈ l, r.all isCol = true)
  | [] => ⟨by simp, fun _ r h => by simp at h⟩
  | r :: l => by
    have ih := filt_full l
    have q : (r.filter isCol).length ≤ r.length := List.length_filter_le ..
    refine ⟨by simp only [List.map_cons, List.sum_cons]; omega, fun e => ?_⟩
    simp only [List.map_cons, List.sum_cons] at e
    intro r' hr'
    rcases List.mem_cons.mp hr' with rfl | hr'
    · have e1 : (r'.filter isCol).length = r'.length := by omega
      have e2 := List.length_filter_eq_length_iff.mp e1
      exact List.all_eq_true.mpr e2
    · exact ih.2 (by omega) r' hr'
theorem text_len (rows : Rows) (h : ∀ r ∈ rows, ∀ x ∈ r, inB x) : ((rows.map fun r => (r.map fun x => Rg.colourOf (by8 x)).filterMap id).flatMap fun r => r.map Rg.byteOf ++ [Rg.LF]) = rows.flatMap fun r => (r.filter isCol).map by8 ++ [Rg.LF] := by
  rw [List.flatMap_map]
  induction rows with
  | nil => rfl
  | cons r l ih =>
    rw [List.flatMap_cons, List.flatMap_cons, filt_len r (h r (by simp)), ih (fun r' hr' => h r' (by simp [hr']))]
theorem mem_split {t : List Int} (h : ∀ x ∈ t, inB x) : ∀ r ∈ splitRows t, ∀ x ∈ r, inB x := by
  intro r hr x hx
  apply h
  rw [← split_join t]
  rw [List.mem_append]
  left
  rw [List.mem_flatMap]
  exact ⟨r, hr, by simp [hx]⟩
theorem rowOk_of {w : Nat} {r : List Int} (h : rowOk w r = true) : r.length = w ∧ r.all isCol = true := by
  unfold rowOk at h
  rw [Bool.and_eq_true] at h
  exact ⟨of_decide_eq_true h.1, h.2⟩
structure Good (rows : Rows) : Prop where
  w1 : 1 ≤ wide rows
  w2 : wide rows ≤ 512
  h1 : 1 ≤ rows.length
  h2 : rows.length ≤ 512
  wh : wide rows * rows.length ≤ 65536
  len : ∀ r ∈ rows, r.length = wide rows
  col : ∀ r ∈ rows, r.all isCol = true
theorem good_of {t : List Int} (h : textOk t = true) : Good (splitRows t) ∧ (splitGo t).2 = [] := by
  unfold textOk chartOk at h
  simp only [Bool.and_eq_true] at h
  obtain ⟨_, h2, h3, h4⟩ := h
  have ⟨l1, l2⟩ := split_last (of_decide_eq_true h2)
  have ⟨a, b, c, d⟩ := of_decide_eq_true h3
  have e := List.all_eq_true.mp h4
  exact ⟨⟨a, b, List.length_pos_iff.mpr l2, c, d, fun r hr => (rowOk_of (e r hr)).1, fun r hr => (rowOk_of (e r hr)).2⟩, l1⟩
theorem chart_some {t : List Int} (hb : ∀ x ∈ t, inB x) (h : textOk t = true) : Rg.chartOf (t.map by8) = some (chartR (splitRows t)) := by
  obtain ⟨g, l1⟩ := good_of h
  unfold Rg.chartOf
  rw [parts t hb]
  have e1 : ((splitRows t).map fun r => r.map fun x => Rg.colourOf (by8 x)).map (fun (r : List (Option Nat)) => r.filterMap id) = (splitRows t).map (List.map colN) := by
    rw [List.map_map]
    apply List.map_congr_left
    intro r hr
    exact filt_all r (g.col r hr)
  have e2 : (((splitRows t).map fun r => r.map fun x => Rg.colourOf (by8 x)).headD []).length = wide (splitRows t) := by
    unfold wide
    cases splitRows t with
    | nil => rfl
    | cons r l => simp
  simp only [e1, e2, List.length_map]
  have hc : (chartR (splitRows t)).right = true ∧ (chartR (splitRows t)).text = t.map by8 := by
    constructor
    · unfold Rg.Chart.right Rg.sizeOk chartR Rg.SIDE Rg.KNOTS Rg.COLOURS
      simp only [Bool.and_eq_true, decide_eq_true_eq, List.length_map, List.all_map, List.all_eq_true, Function.comp]
      refine ⟨⟨g.w1, g.w2, g.h1, g.h2⟩, g.wh, trivial, fun r hr => ⟨g.len r hr, fun x hx => ?_⟩⟩
      have c := List.all_eq_true.mp (g.col r hr) x hx
      exact (col_byte (isCol_inB c) (col_some (isCol_inB c) c)).2
    · unfold Rg.Chart.text chartR
      have z := text_len (splitRows t) (mem_split hb)
      have z1 : (splitRows t).map (fun r => (r.map fun x => Rg.colourOf (by8 x)).filterMap id) = (splitRows t).map (List.map colN) := List.map_congr_left fun r hr => filt_all r (g.col r hr)
      rw [z1] at z
      show ((splitRows t).map (List.map colN)).flatMap _ = _
      rw [z]
      have e := split_join t
      rw [l1, List.append_nil] at e
      rw [← congrArg (List.map by8) e, List.map_flatMap]
      have q : ∀ l : Rows, (∀ r ∈ l, r.all isCol = true) → (l.flatMap fun r => (r.filter isCol).map by8 ++ [Rg.LF]) = l.flatMap fun r => (r ++ [10]).map by8 := by
        intro l
        induction l with
        | nil => intro _; rfl
        | cons r l ih =>
          intro hl
          rw [List.flatMap_cons, List.flatMap_cons, ih (fun r' hr' => hl r' (by simp [hr']))]
          rw [List.filter_eq_self.mpr (List.all_eq_true.mp (hl r (by simp))), List.map_append]
          rfl
      exact q _ g.col
  exact if_pos hc
theorem chart_none {t : List Int} (hb : ∀ x ∈ t, inB x) (h : textOk t = false) : Rg.chartOf (t.map by8) = none := by
  unfold Rg.chartOf
  rw [parts t hb]
  apply if_neg
  rintro ⟨hr, ht⟩
  have hm := mem_split hb
  -- the text's length tells that all are colours
  have z := text_len (splitRows t) hm
  unfold Rg.Chart.text at ht
  simp only [List.map_map] at ht
  have z0 : ((splitRows t).map fun r => (r.map fun x => Rg.colourOf (by8 x)).filterMap id) = (splitRows t).map ((fun (r : List (Option Nat)) => r.filterMap id) ∘ fun r => r.map fun x => Rg.colourOf (by8 x)) := rfl
  rw [z0] at z
  rw [z] at ht
  have e := split_join t
  have hl := congrArg List.length ht
  rw [List.length_map] at hl
  have hl2 := congrArg List.length e
  rw [List.length_append, flat_len] at hl2
  have hl3 : ((splitRows t).flatMap fun r => (r.filter isCol).map by8 ++ [Rg.LF]).length = ((splitRows t).map fun r => (r.filter isCol).length + 1).sum := by
    induction splitRows t with
    | nil => rfl
    | cons r l ih =>
      simp [ih]
      omega
  obtain ⟨f1, f2⟩ := filt_full (splitRows t)
  have hnil : (splitGo t).2 = [] := List.length_eq_zero_iff.mp (by omega)
  have hcol := f2 (by omega)
  unfold Rg.Chart.right Rg.sizeOk Rg.SIDE Rg.KNOTS Rg.COLOURS at hr
  simp only [Bool.and_eq_true, decide_eq_true_eq, List.length_map] at hr
  obtain ⟨⟨a, b, c, d⟩, e1, _, e2⟩ := hr
  have e3 : (((splitRows t).map fun r => r.map fun x => Rg.colourOf (by8 x)).headD []).length = wide (splitRows t) := by
    unfold wide
    cases splitRows t with
    | nil => rfl
    | cons r l => simp
  rw [e3] at a b e1 e2
  have hne : splitRows t ≠ [] := List.length_pos_iff.mp c
  have hlast := getLast_of hnil hne
  have : textOk t = true := by
    unfold textOk chartOk
    simp only [Bool.and_eq_true, decide_eq_true_eq]
    refine ⟨fun q => by rw [q] at hlast; simp at hlast, hlast, ⟨a, b, d, e1⟩, ?_⟩
    rw [List.all_eq_true] at e2 ⊢
    intro r hr
    have q := e2 ((r.map fun x => Rg.colourOf (by8 x)).filterMap id) (by
      rw [List.mem_map]
      exact ⟨r.map fun x => Rg.colourOf (by8 x), List.mem_map.mpr ⟨r, hr, rfl⟩, rfl⟩)
    rw [Bool.and_eq_true] at q
    unfold rowOk
    rw [Bool.and_eq_true]
    refine ⟨?_, hcol r hr⟩
    have q1 := of_decide_eq_true q.1
    rw [filt_all r (hcol r hr), List.length_map] at q1
    exact decide_eq_true q1
  rw [this] at h
  cases h
end Kc

namespace Kc
/-! ### the field -/
def at0 (rows : Rows) (X Y : Nat) : Int := (rows.getD Y []).getD X 0
def fld (rows : Rows) (X Y : Int) : Int := at0 rows (X % (wide rows : Int)).toNat (Y % (rows.length : Int)).toNat
/-- of one breadth, at least one knot -/
structure Rect (W H : Nat) (rows : Rows) : Prop where
  w1 : 1 ≤ W
  h1 : 1 ≤ H
  high : rows.length = H
  len : ∀ r ∈ rows, r.length = W
theorem Rect.wide {W H : Nat} {rows : Rows} (g : Rect W H rows) : Kc.wide rows = W := by
  unfold Kc.wide
  have h := g.h1
  have h2 := g.high
  cases rows with
  | nil => simp at h2; omega
  | cons r l => exact g.len r (by simp)
theorem Good.rect {rows : Rows} (g : Good rows) : Rect (wide rows) rows.length rows := ⟨g.w1, g.h1, rfl, g.len⟩
theorem Rect.row {W H : Nat} {rows : Rows} (g : Rect W H rows) {y : Nat} (hy : y < H) : ∃ r, rows[y]? = some r ∧ r.length = W ∧ r ∈ rows := by
  have h2 := g.high
  have q : y < rows.length := by omega
  exact ⟨rows[y], List.getElem?_eq_getElem q, g.len _ (List.getElem_mem q), List.getElem_mem q⟩
theorem Rect.fld_eq {W H : Nat} {rows : Rows} (g : Rect W H rows) (X Y : Int) : fld rows X Y = at0 rows (X % (W : Int)).toNat (Y % (H : Int)).toNat := by
  unfold fld
  rw [g.wide, g.high]
theorem Rect.fld_nat {W H : Nat} {rows : Rows} (g : Rect W H rows) {x y : Nat} (hx : x < W) (hy : y < H) : fld rows (x : Int) (y : Int) = at0 rows x y := by
  rw [g.fld_eq, Int.emod_eq_of_lt (by omega) (by omega), Int.emod_eq_of_lt (by omega) (by omega)]
  simp
theorem Rect.fld_add {W H : Nat} {rows : Rows} (g : Rect W H rows) (X Y k l : Int) : fld rows (X + W * k) (Y + H * l) = fld rows X Y := by
  rw [g.fld_eq, g.fld_eq, Int.add_mul_emod_self_left, Int.add_mul_emod_self_left]
/-- every place is one of the chart's, sides apart -/
theorem mod_place (W : Nat) (h : 1 ≤ W) (X : Int) : ∃ (x : Nat) (k : Int), x < W ∧ X = (x : Int) + W * k := by
  refine ⟨(X % (W : Int)).toNat, X / (W : Int), ?_, ?_⟩
  · have h1 := Int.emod_nonneg X (show (W : Int) ≠ 0 by omega)
    have h2 := Int.emod_lt_of_pos X (show (0 : Int) < W by omega)
    omega
  · have h1 := Int.emod_nonneg X (show (W : Int) ≠ 0 by omega)
    rw [Int.toNat_of_nonneg h1]
    exact (Int.emod_add_mul_ediv X W).symm
/-! ### turns -/
def tp (m : Nat) (x y : Int) : Int × Int :=
  if m = 0 then (x, y) else if m = 1 then (-y, x) else if m = 2 then (-x, -y) else if m = 3 then (y, -x) else if m = 4 then (-x, y) else if m = 5 then (-y, -x) else if m = 6 then (x, -y) else (y, x)
theorem lt8 {m : Nat} (h : m < 8) : m = 0 ∨ m = 1 ∨ m = 2 ∨ m = 3 ∨ m = 4 ∨ m = 5 ∨ m = 6 ∨ m = 7 := by omega
theorem turn_tp {m : Nat} (h : m < 8) (x y : Int) : Rg.turn m (x, y) = tp m x y := by
  rcases lt8 h with rfl | rfl | rfl | rfl | rfl | rfl | rfl | rfl <;> simp [Rg.turn, Rg.quarter, tp]
theorem tp_even {m : Nat} (h : m < 8) (e : m % 2 = 0) : ∃ s t : Int, (s = 1 ∨ s = -1) ∧ (t = 1 ∨ t = -1) ∧ ∀ x y, tp m x y = (s * x, t * y) := by
  rcases lt8 h with rfl | rfl | rfl | rfl | rfl | rfl | rfl | rfl <;> simp at e
  · exact ⟨1, 1, .inl rfl, .inl rfl, fun x y => by simp [tp]⟩
  · exact ⟨-1, -1, .inr rfl, .inr rfl, fun x y => by simp [tp]⟩
  · exact ⟨-1, 1, .inr rfl, .inl rfl, fun x y => by simp [tp]⟩
  · exact ⟨1, -1, .inl rfl, .inr rfl, fun x y => by simp [tp]⟩
theorem tp_odd {m : Nat} (h : m < 8) (e : m % 2 = 1) : ∃ s t : Int, (s = 1 ∨ s = -1) ∧ (t = 1 ∨ t = -1) ∧ ∀ x y, tp m x y = (s * y, t * x) := by
  rcases lt8 h with rfl | rfl | rfl | rfl | rfl | rfl | rfl | rfl <;> simp at e
  · exact ⟨-1, 1, .inr rfl, .inl rfl, fun x y => by simp [tp]⟩
  · exact ⟨1, -1, .inl rfl, .inr rfl, fun x y => by simp [tp]⟩
  · exact ⟨-1, -1, .inr rfl, .inr rfl, fun x y => by simp [tp]⟩
  · exact ⟨1, 1, .inl rfl, .inl rfl, fun x y => by simp [tp]⟩
/-! ### symmetries of a field -/
def SymF (F : Int → Int → Int) (m : Nat) (a b : Int) : Prop := ∀ X Y, F ((tp m X Y).1 + a) ((tp m X Y).2 + b) = F X Y
def Per (f : Int → Int) (n : Int) : Prop := ∀ X, f (X + n) = f X
theorem Per.mul {f : Int → Int} {n : Int} (h : Per f n) (k : Int) : Per f (n * k) := by
  have hn : ∀ j : Nat, Per f (n * j) := by
    intro j
    induction j with
    | zero => intro X; simp
    | succ j ih =>
      intro X
      have e : X + n * ((j + 1 : Nat) : Int) = (X + n * j) + n := by
        have : n * ((j + 1 : Nat) : Int) = n * j + n := by
          rw [Int.natCast_succ, Int.mul_add, Int.mul_one]
        omega
      rw [e, h, ih]
  intro X
  by_cases c : 0 ≤ k
  · have := hn k.toNat X
    rwa [Int.toNat_of_nonneg c] at this
  · have := hn (-k).toNat (X + n * k)
    rw [Int.toNat_of_nonneg (by omega)] at this
    rw [← this]
    congr 1
    rw [Int.mul_neg]
    omega
theorem Per.neg {f : Int → Int} {n : Int} (h : Per f n) : Per f (-n) := by
  have := h.mul (-1)
  rwa [Int.mul_neg, Int.mul_one] at this
theorem Per.gcd {f : Int → Int} : ∀ (m n : Nat), Per f m → Per f n → Per f (Nat.gcd m n) := by
  intro m n
  induction m, n using Nat.gcd.induction with
  | H0 n => intro _ h; rwa [Nat.gcd_zero_left]
  | H1 m n hm ih =>
    intro h1 h2
    rw [Nat.gcd_rec]
    refine ih (fun X => ?_) h1
    have e := h1.mul ((n / m : Nat) : Int) (X + ((n % m : Nat) : Int))
    rw [← e]
    have q : X + ((n % m : Nat) : Int) + (m : Int) * ((n / m : Nat) : Int) = X + (n : Int) := by
      have := Nat.mod_add_div n m
      have z : ((n % m : Nat) : Int) + (m : Int) * ((n / m : Nat) : Int) = (n : Int) := by exact_mod_cast this
      omega
    rw [q]
    exact h2 X
theorem Per.dvd {f : Int → Int} {m n : Nat} (h : Per f m) (d : m ∣ n) : Per f n := by
  obtain ⟨k, rfl⟩ := d
  have := h.mul (k : Int)
  intro X
  rw [Int.natCast_mul]
  exact this X
/-- the field repeats by n to the side, by k down -/
structure Rep (F : Int → Int → Int) (n k : Nat) : Prop where
  x : ∀ Y, Per (fun X => F X Y) n
  y : ∀ X, Per (fun Y => F X Y) k
theorem Rep.add {F : Int → Int → Int} {n k : Nat} (r : Rep F n k) (X Y i j : Int) : F (X + n * i) (Y + k * j) = F X Y := by
  have h1 := ((r.x (Y + k * j)).mul i) X
  have h2 := ((r.y X).mul j) Y
  exact h1.trans h2
theorem Rect.rep {W H : Nat} {rows : Rows} (g : Rect W H rows) : Rep (fld rows) W H := by
  constructor
  · intro Y X
    have := g.fld_add X Y 1 0
    simpa using this
  · intro X Y
    have := g.fld_add X Y 0 1
    simpa using this
/-- told by the places of a cell that the turn brings onto itself -/
theorem sym_cell {F : Int → Int → Int} {W H m : Nat} {a b : Int} (r : Rep F W H) (hW : 1 ≤ W) (hH : 1 ≤ H) (hm : m < 8) (sq : m % 2 = 0 ∨ W = H) :
    SymF F m a b ↔ ∀ x y : Nat, x < W → y < H → F ((tp m x y).1 + a) ((tp m x y).2 + b) = F x y := by
  refine ⟨fun h x y _ _ => h x y, fun h X Y => ?_⟩
  obtain ⟨x, k, hx, rfl⟩ := mod_place W hW X
  obtain ⟨y, l, hy, rfl⟩ := mod_place H hH Y
  rw [r.add]
  rw [← h x y hx hy]
  by_cases e : m % 2 = 0
  · obtain ⟨s, t, _, _, q⟩ := tp_even hm e
    rw [q, q]
    have := r.add (s * x + a) (t * y + b) (s * k) (t * l)
    rw [← this]
    congr 1
    · simp only [Int.mul_add, Int.mul_left_comm, Int.mul_comm, Int.mul_assoc]; omega
    · simp only [Int.mul_add, Int.mul_left_comm, Int.mul_comm, Int.mul_assoc]; omega
  · obtain ⟨s, t, _, _, q⟩ := tp_odd hm (by omega)
    have e2 : W = H := by omega
    subst e2
    rw [q, q]
    have := r.add (s * y + a) (t * x + b) (s * l) (t * k)
    rw [← this]
    congr 1
    · simp only [Int.mul_add, Int.mul_left_comm, Int.mul_comm, Int.mul_assoc]; omega
    · simp only [Int.mul_add, Int.mul_left_comm, Int.mul_comm, Int.mul_assoc]; omega
/-- a symmetry with a quarter in it turns the sides' steps -/
theorem sym_odd_rep {F : Int → Int → Int} {W H m : Nat} {a b : Int} (r : Rep F W H) (hm : m < 8) (od : m % 2 = 1) (h : SymF F m a b) : Rep F H W := by
  obtain ⟨s, t, hs, ht, q⟩ := tp_odd hm od
  have ss : s * s = 1 := by rcases hs with rfl | rfl <;> rfl
  have tt : t * t = 1 := by rcases ht with rfl | rfl <;> rfl
  -- any place (X, Y) is the turn of (t (Y - b), s (X - a)), moved on
  have key : ∀ X Y : Int, F X Y = F (t * (Y - b)) (s * (X - a)) := by
    intro X Y
    have := h (t * (Y - b)) (s * (X - a))
    rw [q] at this
    rw [← this]
    congr 1
    · show X = s * (s * (X - a)) + a
      rw [← Int.mul_assoc, ss]; omega
    · show Y = t * (t * (Y - b)) + b
      rw [← Int.mul_assoc, tt]; omega
  constructor
  · intro Y X
    show F (X + H) Y = F X Y
    rw [key (X + H) Y, key X Y]
    have := r.add (t * (Y - b)) (s * (X - a)) 0 s
    rw [← this]
    congr 1
    · simp
    · simp only [Int.mul_add, Int.mul_sub, Int.mul_comm]; omega
  · intro X Y
    show F X (Y + W) = F X Y
    rw [key X (Y + W), key X Y]
    have := r.add (t * (Y - b)) (s * (X - a)) t 0
    rw [← this]
    congr 1
    · simp only [Int.mul_add, Int.mul_sub, Int.mul_comm]; omega
    · simp
theorem Rep.gcd {F : Int → Int → Int} {W H : Nat} (r : Rep F W H) (q : Rep F H W) : Rep F (Nat.gcd W H) (Nat.gcd W H) :=
  ⟨fun Y => (r.x Y).gcd _ _ (q.x Y), fun X => (q.y X).gcd _ _ (r.y X)⟩
theorem Rep.ofGcd {F : Int → Int → Int} {W H : Nat} (r : Rep F (Nat.gcd W H) (Nat.gcd W H)) : Rep F H W :=
  ⟨fun Y => (r.x Y).dvd (Nat.gcd_dvd_right W H), fun X => (r.y X).dvd (Nat.gcd_dvd_left W H)⟩
/-! ### the specification's symmetries are the field's -/
theorem at2_eq {rows : Rows} (g : Good rows) (p : Rg.Place) : (chartR rows).at2 p = colN (fld rows p.1 p.2) := by
  unfold Rg.Chart.at2 Rg.wrap Rg.Chart.at_ chartR
  have g2 := g.rect
  rw [g2.fld_eq]
  unfold at0
  have hy := Int.emod_nonneg p.2 (show ((rows.length : Nat) : Int) ≠ 0 by have := g.h1; omega)
  have hy2 := Int.emod_lt_of_pos p.2 (show (0 : Int) < ((rows.length : Nat) : Int) by have := g.h1; omega)
  have hx := Int.emod_nonneg p.1 (show ((wide rows : Nat) : Int) ≠ 0 by have := g.w1; omega)
  have hx2 := Int.emod_lt_of_pos p.1 (show (0 : Int) < ((wide rows : Nat) : Int) by have := g.w1; omega)
  obtain ⟨r, e, el, em⟩ := g2.row (y := (p.2 % (rows.length : Int)).toNat) (by omega)
  have e2 : (p.1 % (wide rows : Int)).toNat < r.length := by omega
  simp only [List.getD_eq_getElem?_getD, List.getElem?_map, e, Option.map_some, Option.getD_some]
  rw [List.getElem?_eq_getElem e2]
  rfl
theorem fld_col {rows : Rows} (g : Good rows) (X Y : Int) : isCol (fld rows X Y) = true := by
  have g2 := g.rect
  rw [g2.fld_eq]
  unfold at0
  have hy := Int.emod_nonneg Y (show ((rows.length : Nat) : Int) ≠ 0 by have := g.h1; omega)
  have hy2 := Int.emod_lt_of_pos Y (show (0 : Int) < ((rows.length : Nat) : Int) by have := g.h1; omega)
  have hx := Int.emod_nonneg X (show ((wide rows : Nat) : Int) ≠ 0 by have := g.w1; omega)
  have hx2 := Int.emod_lt_of_pos X (show (0 : Int) < ((wide rows : Nat) : Int) by have := g.w1; omega)
  obtain ⟨r, e, el, em⟩ := g2.row (y := (Y % (rows.length : Int)).toNat) (by omega)
  have e2 : (X % (wide rows : Int)).toNat < r.length := by omega
  simp only [List.getD_eq_getElem?_getD, e, Option.getD_some]
  rw [List.getElem?_eq_getElem e2]
  exact List.all_eq_true.mp (g.col r em) _ (List.getElem_mem e2)
theorem at2_beq {rows : Rows} (g : Good rows) (p q : Rg.Place) : ((chartR rows).at2 p == (chartR rows).at2 q) = true ↔ fld rows p.1 p.2 = fld rows q.1 q.2 := by
  rw [at2_eq g, at2_eq g, beq_iff_eq]
  exact ⟨fun h => colN_inj (fld_col g _ _) (fld_col g _ _) h, fun h => by rw [h]⟩
theorem grid_all {w h : Nat} {f : Nat × Nat → Bool} : (Rg.grid w h).all f = true ↔ ∀ x y : Nat, x < w → y < h → f (x, y) = true := by
  unfold Rg.grid
  rw [List.all_eq_true]
  constructor
  · intro q x y hx hy
    exact q (x, y) (List.mem_flatMap.mpr ⟨y, List.mem_range.mpr hy, List.mem_map.mpr ⟨x, List.mem_range.mpr hx, rfl⟩⟩)
  · intro q p hp
    obtain ⟨y, hy, hp⟩ := List.mem_flatMap.mp hp
    obtain ⟨x, hx, rfl⟩ := List.mem_map.mp hp
    exact q x y (List.mem_range.mp hx) (List.mem_range.mp hy)
theorem stepBy_iff {rows : Rows} (g : Good rows) (a b : Int) : Rg.isStepBy (chartR rows) a b = true ↔ ∀ X Y, fld rows (X + a) (Y + b) = fld rows X Y := by
  unfold Rg.isStepBy
  rw [grid_all]
  simp only [at2_beq g]
  constructor
  · intro h X Y
    have := (sym_cell (m := 0) (a := a) (b := b) g.rect.rep g.w1 g.h1 (by omega) (.inl rfl)).mpr (fun x y hx hy => h x y hx hy)
    exact this X Y
  · intro h x y _ _
    exact h x y
theorem keeps_iff {rows : Rows} (g : Good rows) {m : Nat} (hm : m < 8) (a b : Int) (w h : Nat) :
    ((Rg.grid w h).all fun (p : Nat × Nat) => (chartR rows).at2 ((Rg.Sym.mk m a b).act ((p.1 : Int), (p.2 : Int))) == (chartR rows).at2 ((p.1 : Int), (p.2 : Int))) = true ↔
    ∀ x y : Nat, x < w → y < h → fld rows ((tp m x y).1 + a) ((tp m x y).2 + b) = fld rows x y := by
  rw [grid_all]
  simp only [at2_beq g, Rg.Sym.act, turn_tp hm]
theorem isSym_iff {rows : Rows} (g : Good rows) {m : Nat} (hm : m < 8) (a b : Int) : Rg.isSym (chartR rows) ⟨m, a, b⟩ = true ↔ SymF (fld rows) m a b := by
  have r := g.rect.rep
  unfold Rg.isSym Rg.MOTIONS
  simp only [Bool.and_eq_true, decide_eq_true_eq]
  by_cases e : m % 2 = 0
  · rw [if_pos e]
    rw [show ((chartR rows).wide) = wide rows from rfl, show ((chartR rows).high) = rows.length from rfl, keeps_iff g hm]
    rw [sym_cell r g.w1 g.h1 hm (.inl e)]
    exact ⟨fun h => h.2, fun h => ⟨hm, h⟩⟩
  · rw [if_neg e]
    rw [show ((chartR rows).wide) = wide rows from rfl, show ((chartR rows).high) = rows.length from rfl]
    simp only [Bool.and_eq_true, keeps_iff g hm, stepBy_iff g]
    constructor
    · rintro ⟨_, h1, h2, h3⟩
      have q : Rep (fld rows) rows.length (wide rows) := ⟨fun Y X => by have := h1 X Y; simpa using this, fun X Y => by have := h2 X Y; simpa using this⟩
      have rg := r.gcd q
      have gp : 1 ≤ Nat.gcd (wide rows) rows.length := Nat.gcd_pos_of_pos_left _ g.w1
      exact (sym_cell rg gp gp hm (.inr rfl)).mpr h3
    · intro h
      have q := sym_odd_rep r hm (by omega) h
      refine ⟨hm, fun X Y => ?_, fun X Y => ?_, fun x y _ _ => h x y⟩
      · have := q.x Y X; simpa using this
      · have := q.y X Y; simpa using this
end Kc

namespace Kc
/-! ### the turned cell -/
def tX (W m : Nat) (x y : Nat) : Nat := ((tp m x y).1 % (W : Int)).toNat
def tY (H m : Nat) (x y : Nat) : Nat := ((tp m x y).2 % (H : Int)).toNat
theorem toNat_mod_lt {W : Nat} (h : 1 ≤ W) (z : Int) : (z % (W : Int)).toNat < W := by
  have h1 := Int.emod_nonneg z (show (W : Int) ≠ 0 by omega)
  have h2 := Int.emod_lt_of_pos z (show (0 : Int) < W by omega)
  omega
theorem toNat_mod_cast {W : Nat} (h : 1 ≤ W) (z : Int) : (((z % (W : Int)).toNat : Nat) : Int) = z % (W : Int) := Int.toNat_of_nonneg (Int.emod_nonneg z (by omega))
/-- a rest tells its number up to the sides -/
theorem mod_back {W : Nat} (h : 1 ≤ W) (z : Int) : ∃ k : Int, z = (((z % (W : Int)).toNat : Nat) : Int) + W * k := ⟨z / W, by
  rw [toNat_mod_cast h]
  exact (Int.emod_add_mul_ediv z W).symm⟩
theorem near {W : Nat} {x x' : Nat} {k : Int} (hx : x < W) (hx' : x' < W) (h : (x : Int) - x' = W * k) : x = x' := by
  have d : W ∣ ((x : Int) - x').natAbs := by
    have := Int.natAbs_dvd_natAbs.mpr (show (W : Int) ∣ (x : Int) - x' from ⟨k, h⟩)
    rwa [Int.natAbs_natCast] at this
  have := Nat.eq_zero_of_dvd_of_lt d (by omega)
  omega
theorem mod_inj {W : Nat} {x x' : Nat} {s : Int} (hs : s = 1 ∨ s = -1) (hx : x < W) (hx' : x' < W) (h : ((s * x) % (W : Int)).toNat = ((s * x') % (W : Int)).toNat) : x = x' := by
  have hW : 1 ≤ W := by omega
  obtain ⟨k, e⟩ := mod_back hW (s * x)
  obtain ⟨l, e'⟩ := mod_back hW (s * x')
  rw [h] at e
  have e3 : s * x - s * x' = W * (k - l) := by
    rw [Int.mul_sub]
    omega
  rcases hs with rfl | rfl
  · exact near (k := k - l) hx hx' (by omega)
  · refine near (k := -(k - l)) hx hx' ?_
    rw [Int.mul_neg]
    omega
theorem tp_inj {W H m x y x' y' : Nat} (hm : m < 8) (sq : m % 2 = 0 ∨ W = H) (hx : x < W) (hy : y < H) (hx' : x' < W) (hy' : y' < H) (h1 : tX W m x y = tX W m x' y') (h2 : tY H m x y = tY H m x' y') : x = x' ∧ y = y' := by
  unfold tX at h1
  unfold tY at h2
  by_cases e : m % 2 = 0
  · obtain ⟨s, t, hs, ht, q⟩ := tp_even hm e
    rw [q, q] at h1 h2
    exact ⟨mod_inj hs hx hx' h1, mod_inj ht hy hy' h2⟩
  · obtain ⟨s, t, hs, ht, q⟩ := tp_odd hm (by omega)
    have e2 : W = H := by omega
    subst e2
    rw [q, q] at h1 h2
    exact ⟨mod_inj ht hx hx' h2, mod_inj hs hy hy' h1⟩
theorem mod_surj {W X : Nat} {s : Int} (hs : s = 1 ∨ s = -1) (hX : X < W) : ∃ x : Nat, x < W ∧ ((s * x) % (W : Int)).toNat = X := by
  have hW : 1 ≤ W := by omega
  have ss : s * s = 1 := by rcases hs with rfl | rfl <;> rfl
  refine ⟨((s * X) % (W : Int)).toNat, toNat_mod_lt hW _, ?_⟩
  obtain ⟨k, e⟩ := mod_back hW (s * X)
  have e2 : s * ((((s * X) % (W : Int)).toNat : Nat) : Int) = (X : Int) + W * (-(s * k)) := by
    have : s * (s * X) = s * (((((s * X) % (W : Int)).toNat : Nat) : Int) + W * k) := congrArg (s * ·) e
    rw [← Int.mul_assoc, ss, Int.mul_add, Int.one_mul] at this
    have z : s * (W * k) = W * (s * k) := by rw [← Int.mul_assoc, Int.mul_comm s, Int.mul_assoc]
    rw [Int.mul_neg]
    omega
  rw [e2, Int.add_mul_emod_self_left, Int.emod_eq_of_lt (by omega) (by omega)]
  simp
theorem tp_surj {W H m X Y : Nat} (hm : m < 8) (sq : m % 2 = 0 ∨ W = H) (hX : X < W) (hY : Y < H) : ∃ x y : Nat, x < W ∧ y < H ∧ tX W m x y = X ∧ tY H m x y = Y := by
  unfold tX tY
  by_cases e : m % 2 = 0
  · obtain ⟨s, t, hs, ht, q⟩ := tp_even hm e
    obtain ⟨x, hx, ex⟩ := mod_surj hs hX
    obtain ⟨y, hy, ey⟩ := mod_surj ht hY
    exact ⟨x, y, hx, hy, by rw [q]; exact ex, by rw [q]; exact ey⟩
  · obtain ⟨s, t, hs, ht, q⟩ := tp_odd hm (by omega)
    have e2 : W = H := by omega
    subst e2
    obtain ⟨x, hx, ex⟩ := mod_surj ht hY
    obtain ⟨y, hy, ey⟩ := mod_surj hs hX
    exact ⟨x, y, hx, hy, by rw [q]; exact ey, by rw [q]; exact ex⟩
/-- so far turned: the places ahead of the k-th -/
structure Img (W H m k : Nat) (cell img : Rows) : Prop where
  rect : Rect W H img
  at_ : ∀ x y : Nat, x < W → y < H → y * W + x < k → at0 img (tX W m x y) (tY H m x y) = at0 cell x y
theorem Img.start {W H m : Nat} {cell : Rows} (hW : 1 ≤ W) (hH : 1 ≤ H) : Img W H m 0 cell (List.replicate H (List.replicate W 0)) :=
  ⟨⟨hW, hH, List.length_replicate, fun r hr => by rw [(List.mem_replicate.mp hr).2, List.length_replicate]⟩, fun x y _ _ h => by omega⟩
theorem place_inj {W x y x' y' : Nat} (hx : x < W) (hx' : x' < W) (h : y * W + x = y' * W + x') : x = x' ∧ y = y' := by
  have h1 : (y * W + x) % W = x := by rw [Nat.mul_comm, Nat.mul_add_mod, Nat.mod_eq_of_lt hx]
  have h2 : (y' * W + x') % W = x' := by rw [Nat.mul_comm, Nat.mul_add_mod, Nat.mod_eq_of_lt hx']
  have e : x = x' := by rw [← h1, ← h2, h]
  subst e
  have : y * W = y' * W := by omega
  exact ⟨rfl, Nat.eq_of_mul_eq_mul_right (by omega) this⟩
theorem at0_set {img : Rows} {Y X X' Y' : Nat} {r : List Int} {v : Int} (e : img[Y]? = some r) (hX : X < r.length) : at0 (img.set Y (r.set X v)) X' Y' = if X' = X ∧ Y' = Y then v else at0 img X' Y' := by
  unfold at0
  have hY := (List.getElem?_eq_some_iff.mp e).1
  simp only [List.getD_eq_getElem?_getD]
  by_cases h1 : Y' = Y
  · subst h1
    rw [List.getElem?_set_self hY, e]
    simp only [Option.getD_some]
    by_cases h2 : X' = X
    · subst h2
      rw [List.getElem?_set_self hX, if_pos (by simp)]
      rfl
    · rw [List.getElem?_set_ne (Ne.symm h2), if_neg (fun z => h2 z.1)]
  · rw [List.getElem?_set_ne (Ne.symm h1), if_neg (fun z => h1 z.2)]
theorem Img.step {W H m x y : Nat} {cell img : Rows} {r : List Int} (I : Img W H m (y * W + x) cell img) (hm : m < 8) (sq : m % 2 = 0 ∨ W = H) (hx : x < W) (hy : y < H) (e : img[tY H m x y]? = some r) :
    Img W H m (y * W + x + 1) cell (img.set (tY H m x y) (r.set (tX W m x y) (at0 cell x y))) := by
  have g := I.rect
  have hr : r.length = W := g.len r (List.mem_of_getElem? e)
  have hX : tX W m x y < r.length := by rw [hr]; exact toNat_mod_lt g.w1 _
  refine ⟨⟨g.w1, g.h1, by rw [List.length_set]; exact g.high, fun q hq => ?_⟩, fun x' y' hx' hy' hk => ?_⟩
  · rcases List.mem_or_eq_of_mem_set hq with hq | rfl
    · exact g.len q hq
    · rw [List.length_set, hr]
  · rw [at0_set e hX]
    by_cases c : tX W m x' y' = tX W m x y ∧ tY H m x' y' = tY H m x y
    · obtain ⟨e1, e2⟩ := tp_inj hm sq hx' hy' hx hy c.1 c.2
      rw [if_pos c, e1, e2]
    · rw [if_neg c]
      refine I.at_ x' y' hx' hy' ?_
      have : y' * W + x' ≠ y * W + x := fun z => by
        obtain ⟨e1, e2⟩ := place_inj hx' hx z
        subst e1 e2
        exact c ⟨rfl, rfl⟩
      omega
abbrev ImgOf (W H m : Nat) (cell img : Rows) : Prop := Img W H m (H * W) cell img
theorem place_lt {W H x y : Nat} (hx : x < W) (hy : y < H) : y * W + x < H * W := by
  have : (y + 1) * W ≤ H * W := Nat.mul_le_mul_right _ hy
  rw [Nat.succ_mul] at this
  omega
/-! ### the image moved on -/
def rot (l : Nat) (r : List Int) : List Int := r.drop l ++ r.take l
def fitRow (cell img : Rows) (a b : Int) (y : Nat) : Bool := decide (rot (a % (wide cell : Int)).toNat (cell.getD (((y : Int) + b) % (cell.length : Int)).toNat []) = img.getD y [])
def fitsB (cell img : Rows) (a b : Int) : Bool := (List.range cell.length).all (fitRow cell img a b)
theorem rot_get {r : List Int} {l x : Nat} (hl : l < r.length) (hx : x < r.length) : (rot l r)[x]? = r[(x + l) % r.length]? := by
  unfold rot
  by_cases h : x < r.length - l
  · rw [List.getElem?_append_left (by rw [List.length_drop]; exact h), List.getElem?_drop, Nat.mod_eq_of_lt (by omega), Nat.add_comm]
  · rw [List.getElem?_append_right (by rw [List.length_drop]; omega), List.length_drop, List.getElem?_take_of_lt (by omega)]
    have : (x + l) % r.length = x - (r.length - l) := by
      rw [Nat.mod_eq_sub_mod (by omega), Nat.mod_eq_of_lt (by omega)]
      omega
    rw [this]
theorem row_ext {r s : List Int} {W : Nat} (h1 : r.length = W) (h2 : s.length = W) : r = s ↔ ∀ x, x < W → r.getD x 0 = s.getD x 0 := by
  refine ⟨fun h x _ => by rw [h], fun h => ?_⟩
  apply List.ext_getElem (by omega)
  intro x hx hx'
  have := h x (by omega)
  simp only [List.getD_eq_getElem?_getD, List.getElem?_eq_getElem hx, List.getElem?_eq_getElem hx', Option.getD_some] at this
  exact this
theorem mod_add_nat {W : Nat} (hW : 1 ≤ W) (x : Nat) (a : Int) : (x + (a % (W : Int)).toNat) % W = (((x : Int) + a) % (W : Int)).toNat := by
  have e : ((((x + (a % (W : Int)).toNat) % W : Nat)) : Int) = ((x : Int) + a) % (W : Int) := by
    rw [Int.natCast_emod, Int.natCast_add, toNat_mod_cast hW, Int.add_emod_emod]
  have q := congrArg Int.toNat e
  rwa [Int.toNat_natCast] at q
theorem fitRow_iff {W H : Nat} {cell img : Rows} {a b : Int} (g : Rect W H cell) (g2 : Rect W H img) {y : Nat} (hy : y < H) : fitRow cell img a b y = true ↔ ∀ x : Nat, x < W → fld cell (x + a) (y + b) = at0 img x y := by
  unfold fitRow
  rw [decide_eq_true_eq, g.wide, g.high]
  obtain ⟨r, e, hr, _⟩ := g.row (y := (((y : Int) + b) % (H : Int)).toNat) (toNat_mod_lt g.h1 _)
  obtain ⟨s, e2, hs, _⟩ := g2.row (y := y) hy
  have e' : cell.getD (((y : Int) + b) % (H : Int)).toNat [] = r := by rw [List.getD_eq_getElem?_getD, e]; rfl
  have e2' : img.getD y [] = s := by rw [List.getD_eq_getElem?_getD, e2]; rfl
  rw [e', e2']
  have hl : (a % (W : Int)).toNat < r.length := by rw [hr]; exact toNat_mod_lt g.w1 _
  have hrot : (rot (a % (W : Int)).toNat r).length = W := by
    unfold rot
    rw [List.length_append, List.length_drop, List.length_take]
    omega
  rw [row_ext hrot hs]
  have key : ∀ x : Nat, x < W → (rot (a % (W : Int)).toNat r).getD x 0 = fld cell (x + a) (y + b) := by
    intro x hx
    rw [List.getD_eq_getElem?_getD, rot_get hl (by omega), hr, mod_add_nat g.w1, g.fld_eq]
    unfold at0
    rw [e', List.getD_eq_getElem?_getD]
  have key2 : ∀ x : Nat, at0 img x y = s.getD x 0 := fun x => by unfold at0; rw [e2']
  constructor
  · intro h x hx
    rw [← key x hx, key2, h x hx]
  · intro h x hx
    rw [key x hx, ← key2, h x hx]
theorem fits_iff {W H m : Nat} {cell img : Rows} {a b : Int} (g : Rect W H cell) (I : ImgOf W H m cell img) (hm : m < 8) (sq : m % 2 = 0 ∨ W = H) :
    fitsB cell img a b = true ↔ ∀ x y : Nat, x < W → y < H → fld cell ((tp m x y).1 + a) ((tp m x y).2 + b) = fld cell x y := by
  unfold fitsB
  rw [List.all_eq_true]
  have h0 : (∀ y ∈ List.range cell.length, fitRow cell img a b y = true) ↔ ∀ X Y : Nat, X < W → Y < H → fld cell (X + a) (Y + b) = at0 img X Y := by
    rw [g.high]
    constructor
    · intro h X Y hX hY
      exact (fitRow_iff g I.rect hY).mp (h Y (List.mem_range.mpr hY)) X hX
    · intro h y hy
      exact (fitRow_iff g I.rect (List.mem_range.mp hy)).mpr fun x hx => h x y hx (List.mem_range.mp hy)
  rw [h0]
  have mv : ∀ x y : Nat, fld cell (((tX W m x y : Nat) : Int) + a) (((tY H m x y : Nat) : Int) + b) = fld cell ((tp m x y).1 + a) ((tp m x y).2 + b) := by
    intro x y
    obtain ⟨k, e⟩ := mod_back g.w1 (tp m x y).1
    obtain ⟨l, e'⟩ := mod_back g.h1 (tp m x y).2
    have := g.fld_add (((tX W m x y : Nat) : Int) + a) (((tY H m x y : Nat) : Int) + b) k l
    rw [← this]
    unfold tX tY
    congr 1
    · omega
    · omega
  constructor
  · intro h x y hx hy
    rw [← mv, h (tX W m x y) (tY H m x y) (toNat_mod_lt g.w1 _) (toNat_mod_lt g.h1 _), I.at_ x y hx hy (place_lt hx hy), g.fld_nat hx hy]
  · intro h X Y hX hY
    obtain ⟨x, y, hx, hy, rfl, rfl⟩ := tp_surj hm sq hX hY
    rw [mv, I.at_ x y hx hy (place_lt hx hy), h x y hx hy, g.fld_nat hx hy]
/-! ### the square cell -/
def cutRows (g : Nat) (rows : Rows) : Rows := (rows.take g).map (List.take g)
def tileRow (n : Nat) (r : List Int) : List Int := (List.replicate n r).flatten
def tiled (W g h : Nat) (cell : Rows) : Rows := (List.range h).map fun y => tileRow (W / g) (cell.getD (y % g) [])
def sqSide (rows : Rows) : Nat := Nat.gcd (wide rows) rows.length
def sqOk (rows : Rows) : Bool := decide (rows = tiled (wide rows) (sqSide rows) rows.length (cutRows (sqSide rows) rows))
theorem tile_get {g : Nat} {l : List Int} (hl : l.length = g) (hg : 1 ≤ g) : ∀ (n x : Nat), x < n * g → (tileRow n l)[x]? = l[x % g]?
  | 0, x, h => by omega
  | n + 1, x, h => by
    unfold tileRow
    rw [List.replicate_succ, List.flatten_cons]
    by_cases c : x < g
    · rw [List.getElem?_append_left (by omega), Nat.mod_eq_of_lt c]
    · rw [List.getElem?_append_right (by omega), hl]
      have := tile_get hl hg n (x - g) (by rw [Nat.add_mul, Nat.one_mul] at h; omega)
      unfold tileRow at this
      rw [this, (Nat.mod_eq_sub_mod (show x ≥ g by omega)).symm]
theorem tile_len (n : Nat) (l : List Int) : (tileRow n l).length = n * l.length := by
  unfold tileRow
  induction n with
  | zero => simp
  | succ n ih =>
    rw [List.replicate_succ, List.flatten_cons, List.length_append, ih, Nat.succ_mul]
    omega
section
variable {W H : Nat} {rows : Rows}
theorem cut_at {g x y : Nat} (hx : x < g) (hy : y < g) : at0 (cutRows g rows) x y = at0 rows x y := by
  unfold at0 cutRows
  simp only [List.getD_eq_getElem?_getD, List.getElem?_map, List.getElem?_take_of_lt hy]
  cases rows[y]? with
  | none => rfl
  | some r =>
    simp only [Option.map_some, Option.getD_some, List.getElem?_take_of_lt hx]
theorem cut_rect (g : Rect W H rows) {n : Nat} (h1 : 1 ≤ n) (hW : n ≤ W) (hH : n ≤ H) : Rect n n (cutRows n rows) := by
  refine ⟨h1, h1, ?_, fun r hr => ?_⟩
  · unfold cutRows
    have := g.high
    rw [List.length_map, List.length_take]
    omega
  · unfold cutRows at hr
    obtain ⟨q, hq, rfl⟩ := List.mem_map.mp hr
    have := g.len q (List.mem_of_mem_take hq)
    rw [List.length_take]
    omega
theorem sq_pos (g : Rect W H rows) : 1 ≤ Nat.gcd W H ∧ Nat.gcd W H ≤ W ∧ Nat.gcd W H ≤ H := by
  have h1 := g.w1
  have h2 := g.h1
  exact ⟨Nat.gcd_pos_of_pos_left _ h1, Nat.gcd_le_left _ h1, Nat.gcd_le_right _ h2⟩
theorem tiled_rect (g : Rect W H rows) : Rect W H (tiled W (Nat.gcd W H) H (cutRows (Nat.gcd W H) rows)) := by
  obtain ⟨p1, p2, p3⟩ := sq_pos g
  have gc := cut_rect g p1 p2 p3
  refine ⟨g.w1, g.h1, by unfold tiled; rw [List.length_map, List.length_range], fun r hr => ?_⟩
  unfold tiled at hr
  obtain ⟨y, hy, rfl⟩ := List.mem_map.mp hr
  obtain ⟨q, e, hq, _⟩ := gc.row (y := y % Nat.gcd W H) (Nat.mod_lt _ p1)
  rw [tile_len, List.getD_eq_getElem?_getD, e, Option.getD_some, hq]
  exact Nat.div_mul_cancel (Nat.gcd_dvd_left W H)
theorem tiled_at (g : Rect W H rows) {x y : Nat} (hx : x < W) (hy : y < H) : at0 (tiled W (Nat.gcd W H) H (cutRows (Nat.gcd W H) rows)) x y = at0 rows (x % Nat.gcd W H) (y % Nat.gcd W H) := by
  obtain ⟨p1, p2, p3⟩ := sq_pos g
  have gc := cut_rect g p1 p2 p3
  rw [← cut_at (rows := rows) (Nat.mod_lt x p1) (Nat.mod_lt y p1)]
  obtain ⟨q, e, hq, _⟩ := gc.row (y := y % Nat.gcd W H) (Nat.mod_lt _ p1)
  unfold at0 tiled
  have e0 : (cutRows (Nat.gcd W H) rows).getD (y % Nat.gcd W H) [] = q := by rw [List.getD_eq_getElem?_getD, e]; rfl
  rw [e0]
  have e1 : ((List.range H).map fun y => tileRow (W / Nat.gcd W H) ((cutRows (Nat.gcd W H) rows).getD (y % Nat.gcd W H) [])).getD y [] = tileRow (W / Nat.gcd W H) q := by
    rw [List.getD_eq_getElem?_getD, List.getElem?_map, List.getElem?_range hy]
    show tileRow _ ((cutRows (Nat.gcd W H) rows).getD (y % Nat.gcd W H) []) = _
    rw [e0]
  rw [e1, List.getD_eq_getElem?_getD, List.getD_eq_getElem?_getD, tile_get hq p1 _ _ (by rw [Nat.div_mul_cancel (Nat.gcd_dvd_left W H)]; exact hx)]
theorem rows_ext {r s : Rows} (g : Rect W H r) (g2 : Rect W H s) : r = s ↔ ∀ x y, x < W → y < H → at0 r x y = at0 s x y := by
  refine ⟨fun h x y _ _ => by rw [h], fun h => ?_⟩
  have l1 := g.high
  have l2 := g2.high
  apply List.ext_getElem (by omega)
  intro y hy hy'
  have e1 : r.getD y [] = r[y] := by rw [List.getD_eq_getElem?_getD, List.getElem?_eq_getElem hy]; rfl
  have e2 : s.getD y [] = s[y] := by rw [List.getD_eq_getElem?_getD, List.getElem?_eq_getElem hy']; rfl
  refine (row_ext (g.len _ (List.getElem_mem hy)) (g2.len _ (List.getElem_mem hy'))).mpr fun x hx => ?_
  have := h x y hx (by omega)
  unfold at0 at this
  rwa [e1, e2] at this
theorem sqOk_iff (g : Rect W H rows) : sqOk rows = true ↔ Rep (fld rows) (Nat.gcd W H) (Nat.gcd W H) := by
  obtain ⟨p1, p2, p3⟩ := sq_pos g
  unfold sqOk sqSide
  rw [decide_eq_true_eq, g.wide, g.high, rows_ext g (tiled_rect g)]
  constructor
  · intro h
    have hf : ∀ X Y : Int, fld rows X Y = at0 rows (X % (Nat.gcd W H : Int)).toNat (Y % (Nat.gcd W H : Int)).toNat := by
      intro X Y
      rw [g.fld_eq, h _ _ (toNat_mod_lt g.w1 _) (toNat_mod_lt g.h1 _), tiled_at g (toNat_mod_lt g.w1 _) (toNat_mod_lt g.h1 _)]
      have c : ∀ (Z : Int) (N : Nat), 1 ≤ N → Nat.gcd W H ∣ N → (Z % (N : Int)).toNat % Nat.gcd W H = (Z % (Nat.gcd W H : Int)).toNat := by
        intro Z N hN d
        have e : ((((Z % (N : Int)).toNat % Nat.gcd W H : Nat)) : Int) = Z % (Nat.gcd W H : Int) := by
          rw [Int.natCast_emod, toNat_mod_cast hN, Int.emod_emod_of_dvd _ (Int.natCast_dvd_natCast.mpr d)]
        have q := congrArg Int.toNat e
        rwa [Int.toNat_natCast] at q
      rw [c X W g.w1 (Nat.gcd_dvd_left W H), c Y H g.h1 (Nat.gcd_dvd_right W H)]
    constructor
    · intro Y X
      show fld rows (X + (Nat.gcd W H : Int)) Y = fld rows X Y
      rw [hf, hf, Int.add_emod_right]
    · intro X Y
      show fld rows X (Y + (Nat.gcd W H : Int)) = fld rows X Y
      rw [hf, hf, Int.add_emod_right]
  · intro r x y hx hy
    rw [tiled_at g hx hy, ← g.fld_nat hx hy, ← g.fld_nat (x := x % Nat.gcd W H) (y := y % Nat.gcd W H) (Nat.lt_of_le_of_lt (Nat.mod_le _ _) hx) (Nat.lt_of_le_of_lt (Nat.mod_le _ _) hy)]
    have := r.add ((x % Nat.gcd W H : Nat) : Int) ((y % Nat.gcd W H : Nat) : Int) ((x / Nat.gcd W H : Nat) : Int) ((y / Nat.gcd W H : Nat) : Int)
    rw [← this]
    have a1 := Nat.mod_add_div x (Nat.gcd W H)
    have a2 := Nat.mod_add_div y (Nat.gcd W H)
    congr 1
    · exact_mod_cast a1.symm
    · exact_mod_cast a2.symm
theorem sq_fld (g : Rect W H rows) (h : sqOk rows = true) (X Y : Int) : fld (cutRows (Nat.gcd W H) rows) X Y = fld rows X Y := by
  obtain ⟨p1, p2, p3⟩ := sq_pos g
  have gc := cut_rect g p1 p2 p3
  have r := (sqOk_iff g).mp h
  rw [gc.fld_eq, cut_at (toNat_mod_lt p1 _) (toNat_mod_lt p1 _)]
  have hx := toNat_mod_lt p1 X
  have hy := toNat_mod_lt p1 Y
  rw [← g.fld_nat (Nat.lt_of_lt_of_le hx p2) (Nat.lt_of_lt_of_le hy p3)]
  obtain ⟨k, e⟩ := mod_back p1 X
  obtain ⟨l, e'⟩ := mod_back p1 Y
  have := r.add (((X % (Nat.gcd W H : Int)).toNat : Nat) : Int) (((Y % (Nat.gcd W H : Int)).toNat : Nat) : Int) k l
  rw [← this, ← e, ← e']
end
/-! ### what has decides -/
/-- the cell that a motion's turn brings onto itself -/
def cellFor (rows : Rows) (m : Nat) : Option Rows := if m % 2 = 1 then (if sqOk rows = true then some (cutRows (sqSide rows) rows) else none) else some rows
/-- its breadth and height -/
def cW (rows : Rows) (m : Nat) : Nat := if m % 2 = 1 then sqSide rows else wide rows
def cH (rows : Rows) (m : Nat) : Nat := if m % 2 = 1 then sqSide rows else rows.length
theorem cell_none {rows : Rows} {m : Nat} {a b : Int} (g : Good rows) (hm : m < 8) (h : cellFor rows m = none) : Rg.isSym (chartR rows) ⟨m, a, b⟩ = false := by
  unfold cellFor at h
  by_cases od : m % 2 = 1
  · rw [if_pos od] at h
    by_cases c : sqOk rows = true
    · rw [if_pos c] at h; cases h
    · apply Bool.eq_false_iff.mpr
      intro z
      have s := (isSym_iff g hm a b).mp z
      have r := g.rect.rep
      exact c ((sqOk_iff g.rect).mpr (r.gcd (sym_odd_rep r hm od s)))
  · rw [if_neg od] at h; cases h
theorem cell_some {rows cell : Rows} {m : Nat} (g : Good rows) (h : cellFor rows m = some cell) : Rect (cW rows m) (cH rows m) cell ∧ (m % 2 = 0 ∨ cW rows m = cH rows m) ∧ (∀ X Y, fld cell X Y = fld rows X Y) ∧ Rep (fld rows) (cW rows m) (cH rows m) := by
  unfold cellFor at h
  unfold cW cH
  by_cases od : m % 2 = 1
  · rw [if_pos od] at h
    rw [if_pos od, if_pos od]
    by_cases c : sqOk rows = true
    · rw [if_pos c] at h
      cases h
      obtain ⟨p1, p2, p3⟩ := sq_pos g.rect
      exact ⟨cut_rect g.rect p1 p2 p3, .inr rfl, fun X Y => sq_fld g.rect c X Y, (sqOk_iff g.rect).mp c⟩
    · rw [if_neg c] at h; cases h
  · rw [if_neg od] at h
    rw [if_neg od, if_neg od]
    cases h
    exact ⟨g.rect, .inl (by omega), fun _ _ => rfl, g.rect.rep⟩
theorem fits_sym {rows cell img : Rows} {m : Nat} {a b : Int} (g : Good rows) (hm : m < 8) (h : cellFor rows m = some cell) (I : ImgOf (cW rows m) (cH rows m) m cell img) : fitsB cell img a b = Rg.isSym (chartR rows) ⟨m, a, b⟩ := by
  obtain ⟨gc, sq, hf, r⟩ := cell_some g h
  apply Bool.eq_iff_iff.mpr
  rw [fits_iff gc I hm sq, isSym_iff g hm, sym_cell r gc.w1 gc.h1 hm sq]
  simp only [hf]
end Kc

namespace Kc
open PySem PySem.Spec PyProof.Rows L2
/-! ### heaps -/
theorem same_upd {H : Hp} {p : Addr} {o : HO} (h : H p = none) : Same H (upd H p o) := fun b x e => by
  rw [upd_ne (ne_of_none e h)]
  exact e
/-- a store at what was not there at first -/
theorem same_put {H H' : Hp} {p : Addr} {o : HO} (s : Same H H') (h : H p = none) : Same H (upd H' p o) := fun b x e => by
  rw [upd_ne (ne_of_none e h)]
  exact s b x e
theorem same_new {H H' : Hp} {p : Addr} {o : HO} (s : Same H H') (h : H' p = none) : Same H (upd H' p o) := same_put s (Same.free s h)
/-- a list of ints -/
def IntsAt (H : Hp) (a : Addr) (r : List Int) : Prop := H a = some (.lst (r.map V.int))
/-- a list of lists of ints, at these addresses -/
def RowsAt (H : Hp) (p : Addr) (ps : List Addr) (rows : Rows) : Prop := H p = some (.lst (ps.map V.ref)) ∧ ps.length = rows.length ∧ ∀ (i : Nat) (a : Addr) (r : List Int), ps[i]? = some a → rows[i]? = some r → IntsAt H a r
theorem same_ints {H H' : Hp} (s : Same H H') {a : Addr} {r : List Int} (h : IntsAt H a r) : IntsAt H' a r := s _ _ h
theorem same_rows {H H' : Hp} (s : Same H H') {p : Addr} {ps : List Addr} {rows : Rows} (h : RowsAt H p ps rows) : RowsAt H' p ps rows := ⟨s _ _ h.1, h.2.1, fun i a r e1 e2 => s _ _ (h.2.2 i a r e1 e2)⟩
theorem RowsAt.get {H : Hp} {p : Addr} {ps : List Addr} {rows : Rows} (h : RowsAt H p ps rows) {i : Nat} {r : List Int} (e : rows[i]? = some r) : ∃ a, ps[i]? = some a ∧ IntsAt H a r := by
  have hi := (List.getElem?_eq_some_iff.mp e).1
  have hj : i < ps.length := by rw [h.2.1]; exact hi
  exact ⟨ps[i], List.getElem?_eq_getElem hj, h.2.2 i _ _ (List.getElem?_eq_getElem hj) e⟩
theorem line_lt {n : Nat} (h : n ≤ 16777215) : n < sizeLine := by rw [sizeLine_eq]; omega
theorem line_le {n : Nat} (h : n ≤ 16777216) : n ≤ sizeLine := by rw [sizeLine_eq]; omega
theorem map_get {α β : Type} {f : α → β} {l : List α} {i : Nat} {y : β} (h : (l.map f)[i]? = some y) : ∃ x, l[i]? = some x ∧ y = f x := by
  rw [List.getElem?_map] at h
  obtain ⟨x, e, rfl⟩ := Option.map_eq_some_iff.mp h
  exact ⟨x, e, rfl⟩
theorem take_succ {α : Type} {l : List α} {i : Nat} {x : α} (h : l[i]? = some x) : l.take (i + 1) = l.take i ++ [x] := by
  rw [List.take_add_one, h]; rfl
theorem rel_int (i : Int) (t : Tok) : RelV (.int i) (.int i t) := ⟨t, rfl⟩
theorem yes_ite {σ : L2.St} {H : Hp} {A B : Hp → Prop} (h : A H) : tYes σ H (fun b H3 => if b = true then A H3 else B H3) := by
  show (if true = true then A H else B H)
  rw [if_pos rfl]
  exact h
theorem RowsAt.there {H : Hp} {p : Addr} {ps : List Addr} {rows : Rows} (h : RowsAt H p ps rows) {a : Addr} (ha : a ∈ ps) : ∃ o, H a = some o := by
  obtain ⟨i, hi, rfl⟩ := List.mem_iff_getElem.mp ha
  have hj : i < rows.length := by rw [← h.2.1]; exact hi
  exact ⟨_, h.2.2 i _ _ (List.getElem?_eq_getElem hi) (List.getElem?_eq_getElem hj)⟩
theorem RowsAt.put {H : Hp} {p b : Addr} {ps : List Addr} {rows : Rows} {o : HO} (h : RowsAt H p ps rows) (hb : p ≠ b) (hn : b ∉ ps) : RowsAt (upd H b o) p ps rows := by
  refine ⟨by rw [upd_ne hb]; exact h.1, h.2.1, fun i a r e1 e2 => ?_⟩
  have : a ≠ b := fun z => hn (z ▸ List.mem_of_getElem? e1)
  show upd H b o a = _
  rw [upd_ne this]
  exact h.2.2 i a r e1 e2
theorem RowsAt.push {H : Hp} {p q : Addr} {ps : List Addr} {rows : Rows} {r : List Int} (h : RowsAt H p ps rows) (hq : IntsAt H q r) (hp : p ∉ ps) (hpq : p ≠ q) : RowsAt (upd H p (.lst (ps.map V.ref ++ [.ref q]))) p (ps ++ [q]) (rows ++ [r]) := by
  refine ⟨by rw [upd_same, List.map_append]; rfl, by rw [List.length_append, List.length_append, h.2.1]; rfl, fun i a r' e1 e2 => ?_⟩
  have hl := h.2.1
  by_cases hi : i < ps.length
  · rw [List.getElem?_append_left hi] at e1
    rw [List.getElem?_append_left (by omega)] at e2
    have : a ≠ p := fun z => hp (z ▸ List.mem_of_getElem? e1)
    show upd H p _ a = _
    rw [upd_ne this]
    exact h.2.2 i a r' e1 e2
  · have hlt := (List.getElem?_eq_some_iff.mp e1).1
    rw [List.length_append, List.length_singleton] at hlt
    have hi2 : i = ps.length := by omega
    subst hi2
    rw [List.getElem?_append_right (Nat.le_refl _)] at e1
    rw [hl, List.getElem?_append_right (Nat.le_refl _)] at e2
    simp at e1 e2
    subst e1 e2
    show upd H p _ q = _
    rw [upd_ne (Ne.symm hpq)]
    exact hq
/-! ### promises -/
def spColour : Sp := fun vs H Q _ => ∃ b : Int, vs = [.int b] ∧ Q (.bl (isCol b)) H
def spChartRow (K : PySem.W.Frag) : Sp := fun vs H Q _ => ∃ (a : Addr) (w : Nat) (r : List Int), vs = [.ref a, .int w] ∧ SqL K H a (r.map V.int) ∧ r.length ≤ 70000 ∧ ∀ H', Same H H' → Q (.bl (rowOk w r)) H'
def spIsChart : Sp := fun vs H Q _ => ∃ (p : Addr) (ps : List Addr) (rows : Rows), vs = [.ref p] ∧ RowsAt H p ps rows ∧ rows ≠ [] ∧ rows.length ≤ 70000 ∧ (∀ r ∈ rows, r.length ≤ 70000) ∧ ∀ H', Same H H' → Q (.bl (chartOk rows)) H'
def spSplit (K : PySem.W.Frag) : Sp := fun vs H Q _ => ∃ (a : Addr) (t : List Int), vs = [.ref a] ∧ SqL K H a (t.map V.int) ∧ t.length ≤ 70000 ∧ ∀ H' p ps, Same H H' → RowsAt H' p ps (splitRows t) → Q (.ref p) H'
def spRefusal (K : PySem.W.Frag) : Sp := fun vs H Q _ => ∃ (a : Addr) (t : List Int), vs = [.ref a] ∧ SqL K H a (t.map V.int) ∧ t.length ≤ 70000 ∧ ∀ H', Same H H' → Q (.int (refusal t)) H'
end Kc

namespace Kc
open PySem PySem.Spec PyProof.Rows L2
theorem go_take {t : List Int} {i : Nat} {z : Int} (h : t[i]? = some z) : splitGo (t.take (i + 1)) = spStep (splitGo (t.take i)) z := by
  unfold splitGo
  rw [take_succ h, List.foldl_append]
  rfl
theorem go_len (t : List Int) : ∀ s : Rows × List Int, (t.foldl spStep s).1.length ≤ s.1.length + t.length ∧ (t.foldl spStep s).2.length ≤ s.2.length + t.length := by
  induction t with
  | nil => intro s; simp
  | cons x r ih =>
    intro s
    rw [List.foldl_cons]
    have := ih (spStep s x)
    unfold spStep at this ⊢
    by_cases h : x = 10
    · simp [h] at this ⊢
      omega
    · simp [h] at this ⊢
      omega
theorem go_len0 (t : List Int) : (splitGo t).1.length ≤ t.length ∧ (splitGo t).2.length ≤ t.length := by
  have := go_len t ([], [])
  simpa [splitGo] using this
/-! ### data that is compared -/
def dInts (r : List Int) : PyData := .list (r.map PyData.int)
def dRows (rows : Rows) : PyData := .list (rows.map dInts)
theorem ints_lay : ∀ r : List Int, PyData.canLayAll0 (r.map PyData.int) = true ∧ PyData.depthAll (r.map PyData.int) = 0
  | [] => by simp [PyData.canLayAll0, PyData.depthAll]
  | x :: r => by
    have ih := ints_lay r
    simp [PyData.canLayAll0, PyData.depthAll, PyData.canLay0, PyData.depth, ih]
theorem rows_lay : ∀ rows : Rows, PyData.canLayAll0 (rows.map dInts) = true ∧ PyData.depthAll (rows.map dInts) ≤ 1
  | [] => by simp [PyData.canLayAll0, PyData.depthAll]
  | r :: rows => by
    have ih := rows_lay rows
    have h := ints_lay r
    simp [PyData.canLayAll0, PyData.depthAll, dInts, PyData.canLay0, PyData.depth, h]
    refine ⟨ih.1, ?_⟩
    have := ih.2
    omega
theorem ints_shaped (r : List Int) : SeqAt.shaped (dInts r) = true := by
  have h := ints_lay r
  show ((dInts r).canLay0 && decide ((dInts r).depth ≤ 64)) = true
  simp [dInts, PyData.canLay0, PyData.depth, h]
theorem rows_shaped (rows : Rows) : SeqAt.shaped (dRows rows) = true := by
  have h := rows_lay rows
  show ((dRows rows).canLay0 && decide ((dRows rows).depth ≤ 64)) = true
  simp only [dRows, PyData.canLay0, PyData.depth, h.1, Bool.true_and, decide_eq_true_eq]
  omega
theorem ints_eqvAll : ∀ r s : List Int, PyData.eqvAll (r.map PyData.int) (s.map PyData.int) = decide (r = s)
  | [], [] => by simp [PyData.eqvAll]
  | [], y :: s => by simp [PyData.eqvAll]
  | x :: r, [] => by simp [PyData.eqvAll]
  | x :: r, y :: s => by
    have ih := ints_eqvAll r s
    simp only [List.map_cons, PyData.eqvAll, PyData.eqv, ih]
    by_cases h : x = y <;> simp [h]
theorem ints_eqv (r s : List Int) : PyData.eqv (dInts r) (dInts s) = decide (r = s) := by
  simp only [dInts, PyData.eqv]
  exact ints_eqvAll r s
theorem rows_eqvAll : ∀ r s : Rows, PyData.eqvAll (r.map dInts) (s.map dInts) = decide (r = s)
  | [], [] => by simp [PyData.eqvAll]
  | [], y :: s => by simp [PyData.eqvAll]
  | x :: r, [] => by simp [PyData.eqvAll]
  | x :: r, y :: s => by
    have ih := rows_eqvAll r s
    simp only [List.map_cons, PyData.eqvAll, ints_eqv, ih]
    by_cases h : x = y <;> simp [h]
theorem rows_eqv (r s : Rows) : PyData.eqv (dRows r) (dRows s) = decide (r = s) := by
  simp only [dRows, PyData.eqv]
  exact rows_eqvAll r s
theorem ints_all {K : PySem.W.Frag} {H : Hp} : ∀ r : List Int, DpAll K H (r.map V.int) (r.map PyData.int)
  | [] => .nil
  | x :: r => .cons (.int x) (ints_all r)
theorem ints_dp {K : PySem.W.Frag} {H : Hp} {a : Addr} {r : List Int} (h : IntsAt H a r) : Dp K H (.ref a) (dInts r) := .lst (SqL.of h) (ints_all r)
theorem rows_all {K : PySem.W.Frag} {H : Hp} : ∀ (ps : List Addr) (rows : Rows), ps.length = rows.length → (∀ (i : Nat) (a : Addr) (r : List Int), ps[i]? = some a → rows[i]? = some r → IntsAt H a r) → DpAll K H (ps.map V.ref) (rows.map dInts)
  | [], [], _, _ => .nil
  | [], _ :: _, h, _ => by simp at h
  | _ :: _, [], h, _ => by simp at h
  | p :: ps, r :: rows, h, q => .cons (ints_dp (q 0 p r rfl rfl)) (rows_all ps rows (by simpa using h) fun i a r e1 e2 => q (i + 1) a r (by simpa using e1) (by simpa using e2))
theorem rows_dp {K : PySem.W.Frag} {H : Hp} {p : Addr} {ps : List Addr} {rows : Rows} (h : RowsAt H p ps rows) : Dp K H (.ref p) (dRows rows) := .lst (SqL.of h.1) (rows_all ps rows h.2.1 h.2.2)
/-! ### slices, places -/
theorem cut_to (xs : List V) (n : Nat) : cutV xs none (some (n : Int)) = xs.take n := by
  unfold cutV
  rw [show HT.sIx xs.length xs.length (some (n : Int)) = min n xs.length from HT.sIx_nat xs.length xs.length n, HT.sIx_none]
  simp
theorem cut_from (xs : List V) (n : Nat) : cutV xs (some (n : Int)) none = xs.drop n := by
  unfold cutV
  rw [show HT.sIx xs.length 0 (some (n : Int)) = min n xs.length from HT.sIx_nat xs.length 0 n, HT.sIx_none]
  by_cases h : n ≤ xs.length
  · rw [Nat.min_eq_left h]
    exact List.take_of_length_le (by rw [List.length_drop]; omega)
  · rw [Nat.min_eq_right (by omega), List.drop_of_length_le (by omega), List.drop_of_length_le (by omega)]
    simp
theorem ixN_nat {n : Nat} {i : Int} (h0 : 0 ≤ i) (h1 : i < n) : ixN n i = some i.toNat := by
  unfold ixN
  rw [if_pos h0, if_pos h1]
theorem RowsAt.store {H : Hp} {p a : Addr} {ps : List Addr} {rows : Rows} {i : Nat} {r : List Int} (h : RowsAt H p ps rows) (nd : ps.Nodup) (hp : p ∉ ps) (e : ps[i]? = some a) : RowsAt (upd H a (.lst (r.map V.int))) p ps (rows.set i r) := by
  have hpa : p ≠ a := fun z => hp (z ▸ List.mem_of_getElem? e)
  refine ⟨by rw [upd_ne hpa]; exact h.1, by rw [List.length_set]; exact h.2.1, fun j b s e1 e2 => ?_⟩
  by_cases c : j = i
  · subst c
    rw [e] at e1
    cases e1
    have hj : j < rows.length := by rw [← h.2.1]; exact (List.getElem?_eq_some_iff.mp e).1
    rw [List.getElem?_set_self hj] at e2
    cases e2
    exact upd_same
  · rw [List.getElem?_set_ne (Ne.symm c)] at e2
    have : b ≠ a := fun z => by
      subst z
      exact c (nd_ix nd e1 e)
    show upd H a _ b = _
    rw [upd_ne this]
    exact h.2.2 j b s e1 e2
theorem zeros_map : ∀ n : Nat, (List.replicate n [V.int 0]).flatten = (List.replicate n (0 : Int)).map V.int
  | 0 => rfl
  | n + 1 => by
    rw [List.replicate_succ, List.flatten_cons, zeros_map n, List.replicate_succ]
    rfl
theorem tile_map (r : List Int) : ∀ n : Nat, (List.replicate n (r.map V.int)).flatten = (tileRow n r).map V.int
  | 0 => rfl
  | n + 1 => by
    unfold tileRow
    rw [List.replicate_succ, List.flatten_cons, tile_map r n, List.replicate_succ, List.flatten_cons, List.map_append]
    rfl
/-! ### promises -/
def spMeasure : Sp := fun vs H Q _ => ∃ n m : Nat, vs = [.int n, .int m] ∧ Q (.int (Nat.gcd n m : Nat)) H
def spPlace : Sp := fun vs H Q _ => ∃ (m : Nat) (x y : Int), vs = [.int m, .int x, .int y] ∧ m < 8 ∧ ∀ H' p, Same H H' → H' p = some (.tup [.int (tp m x y).1, .int (tp m x y).2]) → Q (.ref p) H'
def spSquare : Sp := fun vs H Q _ => ∃ (p : Addr) (ps : List Addr) (rows : Rows), vs = [.ref p] ∧ RowsAt H p ps rows ∧ Rect (wide rows) rows.length rows ∧ wide rows ≤ 70000 ∧ rows.length ≤ 70000 ∧
  (sqOk rows = true → ∀ H' q qs, Same H H' → RowsAt H' q qs (cutRows (sqSide rows) rows) → Q (.ref q) H') ∧ (sqOk rows = false → ∀ H', Same H H' → Q .non H')
def spCellFor : Sp := fun vs H Q _ => ∃ (p : Addr) (ps : List Addr) (rows : Rows) (m : Nat), vs = [.ref p, .int m] ∧ RowsAt H p ps rows ∧ Rect (wide rows) rows.length rows ∧ wide rows ≤ 70000 ∧ rows.length ≤ 70000 ∧
  (∀ cell, cellFor rows m = some cell → ∀ H' q qs, Same H H' → RowsAt H' q qs cell → Q (.ref q) H') ∧ (cellFor rows m = none → ∀ H', Same H H' → Q .non H')
def spTurned : Sp := fun vs H Q _ => ∃ (p : Addr) (ps : List Addr) (cell : Rows) (m W Ht : Nat), vs = [.ref p, .int m] ∧ RowsAt H p ps cell ∧ Rect W Ht cell ∧ W ≤ 70000 ∧ Ht ≤ 70000 ∧ m < 8 ∧ (m % 2 = 0 ∨ W = Ht) ∧
  ∀ H' q qs img, Same H H' → RowsAt H' q qs img → ImgOf W Ht m cell img → Q (.ref q) H'
def spFits : Sp := fun vs H Q _ => ∃ (p : Addr) (ps : List Addr) (cell : Rows) (q : Addr) (qs : List Addr) (img : Rows) (W Ht : Nat) (a b : Int), vs = [.ref p, .ref q, .int a, .int b] ∧ RowsAt H p ps cell ∧ RowsAt H q qs img ∧ Rect W Ht cell ∧ Rect W Ht img ∧ W ≤ 70000 ∧ Ht ≤ 70000 ∧
  ∀ H', Same H H' → Q (.bl (fitsB cell img a b)) H'
end Kc

namespace Kc
open PySem PySem.Spec PyProof.Rows L2
/-- len, for a comprehension's element -/
def rLenS (K : PySem.W.Frag) : List V → Hp → VK → Prop := fun xs H Q => ∃ p ys, xs = [V.ref p] ∧ (SqL K H p ys ∨ SqT K H p ys) ∧ Q (.int ys.length) H
/-! ### the specification over texts, and bounds -/
theorem ref_ok {t : List Int} (h : ¬ refusal t < 0) : ¬ 66048 < t.length ∧ textOk t = true := by
  unfold refusal at h
  by_cases c : 66048 < t.length
  · rw [if_pos c] at h
    omega
  · rw [if_neg c] at h
    refine ⟨c, ?_⟩
    cases e : textOk t with
    | true => rfl
    | false =>
      rw [e] at h
      simp at h
/-- the specification over texts -/
theorem ofChart_eq (t : List Int) (h : ∀ x ∈ t, inB x) (f : Rg.Chart → Rg.Ans) : RugBNeutral.shown (RugB.ofChart (RugBNeutral.text t) f) = if refusal t < 0 then [refusal t] else RugBNeutral.shown (f (chartR (splitRows t))) := by
  unfold RugB.ofChart
  rw [text_eq, List.length_map]
  unfold refusal
  by_cases c : 66048 < t.length
  · rw [if_pos (show Rg.TEXT < t.length from c), if_pos c]
    rfl
  · rw [if_neg (show ¬ Rg.TEXT < t.length from c), if_neg c]
    cases e : textOk t with
    | true =>
      rw [chart_some h e]
      rfl
    | false =>
      rw [chart_none h e]
      rfl
theorem split_len {t : List Int} : ∀ r ∈ splitRows t, r.length ≤ t.length := by
  intro r hr
  have e := congrArg List.length (split_join t)
  rw [List.length_append, flat_len] at e
  have : ∀ l : Rows, r ∈ l → r.length ≤ (l.map fun r => r.length + 1).sum := by
    intro l
    induction l with
    | nil => intro z; simp at z
    | cons x l ih =>
      intro z
      rw [List.map_cons, List.sum_cons]
      rcases List.mem_cons.mp z with rfl | z
      · omega
      · have := ih z
        omega
  have := this _ hr
  omega
theorem good_wide {t : List Int} (h : t.length ≤ 70000) : wide (splitRows t) ≤ 70000 ∧ (splitRows t).length ≤ 70000 := by
  have gl := (go_len0 t).1
  constructor
  · unfold wide
    cases hc : splitRows t with
    | nil => simp
    | cons r l =>
      have := split_len (t := t) r (by rw [hc]; simp)
      show r.length ≤ 70000
      omega
  · show (splitGo t).1.length ≤ 70000
    omega
theorem cell_le {rows : Rows} (g : Good rows) (m : Nat) : cW rows m ≤ 512 ∧ cH rows m ≤ 512 := by
  have h1 := g.w2
  have h2 := g.h2
  have h3 := sq_pos g.rect
  unfold cW cH sqSide
  by_cases c : m % 2 = 1
  · rw [if_pos c, if_pos c]
    omega
  · rw [if_neg c, if_neg c]
    omega
end Kc

namespace Kc
open PySem PySem.Spec PyProof.Rows L2
def topS (i : Nat) : Stmt := PySem.Challenge.pw_knotcharts_s07_strip.main.body.getD i (.Pass ⟨0, 0, 0, 0⟩)
abbrev sStrip : Stmt := topS 9
abbrev sRefusal : Stmt := topS 10
abbrev sSplit : Stmt := topS 11
abbrev sIsChart : Stmt := topS 12
abbrev sChartRow : Stmt := topS 13
abbrev sColour : Stmt := topS 14
abbrev sAcross : Stmt := topS 15
abbrev sMoves : Stmt := topS 16
abbrev sBorder : Stmt := topS 17
abbrev sTurned : Stmt := topS 18
abbrev sPlace : Stmt := topS 19
abbrev sFits : Stmt := topS 20
end Kc
namespace Kc
open PySem PySem.Spec PyProof.Rows L2
section
variable {P : Program} {w : World} {K : PySem.W.Frag} {mg : Str → Option Value} {base : Heap}
theorem scColour : FnScope ["byte"] ["byte"] (defScope sColour) := ⟨rfl, rfl, rfl, by decide +kernel, rfl, by decide +kernel, by decide +kernel⟩
theorem ok_colour {f : Addr} {fd : FuncData} {k : Nat} (F : Fun K "is_colour" "is_colour" sColour f fd) : FnOk P w K mg base CX0 (k + 1) f fd ["byte"] spColour := by
  refine F.ok scColour (fun vs H Q E h => ?_) (fun cdv A outer s H vs Q E hr h => ?_)
  · obtain ⟨b, rfl, _⟩ := h
    rfl
  · obtain ⟨b, rfl, q⟩ := h
    refine ⟨_, pss_one (ps_ret (pe_or (pe_chain op_le op_le pe_int (pv 0) pe_int) (pe_or (pe_chain op_le op_le pe_int (pv 0) pe_int) (pe_one (pe_chain op_le op_le pe_int (pv 0) pe_int))))), ?_⟩
    have go : ∀ (lo hi : Int) (R : V → Hp → Prop), R (.bl (decide (lo ≤ b ∧ b ≤ hi))) H → tChain (rI0 fun i j => .bl (decide (i ≤ j))) (rI0 fun i j => .bl (decide (i ≤ j))) (tC (.int lo)) (tVar 0) (tC (.int hi)) (start ["byte"] [.int b]) H R := by
      intro lo hi R hR
      refine ⟨.int b, rfl, lo, b, rfl, rfl, _, rfl, ite2 (fun h => ⟨b, hi, rfl, rfl, ?_⟩) (fun h => ?_)⟩
      · have h1 := of_decide_eq_true h
        show R (.bl (decide (b ≤ hi))) H
        rw [show decide (b ≤ hi) = decide (lo ≤ b ∧ b ≤ hi) by simp [h1]]
        exact hR
      · have h1 : ¬ lo ≤ b := fun z => h (decide_eq_true z)
        rw [show decide (lo ≤ b ∧ b ≤ hi) = false by simp [h1]] at hR
        exact hR
    refine go _ _ _ ⟨_, rfl, ite2 (fun h1 => ?_) (fun h1 => go _ _ _ ⟨_, rfl, ite2 (fun h2 => ?_) (fun h2 => go _ _ _ ?_)⟩)⟩
    all_goals (simp only [decide_eq_true_eq] at *)
    · rw [show isCol b = true by unfold isCol; exact decide_eq_true (by omega)] at q
      exact q
    · rw [show isCol b = true by unfold isCol; exact decide_eq_true (by omega)] at q
      exact q
    · rw [show isCol b = decide (48 ≤ b ∧ b ≤ 57) by unfold isCol; exact decide_eq_decide.mpr (by omega)] at q
      exact q
theorem scChartRow : FnScope ["row", "width", "byte"] ["row", "width"] (defScope sChartRow) := ⟨rfl, rfl, rfl, by decide +kernel, rfl, by decide +kernel, by decide +kernel⟩
theorem ok_chartRow {f fC : Addr} {fd fdC : FuncData} {k : Nat} (F : Fun K "is_chart_row" "is_chart_row" sChartRow f fd) (G : FnOk P w K mg base CX0 (k + 1) fC fdC ["byte"] spColour) (kC : PySem.W.keepIn K (.ref fC) = true)
    (bC : Binds K fdC ["byte"] []) (mC : mg "is_colour" = some (.ref fC)) (ml : mg "len" = none) (ma : mg "all" = none) : FnOk P w K mg base CX0 (k + 2) f fd ["row", "width"] (spChartRow K) := by
  refine F.ok scChartRow (fun vs H Q E h => ?_) (fun cdv A outer s H vs Q E hr h => ?_)
  · obtain ⟨a, wd, r, rfl, _⟩ := h
    rfl
  · obtain ⟨a, wd, r, rfl, hS, hlen, q⟩ := h
    refine ⟨_, pss_one (ps_ret (pe_and (pe_cmpR op_eq (pe_callB call_len_seq (by rfl) ml PySem.boot_len (pa_cons (pv 0) pa_nil)) (pv 1) (nomark _))
      (pe_one (pe_callB (cr_all rfl) (by rfl) ma (by decide +kernel) (pa_cons (pe_lc (own := [("byte", 2)]) (g := gName 2) (tt := tYes) rfl scChartRow.nd (pi_list (pv 0)) (blkOk_by (own := [("byte", 2)]) (N := ["row", "width", "byte"]) (sc := defScope sChartRow) (by decide +kernel))
        (fun _ _ _ _ _ => pg_name (i := 2) scChartRow.nd rfl (Or.inl rfl)) (fun _ _ _ _ _ => pts_nil) (fun _ _ _ _ _ => pe_call G hr (by rfl) mC kC bC .nil pass0 (pa_cons (pv 2) pa_nil))) pa_nil))))), ?_⟩
    refine ⟨.ref a, rfl, a, r.map V.int, rfl, .inl hS, .int wd, rfl, rfl, _, rfl, ite2 (fun e => ?_) (fun e => ?_)⟩
    · have e1 : r.length = wd := by
        have := V.int.inj (of_decide_eq_true e)
        rw [List.length_map] at this
        omega
      refine ⟨.ref a, rfl, a, rfl, ⟨_, hS⟩, fun D nD => lc_list (K := K) (a := a) (xs := r.map V.int) (fun i H' => Same H H' ∧ H' D = some (.lst ((r.take i).map fun x => V.bl (isCol x)))) ⟨same_upd nD, upd_same⟩ (fun i H' _ ⟨sm, _⟩ => sm.seq hS) ?_ ?_⟩
      · rintro i x H' hx ⟨sm, hD⟩
        obtain ⟨z, hz, rfl⟩ := map_get hx
        refine ⟨rfl, ?_⟩
        refine yes_ite ?_
        refine ⟨_, rfl, z, rfl, _, hD, ?_, same_put sm nD, ?_⟩
        · rw [List.length_map, List.length_take]
          exact line_lt (by omega)
        · rw [upd_same, take_succ hz, List.map_append]
          rfl
      · rintro H' ⟨sm, hD⟩
        rw [List.length_map, List.take_length] at hD
        refine ⟨D, r.map isCol, rfl, SqL.of (by rw [List.map_map]; exact hD), ?_⟩
        have := q H' sm
        rw [show rowOk wd r = (r.map isCol).all id by unfold rowOk; rw [decide_eq_true e1, List.all_map]; rfl] at this
        exact this
    · have e1 : ¬ r.length = wd := fun z => e (decide_eq_true (by rw [List.length_map, z]))
      have := q H (Same.refl H)
      rw [show rowOk wd r = false by unfold rowOk; rw [decide_eq_false e1]; rfl] at this
      exact this
end
end Kc

namespace Kc
open PySem PySem.Spec PyProof.Rows L2
section
variable {P : Program} {w : World} {K : PySem.W.Frag} {mg : Str → Option Value} {base : Heap}
theorem scSplit : FnScope ["t", "rows", "row", "byte"] ["t"] (defScope sSplit) := ⟨rfl, rfl, rfl, by decide +kernel, rfl, by decide +kernel, by decide +kernel⟩
theorem ok_split {f : Addr} {fd : FuncData} {k : Nat} {tk : Tok} (F : Fun K "split_rows" "split_rows" sSplit f fd) (mE : mg "ROW_END" = some (.int 10 tk)) : FnOk P w K mg base CX0 (k + 1) f fd ["t"] (spSplit K) := by
  refine F.ok scSplit (fun vs H Q E h => ?_) (fun cdv A outer s H vs Q E hr h => ?_)
  · obtain ⟨a, t, rfl, _⟩ := h
    rfl
  · obtain ⟨a, t, rfl, hS, hlen, q⟩ := h
    refine ⟨_, pss_cons (ps_set (i := 1) scSplit.nd rfl (.inl rfl) (pe_lst pa_nil)) (pss_cons (ps_set (i := 2) scSplit.nd rfl (.inl rfl) (pe_lst pa_nil))
      (pss_cons (ps_for PassesOwn.never rfl (pi_list (pv 0)) (pg_name (i := 3) scSplit.nd rfl (Or.inl rfl))
        (pss_one (ps_if (pt_cmpR op_eq (pv 3) (pe_glob rfl mE (rel_int _ _)) (nomark _))
          (pss_cons (ps_expr (pe_bm PySem.F.plainAttrs_list PySem.F.slot_list_append PySem.F.type_list_append mt_append (pv 1) (pa_cons (pv 2) pa_nil)))
            (pss_one (ps_set (i := 2) scSplit.nd rfl (.inl rfl) (pe_lst pa_nil))))
          (pss_one (ps_expr (pe_bm PySem.F.plainAttrs_list PySem.F.slot_list_append PySem.F.type_list_append mt_append (pv 2) (pa_cons (pv 3) pa_nil)))))))
      (pss_one (ps_ret (pv 1))))), ?_⟩
    refine ⟨Nat.zero_le _, fun p np => ⟨Nat.zero_le _, fun q0 nq0 => ?_⟩⟩
    have nq0' : p ≠ q0 := ne_of_none (upd_same (H := H) (a := p) (o := .lst [])) nq0
    have nqH : H q0 = none := by rwa [upd_ne (Ne.symm nq0')] at nq0
    refine ⟨_, rfl, a, rfl, ⟨_, (same_put (same_upd np) nqH).seq hS⟩, for_list (K := K) (a := a) (xs := t.map V.int)
      (fun i σ H' => ∃ (c : Addr) (ps : List Addr) (y : Option V), σ = [some (.ref a), some (.ref p), some (.ref c), y] ∧ Same H H' ∧ H c = none ∧ p ≠ c ∧ c ∉ ps ∧ p ∉ ps ∧ RowsAt H' p ps (splitGo (t.take i)).1 ∧ IntsAt H' c (splitGo (t.take i)).2)
      ⟨q0, [], none, rfl, same_put (same_upd np) nqH, nqH, nq0', by simp, by simp, ⟨?_, rfl, fun i a r e => by simp at e⟩, upd_same⟩ (fun i σ H' _ ⟨_, _, _, _, sm, _⟩ => sm.seq hS) ?_ ?_⟩
    · rw [upd_ne nq0', upd_same]
      rfl
    · rintro i x σ H' hx ⟨c, ps, y, rfl, sm, nc, npc, hcp, hpp, hR, hI⟩
      obtain ⟨z, hz, rfl⟩ := map_get hx
      have g := go_take hz
      have hi : i < t.length := (List.getElem?_eq_some_iff.mp hz).1
      have gl := go_len0 (t.take i)
      rw [List.length_take] at gl
      refine ⟨_, rfl, rfl, _, rfl, ite2 (fun e => ?_) (fun e => ?_)⟩
      · have e1 : z = 10 := V.int.inj (of_decide_eq_true e)
        rw [show spStep (splitGo (t.take i)) z = ((splitGo (t.take i)).1 ++ [(splitGo (t.take i)).2], []) by unfold spStep; rw [if_pos e1]] at g
        refine ⟨.ref p, rfl, .inl ⟨rfl, _, SqL.of hR.1⟩, .ref c, rfl, p, _, _, rfl, rfl, hR.1, ?_, ?_⟩
        · rw [List.length_map, hR.2.1]
          exact line_lt (by omega)
        · refine ⟨Nat.zero_le _, fun c2 nc2 => ?_⟩
          have hR2 := hR.push hI hpp npc
          have n1 : p ≠ c2 := ne_of_none hR2.1 nc2
          have n2 : c2 ∉ ps ++ [c] := fun z => by
            obtain ⟨o, ho⟩ := hR2.there z
            rw [nc2] at ho
            cases ho
          have nH : H c2 = none := Same.free (same_put sm np) nc2
          refine ⟨c2, ps ++ [c], some (.int z), rfl, same_put (same_put sm np) nH, nH, n1, n2, ?_, ?_, ?_⟩
          · intro hm
            rcases List.mem_append.mp hm with hm | hm
            · exact hpp hm
            · exact npc (List.mem_singleton.mp hm)
          · rw [g]
            exact hR2.put n1 n2
          · rw [g]
            exact upd_same
      · have e1 : ¬ z = 10 := fun q => e (decide_eq_true (by rw [q]))
        rw [show spStep (splitGo (t.take i)) z = ((splitGo (t.take i)).1, (splitGo (t.take i)).2 ++ [z]) by unfold spStep; rw [if_neg e1]] at g
        refine ⟨.ref c, rfl, .inl ⟨rfl, _, SqL.of hI⟩, .int z, rfl, c, _, _, rfl, rfl, hI, ?_, ?_⟩
        · rw [List.length_map]
          exact line_lt (by omega)
        · refine ⟨c, ps, some (.int z), rfl, same_put sm nc, nc, npc, hcp, hpp, ?_, ?_⟩
          · rw [g]
            exact hR.put npc hcp
          · rw [g]
            show upd H' c _ c = _
            rw [upd_same, List.map_append]
            rfl
    · rintro σ H' ⟨c, ps, y, rfl, sm, nc, npc, hcp, hpp, hR, hI⟩
      rw [List.length_map, List.take_length] at hR
      exact ⟨_, rfl, q H' p ps sm hR⟩
theorem scIsChart : FnScope ["rows", "height", "width", "row"] ["rows"] (defScope sIsChart) := ⟨rfl, rfl, rfl, by decide +kernel, rfl, by decide +kernel, by decide +kernel⟩
theorem ok_isChart {f fC : Addr} {fd fdC : FuncData} {k : Nat} {t1 t2 t3 : Tok} (F : Fun K "is_chart" "is_chart" sIsChart f fd) (G : FnOk P w K mg base CX0 (k + 1) fC fdC ["row", "width"] (spChartRow K)) (kC : PySem.W.keepIn K (.ref fC) = true)
    (bC : Binds K fdC ["row", "width"] []) (mC : mg "is_chart_row" = some (.ref fC)) (ml : mg "len" = none) (ma : mg "all" = none) (mW : mg "WIDEST" = some (.int 512 t1)) (mH : mg "HIGHEST" = some (.int 512 t2)) (mK : mg "MOST_KNOTS" = some (.int 65536 t3)) :
    FnOk P w K mg base CX0 (k + 2) f fd ["rows"] spIsChart := by
  refine F.ok scIsChart (fun vs H Q E h => ?_) (fun cdv A outer s H vs Q E hr h => ?_)
  · obtain ⟨p, ps, rows, rfl, _⟩ := h
    rfl
  · obtain ⟨p, ps, rows, rfl, hR, hne, hl1, hl2, q⟩ := h
    refine ⟨_, pss_cons (ps_set (i := 1) scIsChart.nd rfl (.inl rfl) (pe_callB call_len_seq (by rfl) ml PySem.boot_len (pa_cons (pv 0) pa_nil)))
      (pss_cons (ps_set (i := 2) scIsChart.nd rfl (.inr rfl) (pe_callB call_len_seq (by rfl) ml PySem.boot_len (pa_cons (pe_ix ix_list (pv 0) pe_int (fun _ _ => rfl)) pa_nil)))
      (pss_cons (ps_if (PW.pt (pw_or (pt_cmpR op_lt (pv 2) pe_int (nomark _)) (pw_or (pt_cmpR op_gt (pv 2) (pe_glob rfl mW (rel_int _ _)) (nomark _)) (pw_or (pt_cmpR op_gt (pv 1) (pe_glob rfl mH (rel_int _ _)) (nomark _)) (pw_or1 (pt_cmpR op_gt (pe_op op_mul (pv 2) (pv 1)) (pe_glob rfl mK (rel_int _ _)) (nomark _)))))))
        (pss_one (ps_ret pe_bl)) pss_nil)
      (pss_one (ps_ret (pe_callB (cr_all rfl) (by rfl) ma (by decide +kernel) (pa_cons (pe_lc (own := [("row", 3)]) (g := gName 3) (tt := tYes) rfl scIsChart.nd (pi_list (pv 0)) (blkOk_by (own := [("row", 3)]) (N := ["rows", "height", "width", "row"]) (sc := defScope sIsChart) (by decide +kernel))
        (fun _ _ _ _ _ => pg_name (i := 3) scIsChart.nd rfl (Or.inl rfl)) (fun _ _ _ _ _ => pts_nil) (fun _ _ _ _ _ => pe_call G hr (by rfl) mC kC bC .nil pass0 (pa_cons (pv 3) (pa_cons (pv 2) pa_nil)))) pa_nil)))))), ?_⟩
    obtain ⟨r0, rest, rfl⟩ : ∃ r0 rest, rows = r0 :: rest := by
      cases rows with
      | nil => exact absurd rfl hne
      | cons r0 rest => exact ⟨r0, rest, rfl⟩
    obtain ⟨a0, ha0, hI0⟩ := hR.get (i := 0) (r := r0) rfl
    have hps : ((ps.map V.ref).length : Int) = ((r0 :: rest).length : Int) := by rw [List.length_map, hR.2.1]
    have hr0 : ((r0.map V.int).length : Int) = (wide (r0 :: rest) : Int) := by rw [List.length_map]; rfl
    refine ⟨_, rfl, p, _, rfl, .inl (SqL.of hR.1), ?_⟩
    rw [hps]
    refine ⟨_, rfl, p, _, 0, .ref a0, rfl, rfl, SqL.of hR.1, atI_nat (j := 0) (by rw [List.getElem?_map, ha0]; rfl), a0, _, rfl, .inl (SqL.of hI0), ?_⟩
    rw [hr0]
    have hw : wide (r0 :: rest) ≤ 70000 := hl2 r0 (by simp)
    generalize hwd : wide (r0 :: rest) = wd at *
    generalize hht : (r0 :: rest).length = ht at *
    have no : ¬ (1 ≤ wd ∧ wd ≤ 512 ∧ ht ≤ 512 ∧ wd * ht ≤ 65536) → Q (.bl false) H := fun z => by
      have := q H (Same.refl H)
      unfold chartOk at this
      rw [hwd, hht, decide_eq_false z] at this
      exact this
    have hcast : ((wd : Int) * (ht : Int)) = ((wd * ht : Nat) : Int) := by rw [Int.natCast_mul]
    refine ⟨_, rfl, wd, 1, rfl, rfl, _, rfl, ite2 (fun e => ?_) (fun e => ⟨_, rfl, wd, 512, rfl, rfl, _, rfl, ite2 (fun e2 => ?_) (fun e2 => ⟨_, rfl, ht, 512, rfl, rfl, _, rfl, ite2 (fun e3 => ?_) (fun e3 => ?_)⟩)⟩)⟩
    · refine iteT (no fun z => ?_)
      have := of_decide_eq_true e
      omega
    · refine iteT (no fun z => ?_)
      have := of_decide_eq_true e2
      omega
    · refine iteT (no fun z => ?_)
      have := of_decide_eq_true e3
      omega
    · have e : ¬ ((wd : Int) < 1) := fun z => e (decide_eq_true z)
      have e2 : ¬ ((512 : Int) < wd) := fun z => e2 (decide_eq_true z)
      have e3 : ¬ ((512 : Int) < ht) := fun z => e3 (decide_eq_true z)
      refine ⟨_, rfl, _, rfl, wd, ht, rfl, rfl, .inl (by omega), wd * ht, 65536, rfl, rfl, _, rfl, ite2 (fun e4 => no fun z => ?_) (fun e4 => ?_)⟩
      · have := of_decide_eq_true e4
        rw [hcast] at this
        omega
      · have e4 : ¬ ((65536 : Int) < (wd : Int) * ht) := fun z => e4 (decide_eq_true z)
        rw [hcast] at e4
        refine ⟨_, rfl, p, rfl, ⟨_, SqL.of hR.1⟩, fun D nD => lc_list (K := K) (a := p) (xs := ps.map V.ref) (fun i H' => Same H H' ∧ H' D = some (.lst (((r0 :: rest).take i).map fun x => V.bl (rowOk wd x)))) ⟨same_upd nD, upd_same⟩ (fun i H' _ ⟨sm, _⟩ => SqL.of (sm _ _ hR.1)) ?_ ?_⟩
        · rintro i x H' hx ⟨sm, hD⟩
          obtain ⟨a, ha, rfl⟩ := map_get hx
          have hi : i < (r0 :: rest).length := by
            rw [← hR.2.1]
            exact (List.getElem?_eq_some_iff.mp ha).1
          have hz : (r0 :: rest)[i]? = some (r0 :: rest)[i] := List.getElem?_eq_getElem hi
          have hI := hR.2.2 i a _ ha hz
          refine ⟨rfl, ?_⟩
          refine yes_ite ?_
          refine ⟨_, rfl, _, rfl, a, wd, (r0 :: rest)[i], rfl, SqL.of (sm _ _ hI), hl2 _ (List.getElem_mem hi), fun H2 sm2 => ⟨_, sm2 _ _ hD, ?_, same_put (sm.trans sm2) nD, ?_⟩⟩
          · rw [List.length_map, List.length_take]
            exact line_lt (by omega)
          · rw [upd_same, take_succ hz, List.map_append]
            rfl
        · rintro H' ⟨sm, hD⟩
          rw [List.length_map, hR.2.1, List.take_length] at hD
          refine ⟨D, (r0 :: rest).map (rowOk wd), rfl, SqL.of (by rw [List.map_map]; exact hD), ?_⟩
          have := q H' sm
          unfold chartOk at this
          rw [hwd, hht, decide_eq_true (show 1 ≤ wd ∧ wd ≤ 512 ∧ ht ≤ 512 ∧ wd * ht ≤ 65536 by omega)] at this
          rw [List.all_map]
          exact this
theorem scRefusal : FnScope ["t"] ["t"] (defScope sRefusal) := ⟨rfl, rfl, rfl, by decide +kernel, rfl, by decide +kernel, by decide +kernel⟩
theorem ok_refusal {f fC fS : Addr} {fd fdC fdS : FuncData} {k : Nat} {t1 t2 t3 t4 : Tok} (F : Fun K "text_refusal" "text_refusal" sRefusal f fd) (GC : FnOk P w K mg base CX0 (k + 1) fC fdC ["rows"] spIsChart) (kC : PySem.W.keepIn K (.ref fC) = true) (bC : Binds K fdC ["rows"] []) (mC : mg "is_chart" = some (.ref fC))
    (GS : FnOk P w K mg base CX0 (k + 1) fS fdS ["t"] (spSplit K)) (kS : PySem.W.keepIn K (.ref fS) = true) (bS : Binds K fdS ["t"] []) (mS : mg "split_rows" = some (.ref fS)) (ml : mg "len" = none)
    (mE : mg "ROW_END" = some (.int 10 t1)) (mL : mg "LONGEST_TEXT" = some (.int 66048 t2)) (mR2 : mg "REFUSED_LONG_TEXT" = some (.int (-2) t3)) (mR6 : mg "REFUSED_NO_CHART" = some (.int (-6) t4)) : FnOk P w K mg base CX0 (k + 2) f fd ["t"] (spRefusal K) := by
  refine F.ok scRefusal (fun vs H Q E h => ?_) (fun cdv A outer s H vs Q E hr h => ?_)
  · obtain ⟨a, t, rfl, _⟩ := h
    rfl
  · obtain ⟨a, t, rfl, hS, hlen, q⟩ := h
    refine ⟨_, pss_cons (ps_if (pt_cmpR op_gt (pe_callB call_len_seq (by rfl) ml PySem.boot_len (pa_cons (pv 0) pa_nil)) (pe_glob rfl mL (rel_int _ _)) (nomark _)) (pss_one (ps_ret (pe_glob rfl mR2 (rel_int _ _)))) pss_nil)
      (pss_cons (ps_if (PW.pt (pw_or (pt_cmpR op_eq (pe_callB call_len_seq (by rfl) ml PySem.boot_len (pa_cons (pv 0) pa_nil)) pe_int (nomark _)) (pw_or (pt_cmpR op_ne (pe_ix ix_list (pv 0) (pe_un un_neg pe_int) (fun _ _ => rfl)) (pe_glob rfl mE (rel_int _ _)) (nomark _))
        (pw_or1 (pt_not (pt_val (pe_call GC hr (by rfl) mC kC bC .nil pass0 (pa_cons (pe_call GS hr (by rfl) mS kS bS .nil pass0 (pa_cons (pv 0) pa_nil)) pa_nil))))))))
        (pss_one (ps_ret (pe_glob rfl mR6 (rel_int _ _)))) pss_nil)
      (pss_one (ps_ret pe_int))), ?_⟩
    refine ⟨_, rfl, a, _, rfl, .inl hS, _, 66048, rfl, rfl, _, rfl, ite2 (fun e => ?_) (fun e => ?_)⟩
    · have e1 := of_decide_eq_true e
      rw [List.length_map] at e1
      have := q H (Same.refl H)
      unfold refusal at this
      rw [if_pos (by omega)] at this
      exact this
    · have e1 : ¬ ((66048 : Int) < ((t.map V.int).length : Nat)) := fun z => e (decide_eq_true z)
      rw [List.length_map] at e1
      have no : ∀ H', Same H H' → textOk t = false → Q (.int (-6)) H' := fun H' sm z => by
        have := q H' sm
        unfold refusal at this
        rw [if_neg (by omega), z] at this
        exact this
      refine ⟨_, rfl, a, _, rfl, .inl hS, rfl, _, rfl, ite2 (fun e2 => ?_) (fun e2 => ?_)⟩
      · have e3 := V.int.inj (of_decide_eq_true e2)
        rw [List.length_map] at e3
        refine iteT (no H (Same.refl H) ?_)
        have : t = [] := List.length_eq_zero_iff.mp (by omega)
        rw [this]
        rfl
      · have ht : t ≠ [] := fun z => e2 (decide_eq_true (by rw [z]; rfl))
        obtain ⟨ys, y, rfl⟩ : ∃ ys y, t = ys ++ [y] := ⟨_, _, (List.dropLast_concat_getLast ht).symm⟩
        refine ⟨_, rfl, _, rfl, a, _, -1, .int y, rfl, rfl, hS, by rw [List.map_append]; exact atI_last _ _, rfl, _, rfl, ite2 (fun e3 => ?_) (fun e3 => ?_)⟩
        · refine iteT (no H (Same.refl H) ?_)
          have : y ≠ 10 := fun z => by
            rw [z] at e3
            simp at e3
          unfold textOk
          rw [show decide ((ys ++ [y]).getLast? = some 10) = false by simp [this]]
          simp
        · have hy : y = 10 := by
            apply Classical.byContradiction
            intro z
            apply e3
            simp [z]
          subst hy
          have hlast : (ys ++ [10]).getLast? = some (10 : Int) := by simp
          have hsl := split_last hlast
          have gl := go_len0 (ys ++ [10])
          refine ⟨_, rfl, a, ys ++ [10], rfl, hS, hlen, fun H1 p ps sm hR => ⟨p, ps, _, rfl, hR, hsl.2, Nat.le_trans gl.1 hlen, fun r hr => ?_, fun H2 sm2 => ⟨_, rfl, ?_⟩⟩⟩
          · have e := congrArg List.length (split_join (ys ++ [10]))
            rw [List.length_append, flat_len] at e
            have : ∀ l : Rows, r ∈ l → r.length ≤ (l.map fun r => r.length + 1).sum := by
              intro l
              induction l with
              | nil => intro z; simp at z
              | cons x l ih =>
                intro z
                rw [List.map_cons, List.sum_cons]
                rcases List.mem_cons.mp z with rfl | z
                · omega
                · have := ih z
                  omega
            have := this _ hr
            omega
          · have ok : textOk (ys ++ [10]) = chartOk (splitRows (ys ++ [10])) := by
              unfold textOk
              rw [decide_eq_true ht, decide_eq_true hlast]
              rfl
            cases hc : chartOk (splitRows (ys ++ [10])) with
            | false =>
              refine iteT (no H2 (sm.trans sm2) (by rw [ok, hc]))
            | true =>
              refine iteF ?_
              have := q H2 (sm.trans sm2)
              unfold refusal at this
              rw [if_neg (by omega), ok, hc] at this
              exact this
end
end Kc

namespace Kc
open PySem PySem.Spec PyProof.Rows L2
section
variable {P : Program} {w : World} {K : PySem.W.Frag} {mg : Str → Option Value} {base : Heap}
theorem scPlace : FnScope ["m", "x", "y"] ["m", "x", "y"] (defScope sPlace) := ⟨rfl, rfl, rfl, by decide +kernel, rfl, by decide +kernel, by decide +kernel⟩
theorem ok_place {f : Addr} {fd : FuncData} {k : Nat} (F : Fun K "turned_place" "turned_place" sPlace f fd) : FnOk P w K mg base CX0 (k + 1) f fd ["m", "x", "y"] spPlace := by
  refine F.ok scPlace (fun vs H Q E h => ?_) (fun cdv A outer s H vs Q E hr h => ?_)
  · obtain ⟨m, x, y, rfl, _⟩ := h
    rfl
  · obtain ⟨m, x, y, rfl, hm, q⟩ := h
    refine ⟨_, pss_cons (ps_if (pt_cmpR op_eq (pv 0) pe_int (nomark _)) (pss_one (ps_ret (pe_tup (pa_cons (pv 1) (pa_cons (pv 2) pa_nil))))) pss_nil)
      (pss_cons (ps_if (pt_cmpR op_eq (pv 0) pe_int (nomark _)) (pss_one (ps_ret (pe_tup (pa_cons (pe_un un_neg (pv 2)) (pa_cons (pv 1) pa_nil))))) pss_nil)
      (pss_cons (ps_if (pt_cmpR op_eq (pv 0) pe_int (nomark _)) (pss_one (ps_ret (pe_tup (pa_cons (pe_un un_neg (pv 1)) (pa_cons (pe_un un_neg (pv 2)) pa_nil))))) pss_nil)
      (pss_cons (ps_if (pt_cmpR op_eq (pv 0) pe_int (nomark _)) (pss_one (ps_ret (pe_tup (pa_cons (pv 2) (pa_cons (pe_un un_neg (pv 1)) pa_nil))))) pss_nil)
      (pss_cons (ps_if (pt_cmpR op_eq (pv 0) pe_int (nomark _)) (pss_one (ps_ret (pe_tup (pa_cons (pe_un un_neg (pv 1)) (pa_cons (pv 2) pa_nil))))) pss_nil)
      (pss_cons (ps_if (pt_cmpR op_eq (pv 0) pe_int (nomark _)) (pss_one (ps_ret (pe_tup (pa_cons (pe_un un_neg (pv 2)) (pa_cons (pe_un un_neg (pv 1)) pa_nil))))) pss_nil)
      (pss_cons (ps_if (pt_cmpR op_eq (pv 0) pe_int (nomark _)) (pss_one (ps_ret (pe_tup (pa_cons (pv 1) (pa_cons (pe_un un_neg (pv 2)) pa_nil))))) pss_nil)
      (pss_one (ps_ret (pe_tup (pa_cons (pv 2) (pa_cons (pv 1) pa_nil))))))))))), ?_⟩
    have fin : ∀ (X Y : Int), tp m x y = (X, Y) → 2 ≤ sizeLine ∧ ∀ p, H p = none → Q (.ref p) (upd H p (.tup [.int X, .int Y])) := fun X Y e => ⟨by decide, fun p hp => q _ p (same_upd hp) (by rw [upd_same, e])⟩
    have no : ∀ j : Nat, ¬ decide (V.int m = V.int j) = true → m ≠ j := fun j h z => h (decide_eq_true (by rw [z]))
    have yes : ∀ j : Nat, decide (V.int m = V.int j) = true → m = j := fun j h => by
      have := V.int.inj (of_decide_eq_true h)
      omega
    refine ⟨_, rfl, rfl, _, rfl, ite2 (fun e => ⟨_, rfl, _, rfl, fin _ _ (by rw [yes 0 e]; rfl)⟩) (fun e0 => ?_)⟩
    refine ⟨_, rfl, rfl, _, rfl, ite2 (fun e => ⟨_, rfl, y, rfl, _, rfl, fin _ _ (by rw [yes 1 e]; rfl)⟩) (fun e1 => ?_)⟩
    refine ⟨_, rfl, rfl, _, rfl, ite2 (fun e => ⟨_, rfl, x, rfl, _, rfl, y, rfl, fin _ _ (by rw [yes 2 e]; rfl)⟩) (fun e2 => ?_)⟩
    refine ⟨_, rfl, rfl, _, rfl, ite2 (fun e => ⟨_, rfl, _, rfl, x, rfl, fin _ _ (by rw [yes 3 e]; rfl)⟩) (fun e3 => ?_)⟩
    refine ⟨_, rfl, rfl, _, rfl, ite2 (fun e => ⟨_, rfl, x, rfl, _, rfl, fin _ _ (by rw [yes 4 e]; rfl)⟩) (fun e4 => ?_)⟩
    refine ⟨_, rfl, rfl, _, rfl, ite2 (fun e => ⟨_, rfl, y, rfl, _, rfl, x, rfl, fin _ _ (by rw [yes 5 e]; rfl)⟩) (fun e5 => ?_)⟩
    refine ⟨_, rfl, rfl, _, rfl, ite2 (fun e => ⟨_, rfl, _, rfl, y, rfl, fin _ _ (by rw [yes 6 e]; rfl)⟩) (fun e6 => ?_)⟩
    have m7 : m = 7 := by
      have h0 := no 0 e0
      have h1 := no 1 e1
      have h2 := no 2 e2
      have h3 := no 3 e3
      have h4 := no 4 e4
      have h5 := no 5 e5
      have h6 := no 6 e6
      omega
    exact ⟨_, rfl, _, rfl, fin _ _ (by rw [m7]; rfl)⟩
end
end Kc

namespace Kc
open PySem PySem.Spec PyProof.Rows L2
section
variable {P : Program} {w : World} {K : PySem.W.Frag} {mg : Str → Option Value} {base : Heap}
theorem scTurned : FnScope ["tile", "m", "width", "height", "y", "image", "x", "place"] ["tile", "m"] (defScope sTurned) := ⟨rfl, rfl, rfl, by decide +kernel, rfl, by decide +kernel, by decide +kernel⟩
theorem ok_turned {f fP : Addr} {fd fdP : FuncData} {k : Nat} (F : Fun K "turned" "turned" sTurned f fd) (GP : FnOk P w K mg base CX0 (k + 1) fP fdP ["m", "x", "y"] spPlace) (kP : PySem.W.keepIn K (.ref fP) = true)
    (bP : Binds K fdP ["m", "x", "y"] []) (mP : mg "turned_place" = some (.ref fP)) (ml : mg "len" = none) (mr : mg "range" = none) : FnOk P w K mg base CX0 (k + 2) f fd ["tile", "m"] spTurned := by
  refine F.ok scTurned (fun vs H Q E h => ?_) (fun cdv A outer s H vs Q E hr h => ?_)
  · obtain ⟨p, ps, cell, m, W, Ht, rfl, _⟩ := h
    rfl
  · obtain ⟨p, ps, cell, m, W, Ht, rfl, hR, g, hW, hHt, hm, sq, q⟩ := h
    refine ⟨_, pss_cons (ps_set (i := 2) scTurned.nd rfl (.inr rfl) (pe_callB call_len_seq (by rfl) ml PySem.boot_len (pa_cons (pe_ix ix_list (pv 0) pe_int (fun _ _ => rfl)) pa_nil)))
      (pss_cons (ps_set (i := 3) scTurned.nd rfl (.inl rfl) (pe_callB call_len_seq (by rfl) ml PySem.boot_len (pa_cons (pv 0) pa_nil)))
      (pss_cons (ps_setLc (i := 5) (own := [("y", 4)]) (g := gName 4) (tt := tYes) rfl scTurned.nd rfl rfl (sw_true rfl rfl rfl (by decide +kernel)) (pi_range1 rfl mr (pa_cons (pv 3) pa_nil))
        (blkOk_by (own := [("y", 4)]) (N := ["tile", "m", "width", "height", "y", "image", "x", "place"]) (sc := defScope sTurned) (by decide +kernel))
        (fun _ _ _ _ _ => pg_name (i := 4) scTurned.nd rfl (Or.inl rfl)) (fun _ _ _ _ _ => pts_nil) (fun _ _ _ _ _ => pe_op op_rep (pe_lst (pa_cons pe_int pa_nil)) (pv 2)))
      (pss_cons (ps_for PassesOwn.never rfl (pi_range1 rfl mr (pa_cons (pv 3) pa_nil)) (pg_name (i := 4) scTurned.nd rfl (Or.inl rfl))
        (pss_one (ps_for PassesOwn.never rfl (pi_range1 rfl mr (pa_cons (pv 2) pa_nil)) (pg_name (i := 6) scTurned.nd rfl (Or.inl rfl))
          (pss_cons (ps_set (i := 7) scTurned.nd rfl (.inl rfl) (pe_call GP hr (by rfl) mP kP bP .nil pass0 (pa_cons (pv 1) (pa_cons (pv 6) (pa_cons (pv 4) pa_nil)))))
          (pss_one (ps_asg (pe_ix ix_list (pe_ix ix_list (pv 0) (pv 4) (fun _ _ => rfl)) (pv 6) (fun _ _ => rfl))
            (pg_sub (pe_ix ix_list (pv 5) (pe_op op_mod (pe_ix ix_tup (pv 7) pe_int (fun _ _ => rfl)) (pv 3)) (fun _ _ => rfl)) (pe_op op_mod (pe_ix ix_tup (pv 7) pe_int (fun _ _ => rfl)) (pv 2)) set_list)))))))
      (pss_one (ps_ret (pv 5)))))), ?_⟩
    obtain ⟨r0, e0, hr0, _⟩ := g.row (y := 0) g.h1
    obtain ⟨a0, ha0, hI0⟩ := hR.get e0
    have hps : ((ps.map V.ref).length : Int) = (Ht : Int) := by rw [List.length_map, hR.2.1, g.high]
    have hrl : ((r0.map V.int).length : Int) = (W : Int) := by rw [List.length_map, hr0]
    refine ⟨_, rfl, p, _, 0, .ref a0, rfl, rfl, SqL.of hR.1, atI_nat (j := 0) (by rw [List.getElem?_map, ha0]; rfl), a0, _, rfl, .inl (SqL.of hI0), ?_⟩
    rw [hrl]
    refine ⟨_, rfl, p, _, rfl, .inl (SqL.of hR.1), ?_⟩
    rw [hps]
    -- image = [[0] * width for y in range(height)]
    refine ⟨_, rfl, Ht, rfl, by omega, by omega, fun D nD => ?_⟩
    rw [show (Ht : Int).toNat = Ht from Int.toNat_natCast _]
    refine lc_range (lo := 0) (n := Ht) (fun i H' => ∃ qs : List Addr, Same H H' ∧ H' D = some (.lst (qs.map V.ref)) ∧ qs.length = i ∧ (∀ a ∈ qs, IntsAt H' a (List.replicate W 0)) ∧ qs.Nodup ∧ D ∉ qs ∧ ∀ a ∈ qs, H a = none)
      ⟨[], same_upd nD, upd_same, rfl, fun a h => by simp at h, List.nodup_nil, by simp, fun a h => by simp at h⟩ ?_ ?_
    · rintro i H' hi ⟨qs, sm, hD, hl, hq, nd, nq, fq⟩
      refine ⟨rfl, ?_⟩
      refine yes_ite ?_
      refine ⟨by decide, fun z nz => ⟨_, rfl, z, W, _, rfl, rfl, upd_same, by omega, by omega, ?_, fun c nc => ?_⟩⟩
      · rw [Int.toNat_natCast]
        exact line_le (by show 1 * W ≤ _; omega)
      · have zD : D ≠ z := ne_of_none hD nz
        have cz : z ≠ c := ne_of_none upd_same nc
        have hD1 : upd H' z (.lst [.int 0]) D = some (.lst (qs.map V.ref)) := by rw [upd_ne zD]; exact hD
        have cD : D ≠ c := ne_of_none hD1 nc
        have smz : Same H (upd H' z (.lst [.int 0])) := same_new sm nz
        have smc : Same H (upd (upd H' z (.lst [.int 0])) c (.lst (List.replicate (W : Int).toNat [V.int 0]).flatten)) := same_new smz nc
        have hval : (List.replicate (W : Int).toNat [V.int 0]).flatten = (List.replicate W (0 : Int)).map V.int := by
          rw [Int.toNat_natCast]
          exact zeros_map W
        have oth : ∀ a ∈ qs, a ≠ z ∧ a ≠ c := fun a ha => by
          have h1 := hq a ha
          have h2 : a ≠ z := ne_of_none h1 nz
          refine ⟨h2, ?_⟩
          have h3 : upd H' z (.lst [.int 0]) a = some (.lst ((List.replicate W (0 : Int)).map V.int)) := by rw [upd_ne h2]; exact h1
          exact ne_of_none h3 nc
        refine ⟨qs.map V.ref, by rw [upd_ne cD]; exact hD1, ?_, qs ++ [c], same_put smc nD, by rw [upd_same, List.map_append]; rfl, by rw [List.length_append, hl]; rfl, ?_, ?_, ?_, ?_⟩
        · rw [List.length_map]
          exact line_lt (by omega)
        · intro a ha
          rcases List.mem_append.mp ha with ha | ha
          · show upd _ D _ a = _
            have aD : a ≠ D := fun z => nq (z ▸ ha)
            rw [upd_ne aD, upd_ne (oth a ha).2, upd_ne (oth a ha).1]
            exact hq a ha
          · rw [List.mem_singleton.mp ha]
            show upd _ D _ c = _
            rw [upd_ne (Ne.symm cD), upd_same, hval]
        · rw [List.nodup_append]
          exact ⟨nd, by simp, fun a ha b hb => by rw [List.mem_singleton.mp hb]; exact (oth a ha).2⟩
        · intro h
          rcases List.mem_append.mp h with h | h
          · exact nq h
          · exact cD (List.mem_singleton.mp h)
        · intro a ha
          rcases List.mem_append.mp ha with ha | ha
          · exact fq a ha
          · rw [List.mem_singleton.mp ha]
            exact Same.free smz nc
    · rintro H1 ⟨qs, sm1, hD1, hl1, hq1, nd, nq, fq⟩
      have hR1 : RowsAt H1 D qs (List.replicate Ht (List.replicate W 0)) := ⟨hD1, by rw [hl1, List.length_replicate], fun i a r e1 e2 => by
        have : r = List.replicate W 0 := (List.mem_replicate.mp (List.mem_of_getElem? e2)).2
        rw [this]
        exact hq1 a (List.mem_of_getElem? e1)⟩
      -- for y in range(height)
      refine ⟨_, rfl, Ht, rfl, by omega, by omega, ?_⟩
      rw [show (Ht : Int).toNat = Ht from Int.toNat_natCast _]
      refine for_range (lo := 0) (n := Ht) (fun y σ H' => ∃ (yv xv pv : Option V) (img : Rows), σ = [some (.ref p), some (.int m), some (.int W), some (.int Ht), yv, some (.ref D), xv, pv] ∧ Same H H' ∧ RowsAt H' D qs img ∧ Img W Ht m (y * W) cell img)
        ⟨none, none, none, _, rfl, sm1, hR1, by rw [Nat.zero_mul]; exact Img.start g.w1 g.h1⟩ ?_ ?_
      · rintro y σ H' hy ⟨yv, xv, pv0, img, rfl, sm, hRi, hImg⟩
        refine ⟨_, rfl, W, rfl, by omega, by omega, ?_⟩
        rw [show (W : Int).toNat = W from Int.toNat_natCast _]
        refine for_range (lo := 0) (n := W) (fun x σ H' => ∃ (xv pv : Option V) (img : Rows), σ = [some (.ref p), some (.int m), some (.int W), some (.int Ht), some (.int y), some (.ref D), xv, pv] ∧ Same H H' ∧ RowsAt H' D qs img ∧ Img W Ht m (y * W + x) cell img)
          ⟨xv, pv0, img, by rw [Int.zero_add]; rfl, sm, hRi, hImg⟩ ?_ ?_
        · rintro x σ H2 hx ⟨xv, pv0, img, rfl, sm2, hR2, hImg2⟩
          refine ⟨_, rfl, _, rfl, _, rfl, m, (0 : Int) + x, y, rfl, hm, fun H3 T sm3 hT => ?_⟩
          rw [Int.zero_add] at hT
          have hR3 : RowsAt H3 D qs img := same_rows sm3 hR2
          have hC3 : RowsAt H3 p ps cell := same_rows sm3 (same_rows sm2 hR)
          obtain ⟨rc, erc, hrc, _⟩ := g.row hy
          obtain ⟨ac, hac, hIc⟩ := hC3.get erc
          have hxr : x < rc.length := by omega
          have ev : at0 cell x y = rc[x] := by
            unfold at0
            rw [List.getD_eq_getElem?_getD, List.getD_eq_getElem?_getD, erc, Option.getD_some, List.getElem?_eq_getElem hxr, Option.getD_some]
          obtain ⟨ri, eri, hri, _⟩ := hImg2.rect.row (y := tY Ht m x y) (toNat_mod_lt g.h1 _)
          obtain ⟨ai, hai, hIi⟩ := hR3.get eri
          -- the value: cell[y][x]
          refine ⟨_, rfl, _, rfl, p, _, y, .ref ac, rfl, rfl, SqL.of hC3.1, atI_nat (j := y) (by rw [List.getElem?_map, hac]; rfl), _, rfl, ac, _, (0 : Int) + x, .int rc[x], rfl, rfl, SqL.of hIc, ?_, ?_⟩
          · exact at_of (j := x) (by omega) (by rw [List.getElem?_map, List.getElem?_eq_getElem hxr]; rfl)
          -- the place: image[place[1] % height][place[0] % width]
          have hWp : (0 : Int) < W := by have := g.w1; omega
          have hHp : (0 : Int) < Ht := by have := g.h1; omega
          refine ⟨_, rfl, _, rfl, T, _, 1, .int (tp m x y).2, rfl, rfl, SqT.of hT, atI_nat (j := 1) rfl, _, rfl, (tp m x y).2, Ht, rfl, rfl, hHp, D, _, (tp m x y).2 % (Ht : Int), .ref ai, rfl, rfl, SqL.of hR3.1, ?_, ?_⟩
          · exact at_of (j := tY Ht m x y) (by unfold tY; rw [toNat_mod_cast g.h1]) (by rw [List.getElem?_map, hai]; rfl)
          refine ⟨_, rfl, T, _, 0, .int (tp m x y).1, rfl, rfl, SqT.of hT, atI_nat (j := 0) rfl, _, rfl, (tp m x y).1, W, rfl, rfl, hWp, ai, _, (tp m x y).1 % (W : Int), tX W m x y, rfl, rfl, hIi, ?_, ?_⟩
          · rw [List.length_map, hri]
            exact ixN_nat (Int.emod_nonneg _ (by omega)) (Int.emod_lt_of_pos _ hWp)
          · refine ⟨_, _, img.set (tY Ht m x y) (ri.set (tX W m x y) (at0 cell x y)), rfl, same_put (sm2.trans sm3) (fq ai (List.mem_of_getElem? hai)), ?_, ?_⟩
            · have := hR3.store (r := ri.set (tX W m x y) (at0 cell x y)) nd nq hai
              rw [List.map_set, ev] at this
              rw [ev]
              exact this
            · exact hImg2.step hm sq hx hy eri
        · rintro σ H2 ⟨xv, pv0, img, rfl, sm2, hR2, hImg2⟩
          refine ⟨_, _, _, img, rfl, sm2, hR2, ?_⟩
          rw [Nat.add_mul, Nat.one_mul]
          exact hImg2
      · rintro σ H' ⟨yv, xv, pv0, img, rfl, sm, hRi, hImg⟩
        exact ⟨_, rfl, q H' D qs img sm hRi hImg⟩
end
end Kc

namespace Kc
open PySem PySem.Spec PyProof.Rows L2
section
variable {P : Program} {w : World} {K : PySem.W.Frag} {mg : Str → Option Value} {base : Heap}
theorem scFits : FnScope ["tile", "image", "a", "b", "height", "left", "y", "row"] ["tile", "image", "a", "b"] (defScope sFits) := ⟨rfl, rfl, rfl, by decide +kernel, rfl, by decide +kernel, by decide +kernel⟩
theorem ok_fits {f : Addr} {fd : FuncData} {k : Nat} (F : Fun K "fits" "fits" sFits f fd) (ml : mg "len" = none) (mr : mg "range" = none) : FnOk P w K mg base CX0 (k + 1) f fd ["tile", "image", "a", "b"] spFits := by
  refine F.ok scFits (fun vs H Q E h => ?_) (fun cdv A outer s H vs Q E hr h => ?_)
  · obtain ⟨p, ps, cell, p2, ps2, img, W, Ht, a, b, rfl, _⟩ := h
    rfl
  · obtain ⟨p, ps, cell, p2, ps2, img, W, Ht, a, b, rfl, hR, hR2, g, g2, hW, hHt, q⟩ := h
    refine ⟨_, pss_cons (ps_set (i := 4) scFits.nd rfl (.inl rfl) (pe_callB call_len_seq (by rfl) ml PySem.boot_len (pa_cons (pv 0) pa_nil)))
      (pss_cons (ps_set (i := 5) scFits.nd rfl (.inl rfl) (pe_op op_mod (pv 2) (pe_callB call_len_seq (by rfl) ml PySem.boot_len (pa_cons (pe_ix ix_list (pv 0) pe_int (fun _ _ => rfl)) pa_nil))))
      (pss_cons (ps_for PassesOwn.never rfl (pi_range1 rfl mr (pa_cons (pv 4) pa_nil)) (pg_name (i := 6) scFits.nd rfl (Or.inl rfl))
        (pss_cons (ps_set (i := 7) scFits.nd rfl (.inl rfl) (pe_ix ix_list (pv 0) (pe_op op_mod (pe_op op_add (pv 6) (pv 3)) (pv 4)) (fun _ _ => rfl)))
        (pss_one (ps_if (pt_cmpR (op_neD hr.units) (pe_op op_cat (pe_slice sl_list (pv 7) (po_some (pv 5)) po_none) (pe_slice sl_list (pv 7) po_none (po_some (pv 5)))) (pe_ix ix_list (pv 1) (pv 6) (fun _ _ => rfl)) (nomark _))
          (pss_one (ps_ret pe_bl)) pss_nil))))
      (pss_one (ps_ret pe_bl)))), ?_⟩
    obtain ⟨r0, e0, hr0, _⟩ := g.row (y := 0) g.h1
    obtain ⟨a0, ha0, hI0⟩ := hR.get e0
    have hps : ((ps.map V.ref).length : Int) = (Ht : Int) := by rw [List.length_map, hR.2.1, g.high]
    have hrl : ((r0.map V.int).length : Int) = (W : Int) := by rw [List.length_map, hr0]
    have hWp : (0 : Int) < W := by have := g.w1; omega
    have hHp : (0 : Int) < Ht := by have := g.h1; omega
    refine ⟨_, rfl, p, _, rfl, .inl (SqL.of hR.1), ?_⟩
    rw [hps]
    refine ⟨_, rfl, _, rfl, p, _, 0, .ref a0, rfl, rfl, SqL.of hR.1, atI_nat (j := 0) (by rw [List.getElem?_map, ha0]; rfl), a0, _, rfl, .inl (SqL.of hI0), ?_⟩
    rw [hrl]
    refine ⟨a, W, rfl, rfl, hWp, _, rfl, Ht, rfl, by omega, by omega, ?_⟩
    rw [show (Ht : Int).toNat = Ht from Int.toNat_natCast _]
    refine for_range (lo := 0) (n := Ht) (fun i σ H' => ∃ (yv rv : Option V), σ = [some (.ref p), some (.ref p2), some (.int a), some (.int b), some (.int Ht), some (.int (a % (W : Int))), yv, rv] ∧ Same H H' ∧ ∀ j, j < i → fitRow cell img a b j = true)
      ⟨none, none, rfl, Same.refl H, fun j h => by omega⟩ ?_ ?_
    · rintro y σ H' hy ⟨yv, rv, rfl, sm, hf⟩
      have hC := same_rows sm hR
      have hM := same_rows sm hR2
      obtain ⟨rc, erc, hrc, _⟩ := g.row (y := (((y : Int) + b) % (Ht : Int)).toNat) (toNat_mod_lt g.h1 _)
      obtain ⟨ac, hac, hIc⟩ := hC.get erc
      obtain ⟨ri, eri, hri, _⟩ := g2.row hy
      obtain ⟨ai, hai, hIi⟩ := hM.get eri
      refine ⟨_, rfl, _, rfl, _, rfl, (0 : Int) + y, b, rfl, rfl, _, rfl, (0 : Int) + y + b, Ht, rfl, rfl, hHp, p, _, ((0 : Int) + y + b) % (Ht : Int), .ref ac, rfl, rfl, SqL.of hC.1, ?_, ?_⟩
      · exact at_of (j := (((y : Int) + b) % (Ht : Int)).toNat) (by rw [toNat_mod_cast g.h1, Int.zero_add]) (by rw [List.getElem?_map, hac]; rfl)
      have hleft : a % (W : Int) = (((a % (W : Int)).toNat : Nat) : Int) := (toNat_mod_cast g.w1 a).symm
      refine ⟨_, rfl, _, rfl, (a % (W : Int)), rfl, ac, _, rfl, SqL.of hIc, fun c nc => ?_⟩
      have smc : Same H' (upd H' c (.lst (cutV (rc.map V.int) (some (a % (W : Int))) none))) := same_upd nc
      refine ⟨_, rfl, _, rfl, _, rfl, ac, _, rfl, SqL.of (same_ints smc hIc), fun d nd => ?_⟩
      have cd : c ≠ d := ne_of_none upd_same nd
      refine ⟨c, d, _, _, rfl, rfl, by rw [upd_ne cd, upd_same], upd_same, ?_, fun e ne => ?_⟩
      · rw [hleft, cut_from, cut_to, List.length_drop, List.length_take, List.length_map]
        exact line_le (by omega)
      have smd := same_new (o := .lst (cutV (rc.map V.int) none (some (a % (W : Int))))) smc nd
      have sme := same_new (o := .lst (cutV (rc.map V.int) (some (a % (W : Int))) none ++ cutV (rc.map V.int) none (some (a % (W : Int))))) smd ne
      have hv : cutV (rc.map V.int) (some (a % (W : Int))) none ++ cutV (rc.map V.int) none (some (a % (W : Int))) = (rot (a % (W : Int)).toNat rc).map V.int := by
        rw [hleft, cut_from, cut_to, ← hleft]
        unfold rot
        rw [List.map_append, List.map_drop, List.map_take]
      have hRot : IntsAt (upd (upd (upd H' c (.lst (cutV (rc.map V.int) (some (a % (W : Int))) none))) d (.lst (cutV (rc.map V.int) none (some (a % (W : Int)))))) e (.lst (cutV (rc.map V.int) (some (a % (W : Int))) none ++ cutV (rc.map V.int) none (some (a % (W : Int)))))) e (rot (a % (W : Int)).toNat rc) := by
        show upd _ e _ e = _
        rw [upd_same, hv]
      have hM2 := same_rows sme hM
      have hIi2 := same_ints sme hIi
      have fr : fitRow cell img a b y = decide (rot (a % (W : Int)).toNat rc = ri) := by
        unfold fitRow
        rw [g.wide, g.high, List.getD_eq_getElem?_getD, erc, List.getD_eq_getElem?_getD, eri]
        rfl
      refine ⟨_, rfl, _, rfl, p2, _, (0 : Int) + y, .ref ai, rfl, rfl, SqL.of hM2.1, at_of (j := y) (by omega) (by rw [List.getElem?_map, hai]; rfl), dInts (rot (a % (W : Int)).toNat rc), dInts ri, ints_dp hRot, ints_dp hIi2, ints_shaped _, ints_shaped _, _, rfl, ?_⟩
      rw [ints_eqv, ← fr]
      cases hc : fitRow cell img a b y with
      | true =>
        refine iteF ⟨_, _, rfl, sm.trans sme, fun j hj => ?_⟩
        by_cases e1 : j = y
        · rw [e1]
          exact hc
        · exact hf j (by omega)
      | false =>
        refine iteT ?_
        have := q _ (sm.trans sme)
        rw [show fitsB cell img a b = false by
          unfold fitsB
          rw [g.high]
          apply Bool.eq_false_iff.mpr
          intro z
          rw [List.all_eq_true] at z
          rw [z y (List.mem_range.mpr hy)] at hc
          cases hc] at this
        exact this
    · rintro σ H' ⟨yv, rv, rfl, sm, hf⟩
      have := q _ sm
      rw [show fitsB cell img a b = true by
        unfold fitsB
        rw [g.high, List.all_eq_true]
        exact fun j hj => hf j (List.mem_range.mp hj)] at this
      exact this
end
end Kc

namespace Kc
/-! ### steps, and the least repeat -/
/-- the first of a range at which it holds -/
theorem first_is {n k : Nat} {f : Nat → Bool} (hk : k < n) (h : f k = true) (h0 : ∀ j, j < k → f j = false) : Rg.firstFrom n f = k := by
  unfold Rg.firstFrom
  have : (List.range n).find? f = some k := by
    rw [List.find?_range_eq_some]
    refine ⟨h, List.mem_range.mpr hk, fun j hj => ?_⟩
    rw [h0 j hj]; rfl
  rw [this]
  rfl
theorem mod_nat {W x : Nat} (h : x < W) : ((x : Int) % (W : Int)).toNat = x := by
  rw [Int.emod_eq_of_lt (by omega) (by omega)]
  simp
/-- rows are their own image -/
theorem img_self {rows : Rows} {W H : Nat} (g : Rect W H rows) : ImgOf W H 0 rows rows := by
  refine ⟨g, fun x y hx hy _ => ?_⟩
  have e1 : tX W 0 x y = x := mod_nat hx
  have e2 : tY H 0 x y = y := mod_nat hy
  rw [e1, e2]
/-- a step -/
def stp (rows : Rows) (a b : Int) : Bool := Rg.isSym (chartR rows) ⟨0, a, b⟩
theorem fits_step {rows : Rows} (g : Good rows) (a b : Int) : fitsB rows rows a b = stp rows a b :=
  fits_sym (m := 0) (cell := rows) g (by omega) rfl (img_self g.rect)
theorem stp_iff {rows : Rows} (g : Good rows) (a b : Int) : stp rows a b = true ↔ ∀ X Y, fld rows (X + a) (Y + b) = fld rows X Y := isSym_iff g (m := 0) (by omega) a b
theorem stp_w {rows : Rows} (g : Good rows) : stp rows (wide rows : Int) 0 = true := by
  rw [stp_iff g]
  intro X Y
  have := g.rect.rep.x Y X
  simpa using this
theorem stp_h {rows : Rows} (g : Good rows) : stp rows 0 (rows.length : Int) = true := by
  rw [stp_iff g]
  intro X Y
  have := g.rect.rep.y X Y
  simpa using this
/-- steps to the side taken off -/
theorem stp_mod {rows : Rows} (g : Good rows) {p : Nat} (hp : 1 ≤ p) (h : stp rows (p : Int) 0 = true) (a k : Nat) (ha : stp rows (a : Int) (k : Int) = true) : stp rows ((a % p : Nat) : Int) (k : Int) = true := by
  rw [stp_iff g] at h ha ⊢
  have per : ∀ Y, Per (fun X => fld rows X Y) p := fun Y X => by
    have := h X Y
    simpa using this
  intro X Y
  rw [← ha X Y]
  have := (per (Y + k)).mul ((a / p : Nat) : Int) (X + ((a % p : Nat) : Int))
  rw [← this]
  have e := Nat.mod_add_div a p
  congr 1
  have e2 : ((a % p : Nat) : Int) + (p : Int) * ((a / p : Nat) : Int) = (a : Int) := by exact_mod_cast e
  omega
/-- p, r and q -/
theorem least_p {rows : Rows} (g : Good rows) {p : Nat} (h1 : 1 ≤ p) (h2 : p ≤ wide rows) (h : stp rows (p : Int) 0 = true) (h0 : ∀ j : Nat, 1 ≤ j → j < p → stp rows (j : Int) 0 = false) : (Rg.leastOf (chartR rows)).p = p := by
  refine first_is (n := wide rows + 1) (by omega) ?_ fun j hj => ?_
  · show (decide (0 < p) && stp rows (p : Int) 0) = true
    rw [h, decide_eq_true (by omega)]; rfl
  · show (decide (0 < j) && stp rows (j : Int) 0) = false
    by_cases c : 0 < j
    · rw [h0 j c hj, Bool.and_false]
    · rw [decide_eq_false c, Bool.false_and]
/-- is there a step by k down, with any to the side -/
def down (rows : Rows) (p k : Nat) : Bool := (List.range p).any fun a => stp rows (a : Int) (k : Int)
theorem down_p {rows : Rows} (g : Good rows) {p : Nat} (h1 : 1 ≤ p) (h2 : p ≤ wide rows) (h : stp rows (p : Int) 0 = true) (k : Nat) : down rows p k = down rows (wide rows) k := by
  apply Bool.eq_iff_iff.mpr
  unfold down
  simp only [List.any_eq_true, List.mem_range]
  constructor
  · rintro ⟨a, ha, e⟩
    exact ⟨a, by omega, e⟩
  · rintro ⟨a, ha, e⟩
    exact ⟨a % p, Nat.mod_lt _ h1, stp_mod g h1 h a k e⟩
theorem down_false {rows : Rows} {p k : Nat} (h : ∀ a, a < p → stp rows (a : Int) (k : Int) = false) : down rows p k = false := by
  unfold down
  apply Bool.eq_false_iff.mpr
  intro z
  obtain ⟨a, ha, e⟩ := List.any_eq_true.mp z
  rw [h a (List.mem_range.mp ha)] at e
  cases e
theorem down_true {rows : Rows} {p k a : Nat} (ha : a < p) (h : stp rows (a : Int) (k : Int) = true) : down rows p k = true :=
  List.any_eq_true.mpr ⟨a, List.mem_range.mpr ha, h⟩
theorem least_r {rows : Rows} (g : Good rows) {p r : Nat} (h1 : 1 ≤ p) (h2 : p ≤ wide rows) (h : stp rows (p : Int) 0 = true) (r1 : 1 ≤ r) (r2 : r ≤ rows.length) (hr : down rows p r = true) (h0 : ∀ j : Nat, 1 ≤ j → j < r → down rows p j = false) : (Rg.leastOf (chartR rows)).r = r := by
  refine first_is (n := rows.length + 1) (by omega) ?_ fun j hj => ?_
  · show (decide (0 < r) && down rows (wide rows) r) = true
    rw [← down_p g h1 h2 h, hr, decide_eq_true (by omega)]; rfl
  · show (decide (0 < j) && down rows (wide rows) j) = false
    by_cases c : 0 < j
    · rw [← down_p g h1 h2 h, h0 j c hj, Bool.and_false]
    · rw [decide_eq_false c, Bool.false_and]
theorem least_q {rows : Rows} {q r : Nat} (hr : (Rg.leastOf (chartR rows)).r = r) (h2 : q < wide rows) (h : stp rows (q : Int) (r : Int) = true) (h0 : ∀ j : Nat, j < q → stp rows (j : Int) (r : Int) = false) : (Rg.leastOf (chartR rows)).q = q := by
  show Rg.firstFrom (wide rows) (fun a => stp rows (a : Int) (((Rg.leastOf (chartR rows)).r : Nat) : Int)) = q
  rw [hr]
  exact first_is h2 h h0
/-- the least step to the side is one, from 1 to the breadth -/
theorem p_facts {rows : Rows} (g : Good rows) : ∃ p : Nat, (Rg.leastOf (chartR rows)).p = p ∧ 1 ≤ p ∧ p ≤ wide rows ∧ stp rows (p : Int) 0 = true := by
  have key : ∀ n : Nat, n ≤ wide rows → (∀ j : Nat, 1 ≤ j → j < wide rows - n → stp rows (j : Int) 0 = false) → 1 ≤ wide rows - n → ∃ p : Nat, (Rg.leastOf (chartR rows)).p = p ∧ 1 ≤ p ∧ p ≤ wide rows ∧ stp rows (p : Int) 0 = true := by
    intro n
    induction n with
    | zero =>
      intro _ h0 h1
      exact ⟨wide rows, least_p g h1 (Nat.le_refl _) (stp_w g) (fun j a b => h0 j a (by omega)), h1, Nat.le_refl _, stp_w g⟩
    | succ n ih =>
      intro hn h0 h1
      cases e : stp rows ((wide rows - (n + 1) : Nat) : Int) 0 with
      | true => exact ⟨_, least_p g h1 (by omega) e h0, h1, by omega, e⟩
      | false =>
        refine ih (by omega) (fun j a b => ?_) (by omega)
        by_cases c : j = wide rows - (n + 1)
        · rw [c]; exact e
        · exact h0 j a (by omega)
  have := g.w1
  exact key (wide rows - 1) (by omega) (fun j a b => by omega) (by omega)
end Kc

namespace Kc
/-! ### mirrors and glides of the field: of all whole a, b -/
/-- done twice -/
def tw (m : Nat) (a b : Int) : Int × Int := ((tp m a b).1 + a, (tp m a b).2 + b)
def Turns (rows : Rows) (m : Nat) : Prop := ∃ a b : Int, SymF (fld rows) m a b
def Mir (rows : Rows) (m : Nat) : Prop := ∃ a b : Int, SymF (fld rows) m a b ∧ tw m a b = (0, 0)
/-- no half of it is a step -/
def NoHalf (rows : Rows) (z : Int × Int) : Prop := ¬ (z.1 % 2 = 0 ∧ z.2 % 2 = 0 ∧ SymF (fld rows) 0 (z.1 / 2) (z.2 / 2))
def Gli (rows : Rows) (m : Nat) : Prop := ∃ a b : Int, SymF (fld rows) m a b ∧ NoHalf rows (tw m a b)
theorem sym_add {F : Int → Int → Int} {W H m : Nat} {a b : Int} (r : Rep F W H) (h : SymF F m a b) (i j : Int) : SymF F m (a + W * i) (b + H * j) := by
  intro X Y
  rw [← h X Y]
  have := r.add ((tp m X Y).1 + a) ((tp m X Y).2 + b) i j
  rw [← this]
  congr 1 <;> omega
theorem mem_syms {rows : Rows} (g : Good rows) {s : Rg.Sym} : s ∈ Rg.syms (chartR rows) ↔ s.m < 8 ∧ ∃ a b : Nat, a < wide rows ∧ b < rows.length ∧ s.a = a ∧ s.b = b ∧ SymF (fld rows) s.m a b := by
  unfold Rg.syms Rg.MOTIONS
  simp only [List.mem_flatMap, List.mem_range, List.mem_filterMap]
  constructor
  · rintro ⟨m, hm, b, hb, a, ha, e⟩
    by_cases c : Rg.isSym (chartR rows) ⟨m, a, b⟩ = true
    · rw [if_pos c] at e
      cases e
      exact ⟨hm, a, b, ha, hb, rfl, rfl, (isSym_iff g hm _ _).mp c⟩
    · rw [if_neg c] at e
      cases e
  · rintro ⟨hm, a, b, ha, hb, e1, e2, hs⟩
    obtain ⟨m, sa, sb⟩ := s
    refine ⟨m, hm, b, hb, a, ha, ?_⟩
    rw [if_pos ((isSym_iff g hm _ _).mpr hs)]
    simp only at e1 e2
    rw [e1, e2]
/-- each symmetry is a told one, sides apart -/
theorem told_of {rows : Rows} (g : Good rows) {m : Nat} {a b : Int} (h : SymF (fld rows) m a b) : ∃ (x y : Nat) (i j : Int), x < wide rows ∧ y < rows.length ∧ a = x + wide rows * i ∧ b = y + rows.length * j ∧ SymF (fld rows) m x y := by
  obtain ⟨x, i, hx, e⟩ := mod_place (wide rows) g.w1 a
  obtain ⟨y, j, hy, e2⟩ := mod_place rows.length g.h1 b
  refine ⟨x, y, i, j, hx, hy, e, e2, ?_⟩
  have := sym_add g.rect.rep h (-i) (-j)
  rw [e, e2, Int.mul_neg, Int.mul_neg] at this
  rwa [show (x : Int) + wide rows * i + -(wide rows * i) = x by omega, show (y : Int) + rows.length * j + -(rows.length * j) = y by omega] at this
theorem hasTurn_iff {rows : Rows} (g : Good rows) {m : Nat} (hm : m < 8) : Rg.hasTurn (Rg.syms (chartR rows)) m = true ↔ Turns rows m := by
  unfold Rg.hasTurn Turns
  rw [List.any_eq_true]
  constructor
  · rintro ⟨s, hs, e⟩
    have e := eq_of_beq e
    obtain ⟨_, a, b, _, _, _, _, h⟩ := (mem_syms g).mp hs
    rw [e] at h
    exact ⟨a, b, h⟩
  · rintro ⟨a, b, h⟩
    obtain ⟨x, y, i, j, hx, hy, _, _, h2⟩ := told_of g h
    exact ⟨⟨m, x, y⟩, (mem_syms g).mpr ⟨hm, x, y, hx, hy, rfl, rfl, h2⟩, by simp⟩
theorem around_iff {rows : Rows} (g : Good rows) {m : Nat} (hm : m < 8) (f : Rg.Sym → Bool) : (Rg.around (chartR rows) ((Rg.syms (chartR rows)).filter fun (s : Rg.Sym) => s.m == m)).any f = true ↔
    ∃ (x y : Nat) (i j : Int), x < wide rows ∧ y < rows.length ∧ (i = -1 ∨ i = 0 ∨ i = 1) ∧ (j = -1 ∨ j = 0 ∨ j = 1) ∧ SymF (fld rows) m x y ∧ f ⟨m, x + i * wide rows, y + j * rows.length⟩ = true := by
  unfold Rg.around
  rw [List.any_eq_true]
  simp only [List.mem_flatMap, List.mem_map, List.mem_filter, mem_syms g]
  have e3 : ∀ i : Int, i ∈ ([-1, 0, 1] : List Int) ↔ (i = -1 ∨ i = 0 ∨ i = 1) := fun i => by simp
  constructor
  · rintro ⟨z, ⟨s, ⟨⟨_, x, y, hx, hy, ea, eb, h⟩, em⟩, i, hi, j, hj, rfl⟩, hz⟩
    have em := eq_of_beq em
    rw [em, ea, eb] at hz
    rw [em] at h
    exact ⟨x, y, i, j, hx, hy, (e3 i).mp hi, (e3 j).mp hj, h, hz⟩
  · rintro ⟨x, y, i, j, hx, hy, hi, hj, h, hz⟩
    exact ⟨_, ⟨⟨m, x, y⟩, ⟨⟨hm, x, y, hx, hy, rfl, rfl, h⟩, by simp⟩, i, (e3 i).mpr hi, j, (e3 j).mpr hj, rfl⟩, hz⟩
theorem twice_eq {m : Nat} (hm : m < 8) (a b : Int) : Rg.Sym.twice ⟨m, a, b⟩ = tw m a b := by
  unfold Rg.Sym.twice tw
  simp only [turn_tp hm]
theorem isMirror_iff {m : Nat} (h4 : 4 ≤ m) (hm : m < 8) (a b : Int) : Rg.Sym.isMirror ⟨m, a, b⟩ = true ↔ tw m a b = (0, 0) := by
  unfold Rg.Sym.isMirror
  rw [twice_eq hm, decide_eq_true h4, Bool.true_and, beq_iff_eq]
theorem isGlide_iff {rows : Rows} (g : Good rows) {m : Nat} (h4 : 4 ≤ m) (hm : m < 8) (a b : Int) : Rg.Sym.isGlide (chartR rows) ⟨m, a, b⟩ = true ↔ NoHalf rows (tw m a b) := by
  unfold Rg.Sym.isGlide NoHalf Rg.isStep
  rw [twice_eq hm, decide_eq_true h4, Bool.true_and, Bool.not_eq_true', ← Bool.not_eq_true, Bool.and_eq_true, Bool.and_eq_true, beq_iff_eq, beq_iff_eq, isSym_iff g (by omega)]
/-- where one is turned by a quarter or mirrored along a diagonal, the field repeats by the common measure -/
theorem odd_rep {rows : Rows} (g : Good rows) {m : Nat} {a b : Int} (hm : m < 8) (od : m % 2 = 1) (h : SymF (fld rows) m a b) : Rep (fld rows) (sqSide rows) (sqSide rows) :=
  g.rect.rep.gcd (sym_odd_rep g.rect.rep hm od h)
theorem tw4 (a b : Int) : tw 4 a b = (0, 2 * b) := by
  unfold tw tp
  simp
  omega
theorem tw5 (a b : Int) : tw 5 a b = (a - b, b - a) := by
  unfold tw tp
  simp
  omega
theorem tw6 (a b : Int) : tw 6 a b = (2 * a, 0) := by
  unfold tw tp
  simp
  omega
theorem tw7 (a b : Int) : tw 7 a b = (a + b, a + b) := by
  unfold tw tp
  simp
  omega
theorem mirror_iff {rows : Rows} (g : Good rows) {m : Nat} (h4 : 4 ≤ m) (hm : m < 8) : (Rg.around (chartR rows) ((Rg.syms (chartR rows)).filter fun (s : Rg.Sym) => s.m == m)).any Rg.Sym.isMirror = true ↔ Mir rows m := by
  rw [around_iff g hm]
  constructor
  · rintro ⟨x, y, i, j, _, _, _, _, h, hz⟩
    refine ⟨_, _, ?_, (isMirror_iff h4 hm _ _).mp hz⟩
    have := sym_add g.rect.rep h i j
    rwa [Int.mul_comm _ i, Int.mul_comm _ j] at this
  · rintro ⟨a, b, h, e⟩
    have gp := sq_pos g.rect
    have gg : sqSide rows = Nat.gcd (wide rows) rows.length := rfl
    rw [← gg] at gp
    have c : m = 4 ∨ m = 5 ∨ m = 6 ∨ m = 7 := by omega
    rcases c with rfl | rfl | rfl | rfl
    · rw [tw4] at e
      have e2 : b = 0 := by have := congrArg Prod.snd e; simp only at this; omega
      subst e2
      obtain ⟨x, i, hx, ex⟩ := mod_place (wide rows) g.w1 a
      have h2 := sym_add g.rect.rep h (-i) 0
      rw [ex, Int.mul_neg, show (x : Int) + wide rows * i + -(wide rows * i) = x by omega, Int.mul_zero, Int.add_zero] at h2
      refine ⟨x, 0, 0, 0, hx, g.h1, by simp, by simp, h2, (isMirror_iff h4 hm _ _).mpr ?_⟩
      rw [tw4]; simp
    · rw [tw5] at e
      have e2 : a = b := by have := congrArg Prod.fst e; simp only at this; omega
      subst e2
      have r := odd_rep g hm rfl h
      obtain ⟨x, i, hx, ex⟩ := mod_place (sqSide rows) gp.1 a
      have h2 := sym_add r h (-i) (-i)
      rw [ex, Int.mul_neg, show (x : Int) + sqSide rows * i + -(sqSide rows * i) = x by omega] at h2
      refine ⟨x, x, 0, 0, by omega, by omega, by simp, by simp, h2, (isMirror_iff h4 hm _ _).mpr ?_⟩
      rw [tw5]; simp
    · rw [tw6] at e
      have e2 : a = 0 := by have := congrArg Prod.fst e; simp only at this; omega
      subst e2
      obtain ⟨y, j, hy, ey⟩ := mod_place rows.length g.h1 b
      have h2 := sym_add g.rect.rep h 0 (-j)
      rw [ey, Int.mul_neg, show (y : Int) + rows.length * j + -(rows.length * j) = y by omega, Int.mul_zero, Int.add_zero] at h2
      refine ⟨0, y, 0, 0, g.w1, hy, by simp, by simp, h2, (isMirror_iff h4 hm _ _).mpr ?_⟩
      rw [tw6]; simp
    · rw [tw7] at e
      have e2 : b = -a := by have := congrArg Prod.fst e; simp only at this; omega
      subst e2
      have r := odd_rep g hm rfl h
      obtain ⟨x, i, hx, ex⟩ := mod_place (sqSide rows) gp.1 a
      have h2 := sym_add r h (-i) i
      rw [ex, Int.mul_neg, show (x : Int) + sqSide rows * i + -(sqSide rows * i) = x by omega, show -((x : Int) + sqSide rows * i) + sqSide rows * i = -x by omega] at h2
      by_cases c0 : x = 0
      · subst c0
        refine ⟨0, 0, 0, 0, g.w1, g.h1, by simp, by simp, by simpa using h2, (isMirror_iff h4 hm _ _).mpr ?_⟩
        rw [tw7]; simp
      · have h3 := sym_add g.rect.rep h2 0 1
        rw [Int.mul_zero, Int.add_zero, Int.mul_one] at h3
        refine ⟨x, rows.length - x, 0, -1, by omega, by omega, by simp, by simp, ?_, (isMirror_iff h4 hm _ _).mpr ?_⟩
        · rw [show ((rows.length - x : Nat) : Int) = -(x : Int) + rows.length by omega]
          exact h3
        · rw [tw7]
          have : ((x : Int) + 0 * (wide rows : Int)) + (((rows.length - x : Nat) : Int) + -1 * (rows.length : Int)) = 0 := by omega
          rw [this]
theorem step_add {rows : Rows} {W H : Nat} (r : Rep (fld rows) W H) (a b i j : Int) : SymF (fld rows) 0 (a + W * i) (b + H * j) ↔ SymF (fld rows) 0 a b := by
  constructor
  · intro h
    have := sym_add r h (-i) (-j)
    rw [Int.mul_neg, Int.mul_neg] at this
    rwa [show a + W * i + -(W * i) = a by omega, show b + H * j + -(H * j) = b by omega] at this
  · intro h
    exact sym_add r h i j
theorem glide_iff {rows : Rows} (g : Good rows) {m : Nat} (h4 : 4 ≤ m) (hm : m < 8) : (Rg.around (chartR rows) ((Rg.syms (chartR rows)).filter fun (s : Rg.Sym) => s.m == m)).any (Rg.Sym.isGlide (chartR rows)) = true ↔ Gli rows m := by
  rw [around_iff g hm]
  constructor
  · rintro ⟨x, y, i, j, _, _, _, _, h, hz⟩
    refine ⟨_, _, ?_, (isGlide_iff g h4 hm _ _).mp hz⟩
    have := sym_add g.rect.rep h i j
    rwa [Int.mul_comm _ i, Int.mul_comm _ j] at this
  · rintro ⟨a, b, h, e⟩
    have gp := sq_pos g.rect
    have gg : sqSide rows = Nat.gcd (wide rows) rows.length := rfl
    rw [← gg] at gp
    have c : m = 4 ∨ m = 5 ∨ m = 6 ∨ m = 7 := by omega
    have dvd : sqSide rows ∣ wide rows := by rw [gg]; exact Nat.gcd_dvd_left _ _
    -- a place by the common measure's side, and one side on
    have nextx : ∀ x : Nat, x < sqSide rows → ∃ (x' : Nat) (i : Int), x' < wide rows ∧ (i = -1 ∨ i = 0 ∨ i = 1) ∧ (x' : Int) + i * wide rows = x + sqSide rows := by
      intro x hx
      obtain ⟨k, ek⟩ := dvd
      by_cases c1 : k = 1
      · subst c1
        exact ⟨x, 1, by omega, by simp, by omega⟩
      · refine ⟨x + sqSide rows, 0, ?_, by simp, by omega⟩
        have k2 : 2 ≤ k := by
          have := g.w1
          cases k with
          | zero => omega
          | succ k => cases k with
            | zero => omega
            | succ k => omega
        have : sqSide rows * 2 ≤ sqSide rows * k := Nat.mul_le_mul_left _ k2
        omega
    rcases c with rfl | rfl | rfl | rfl
    · obtain ⟨x, y, i, j, hx, hy, ea, eb, h2⟩ := told_of g h
      refine ⟨x, y, 0, 0, hx, hy, by simp, by simp, h2, (isGlide_iff g h4 hm _ _).mpr ?_⟩
      rw [tw4] at e ⊢
      unfold NoHalf at e ⊢
      simp only at e ⊢
      rw [Int.zero_mul, Int.add_zero, show 2 * (y : Int) / 2 = y by omega]
      rw [show 2 * b / 2 = b by omega] at e
      intro z
      refine e ⟨by omega, by omega, ?_⟩
      have := (step_add g.rect.rep 0 y 0 j).mpr (by simpa using z.2.2)
      rw [← eb] at this
      simpa using this
    · have r := odd_rep g hm rfl h
      obtain ⟨x, i, hx, ex⟩ := mod_place (sqSide rows) gp.1 a
      obtain ⟨y, j, hy, ey⟩ := mod_place (sqSide rows) gp.1 b
      have h2 := sym_add r h (-i) (-j)
      rw [ex, ey, Int.mul_neg, Int.mul_neg, show (x : Int) + sqSide rows * i + -(sqSide rows * i) = x by omega, show (y : Int) + sqSide rows * j + -(sqSide rows * j) = y by omega] at h2
      rw [tw5] at e
      -- d: one side more, where the sides between are odd
      have fin : ∀ (x' : Nat) (i' k : Int), x' < wide rows → (i' = -1 ∨ i' = 0 ∨ i' = 1) → SymF (fld rows) 5 x' y → (x' : Int) + i' * wide rows - y = a - b + 2 * (sqSide rows * k) →
          ∃ (x y : Nat) (i j : Int), x < wide rows ∧ y < rows.length ∧ (i = -1 ∨ i = 0 ∨ i = 1) ∧ (j = -1 ∨ j = 0 ∨ j = 1) ∧ SymF (fld rows) 5 x y ∧ Rg.Sym.isGlide (chartR rows) ⟨5, x + i * wide rows, y + j * rows.length⟩ = true := fun x' i' k hx' hi' hs' hd => by
        refine ⟨x', y, i', 0, hx', by omega, hi', by simp, hs', (isGlide_iff g h4 hm _ _).mpr ?_⟩
        rw [tw5]
        unfold NoHalf at e ⊢
        simp only at e ⊢
        rw [Int.zero_mul, Int.add_zero]
        have d2 : (y : Int) - ((x' : Int) + i' * wide rows) = b - a + 2 * (sqSide rows * (-k)) := by rw [Int.mul_neg]; omega
        rw [hd, d2]
        intro z
        refine e ⟨by omega, by omega, ?_⟩
        have := z.2.2
        rw [show (a - b + 2 * (sqSide rows * k)) / 2 = (a - b) / 2 + sqSide rows * k by omega, show (b - a + 2 * (sqSide rows * (-k))) / 2 = (b - a) / 2 + sqSide rows * (-k) by omega] at this
        exact (step_add r _ _ k (-k)).mp this
      have hk : (i - j) % 2 = 0 ∨ (i - j) % 2 = 1 := by omega
      rcases hk with hk | hk
      · obtain ⟨k, ek⟩ : ∃ k, i - j = 2 * k := ⟨(i - j) / 2, by omega⟩
        refine fin x 0 (-k) (by omega) (by simp) h2 ?_
        have : (sqSide rows : Int) * (i - j) = 2 * (sqSide rows * k) := by rw [ek, Int.mul_left_comm]
        rw [Int.mul_sub] at this
        rw [Int.mul_neg]
        omega
      · obtain ⟨k, ek⟩ : ∃ k, i - j = 2 * k + 1 := ⟨(i - j) / 2, by omega⟩
        obtain ⟨x', i', hx', hi', ex'⟩ := nextx x hx
        have h3 : SymF (fld rows) 5 x' y := by
          have q := sym_add r h2 1 0
          rw [Int.mul_one, ← ex', Int.mul_zero, Int.add_zero] at q
          have := sym_add g.rect.rep q (-i') 0
          rw [Int.mul_neg, Int.mul_comm _ i', Int.mul_zero, Int.add_zero] at this
          rwa [show (x' : Int) + i' * wide rows + -(i' * wide rows) = x' by omega] at this
        refine fin x' i' (-k) hx' hi' h3 ?_
        have : (sqSide rows : Int) * (i - j) = 2 * (sqSide rows * k) + sqSide rows := by rw [ek, Int.mul_add, Int.mul_one, Int.mul_left_comm]
        rw [Int.mul_sub] at this
        rw [Int.mul_neg, ex']
        omega
    · obtain ⟨x, y, i, j, hx, hy, ea, eb, h2⟩ := told_of g h
      refine ⟨x, y, 0, 0, hx, hy, by simp, by simp, h2, (isGlide_iff g h4 hm _ _).mpr ?_⟩
      rw [tw6] at e ⊢
      unfold NoHalf at e ⊢
      simp only at e ⊢
      rw [Int.zero_mul, Int.add_zero, show 2 * (x : Int) / 2 = x by omega]
      rw [show 2 * a / 2 = a by omega] at e
      intro z
      refine e ⟨by omega, by omega, ?_⟩
      have := (step_add g.rect.rep x 0 i 0).mpr (by simpa using z.2.2)
      rw [← ea] at this
      simpa using this
    · have r := odd_rep g hm rfl h
      obtain ⟨x, i, hx, ex⟩ := mod_place (sqSide rows) gp.1 a
      obtain ⟨y, j, hy, ey⟩ := mod_place (sqSide rows) gp.1 b
      have h2 := sym_add r h (-i) (-j)
      rw [ex, ey, Int.mul_neg, Int.mul_neg, show (x : Int) + sqSide rows * i + -(sqSide rows * i) = x by omega, show (y : Int) + sqSide rows * j + -(sqSide rows * j) = y by omega] at h2
      rw [tw7] at e
      have fin : ∀ (x' : Nat) (i' k : Int), x' < wide rows → (i' = -1 ∨ i' = 0 ∨ i' = 1) → SymF (fld rows) 7 x' y → (x' : Int) + i' * wide rows + y = a + b + 2 * (sqSide rows * k) →
          ∃ (x y : Nat) (i j : Int), x < wide rows ∧ y < rows.length ∧ (i = -1 ∨ i = 0 ∨ i = 1) ∧ (j = -1 ∨ j = 0 ∨ j = 1) ∧ SymF (fld rows) 7 x y ∧ Rg.Sym.isGlide (chartR rows) ⟨7, x + i * wide rows, y + j * rows.length⟩ = true := fun x' i' k hx' hi' hs' hd => by
        refine ⟨x', y, i', 0, hx', by omega, hi', by simp, hs', (isGlide_iff g h4 hm _ _).mpr ?_⟩
        rw [tw7]
        unfold NoHalf at e ⊢
        simp only at e ⊢
        rw [Int.zero_mul, Int.add_zero, hd]
        intro z
        refine e ⟨by omega, by omega, ?_⟩
        have := z.2.2
        rw [show (a + b + 2 * (sqSide rows * k)) / 2 = (a + b) / 2 + sqSide rows * k by omega] at this
        exact (step_add r _ _ k k).mp this
      have hk : (i + j) % 2 = 0 ∨ (i + j) % 2 = 1 := by omega
      rcases hk with hk | hk
      · obtain ⟨k, ek⟩ : ∃ k, i + j = 2 * k := ⟨(i + j) / 2, by omega⟩
        refine fin x 0 (-k) (by omega) (by simp) h2 ?_
        have : (sqSide rows : Int) * (i + j) = 2 * (sqSide rows * k) := by rw [ek, Int.mul_left_comm]
        rw [Int.mul_add] at this
        rw [Int.mul_neg]
        omega
      · obtain ⟨k, ek⟩ : ∃ k, i + j = 2 * k + 1 := ⟨(i + j) / 2, by omega⟩
        obtain ⟨x', i', hx', hi', ex'⟩ := nextx x hx
        have h3 : SymF (fld rows) 7 x' y := by
          have q := sym_add r h2 1 0
          rw [Int.mul_one, ← ex', Int.mul_zero, Int.add_zero] at q
          have := sym_add g.rect.rep q (-i') 0
          rw [Int.mul_neg, Int.mul_comm _ i', Int.mul_zero, Int.add_zero] at this
          rwa [show (x' : Int) + i' * wide rows + -(i' * wide rows) = x' by omega] at this
        refine fin x' i' (-k) hx' hi' h3 ?_
        have : (sqSide rows : Int) * (i + j) = 2 * (sqSide rows * k) + sqSide rows := by rw [ek, Int.mul_add, Int.mul_one, Int.mul_left_comm]
        rw [Int.mul_add] at this
        rw [Int.mul_neg, ex']
        omega
/-! ### what kind asks, by tests that tell the field's symmetries -/
theorem bool_of {a b : Bool} {p : Prop} (h1 : a = true ↔ p) (h2 : b = true ↔ p) : a = b := Bool.eq_iff_iff.mpr (h1.trans h2.symm)
theorem mirrors_eq {rows : Rows} (g : Good rows) (f : Nat → Bool) (h : ∀ m, 4 ≤ m → m < 8 → (f m = true ↔ Mir rows m)) : Rg.mirrorsOf (chartR rows) (Rg.syms (chartR rows)) = [4, 5, 6, 7].filter f := by
  unfold Rg.mirrorsOf
  apply List.filter_congr
  intro m hm
  have : 4 ≤ m ∧ m < 8 := by
    simp only [List.mem_cons, List.not_mem_nil, or_false] at hm
    omega
  exact bool_of (mirror_iff g this.1 this.2) (h m this.1 this.2)
theorem any_congr {α : Type} {l : List α} {f k : α → Bool} (h : ∀ x ∈ l, f x = k x) : l.any f = l.any k := by
  induction l with
  | nil => rfl
  | cons x l ih => rw [List.any_cons, List.any_cons, h x (by simp), ih fun y hy => h y (by simp [hy])]
theorem glides_eq {rows : Rows} (g : Good rows) (f : Nat → Bool) (h : ∀ m, 4 ≤ m → m < 8 → (f m = true ↔ Gli rows m)) : Rg.hasGlide (chartR rows) (Rg.syms (chartR rows)) = [4, 5, 6, 7].any f := by
  unfold Rg.hasGlide
  apply any_congr
  intro m hm
  have : 4 ≤ m ∧ m < 8 := by
    simp only [List.mem_cons, List.not_mem_nil, or_false] at hm
    omega
  exact bool_of (glide_iff g this.1 this.2) (h m this.1 this.2)
theorem turns_eq {rows : Rows} (g : Good rows) (f : Nat → Bool) (h : ∀ m, m < 8 → (f m = true ↔ Turns rows m)) {m : Nat} (hm : m < 8) : Rg.hasTurn (Rg.syms (chartR rows)) m = f m := bool_of (hasTurn_iff g hm) (h m hm)
/-- the kind, by such tests -/
theorem kind_by {rows : Rows} (g : Good rows) (ft fm fg : Nat → Bool) (ht : ∀ m, m < 8 → (ft m = true ↔ Turns rows m)) (hm : ∀ m, 4 ≤ m → m < 8 → (fm m = true ↔ Mir rows m)) (hg : ∀ m, 4 ≤ m → m < 8 → (fg m = true ↔ Gli rows m)) :
    Rg.kindOf (chartR rows) = Rg.kindBy (ft 2) (ft 1 || ft 3) ([4, 5, 6, 7].any fg) ([4, 5, 6, 7].filter ft).length ([4, 5, 6, 7].filter fm).length := by
  unfold Rg.kindOf
  simp only
  rw [turns_eq g ft ht (by omega), turns_eq g ft ht (by omega), turns_eq g ft ht (by omega), glides_eq g fg hg, mirrors_eq g fm hm]
  congr 2
  apply List.filter_congr
  intro m hm
  refine turns_eq g ft ht ?_
  simp only [List.mem_cons, List.not_mem_nil, or_false] at hm
  omega
theorem motions_by {rows : Rows} (g : Good rows) (ft : Nat → Bool) (ht : ∀ m, m < 8 → (ft m = true ↔ Turns rows m)) : Rg.motionsOf (chartR rows) = (List.range 8).filter ft := by
  unfold Rg.motionsOf Rg.MOTIONS
  apply List.filter_congr
  intro m hm
  exact turns_eq g ft ht (List.mem_range.mp hm)
end Kc

namespace Kc
/-! ### the chart of the least repeat -/
theorem first_ex {n k : Nat} {f : Nat → Bool} (hk : k < n) (h : f k = true) : ∃ j, Rg.firstFrom n f = j ∧ j ≤ k ∧ f j = true ∧ ∀ i, i < j → f i = false := by
  unfold Rg.firstFrom
  cases e : (List.range n).find? f with
  | none =>
    have := List.find?_eq_none.mp e k (List.mem_range.mpr hk)
    exact absurd h this
  | some j =>
    have q := List.find?_range_eq_some.mp e
    refine ⟨j, rfl, ?_, q.1, fun i hi => ?_⟩
    · apply Nat.le_of_not_lt
      intro z
      have := q.2.2 k z
      rw [h] at this
      cases this
    · have := q.2.2 i hi
      simpa using this
theorem r_facts {rows : Rows} (g : Good rows) : ∃ r : Nat, (Rg.leastOf (chartR rows)).r = r ∧ 1 ≤ r ∧ r ≤ rows.length ∧ down rows (wide rows) r = true := by
  have hd : down rows (wide rows) rows.length = true := down_true (a := 0) (by have := g.w1; omega) (stp_h g)
  have h1 := g.h1
  obtain ⟨j, e, l, t, _⟩ := first_ex (n := rows.length + 1) (k := rows.length) (f := fun k => decide (0 < k) && down rows (wide rows) k) (by omega) (by rw [hd, decide_eq_true (by omega)]; rfl)
  simp only [Bool.and_eq_true, decide_eq_true_eq] at t
  exact ⟨j, e, by omega, l, t.2⟩
def byteInt (c : UInt8) : Int := (c.toNat : Int)
theorem byteInt_by8 {x : Int} (h : inB x) : byteInt (by8 x) = x := by
  unfold byteInt by8
  unfold inB at h
  simp only [UInt8.toNat_ofNat']
  omega
/-- the rows of the least repeat, and their text -/
def cellRows (rows : Rows) : Rows := (rows.take (Rg.leastOf (chartR rows)).r).map (List.take (Rg.leastOf (chartR rows)).p)
def textOf (rows : Rows) : List Int := rows.flatMap fun r => r ++ [10]
theorem range_map_getD {α β : Type} (l : List α) (d : α) (n : Nat) (h : n ≤ l.length) (f : α → β) : (List.range n).map (fun i => f (l.getD i d)) = (l.take n).map f := by
  apply List.ext_getElem
  · simp; omega
  · intro i h1 h2
    simp only [List.length_map, List.length_range] at h1
    simp only [List.getElem_map, List.getElem_range, List.getElem_take, List.getD_eq_getElem?_getD, List.getElem?_eq_getElem (show i < l.length by omega), Option.getD_some]
theorem cell_rows {rows : Rows} (g : Good rows) : (chartR rows).cell.rows = (cellRows rows).map (List.map colN) := by
  obtain ⟨p, ep, p1, p2, _⟩ := p_facts g
  obtain ⟨r, er, r1, r2, _⟩ := r_facts g
  unfold Rg.Chart.cell Rg.Chart.cutOut Rg.Chart.by_ cellRows
  rw [ep, er]
  simp only [Nat.zero_add]
  unfold Rg.Chart.at_ chartR
  simp only
  have e0 : ∀ y, y < r → ∀ x, x < p → ((rows.map (List.map colN)).getD y []).getD x 0 = colN ((rows.getD y []).getD x 0) := by
    intro y hy x hx
    obtain ⟨q, e, hq, _⟩ := g.rect.row (y := y) (by omega)
    simp only [List.getD_eq_getElem?_getD, List.getElem?_map, e, Option.map_some, Option.getD_some]
    rw [List.getElem?_eq_getElem (show x < q.length by omega)]
    rfl
  have e1 : (List.range r).map (fun y => (List.range p).map fun x => ((rows.map (List.map colN)).getD y []).getD x 0) = (List.range r).map (fun y => ((fun q : List Int => (q.take p).map colN) (rows.getD y []))) := by
    apply List.map_congr_left
    intro y hy
    have hy := List.mem_range.mp hy
    obtain ⟨q, e, hq, _⟩ := g.rect.row (y := y) (by omega)
    have eq : rows.getD y [] = q := by rw [List.getD_eq_getElem?_getD, e]; rfl
    have e2 : (List.range p).map (fun x => ((rows.map (List.map colN)).getD y []).getD x 0) = (List.range p).map fun x => colN (q.getD x 0) := by
      apply List.map_congr_left
      intro x hx
      rw [e0 y hy x (List.mem_range.mp hx), eq]
    rw [e2, eq]
    exact range_map_getD q 0 p (by omega) colN
  rw [e1, range_map_getD rows [] r r2 (fun q : List Int => (q.take p).map colN), List.map_map]
  rfl
theorem cellRows_mem {rows : Rows} (g : Good rows) : ∀ r ∈ cellRows rows, r.all isCol = true := by
  intro r hr
  unfold cellRows at hr
  obtain ⟨q, hq, rfl⟩ := List.mem_map.mp hr
  have := g.col q (List.mem_of_mem_take hq)
  rw [List.all_eq_true] at this ⊢
  exact fun x hx => this x (List.mem_of_mem_take hx)
theorem text_bytes (rows : Rows) (h : ∀ r ∈ rows, r.all isCol = true) : ((rows.map (List.map colN)).flatMap fun (r : List Nat) => r.map Rg.byteOf ++ [Rg.LF]).map byteInt = textOf rows := by
  unfold textOf
  induction rows with
  | nil => rfl
  | cons r l ih =>
    rw [List.map_cons, List.flatMap_cons, List.flatMap_cons, List.map_append, ih (fun r' hr' => h r' (by simp [hr']))]
    congr 1
    have hr := h r (by simp)
    rw [List.map_append, List.map_map, List.map_map]
    congr 1
    rw [List.all_eq_true] at hr
    conv => rhs; rw [← List.map_id r]
    apply List.map_congr_left
    intro x hx
    have c := hr x hx
    show byteInt (Rg.byteOf (colN x)) = x
    rw [(col_byte (isCol_inB c) (col_some (isCol_inB c) c)).1, byteInt_by8 (isCol_inB c)]
theorem cell_shown {rows : Rows} (g : Good rows) : RugBNeutral.shown (RugB.whole (chartR rows).cell) = ((textOf (cellRows rows)).length : Int) :: textOf (cellRows rows) := by
  have e : (chartR rows).cell.text.map byteInt = textOf (cellRows rows) := by
    unfold Rg.Chart.text
    rw [cell_rows g]
    exact text_bytes _ (cellRows_mem g)
  unfold RugB.whole RugBNeutral.shown
  simp only [List.nil_append]
  have e2 : (chartR rows).cell.text.map (fun (c : UInt8) => (c.toNat : Int)) = textOf (cellRows rows) := e
  rw [e2, ← e, List.length_map]
end Kc

namespace Kc
/-! ### borders -/
def bX (m : Nat) (x : Int) : Int := if m = 2 ∨ m = 4 then -x else x
def bY (h m y : Nat) : Nat := if m = 2 ∨ m = 6 then h - 1 - y else y
/-- the strip's knot, to the sides without end -/
def sAt (rows : Rows) (X : Int) (y : Nat) : Int := at0 rows (X % (wide rows : Int)).toNat y
def StripF (rows : Rows) (m : Nat) (a : Int) : Prop := ∀ x y : Nat, x < wide rows → y < rows.length → sAt rows (bX m x + a) (bY rows.length m y) = at0 rows x y
def strB (rows : Rows) (m : Nat) (a : Int) : Bool := Rg.stripSym (chartR rows) m a
theorem bY_lt {h m y : Nat} (hy : y < h) : bY h m y < h := by
  unfold bY
  split <;> omega
theorem at_beq {rows : Rows} (g : Good rows) {x y x' y' : Nat} (hx : x < wide rows) (hy : y < rows.length) (hx' : x' < wide rows) (hy' : y' < rows.length) : ((chartR rows).at_ x y == (chartR rows).at_ x' y') = true ↔ at0 rows x y = at0 rows x' y' := by
  have e : ∀ {x y : Nat}, x < wide rows → y < rows.length → (chartR rows).at_ x y = colN (at0 rows x y) ∧ isCol (at0 rows x y) = true := by
    intro x y hx hy
    have h1 := at2_eq g ((x : Int), (y : Int))
    have h2 := fld_col g (x : Int) (y : Int)
    rw [g.rect.fld_nat hx hy] at h1 h2
    unfold Rg.Chart.at2 Rg.wrap at h1
    simp only at h1
    rw [show (chartR rows).wide = wide rows from rfl, show (chartR rows).high = rows.length from rfl, mod_nat hx, mod_nat hy] at h1
    exact ⟨h1, h2⟩
  rw [(e hx hy).1, (e hx' hy').1, beq_iff_eq]
  exact ⟨fun h => colN_inj (e hx hy).2 (e hx' hy').2 h, fun h => by rw [h]⟩
theorem strB_iff {rows : Rows} (g : Good rows) (m : Nat) (a : Int) : strB rows m a = true ↔ StripF rows m a := by
  unfold strB Rg.stripSym StripF
  rw [grid_all]
  have e : ∀ x y : Nat, x < wide rows → y < rows.length → (((chartR rows).at_ (Rg.wrap ((if m = 2 ∨ m = 4 then -((x, y).1 : Int) else (x, y).1) + a) (chartR rows).wide) (if m = 2 ∨ m = 6 then (chartR rows).high - 1 - (x, y).2 else (x, y).2) == (chartR rows).at_ (x, y).1 (x, y).2) = true ↔ sAt rows (bX m x + a) (bY rows.length m y) = at0 rows x y) := by
    intro x y hx hy
    exact at_beq g (toNat_mod_lt g.w1 _) (bY_lt hy) hx hy
  constructor
  · intro h x y hx hy
    exact (e x y hx hy).mp (h x y hx hy)
  · intro h x y hx hy
    exact (e x y hx hy).mpr (h x y hx hy)
theorem sAt_add (rows : Rows) (X k : Int) (y : Nat) : sAt rows (X + wide rows * k) y = sAt rows X y := by
  unfold sAt
  rw [Int.add_mul_emod_self_left]
/-- the sides taken off -/
theorem strB_add {rows : Rows} (g : Good rows) (m : Nat) (a k : Int) : strB rows m (a + wide rows * k) = strB rows m a := by
  refine Bool.eq_iff_iff.mpr ?_
  rw [strB_iff g, strB_iff g]
  unfold StripF
  have e : ∀ x y : Nat, sAt rows (bX m x + (a + wide rows * k)) (bY rows.length m y) = sAt rows (bX m x + a) (bY rows.length m y) := fun x y => by
    rw [← Int.add_assoc, sAt_add]
  simp only [e]
/-- told of all places, not of the strip's own alone -/
theorem strip_all {rows : Rows} (g : Good rows) {m : Nat} {a : Int} (h : StripF rows m a) (X : Int) {y : Nat} (hy : y < rows.length) : sAt rows (bX m X + a) (bY rows.length m y) = sAt rows X y := by
  obtain ⟨x, k, hx, rfl⟩ := mod_place (wide rows) g.w1 X
  rw [sAt_add]
  have e : sAt rows (x : Int) y = at0 rows x y := by
    unfold sAt
    rw [mod_nat hx]
  rw [e, ← h x y hx hy]
  unfold bX
  split
  · have := sAt_add rows (-(x : Int) + a) (-k) (bY rows.length m y)
    rw [← this]
    congr 1
    rw [Int.mul_neg]
    omega
  · have := sAt_add rows ((x : Int) + a) k (bY rows.length m y)
    rw [← this]
    congr 1
    omega
theorem bY_bY {h m y : Nat} (hy : y < h) : bY h m (bY h m y) = y := by
  unfold bY
  split <;> omega
/-- with (6, a) and the step (0, a) there is (6, 0) -/
theorem flat_zero {rows : Rows} (g : Good rows) : ((List.range (wide rows)).any fun a => strB rows 6 (a : Int) && strB rows 0 (a : Int)) = strB rows 6 0 := by
  refine Bool.eq_iff_iff.mpr ?_
  rw [List.any_eq_true]
  constructor
  · rintro ⟨a, _, h⟩
    rw [Bool.and_eq_true, strB_iff g, strB_iff g] at h
    obtain ⟨h6, h0⟩ := h
    rw [strB_iff g]
    intro x y hx hy
    have e1 := strip_all g h0 (x : Int) (y := bY rows.length 6 y) (bY_lt hy)
    have e2 := h6 x y hx hy
    simp only [bX, bY] at e1 e2 ⊢
    simp at e1 e2 ⊢
    rw [← e2, ← e1]
  · intro h
    refine ⟨0, List.mem_range.mpr g.w1, ?_⟩
    rw [Bool.and_eq_true]
    refine ⟨h, ?_⟩
    rw [strB_iff g]
    intro x y hx hy
    simp only [bX, bY, sAt]
    simp
    rw [Int.emod_eq_of_lt (by omega) (by omega)]
    simp
/-- one motion's part of those told -/
def strRow (rows : Rows) (m n : Nat) : List (Nat × Nat) := (List.range n).filterMap fun (a : Nat) => if strB rows m (a : Int) = true then some (m, a) else none
theorem stripSyms_eq (rows : Rows) : Rg.stripSyms (chartR rows) = strRow rows 0 (wide rows) ++ (strRow rows 2 (wide rows) ++ (strRow rows 4 (wide rows) ++ strRow rows 6 (wide rows))) := by
  unfold Rg.stripSyms
  simp only [List.flatMap_cons, List.flatMap_nil, List.append_nil]
  rfl
theorem strRow_succ (rows : Rows) (m n : Nat) : strRow rows m (n + 1) = strRow rows m n ++ (if strB rows m (n : Int) = true then [(m, n)] else []) := by
  unfold strRow
  rw [List.range_succ, List.filterMap_append]
  congr 1
  by_cases c : strB rows m (n : Int) = true
  · simp [c]
  · simp [c]
theorem strRow_len (rows : Rows) (m n : Nat) : (strRow rows m n).length = ((List.range n).filter fun (a : Nat) => strB rows m (a : Int)).length := by
  unfold strRow
  induction n with
  | zero => rfl
  | succ n ih =>
    rw [List.range_succ, List.filterMap_append, List.filter_append, List.length_append, List.length_append, ih]
    congr 1
    by_cases c : strB rows m (n : Int) = true
    · simp [c]
    · simp [c]
theorem mem_strip {rows : Rows} {m a : Nat} : (m, a) ∈ Rg.stripSyms (chartR rows) ↔ (m = 0 ∨ m = 2 ∨ m = 4 ∨ m = 6) ∧ a < wide rows ∧ strB rows m (a : Int) = true := by
  unfold Rg.stripSyms
  simp only [List.mem_flatMap, List.mem_filterMap, List.mem_range]
  constructor
  · rintro ⟨m', hm, a', ha, e⟩
    by_cases c : Rg.stripSym (chartR rows) m' (a' : Int) = true
    · rw [if_pos c] at e
      cases e
      exact ⟨by simpa using hm, ha, c⟩
    · rw [if_neg c] at e
      cases e
  · rintro ⟨hm, ha, h⟩
    refine ⟨m, by simpa using hm, a, ha, ?_⟩
    rw [if_pos (show Rg.stripSym (chartR rows) m (a : Int) = true from h)]
/-- is there one with this motion -/
def strHas (rows : Rows) (m : Nat) : Bool := (List.range (wide rows)).any fun a => strB rows m (a : Int)
theorem strHas_eq {rows : Rows} {m : Nat} (hm : m = 0 ∨ m = 2 ∨ m = 4 ∨ m = 6) : ((Rg.stripSyms (chartR rows)).any fun (s : Nat × Nat) => s.1 == m) = strHas rows m := by
  refine Bool.eq_iff_iff.mpr ?_
  unfold strHas
  rw [List.any_eq_true, List.any_eq_true]
  constructor
  · rintro ⟨⟨m', a⟩, hs, e⟩
    have e := eq_of_beq e
    simp only at e
    subst e
    obtain ⟨_, ha, h⟩ := mem_strip.mp hs
    exact ⟨a, List.mem_range.mpr ha, h⟩
  · rintro ⟨a, ha, h⟩
    exact ⟨(m, a), mem_strip.mpr ⟨hm, List.mem_range.mp ha, h⟩, by simp⟩
theorem strFlat_eq {rows : Rows} (g : Good rows) : ((Rg.stripSyms (chartR rows)).any fun (s : Nat × Nat) => s.1 == 6 && (Rg.stripSyms (chartR rows)).contains (0, s.2)) = strB rows 6 0 := by
  rw [← flat_zero g]
  refine Bool.eq_iff_iff.mpr ?_
  rw [List.any_eq_true, List.any_eq_true]
  constructor
  · rintro ⟨⟨m', a⟩, hs, e⟩
    rw [Bool.and_eq_true] at e
    have e1 := eq_of_beq e.1
    simp only at e1
    subst e1
    obtain ⟨_, ha, h⟩ := mem_strip.mp hs
    have h0 := mem_strip.mp (List.contains_iff_mem.mp e.2)
    exact ⟨a, List.mem_range.mpr ha, by rw [h, h0.2.2]; rfl⟩
  · rintro ⟨a, ha, h⟩
    rw [Bool.and_eq_true] at h
    refine ⟨(6, a), mem_strip.mpr ⟨by simp, List.mem_range.mp ha, h.1⟩, ?_⟩
    rw [Bool.and_eq_true]
    exact ⟨by simp, List.contains_iff_mem.mpr (mem_strip.mpr ⟨by simp, List.mem_range.mp ha, h.2⟩)⟩
/-- the border's kind, by U, F, whether there is one with m 6, and T -/
def strKindBy (u f s t : Bool) : Nat := if u = true then (if f = true then 7 else if s = true then 6 else 3) else if f = true then 2 else if s = true then 4 else if t = true then 5 else 1
theorem stripKind_eq {rows : Rows} (g : Good rows) : Rg.stripKind (chartR rows) = strKindBy (strHas rows 4) (strB rows 6 0) (strHas rows 6) (strHas rows 2) := by
  unfold Rg.stripKind strKindBy
  have h4 := strHas_eq (rows := rows) (m := 4) (by simp)
  have h6 := strHas_eq (rows := rows) (m := 6) (by simp)
  have h2 := strHas_eq (rows := rows) (m := 2) (by simp)
  have hf := strFlat_eq g
  simp only [h4, h6, h2, hf]
  cases strHas rows 4 <;> cases strB rows 6 0 <;> cases strHas rows 6 <;> cases strHas rows 2 <;> rfl
/-- the least step of a border -/
theorem stripStep_is {rows : Rows} {p : Nat} (h1 : 1 ≤ p) (h2 : p ≤ wide rows) (h : strB rows 0 (p : Int) = true) (h0 : ∀ j : Nat, 1 ≤ j → j < p → strB rows 0 (j : Int) = false) : Rg.stripStep (chartR rows) = p := by
  refine first_is (n := wide rows + 1) (by omega) ?_ fun j hj => ?_
  · show (decide (0 < p) && strB rows 0 (p : Int)) = true
    rw [h, decide_eq_true (by omega)]; rfl
  · show (decide (0 < j) && strB rows 0 (j : Int)) = false
    by_cases c : 0 < j
    · rw [h0 j c hj, Bool.and_false]
    · rw [decide_eq_false c, Bool.false_and]
/-- a border's steps are the field's steps to the side -/
theorem strB_step {rows : Rows} (g : Good rows) (a : Int) : strB rows 0 a = stp rows a 0 := by
  refine Bool.eq_iff_iff.mpr ?_
  rw [strB_iff g, stp_iff g]
  constructor
  · intro h X Y
    have := strip_all g h X (y := (Y % (rows.length : Int)).toNat) (toNat_mod_lt g.h1 _)
    rw [Int.add_zero]
    simp only [bX, bY] at this
    simpa [sAt, fld] using this
  · intro h x y hx hy
    have := h (x : Int) (y : Int)
    rw [Int.add_zero, g.rect.fld_nat hx hy] at this
    rw [← this]
    simp only [bX, bY, sAt, fld]
    simp
    rw [Int.emod_eq_of_lt (show (0 : Int) ≤ (y : Int) by omega) (by omega)]
    simp
theorem stripStep_p {rows : Rows} (g : Good rows) : Rg.stripStep (chartR rows) = (Rg.leastOf (chartR rows)).p := by
  show Rg.firstFrom (wide rows + 1) (fun k => decide (0 < k) && strB rows 0 (k : Int)) = Rg.firstFrom (wide rows + 1) (fun k => decide (0 < k) && stp rows (k : Int) 0)
  congr 1
  funext k
  rw [strB_step g]
end Kc

namespace Kc
/-! ### a border's symmetries as the field's -/
def bSh (h m : Nat) : Nat := if m = 2 ∨ m = 6 then h - 1 else 0
theorem strB_sym {rows : Rows} (g : Good rows) {m : Nat} (hm : m = 0 ∨ m = 2 ∨ m = 4 ∨ m = 6) (a : Int) : Rg.isSym (chartR rows) ⟨m, a, (bSh rows.length m : Nat)⟩ = strB rows m a := by
  have h1 := g.h1
  refine Bool.eq_iff_iff.mpr ?_
  rw [isSym_iff g (by omega), strB_iff g, sym_cell g.rect.rep g.w1 g.h1 (by omega) (.inl (by omega))]
  unfold StripF
  have e : ∀ x y : Nat, x < wide rows → y < rows.length → fld rows ((tp m x y).1 + a) ((tp m x y).2 + (bSh rows.length m : Nat)) = sAt rows (bX m x + a) (bY rows.length m y) := fun x y hx hy => by
    rw [g.rect.fld_eq]
    unfold sAt
    have e1 : (tp m x y).1 = bX m x := by rcases hm with rfl | rfl | rfl | rfl <;> rfl
    have e2 : (tp m x y).2 + (bSh rows.length m : Nat) = ((bY rows.length m y : Nat) : Int) := by
      rcases hm with rfl | rfl | rfl | rfl
      · show (y : Int) + ((0 : Nat) : Int) = (y : Int)
        omega
      · show -(y : Int) + ((rows.length - 1 : Nat) : Int) = ((rows.length - 1 - y : Nat) : Int)
        omega
      · show (y : Int) + ((0 : Nat) : Int) = (y : Int)
        omega
      · show -(y : Int) + ((rows.length - 1 : Nat) : Int) = ((rows.length - 1 - y : Nat) : Int)
        omega
    rw [e1, e2, mod_nat (bY_lt hy)]
  constructor
  · intro h x y hx hy
    rw [← e x y hx hy, h x y hx hy, g.rect.fld_nat hx hy]
  · intro h x y hx hy
    rw [e x y hx hy, h x y hx hy, g.rect.fld_nat hx hy]
/-- the a of one motion -/
def movesTo (rows : Rows) (m n : Nat) : List Int := ((List.range n).filter fun (a : Nat) => strB rows m (a : Int)).map Int.ofNat
def movesOf (rows : Rows) (m : Nat) : List Int := movesTo rows m (wide rows)
theorem movesTo_succ (rows : Rows) (m n : Nat) : movesTo rows m (n + 1) = movesTo rows m n ++ (if strB rows m (n : Int) = true then [(n : Int)] else []) := by
  unfold movesTo
  rw [List.range_succ, List.filter_append, List.map_append]
  congr 1
  by_cases c : strB rows m (n : Int) = true
  · simp [c]
  · simp [c]
theorem movesTo_len (rows : Rows) (m n : Nat) : (movesTo rows m n).length = (strRow rows m n).length := by
  unfold movesTo
  rw [strRow_len, List.length_map]
theorem movesTo_le (rows : Rows) (m n : Nat) : (movesTo rows m n).length ≤ n := by
  unfold movesTo
  rw [List.length_map]
  exact Nat.le_trans (List.length_filter_le _ _) (by rw [List.length_range]; exact Nat.le_refl _)
theorem strHas_len (rows : Rows) (m : Nat) : strHas rows m = decide (0 < (movesOf rows m).length) := by
  refine Bool.eq_iff_iff.mpr ?_
  unfold strHas movesOf movesTo
  rw [decide_eq_true_eq, List.length_map, List.length_pos_iff_exists_mem, List.any_eq_true]
  constructor
  · rintro ⟨a, ha, h⟩
    exact ⟨a, List.mem_filter.mpr ⟨ha, h⟩⟩
  · rintro ⟨a, ha⟩
    exact ⟨a, (List.mem_filter.mp ha).1, (List.mem_filter.mp ha).2⟩
theorem zero_moves {rows : Rows} (g : Good rows) (m : Nat) : decide ((0 : Int) ∈ movesOf rows m) = strB rows m 0 := by
  refine Bool.eq_iff_iff.mpr ?_
  unfold movesOf movesTo
  rw [decide_eq_true_eq, List.mem_map]
  constructor
  · rintro ⟨a, ha, e⟩
    have : a = 0 := by
      have : (a : Int) = 0 := e
      omega
    subst this
    exact (List.mem_filter.mp ha).2
  · intro h
    exact ⟨0, List.mem_filter.mpr ⟨List.mem_range.mpr g.w1, h⟩, rfl⟩
/-- the border's kind from three of the lists -/
def kindOfMoves (t u s : List Int) : Nat := strKindBy (decide (0 < u.length)) (decide ((0 : Int) ∈ s)) (decide (0 < s.length)) (decide (0 < t.length))
theorem stripKind_moves {rows : Rows} (g : Good rows) : Rg.stripKind (chartR rows) = kindOfMoves (movesOf rows 2) (movesOf rows 4) (movesOf rows 6) := by
  rw [stripKind_eq g]
  unfold kindOfMoves
  rw [← strHas_len, ← strHas_len, ← strHas_len, zero_moves g]
def allMoves (rows : Rows) : Rows := [movesOf rows 0, movesOf rows 2, movesOf rows 4, movesOf rows 6]
theorem stripSyms_sum (rows : Rows) : ((allMoves rows).map fun r => (r.length : Int)).sum = ((Rg.stripSyms (chartR rows)).length : Int) := by
  rw [stripSyms_eq]
  unfold allMoves movesOf
  simp only [List.length_append, ← movesTo_len, List.map_cons, List.map_nil, List.sum_cons, List.sum_nil]
  omega
end Kc

namespace Kc
open PySem PySem.Spec PyProof.Rows L2
/-! ### the least step to the side -/
def spAcross : Sp := fun vs H Q _ => ∃ (p : Addr) (ps : List Addr) (rows : Rows), vs = [.ref p] ∧ RowsAt H p ps rows ∧ Good rows ∧ ∀ H', Same H H' → Q (.int (Rg.leastOf (chartR rows)).p) H'
section
variable {P : Program} {w : World} {K : PySem.W.Frag} {mg : Str → Option Value} {base : Heap}
theorem scAcross : FnScope ["rows", "width", "p"] ["rows"] (defScope sAcross) := ⟨rfl, rfl, rfl, by decide +kernel, rfl, by decide +kernel, by decide +kernel⟩
theorem ok_across {f fF : Addr} {fd fdF : FuncData} {k : Nat} (F : Fun K "least_step_across" "least_step_across" sAcross f fd)
    (GF : FnOk P w K mg base CX0 (k + 1) fF fdF ["tile", "image", "a", "b"] spFits) (kF : PySem.W.keepIn K (.ref fF) = true) (bF : Binds K fdF ["tile", "image", "a", "b"] []) (mF : mg "fits" = some (.ref fF))
    (ml : mg "len" = none) (mr : mg "range" = none) : FnOk P w K mg base CX0 (k + 2) f fd ["rows"] spAcross := by
  refine F.ok scAcross (fun vs H Q E h => ?_) (fun cdv A outer s H vs Q E hr h => ?_)
  · obtain ⟨p, ps, rows, rfl, _⟩ := h
    rfl
  · obtain ⟨p, ps, rows, rfl, hR, g, q⟩ := h
    refine ⟨_, pss_cons (ps_set (i := 1) scAcross.nd rfl (.inl rfl) (pe_callB call_len_seq (by rfl) ml PySem.boot_len (pa_cons (pe_ix ix_list (pv 0) pe_int (fun _ _ => rfl)) pa_nil)))
      (pss_cons (ps_for PassesOwn.never rfl (pi_range2 rfl mr (pa_cons pe_int (pa_cons (pv 1) pa_nil))) (pg_name (i := 2) scAcross.nd rfl (Or.inl rfl))
        (pss_one (ps_if (pt_val (pe_call GF hr (by rfl) mF kF bF .nil pass0 (pa_cons (pv 0) (pa_cons (pv 0) (pa_cons (pv 2) (pa_cons pe_int pa_nil))))))
          (pss_one (ps_ret (pv 2))) pss_nil)))
      (pss_one (ps_ret (pv 1)))), ?_⟩
    obtain ⟨r0, e0, hr0, _⟩ := g.rect.row (y := 0) g.h1
    obtain ⟨a0, ha0, hI0⟩ := hR.get e0
    have hrl : ((r0.map V.int).length : Int) = (wide rows : Int) := by rw [List.length_map, hr0]
    have hw := g.w2
    have hw1 := g.w1
    have hh := g.h2
    refine ⟨_, rfl, p, _, 0, .ref a0, rfl, rfl, SqL.of hR.1, atI_nat (j := 0) (by rw [List.getElem?_map, ha0]; rfl), a0, _, rfl, .inl (SqL.of hI0), ?_⟩
    rw [hrl]
    refine ⟨_, rfl, 1, wide rows, rfl, ⟨by decide, by decide, by omega, by omega⟩, ?_⟩
    rw [show ((wide rows : Int) - 1).toNat = wide rows - 1 by omega]
    refine for_range (lo := 1) (n := wide rows - 1) (fun i σ H' => ∃ (pv : Option V), σ = [some (.ref p), some (.int (wide rows)), pv] ∧ Same H H' ∧ ∀ j : Nat, 1 ≤ j → j < i + 1 → stp rows (j : Int) 0 = false)
      ⟨none, rfl, Same.refl H, fun j h1 h2 => by omega⟩ ?_ ?_
    · rintro i σ H' hi ⟨pv, rfl, sm, h0⟩
      refine ⟨_, rfl, _, rfl, _, rfl, p, ps, rows, p, ps, rows, wide rows, rows.length, (1 : Int) + i, 0, rfl, same_rows sm hR, same_rows sm hR, g.rect, g.rect, by omega, by omega, fun H4 sm4 => ⟨_, rfl, ?_⟩⟩
      rw [fits_step g, show (1 : Int) + (i : Int) = ((i + 1 : Nat) : Int) by omega]
      cases hs : stp rows ((i + 1 : Nat) : Int) 0 with
      | true =>
        refine iteT ⟨_, rfl, ?_⟩
        have := q H4 (sm.trans sm4)
        rw [least_p g (p := i + 1) (by omega) (by omega) hs h0] at this
        exact this
      | false =>
        refine iteF ⟨_, rfl, sm.trans sm4, fun j h1 h2 => ?_⟩
        by_cases c : j = i + 1
        · rw [c]; exact hs
        · exact h0 j h1 (by omega)
    · rintro σ H' ⟨pv, rfl, sm, h0⟩
      refine ⟨_, rfl, ?_⟩
      have := q H' sm
      rw [least_p g (p := wide rows) (by omega) (by omega) (stp_w g) (fun j h1 h2 => h0 j h1 (by omega))] at this
      exact this
end
end Kc

namespace Kc
open PySem PySem.Spec PyProof.Rows L2
/-! ### a border's moves -/
def spMoves : Sp := fun vs H Q _ => ∃ (p : Addr) (ps : List Addr) (rows : Rows) (m : Nat), vs = [.ref p, .int m] ∧ RowsAt H p ps rows ∧ Good rows ∧ (m = 0 ∨ m = 2 ∨ m = 4 ∨ m = 6) ∧ ∀ H' d, Same H H' → H d = none → IntsAt H' d (movesOf rows m) → Q (.ref d) H'
def spBorder : Sp := fun vs H Q _ => ∃ (a b c : Addr) (t u s : List Int), vs = [.ref a, .ref b, .ref c] ∧ IntsAt H a t ∧ IntsAt H b u ∧ IntsAt H c s ∧ Q (.int (kindOfMoves t u s)) H
theorem inV_ints (n : Int) (l : List Int) : inV (.int n) (l.map V.int) = decide (n ∈ l) := by
  unfold inV
  induction l with
  | nil => simp
  | cons x l ih =>
    rw [List.map_cons, List.any_cons, ih]
    show (decide (x = n) || decide (n ∈ l)) = _
    by_cases h : n = x
    · subst h; simp
    · have : ¬ x = n := fun z => h z.symm
      simp [h, this]
theorem flat_ints (l : List Int) : (l.map V.int).all flatV = true := by
  rw [List.all_eq_true]
  intro x hx
  obtain ⟨n, _, rfl⟩ := List.mem_map.mp hx
  rfl
section
variable {P : Program} {w : World} {K : PySem.W.Frag} {mg : Str → Option Value} {base : Heap}
theorem scMoves : FnScope ["rows", "m", "b", "image", "a"] ["rows", "m"] (defScope sMoves) := ⟨rfl, rfl, rfl, by decide +kernel, rfl, by decide +kernel, by decide +kernel⟩
theorem ok_moves {f fT fF : Addr} {fd fdT fdF : FuncData} {k : Nat} (F : Fun K "border_moves" "border_moves" sMoves f fd)
    (GT : FnOk P w K mg base CX0 (k + 1) fT fdT ["tile", "m"] spTurned) (kT : PySem.W.keepIn K (.ref fT) = true) (bT : Binds K fdT ["tile", "m"] []) (mT : mg "turned" = some (.ref fT))
    (GF : FnOk P w K mg base CX0 (k + 1) fF fdF ["tile", "image", "a", "b"] spFits) (kF : PySem.W.keepIn K (.ref fF) = true) (bF : Binds K fdF ["tile", "image", "a", "b"] []) (mF : mg "fits" = some (.ref fF))
    (ml : mg "len" = none) (mr : mg "range" = none) : FnOk P w K mg base CX0 (k + 2) f fd ["rows", "m"] spMoves := by
  refine F.ok scMoves (fun vs H Q E h => ?_) (fun cdv A outer s H vs Q E hr h => ?_)
  · obtain ⟨p, ps, rows, m, rfl, _⟩ := h
    rfl
  · obtain ⟨p, ps, rows, m, rfl, hR, g, hm, q⟩ := h
    refine ⟨_, pss_cons (ps_set (i := 2) scMoves.nd rfl (.inr rfl) (pe_ifExp (PW.pt (pw_or (pt_cmpR op_eq (pv 1) pe_int (nomark _)) (pw_or1 (pt_cmpR op_eq (pv 1) pe_int (nomark _))))) (pe_op op_sub (pe_callB call_len_seq (by rfl) ml PySem.boot_len (pa_cons (pv 0) pa_nil)) pe_int) pe_int))
      (pss_cons (ps_set (i := 3) scMoves.nd rfl (.inr rfl) (pe_call GT hr (by rfl) mT kT bT .nil pass0 (pa_cons (pv 0) (pa_cons (pv 1) pa_nil))))
      (pss_one (ps_ret (pe_lc (own := [("a", 4)]) (g := gName 4) rfl scMoves.nd (pi_range1 rfl mr (pa_cons (pe_callB call_len_seq (by rfl) ml PySem.boot_len (pa_cons (pe_ix ix_list (pv 0) pe_int (fun _ _ => rfl)) pa_nil)) pa_nil))
        (blkOk_by (own := [("a", 4)]) (N := ["rows", "m", "b", "image", "a"]) (sc := defScope sMoves) (by decide +kernel))
        (fun _ _ _ _ _ => pg_name (i := 4) scMoves.nd rfl (Or.inl rfl)) (fun _ _ _ _ _ => pts_one (pt_val (pe_call GF hr (by rfl) mF kF bF .nil pass0 (pa_cons (pv 0) (pa_cons (pv 3) (pa_cons (pv 4) (pa_cons (pv 2) pa_nil))))))) (fun _ _ _ _ _ => pv 4))))), ?_⟩
    obtain ⟨r0, e0, hr0, _⟩ := g.rect.row (y := 0) g.h1
    obtain ⟨a0, ha0, hI0⟩ := hR.get e0
    have hps : ((ps.map V.ref).length : Int) = (rows.length : Int) := by rw [List.length_map, hR.2.1]
    have hrl : ((r0.map V.int).length : Int) = (wide rows : Int) := by rw [List.length_map, hr0]
    have hw := g.w2
    have hh := g.h2
    have hh1 := g.h1
    have m8 : m < 8 := by omega
    have ev : m % 2 = 0 := by omega
    have hcell : cellFor rows m = some rows := by unfold cellFor; rw [if_neg (by omega)]
    have eW : cW rows m = wide rows := by unfold cW; rw [if_neg (by omega)]
    have eH : cH rows m = rows.length := by unfold cH; rw [if_neg (by omega)]
    -- behind b
    have go : ∀ Z : Int, Z = ((bSh rows.length m : Nat) : Int) → ∀ (R : V → Hp → Prop), R (.int ((bSh rows.length m : Nat) : Int)) H → R (.int Z) H := fun Z e R h => by rw [e]; exact h
    have no : ∀ j : Nat, ¬ decide (V.int m = V.int j) = true → m ≠ j := fun j h z => h (decide_eq_true (by rw [z]))
    have yes : ∀ j : Nat, decide (V.int m = V.int j) = true → m = j := fun j h => by
      have := V.int.inj (of_decide_eq_true h)
      omega
    have e26 : m = 2 ∨ m = 6 → (rows.length : Int) - 1 = ((bSh rows.length m : Nat) : Int) := fun z => by
      unfold bSh
      rw [if_pos z]
      omega
    have e04 : ¬ (m = 2 ∨ m = 6) → (0 : Int) = ((bSh rows.length m : Nat) : Int) := fun z => by
      unfold bSh
      rw [if_neg z]
      rfl
    have val : ∀ R : VK, R (.int ((bSh rows.length m : Nat) : Int)) H → tIf (tOr (tTest (tOp rEq (tVar 1) (tC (V.int 2)))) (tTest (tOp rEq (tVar 1) (tC (V.int 6)))))
        (tOp (rI0 fun i j => V.int (i - j)) (tCB (fun xs H Q => ∃ p ys, xs = [V.ref p] ∧ (SqL K H p ys ∨ SqT K H p ys) ∧ Q (V.int ys.length) H) (tCons (tVar 0) tNil)) (tC (V.int 1))) (tC (V.int 0))
        (L2.start ["rows", "m", "b", "image", "a"] [V.ref p, V.int m]) H R := fun R hRR => by
      refine ⟨_, rfl, rfl, _, rfl, ite2 (fun e => ?_) (fun e => ⟨_, rfl, rfl, _, rfl, ite2 (fun e2 => ?_) (fun e2 => ?_)⟩)⟩
      · refine iteT ⟨_, rfl, p, _, rfl, .inl (SqL.of hR.1), _, _, rfl, rfl, ?_⟩
        rw [hps]
        exact go _ (e26 (.inl (yes 2 e))) R hRR
      · refine ⟨_, rfl, p, _, rfl, .inl (SqL.of hR.1), _, _, rfl, rfl, ?_⟩
        rw [hps]
        exact go _ (e26 (.inr (yes 6 e2))) R hRR
      · refine go _ (e04 ?_) R hRR
        have := no 2 e
        have := no 6 e2
        omega
    refine val _ ?_
    refine ⟨_, rfl, _, rfl, p, ps, rows, m, _, _, rfl, hR, g.rect, by omega, by omega, m8, .inl ev, fun H2 pi pis img sm2 hI hImg => ?_⟩
    refine ⟨_, rfl, p, _, 0, .ref a0, rfl, rfl, SqL.of (sm2 _ _ hR.1), atI_nat (j := 0) (by rw [List.getElem?_map, ha0]; rfl), a0, _, rfl, .inl (SqL.of (same_ints sm2 hI0)), wide rows, by rw [hrl], by omega, by omega, fun D nD => ?_⟩
    rw [show (wide rows : Int).toNat = wide rows from Int.toNat_natCast _]
    have nDH : H D = none := Same.free sm2 nD
    have hImg' : ImgOf (cW rows m) (cH rows m) m rows img := by rw [eW, eH]; exact hImg
    refine lc_range (lo := 0) (n := wide rows) (fun i H' => Same H2 H' ∧ IntsAt H' D (movesTo rows m i)) ⟨same_upd nD, upd_same⟩ ?_ ?_
    · rintro a H3 ha ⟨sm3, hD⟩
      refine ⟨rfl, ?_⟩
      refine ⟨_, rfl, _, rfl, _, rfl, _, rfl, p, ps, rows, pi, pis, img, _, _, (0 : Int) + a, _, rfl, same_rows (sm2.trans sm3) hR, same_rows sm3 hI, g.rect, hImg.rect, by omega, by omega, fun H4 sm4 => ⟨_, rfl, ?_⟩⟩
      rw [fits_sym g m8 hcell hImg', Int.zero_add, strB_sym g hm]
      have hD4 : IntsAt H4 D (movesTo rows m a) := same_ints sm4 hD
      have lm := movesTo_le rows m a
      cases hs : strB rows m (a : Int) with
      | true =>
        refine iteT ⟨_, rfl, _, hD4, ?_, same_put (sm3.trans sm4) nD, ?_⟩
        · rw [List.length_map]
          exact line_lt (by omega)
        · show upd _ D _ D = _
          rw [upd_same, movesTo_succ, hs, if_pos rfl, List.map_append]
          rfl
      | false =>
        refine iteF ⟨sm3.trans sm4, ?_⟩
        rw [movesTo_succ, hs, if_neg Bool.false_ne_true, List.append_nil]
        exact hD4
    · rintro H3 ⟨sm3, hD⟩
      exact q _ D (sm2.trans sm3) nDH hD
end
end Kc

namespace Kc
open PySem PySem.Spec PyProof.Rows L2
/-! ### what is due of strip -/
def stripAns (t : List Int) : List Int := if refusal t < 0 then [refusal t] else [(Rg.stripKind (chartR (splitRows t)) : Int), (Rg.stripStep (chartR (splitRows t)) : Int), ((Rg.stripSyms (chartR (splitRows t))).length : Int)]
theorem strip_eq (t : List Int) (h : ∀ x ∈ t, inB x) : PyWqbbcf.strip t = stripAns t := by
  show RugBNeutral.shown (RugB.ofChart (RugBNeutral.text t) _) = _
  rw [ofChart_eq t h]
  rfl
def spStrip (K : PySem.W.Frag) : Sp := fun vs H Q _ => ∃ (ad : Addr) (t : List Int), vs = [.ref ad] ∧ SqL K H ad (t.map V.int) ∧ t.length ≤ 70000 ∧ ∀ H' p, H' p = some (.lst ((stripAns t).map V.int)) → Q (.ref p) H'
theorem all_moves (rows : Rows) : allMoves rows = [0, 2, 4, 6].map (movesOf rows) := rfl
section
variable {P : Program} {w : World} {K : PySem.W.Frag} {mg : Str → Option Value} {base : Heap}
theorem scBorder : FnScope ["half_turns", "mirrors", "flips"] ["half_turns", "mirrors", "flips"] (defScope sBorder) := ⟨rfl, rfl, rfl, by decide +kernel, rfl, by decide +kernel, by decide +kernel⟩
theorem ok_border {f : Addr} {fd : FuncData} {k : Nat} (F : Fun K "border_kind" "border_kind" sBorder f fd) (ml : mg "len" = none) : FnOk P w K mg base CX0 (k + 1) f fd ["half_turns", "mirrors", "flips"] spBorder := by
  refine F.ok scBorder (fun vs H Q E h => ?_) (fun cdv A outer s H vs Q E hr h => ?_)
  · obtain ⟨a, b, c, t, u, z, rfl, _⟩ := h
    rfl
  · obtain ⟨a, b, c, t, u, z, rfl, hT, hU, hZ, q⟩ := h
    refine ⟨_, pss_cons (ps_if (pt_cmpR op_in_seq pe_int (pv 2) rfl)
        (pss_one (ps_ret (pe_ifExp (pt_cmpR op_gt (pe_callB call_len_seq (by rfl) ml PySem.boot_len (pa_cons (pv 1) pa_nil)) pe_int (nomark _)) pe_int pe_int))) pss_nil)
      (pss_cons (ps_if (pt_cmpR op_gt (pe_callB call_len_seq (by rfl) ml PySem.boot_len (pa_cons (pv 2) pa_nil)) pe_int (nomark _))
        (pss_one (ps_ret (pe_ifExp (pt_cmpR op_gt (pe_callB call_len_seq (by rfl) ml PySem.boot_len (pa_cons (pv 1) pa_nil)) pe_int (nomark _)) pe_int pe_int))) pss_nil)
      (pss_cons (ps_if (pt_cmpR op_gt (pe_callB call_len_seq (by rfl) ml PySem.boot_len (pa_cons (pv 1) pa_nil)) pe_int (nomark _)) (pss_one (ps_ret pe_int)) pss_nil)
      (pss_one (ps_ret (pe_ifExp (pt_cmpR op_gt (pe_callB call_len_seq (by rfl) ml PySem.boot_len (pa_cons (pv 0) pa_nil)) pe_int (nomark _)) pe_int pe_int))))), ?_⟩
    have hu : ((u.map V.int).length : Int) = (u.length : Int) := by rw [List.length_map]
    have ht : ((t.map V.int).length : Int) = (t.length : Int) := by rw [List.length_map]
    have hz : ((z.map V.int).length : Int) = (z.length : Int) := by rw [List.length_map]
    have dn : ∀ n : Nat, decide ((0 : Int) < (n : Int)) = decide (0 < n) := fun n => decide_eq_decide.mpr (by omega)
    unfold kindOfMoves strKindBy at q
    refine ⟨_, rfl, c, _, rfl, .inl (SqL.of hZ), rfl, flat_ints z, _, rfl, ?_⟩
    rw [show (if false = true then !inV (.int 0) (z.map V.int) else inV (.int 0) (z.map V.int)) = decide ((0 : Int) ∈ z) from inV_ints 0 z]
    cases h0 : decide ((0 : Int) ∈ z) with
    | true =>
      rw [h0] at q
      refine iteT ⟨_, rfl, b, _, rfl, .inl (SqL.of hU), _, 0, rfl, rfl, _, rfl, ?_⟩
      rw [hu, dn]
      cases h1 : decide (0 < u.length) with
      | true =>
        rw [h1] at q
        exact iteT q
      | false =>
        rw [h1] at q
        exact iteF q
    | false =>
      rw [h0] at q
      refine iteF ⟨_, rfl, c, _, rfl, .inl (SqL.of hZ), _, 0, rfl, rfl, _, rfl, ?_⟩
      rw [hz, dn]
      cases h2 : decide (0 < z.length) with
      | true =>
        rw [h2] at q
        refine iteT ⟨_, rfl, b, _, rfl, .inl (SqL.of hU), _, 0, rfl, rfl, _, rfl, ?_⟩
        rw [hu, dn]
        cases h1 : decide (0 < u.length) with
        | true =>
          rw [h1] at q
          exact iteT q
        | false =>
          rw [h1] at q
          exact iteF q
      | false =>
        rw [h2] at q
        refine iteF ⟨_, rfl, b, _, rfl, .inl (SqL.of hU), _, 0, rfl, rfl, _, rfl, ?_⟩
        rw [hu, dn]
        cases h1 : decide (0 < u.length) with
        | true =>
          rw [h1] at q
          exact iteT q
        | false =>
          rw [h1] at q
          refine iteF ⟨_, rfl, a, _, rfl, .inl (SqL.of hT), _, 0, rfl, rfl, _, rfl, ?_⟩
          rw [ht, dn]
          cases h3 : decide (0 < t.length) with
          | true =>
            rw [h3] at q
            exact iteT q
          | false =>
            rw [h3] at q
            exact iteF q
theorem scStrip : FnScope ["t", "refusal", "rows", "turns", "number", "m", "moves"] ["t"] (defScope sStrip) := ⟨rfl, rfl, rfl, by decide +kernel, rfl, by decide +kernel, by decide +kernel⟩
theorem ok_strip {f fR fS fM fB fA aB : Addr} {fd fdR fdS fdM fdB fdA : FuncData} {k : Nat} (F : Fun K "strip" "strip" sStrip f fd)
    (GR : FnOk P w K mg base CX0 (k + 1) fR fdR ["t"] (spRefusal K)) (kR : PySem.W.keepIn K (.ref fR) = true) (bR : Binds K fdR ["t"] []) (mR : mg "text_refusal" = some (.ref fR))
    (GS : FnOk P w K mg base CX0 (k + 1) fS fdS ["t"] (spSplit K)) (kS : PySem.W.keepIn K (.ref fS) = true) (bS : Binds K fdS ["t"] []) (mS : mg "split_rows" = some (.ref fS))
    (GM : FnOk P w K mg base CX0 (k + 1) fM fdM ["rows", "m"] spMoves) (kM : PySem.W.keepIn K (.ref fM) = true) (bM : Binds K fdM ["rows", "m"] []) (mM : mg "border_moves" = some (.ref fM))
    (GB : FnOk P w K mg base CX0 (k + 1) fB fdB ["half_turns", "mirrors", "flips"] spBorder) (kB : PySem.W.keepIn K (.ref fB) = true) (bB : Binds K fdB ["half_turns", "mirrors", "flips"] []) (mB : mg "border_kind" = some (.ref fB))
    (GA : FnOk P w K mg base CX0 (k + 1) fA fdA ["rows"] spAcross) (kA : PySem.W.keepIn K (.ref fA) = true) (bA : Binds K fdA ["rows"] []) (mA : mg "least_step_across" = some (.ref fA))
    (mBT : mg "BORDER_TURNS" = some (.ref aB)) (hBT : ∀ H, SqT K H aB [.int 0, .int 2, .int 4, .int 6])
    (ml : mg "len" = none) (msu : mg "sum" = none) : FnOk P w K mg base CX0 (k + 2) f fd ["t"] (spStrip K) := by
  refine F.ok scStrip (fun vs H Q E h => ?_) (fun cdv A outer s H vs Q E hr h => ?_)
  · obtain ⟨ad, t, rfl, _⟩ := h
    rfl
  · obtain ⟨ad, t, rfl, hS, hlen, q⟩ := h
    refine ⟨_, pss_cons (ps_set (i := 1) scStrip.nd rfl (.inl rfl) (pe_call GR hr (by rfl) mR kR bR .nil pass0 (pa_cons (pv 0) pa_nil)))
      (pss_cons (ps_if (pt_cmpR op_lt (pv 1) pe_int (nomark _)) (pss_one (ps_ret (pe_lst (pa_cons (pv 1) pa_nil)))) pss_nil)
      (pss_cons (ps_set (i := 2) scStrip.nd rfl (.inr rfl) (pe_call GS hr (by rfl) mS kS bS .nil pass0 (pa_cons (pv 0) pa_nil)))
      (pss_cons (ps_setLc (i := 3) (own := [("m", 5)]) (g := gName 5) (tt := tYes) rfl scStrip.nd rfl rfl (sw_true rfl rfl rfl (by decide +kernel)) (pi_tup (pe_glob (v := .ref aB) rfl mBT rfl))
        (blkOk_by (own := [("m", 5)]) (N := ["t", "refusal", "rows", "turns", "number", "m", "moves"]) (sc := defScope sStrip) (by decide +kernel))
        (fun _ _ _ _ _ => pg_name (i := 5) scStrip.nd rfl (Or.inl rfl)) (fun _ _ _ _ _ => pts_nil) (fun _ _ _ _ _ => pe_call GM hr (by rfl) mM kM bM .nil pass0 (pa_cons (pv 2) (pa_cons (pv 5) pa_nil))))
      (pss_cons (ps_set (i := 4) scStrip.nd rfl (.inl rfl) (pe_call GB hr (by rfl) mB kB bB .nil pass0 (pa_cons (pe_ix ix_list (pv 3) pe_int (fun _ _ => rfl)) (pa_cons (pe_ix ix_list (pv 3) pe_int (fun _ _ => rfl)) (pa_cons (pe_ix ix_list (pv 3) pe_int (fun _ _ => rfl)) pa_nil)))))
      (pss_one (ps_ret (pe_lst (pa_cons (pv 4) (pa_cons (pe_call GA hr (by rfl) mA kA bA .nil pass0 (pa_cons (pv 2) pa_nil))
        (pa_cons (pe_callB (cr_sum rfl) (by rfl) msu (by decide +kernel) (pa_cons (pe_lc (own := [("moves", 6)]) (g := gName 6) (tt := tYes) rfl scStrip.nd (pi_list (pv 3))
          (blkOk_by (own := [("moves", 6)]) (N := ["t", "refusal", "rows", "turns", "number", "m", "moves"]) (sc := defScope sStrip) (by decide +kernel))
          (fun _ _ _ _ _ => pg_name (i := 6) scStrip.nd rfl (Or.inl rfl)) (fun _ _ _ _ _ => pts_nil) (fun _ _ _ _ _ => pe_callB (show CallR _ (.builtin "len") (rLenS K) from call_len_seq) (by rfl) ml PySem.boot_len (pa_cons (pv 6) pa_nil))) pa_nil)) pa_nil)))))))))), ?_⟩
    refine ⟨_, rfl, ad, t, rfl, hS, hlen, fun H1 sm1 => ?_⟩
    refine ⟨_, rfl, refusal t, 0, rfl, rfl, _, rfl, ite2 (fun e => ?_) (fun e => ?_)⟩
    · have e1 : refusal t < 0 := of_decide_eq_true e
      refine ⟨_, rfl, show 1 ≤ sizeLine by decide, fun p np => q _ p ?_⟩
      unfold stripAns
      rw [upd_same, if_pos e1]
      rfl
    · have e1 : ¬ refusal t < 0 := fun z => e (decide_eq_true z)
      obtain ⟨c1, c2⟩ := ref_ok e1
      obtain ⟨g, hnil⟩ := good_of c2
      refine ⟨_, rfl, ad, t, rfl, sm1.seq hS, hlen, fun H2 p ps sm2 hR => ?_⟩
      have ans : stripAns t = [(Rg.stripKind (chartR (splitRows t)) : Int), (Rg.stripStep (chartR (splitRows t)) : Int), ((Rg.stripSyms (chartR (splitRows t))).length : Int)] := by
        unfold stripAns
        rw [if_neg e1]
      generalize hrows : splitRows t = rows at *
      have hw := g.w2
      -- turns = [border_moves(rows, m) for m in BORDER_TURNS]
      refine ⟨aB, rfl, ⟨_, hBT _⟩, fun D nD => ?_⟩
      refine lc_tup (K := K) (a := aB) (xs := [0, 2, 4, 6].map fun n : Nat => V.int n) (fun i H' => ∃ qs : List Addr, Same H2 H' ∧ RowsAt H' D qs ((allMoves rows).take i) ∧ D ∉ qs)
        ⟨[], same_upd nD, ⟨upd_same, rfl, fun i a r e => by simp at e⟩, by simp⟩ (fun i H' _ _ => hBT H') ?_ ?_
      · rintro i x H' hx ⟨qs, sm, hD, nq⟩
        obtain ⟨m, hm, rfl⟩ := map_get hx
        have hm4 : m = 0 ∨ m = 2 ∨ m = 4 ∨ m = 6 := by
          have := List.mem_of_getElem? hm
          simpa using this
        have hmv : (allMoves rows)[i]? = some (movesOf rows m) := by
          rw [all_moves, List.getElem?_map, hm]
          rfl
        have hi : i < 4 := (List.getElem?_eq_some_iff.mp hm).1
        refine ⟨rfl, ?_⟩
        refine yes_ite ?_
        refine ⟨_, rfl, _, rfl, p, ps, rows, m, rfl, same_rows sm hR, g, hm4, fun H3 d sm3 nd hI => ?_⟩
        have hD3 := same_rows sm3 hD
        have dD : D ≠ d := ne_of_none hD.1 nd
        refine ⟨qs.map V.ref, hD3.1, ?_, qs ++ [d], same_put (sm.trans sm3) nD, ?_, ?_⟩
        · rw [List.length_map, hD3.2.1, List.length_take]
          exact line_lt (by omega)
        · rw [take_succ hmv]
          exact hD3.push hI nq dD
        · intro z
          rcases List.mem_append.mp z with z | z
          · exact nq z
          · exact dD (List.mem_singleton.mp z)
      · rintro H3 ⟨qs, sm3, hD, nq⟩
        rw [List.take_of_length_le (by simp [allMoves])] at hD
        obtain ⟨q1, h1, i1⟩ := hD.get (i := 1) (r := movesOf rows 2) rfl
        obtain ⟨q2, h2, i2⟩ := hD.get (i := 2) (r := movesOf rows 4) rfl
        obtain ⟨q3, h3, i3⟩ := hD.get (i := 3) (r := movesOf rows 6) rfl
        have ix : ∀ {j : Nat} {a : Addr}, qs[j]? = some a → (qs.map V.ref)[j]? = some (.ref a) := fun h => by rw [List.getElem?_map, h]; rfl
        refine ⟨_, rfl, D, _, 1, .ref q1, rfl, rfl, SqL.of hD.1, atI_nat (j := 1) (ix h1), _, rfl, D, _, 2, .ref q2, rfl, rfl, SqL.of hD.1, atI_nat (j := 2) (ix h2), _, rfl, D, _, 3, .ref q3, rfl, rfl, SqL.of hD.1, atI_nat (j := 3) (ix h3), q1, q2, q3, _, _, _, rfl, i1, i2, i3, ?_⟩
        rw [← stripKind_moves g]
        refine ⟨_, rfl, _, rfl, p, ps, rows, rfl, same_rows sm3 hR, g, fun H4 sm4 => ?_⟩
        have hD4 := same_rows sm4 hD
        refine ⟨.ref D, rfl, D, rfl, ⟨_, SqL.of hD4.1⟩, fun D2 nD2 => ?_⟩
        refine lc_list (K := K) (a := D) (xs := qs.map V.ref) (fun i H' => Same H4 H' ∧ H' D2 = some (.lst ((((allMoves rows).take i).map fun r => (r.length : Int)).map V.int))) ⟨same_upd nD2, upd_same⟩ (fun i H' _ ⟨sm, _⟩ => SqL.of (sm _ _ hD4.1)) ?_ ?_
        · rintro i x H' hx ⟨sm, hE⟩
          obtain ⟨a, ha, rfl⟩ := map_get hx
          have hi : i < (allMoves rows).length := by rw [← hD4.2.1]; exact (List.getElem?_eq_some_iff.mp ha).1
          have hz : (allMoves rows)[i]? = some (allMoves rows)[i] := List.getElem?_eq_getElem hi
          have hI := sm _ _ (hD4.2.2 i a _ ha hz)
          have hi4 : i < 4 := hi
          refine ⟨rfl, ?_⟩
          refine yes_ite ?_
          refine ⟨_, rfl, a, _, rfl, .inl (SqL.of hI), _, hE, ?_, same_put sm nD2, ?_⟩
          · rw [List.length_map, List.length_map, List.length_take]
            exact line_lt (by omega)
          · rw [upd_same, take_succ hz, List.map_append, List.map_append, List.length_map]
            rfl
        · rintro H5 ⟨sm, hE⟩
          rw [List.length_map, hD4.2.1, List.take_length] at hE
          refine ⟨D2, _, rfl, SqL.of hE, ?_⟩
          rw [stripSyms_sum]
          refine ⟨show 3 ≤ sizeLine by decide, fun r nr => q _ r ?_⟩
          rw [upd_same, ans, stripStep_p g]
          rfl
end
end Kc

namespace Kc
open PySem PySem.Spec PyProof.Rows L2
theorem all_mk {P : Program} {w : World} {K : PySem.W.Frag} {h : Heap} {mg : Str → Option Value} {fa : Addr} (X : K.In h) (G : h.Ns mainGlobals mg) (hfa : mg "strip" = some (.ref fa))
    {f_strip : Addr} {od_strip an_strip : Option Addr} {sl_strip : Array (Option Value)} {oc_strip kV_strip dc_strip pm_strip cd_strip ct_strip : Value}
    (a_strip : PySem.W.nsIn K mainGlobals "strip" = some (some (.ref f_strip)))
    (l_strip : K.lookup f_strip = some ⟨oc_strip, od_strip, .func (PySem.W.fnOf "strip" "strip" (defArgs sStrip) (defBody sStrip) (defScope sStrip) .none kV_strip dc_strip pm_strip an_strip cd_strip ct_strip), sl_strip⟩)
    (c_strip : PySem.W.codeIn K cd_strip "strip" = true) (k_strip : PySem.W.keepIn K (.ref f_strip) = true)
    {f_text_refusal : Addr} {od_text_refusal an_text_refusal : Option Addr} {sl_text_refusal : Array (Option Value)} {oc_text_refusal kV_text_refusal dc_text_refusal pm_text_refusal cd_text_refusal ct_text_refusal : Value}
    (a_text_refusal : PySem.W.nsIn K mainGlobals "text_refusal" = some (some (.ref f_text_refusal)))
    (l_text_refusal : K.lookup f_text_refusal = some ⟨oc_text_refusal, od_text_refusal, .func (PySem.W.fnOf "text_refusal" "text_refusal" (defArgs sRefusal) (defBody sRefusal) (defScope sRefusal) .none kV_text_refusal dc_text_refusal pm_text_refusal an_text_refusal cd_text_refusal ct_text_refusal), sl_text_refusal⟩)
    (c_text_refusal : PySem.W.codeIn K cd_text_refusal "text_refusal" = true) (k_text_refusal : PySem.W.keepIn K (.ref f_text_refusal) = true)
    {f_split_rows : Addr} {od_split_rows an_split_rows : Option Addr} {sl_split_rows : Array (Option Value)} {oc_split_rows kV_split_rows dc_split_rows pm_split_rows cd_split_rows ct_split_rows : Value}
    (a_split_rows : PySem.W.nsIn K mainGlobals "split_rows" = some (some (.ref f_split_rows)))
    (l_split_rows : K.lookup f_split_rows = some ⟨oc_split_rows, od_split_rows, .func (PySem.W.fnOf "split_rows" "split_rows" (defArgs sSplit) (defBody sSplit) (defScope sSplit) .none kV_split_rows dc_split_rows pm_split_rows an_split_rows cd_split_rows ct_split_rows), sl_split_rows⟩)
    (c_split_rows : PySem.W.codeIn K cd_split_rows "split_rows" = true) (k_split_rows : PySem.W.keepIn K (.ref f_split_rows) = true)
    {f_is_chart : Addr} {od_is_chart an_is_chart : Option Addr} {sl_is_chart : Array (Option Value)} {oc_is_chart kV_is_chart dc_is_chart pm_is_chart cd_is_chart ct_is_chart : Value}
    (a_is_chart : PySem.W.nsIn K mainGlobals "is_chart" = some (some (.ref f_is_chart)))
    (l_is_chart : K.lookup f_is_chart = some ⟨oc_is_chart, od_is_chart, .func (PySem.W.fnOf "is_chart" "is_chart" (defArgs sIsChart) (defBody sIsChart) (defScope sIsChart) .none kV_is_chart dc_is_chart pm_is_chart an_is_chart cd_is_chart ct_is_chart), sl_is_chart⟩)
    (c_is_chart : PySem.W.codeIn K cd_is_chart "is_chart" = true) (k_is_chart : PySem.W.keepIn K (.ref f_is_chart) = true)
    {f_is_chart_row : Addr} {od_is_chart_row an_is_chart_row : Option Addr} {sl_is_chart_row : Array (Option Value)} {oc_is_chart_row kV_is_chart_row dc_is_chart_row pm_is_chart_row cd_is_chart_row ct_is_chart_row : Value}
    (a_is_chart_row : PySem.W.nsIn K mainGlobals "is_chart_row" = some (some (.ref f_is_chart_row)))
    (l_is_chart_row : K.lookup f_is_chart_row = some ⟨oc_is_chart_row, od_is_chart_row, .func (PySem.W.fnOf "is_chart_row" "is_chart_row" (defArgs sChartRow) (defBody sChartRow) (defScope sChartRow) .none kV_is_chart_row dc_is_chart_row pm_is_chart_row an_is_chart_row cd_is_chart_row ct_is_chart_row), sl_is_chart_row⟩)
    (c_is_chart_row : PySem.W.codeIn K cd_is_chart_row "is_chart_row" = true) (k_is_chart_row : PySem.W.keepIn K (.ref f_is_chart_row) = true)
    {f_is_colour : Addr} {od_is_colour an_is_colour : Option Addr} {sl_is_colour : Array (Option Value)} {oc_is_colour kV_is_colour dc_is_colour pm_is_colour cd_is_colour ct_is_colour : Value}
    (a_is_colour : PySem.W.nsIn K mainGlobals "is_colour" = some (some (.ref f_is_colour)))
    (l_is_colour : K.lookup f_is_colour = some ⟨oc_is_colour, od_is_colour, .func (PySem.W.fnOf "is_colour" "is_colour" (defArgs sColour) (defBody sColour) (defScope sColour) .none kV_is_colour dc_is_colour pm_is_colour an_is_colour cd_is_colour ct_is_colour), sl_is_colour⟩)
    (c_is_colour : PySem.W.codeIn K cd_is_colour "is_colour" = true) (k_is_colour : PySem.W.keepIn K (.ref f_is_colour) = true)
    {f_least_step_across : Addr} {od_least_step_across an_least_step_across : Option Addr} {sl_least_step_across : Array (Option Value)} {oc_least_step_across kV_least_step_across dc_least_step_across pm_least_step_across cd_least_step_across ct_least_step_across : Value}
    (a_least_step_across : PySem.W.nsIn K mainGlobals "least_step_across" = some (some (.ref f_least_step_across)))
    (l_least_step_across : K.lookup f_least_step_across = some ⟨oc_least_step_across, od_least_step_across, .func (PySem.W.fnOf "least_step_across" "least_step_across" (defArgs sAcross) (defBody sAcross) (defScope sAcross) .none kV_least_step_across dc_least_step_across pm_least_step_across an_least_step_across cd_least_step_across ct_least_step_across), sl_least_step_across⟩)
    (c_least_step_across : PySem.W.codeIn K cd_least_step_across "least_step_across" = true) (k_least_step_across : PySem.W.keepIn K (.ref f_least_step_across) = true)
    {f_border_moves : Addr} {od_border_moves an_border_moves : Option Addr} {sl_border_moves : Array (Option Value)} {oc_border_moves kV_border_moves dc_border_moves pm_border_moves cd_border_moves ct_border_moves : Value}
    (a_border_moves : PySem.W.nsIn K mainGlobals "border_moves" = some (some (.ref f_border_moves)))
    (l_border_moves : K.lookup f_border_moves = some ⟨oc_border_moves, od_border_moves, .func (PySem.W.fnOf "border_moves" "border_moves" (defArgs sMoves) (defBody sMoves) (defScope sMoves) .none kV_border_moves dc_border_moves pm_border_moves an_border_moves cd_border_moves ct_border_moves), sl_border_moves⟩)
    (c_border_moves : PySem.W.codeIn K cd_border_moves "border_moves" = true) (k_border_moves : PySem.W.keepIn K (.ref f_border_moves) = true)
    {f_border_kind : Addr} {od_border_kind an_border_kind : Option Addr} {sl_border_kind : Array (Option Value)} {oc_border_kind kV_border_kind dc_border_kind pm_border_kind cd_border_kind ct_border_kind : Value}
    (a_border_kind : PySem.W.nsIn K mainGlobals "border_kind" = some (some (.ref f_border_kind)))
    (l_border_kind : K.lookup f_border_kind = some ⟨oc_border_kind, od_border_kind, .func (PySem.W.fnOf "border_kind" "border_kind" (defArgs sBorder) (defBody sBorder) (defScope sBorder) .none kV_border_kind dc_border_kind pm_border_kind an_border_kind cd_border_kind ct_border_kind), sl_border_kind⟩)
    (c_border_kind : PySem.W.codeIn K cd_border_kind "border_kind" = true) (k_border_kind : PySem.W.keepIn K (.ref f_border_kind) = true)
    {f_turned : Addr} {od_turned an_turned : Option Addr} {sl_turned : Array (Option Value)} {oc_turned kV_turned dc_turned pm_turned cd_turned ct_turned : Value}
    (a_turned : PySem.W.nsIn K mainGlobals "turned" = some (some (.ref f_turned)))
    (l_turned : K.lookup f_turned = some ⟨oc_turned, od_turned, .func (PySem.W.fnOf "turned" "turned" (defArgs sTurned) (defBody sTurned) (defScope sTurned) .none kV_turned dc_turned pm_turned an_turned cd_turned ct_turned), sl_turned⟩)
    (c_turned : PySem.W.codeIn K cd_turned "turned" = true) (k_turned : PySem.W.keepIn K (.ref f_turned) = true)
    {f_turned_place : Addr} {od_turned_place an_turned_place : Option Addr} {sl_turned_place : Array (Option Value)} {oc_turned_place kV_turned_place dc_turned_place pm_turned_place cd_turned_place ct_turned_place : Value}
    (a_turned_place : PySem.W.nsIn K mainGlobals "turned_place" = some (some (.ref f_turned_place)))
    (l_turned_place : K.lookup f_turned_place = some ⟨oc_turned_place, od_turned_place, .func (PySem.W.fnOf "turned_place" "turned_place" (defArgs sPlace) (defBody sPlace) (defScope sPlace) .none kV_turned_place dc_turned_place pm_turned_place an_turned_place cd_turned_place ct_turned_place), sl_turned_place⟩)
    (c_turned_place : PySem.W.codeIn K cd_turned_place "turned_place" = true) (k_turned_place : PySem.W.keepIn K (.ref f_turned_place) = true)
    {f_fits : Addr} {od_fits an_fits : Option Addr} {sl_fits : Array (Option Value)} {oc_fits kV_fits dc_fits pm_fits cd_fits ct_fits : Value}
    (a_fits : PySem.W.nsIn K mainGlobals "fits" = some (some (.ref f_fits)))
    (l_fits : K.lookup f_fits = some ⟨oc_fits, od_fits, .func (PySem.W.fnOf "fits" "fits" (defArgs sFits) (defBody sFits) (defScope sFits) .none kV_fits dc_fits pm_fits an_fits cd_fits ct_fits), sl_fits⟩)
    (c_fits : PySem.W.codeIn K cd_fits "fits" = true) (k_fits : PySem.W.keepIn K (.ref f_fits) = true)
    {t_LONGEST_TEXT : Tok} (g_LONGEST_TEXT : PySem.W.nsIn K mainGlobals "LONGEST_TEXT" = some (some (.int 66048 t_LONGEST_TEXT)))
    {t_MOST_KNOTS : Tok} (g_MOST_KNOTS : PySem.W.nsIn K mainGlobals "MOST_KNOTS" = some (some (.int 65536 t_MOST_KNOTS)))
    {t_WIDEST : Tok} (g_WIDEST : PySem.W.nsIn K mainGlobals "WIDEST" = some (some (.int 512 t_WIDEST)))
    {t_HIGHEST : Tok} (g_HIGHEST : PySem.W.nsIn K mainGlobals "HIGHEST" = some (some (.int 512 t_HIGHEST)))
    {t_ROW_END : Tok} (g_ROW_END : PySem.W.nsIn K mainGlobals "ROW_END" = some (some (.int 10 t_ROW_END)))
    {t_REFUSED_LONG_TEXT : Tok} (g_REFUSED_LONG_TEXT : PySem.W.nsIn K mainGlobals "REFUSED_LONG_TEXT" = some (some (.int (-2) t_REFUSED_LONG_TEXT)))
    {t_REFUSED_NO_CHART : Tok} (g_REFUSED_NO_CHART : PySem.W.nsIn K mainGlobals "REFUSED_NO_CHART" = some (some (.int (-6) t_REFUSED_NO_CHART)))
    {f_BORDER_TURNS : Addr} {o_BORDER_TURNS : Option Addr} {n_BORDER_TURNS : Nat} {sl_BORDER_TURNS : Array (Option Value)} {t0_BORDER_TURNS t1_BORDER_TURNS t2_BORDER_TURNS t3_BORDER_TURNS : Tok} (a_BORDER_TURNS : PySem.W.nsIn K mainGlobals "BORDER_TURNS" = some (some (.ref f_BORDER_TURNS)))
    (l_BORDER_TURNS : K.lookup f_BORDER_TURNS = some ⟨.type "tuple", o_BORDER_TURNS, .seq #[.int 0 t0_BORDER_TURNS, .int 2 t1_BORDER_TURNS, .int 4 t2_BORDER_TURNS, .int 6 t3_BORDER_TURNS] n_BORDER_TURNS, sl_BORDER_TURNS⟩)
    (y_len : PySem.W.nsIn K mainGlobals "len" = some none)
    (y_range : PySem.W.nsIn K mainGlobals "range" = some none)
    (y_all : PySem.W.nsIn K mainGlobals "all" = some none)
    (y_sum : PySem.W.nsIn K mainGlobals "sum" = some none)
    : ∃ fd : FuncData, (∀ (s : Shared) (us : List Value), us.length = (["t"] : List Str).length → BindsTo s fd ⟨us, []⟩ ((["t"] : List Str).zip us)) ∧ ∀ base : Heap, K.In base → base.Ns mainGlobals mg → FnOk P w K mg base CX0 7 fa fd ["t"] (spStrip K) := by
  have e := hfa.symm.trans (PySem.W.mg_of X G a_strip)
  cases e
  have F_strip := fun_mk (st := sStrip) l_strip c_strip k_strip
  have b_strip := F_strip.binds (ps := ["t"]) fun _ _ _ _ _ _ us hl => match us, hl with | [_], _ => rfl
  have m_strip := PySem.W.mg_of X G a_strip
  have F_text_refusal := fun_mk (st := sRefusal) l_text_refusal c_text_refusal k_text_refusal
  have b_text_refusal := F_text_refusal.binds (ps := ["t"]) fun _ _ _ _ _ _ us hl => match us, hl with | [_], _ => rfl
  have m_text_refusal := PySem.W.mg_of X G a_text_refusal
  have F_split_rows := fun_mk (st := sSplit) l_split_rows c_split_rows k_split_rows
  have b_split_rows := F_split_rows.binds (ps := ["t"]) fun _ _ _ _ _ _ us hl => match us, hl with | [_], _ => rfl
  have m_split_rows := PySem.W.mg_of X G a_split_rows
  have F_is_chart := fun_mk (st := sIsChart) l_is_chart c_is_chart k_is_chart
  have b_is_chart := F_is_chart.binds (ps := ["rows"]) fun _ _ _ _ _ _ us hl => match us, hl with | [_], _ => rfl
  have m_is_chart := PySem.W.mg_of X G a_is_chart
  have F_is_chart_row := fun_mk (st := sChartRow) l_is_chart_row c_is_chart_row k_is_chart_row
  have b_is_chart_row := F_is_chart_row.binds (ps := ["row", "width"]) fun _ _ _ _ _ _ us hl => match us, hl with | [_, _], _ => rfl
  have m_is_chart_row := PySem.W.mg_of X G a_is_chart_row
  have F_is_colour := fun_mk (st := sColour) l_is_colour c_is_colour k_is_colour
  have b_is_colour := F_is_colour.binds (ps := ["byte"]) fun _ _ _ _ _ _ us hl => match us, hl with | [_], _ => rfl
  have m_is_colour := PySem.W.mg_of X G a_is_colour
  have F_least_step_across := fun_mk (st := sAcross) l_least_step_across c_least_step_across k_least_step_across
  have b_least_step_across := F_least_step_across.binds (ps := ["rows"]) fun _ _ _ _ _ _ us hl => match us, hl with | [_], _ => rfl
  have m_least_step_across := PySem.W.mg_of X G a_least_step_across
  have F_border_moves := fun_mk (st := sMoves) l_border_moves c_border_moves k_border_moves
  have b_border_moves := F_border_moves.binds (ps := ["rows", "m"]) fun _ _ _ _ _ _ us hl => match us, hl with | [_, _], _ => rfl
  have m_border_moves := PySem.W.mg_of X G a_border_moves
  have F_border_kind := fun_mk (st := sBorder) l_border_kind c_border_kind k_border_kind
  have b_border_kind := F_border_kind.binds (ps := ["half_turns", "mirrors", "flips"]) fun _ _ _ _ _ _ us hl => match us, hl with | [_, _, _], _ => rfl
  have m_border_kind := PySem.W.mg_of X G a_border_kind
  have F_turned := fun_mk (st := sTurned) l_turned c_turned k_turned
  have b_turned := F_turned.binds (ps := ["tile", "m"]) fun _ _ _ _ _ _ us hl => match us, hl with | [_, _], _ => rfl
  have m_turned := PySem.W.mg_of X G a_turned
  have F_turned_place := fun_mk (st := sPlace) l_turned_place c_turned_place k_turned_place
  have b_turned_place := F_turned_place.binds (ps := ["m", "x", "y"]) fun _ _ _ _ _ _ us hl => match us, hl with | [_, _, _], _ => rfl
  have m_turned_place := PySem.W.mg_of X G a_turned_place
  have F_fits := fun_mk (st := sFits) l_fits c_fits k_fits
  have b_fits := F_fits.binds (ps := ["tile", "image", "a", "b"]) fun _ _ _ _ _ _ us hl => match us, hl with | [_, _, _, _], _ => rfl
  have m_fits := PySem.W.mg_of X G a_fits
  have m_LONGEST_TEXT := PySem.W.mg_of X G g_LONGEST_TEXT
  have m_MOST_KNOTS := PySem.W.mg_of X G g_MOST_KNOTS
  have m_WIDEST := PySem.W.mg_of X G g_WIDEST
  have m_HIGHEST := PySem.W.mg_of X G g_HIGHEST
  have m_ROW_END := PySem.W.mg_of X G g_ROW_END
  have m_REFUSED_LONG_TEXT := PySem.W.mg_of X G g_REFUSED_LONG_TEXT
  have m_REFUSED_NO_CHART := PySem.W.mg_of X G g_REFUSED_NO_CHART
  have m_BORDER_TURNS := PySem.W.mg_of X G a_BORDER_TURNS
  have s_BORDER_TURNS : ∀ H, SqT K H f_BORDER_TURNS [.int 0, .int 2, .int 4, .int 6] := fun H => .inr ⟨_, _, _, l_BORDER_TURNS, rfl, rfl, (show 4 ≤ sizeLine by decide), .cons ⟨_, rfl⟩ (.cons ⟨_, rfl⟩ (.cons ⟨_, rfl⟩ (.cons ⟨_, rfl⟩ (.nil))))⟩
  have z_len := PySem.W.mg_none_of X G y_len
  have z_range := PySem.W.mg_none_of X G y_range
  have z_all := PySem.W.mg_none_of X G y_all
  have z_sum := PySem.W.mg_none_of X G y_sum
  refine ⟨PySem.W.fnOf "strip" "strip" (defArgs sStrip) (defBody sStrip) (defScope sStrip) .none kV_strip dc_strip pm_strip an_strip cd_strip ct_strip, fun s us hu => match us, hu with | [_], _ => .of_eq rfl, fun base _ _ => ?_⟩
  · have G1 := ok_colour (P := P) (w := w) (K := K) (mg := mg) (base := base) (k := 2) F_is_colour
    have G2 := ok_chartRow (k := 2) F_is_chart_row G1 k_is_colour b_is_colour m_is_colour z_len z_all
    have G3 := ok_isChart (k := 3) F_is_chart G2 k_is_chart_row b_is_chart_row m_is_chart_row z_len z_all m_WIDEST m_HIGHEST m_MOST_KNOTS
    have GS3 := ok_split (P := P) (w := w) (K := K) (mg := mg) (base := base) (k := 4) F_split_rows m_ROW_END
    have GS := ok_split (P := P) (w := w) (K := K) (mg := mg) (base := base) (k := 5) F_split_rows m_ROW_END
    have GR := ok_refusal (k := 4) F_text_refusal G3 k_is_chart b_is_chart m_is_chart GS3 k_split_rows b_split_rows m_split_rows z_len m_ROW_END m_LONGEST_TEXT m_REFUSED_LONG_TEXT m_REFUSED_NO_CHART
    have GP := ok_place (P := P) (w := w) (K := K) (mg := mg) (base := base) (k := 3) F_turned_place
    have GT := ok_turned (k := 3) F_turned GP k_turned_place b_turned_place m_turned_place z_len z_range
    have GF := ok_fits (P := P) (w := w) (K := K) (mg := mg) (base := base) (k := 4) F_fits z_len z_range
    have GM := ok_moves (k := 4) F_border_moves GT k_turned b_turned m_turned GF k_fits b_fits m_fits z_len z_range
    have GA := ok_across (k := 4) F_least_step_across GF k_fits b_fits m_fits z_len z_range
    have GB := ok_border (P := P) (w := w) (K := K) (mg := mg) (base := base) (k := 5) F_border_kind z_len
    exact ok_strip (k := 5) F_strip GR k_text_refusal b_text_refusal m_text_refusal GS k_split_rows b_split_rows m_split_rows GM k_border_moves b_border_moves m_border_moves GB k_border_kind b_border_kind m_border_kind GA k_least_step_across b_least_step_across m_least_step_across m_BORDER_TURNS s_BORDER_TURNS z_len z_sum
end Kc
open PySem PySem.W PyProof.Rows
set_option maxRecDepth 100000 in
set_option maxHeartbeats 8000000 in
theorem PySem.Challenge.cw_knotcharts_s07_strip_holds : PySem.Challenge.rw_knotcharts_s07_strip.Holds := by
  w_on; k_headS; (case hw => exact ⟨[.list []], by decide +kernel, by decide +kernel⟩)
  k_fillS
  refine L2.walk_specK (r := PySem.Challenge.rw_knotcharts_s07_strip) (k := 7) (CX := L2.CX0) (ps := ["t"]) (sp := Kc.spStrip) (by decide +kernel) rfl rfl ⟨rfl, by decide, by decide⟩ (fun w h Y => PySem.W.kIn_of Y) ?F ?S (fun _ _ _ _ z => z)
  case F =>
    intro w mg fa h Y KX G hmg
    refine' Kc.all_mk KX G hmg ?a_strip ?l_strip ?c_strip ?k_strip ?a_text_refusal ?l_text_refusal ?c_text_refusal ?k_text_refusal ?a_split_rows ?l_split_rows ?c_split_rows ?k_split_rows ?a_is_chart ?l_is_chart ?c_is_chart ?k_is_chart ?a_is_chart_row ?l_is_chart_row ?c_is_chart_row ?k_is_chart_row ?a_is_colour ?l_is_colour ?c_is_colour ?k_is_colour ?a_least_step_across ?l_least_step_across ?c_least_step_across ?k_least_step_across ?a_border_moves ?l_border_moves ?c_border_moves ?k_border_moves ?a_border_kind ?l_border_kind ?c_border_kind ?k_border_kind ?a_turned ?l_turned ?c_turned ?k_turned ?a_turned_place ?l_turned_place ?c_turned_place ?k_turned_place ?a_fits ?l_fits ?c_fits ?k_fits ?g_LONGEST_TEXT ?g_MOST_KNOTS ?g_WIDEST ?g_HIGHEST ?g_ROW_END ?g_REFUSED_LONG_TEXT ?g_REFUSED_NO_CHART ?a_BORDER_TURNS ?l_BORDER_TURNS ?y_len ?y_range ?y_all ?y_sum
    (case a_strip => k_is)
    (case l_strip => k_is)
    (case c_strip => k_is)
    (case k_strip => k_is)
    (case a_text_refusal => k_is)
    (case l_text_refusal => k_is)
    (case c_text_refusal => k_is)
    (case k_text_refusal => k_is)
    (case a_split_rows => k_is)
    (case l_split_rows => k_is)
    (case c_split_rows => k_is)
    (case k_split_rows => k_is)
    (case a_is_chart => k_is)
    (case l_is_chart => k_is)
    (case c_is_chart => k_is)
    (case k_is_chart => k_is)
    (case a_is_chart_row => k_is)
    (case l_is_chart_row => k_is)
    (case c_is_chart_row => k_is)
    (case k_is_chart_row => k_is)
    (case a_is_colour => k_is)
    (case l_is_colour => k_is)
    (case c_is_colour => k_is)
    (case k_is_colour => k_is)
    (case a_least_step_across => k_is)
    (case l_least_step_across => k_is)
    (case c_least_step_across => k_is)
    (case k_least_step_across => k_is)
    (case a_border_moves => k_is)
    (case l_border_moves => k_is)
    (case c_border_moves => k_is)
    (case k_border_moves => k_is)
    (case a_border_kind => k_is)
    (case l_border_kind => k_is)
    (case c_border_kind => k_is)
    (case k_border_kind => k_is)
    (case a_turned => k_is)
    (case l_turned => k_is)
    (case c_turned => k_is)
    (case k_turned => k_is)
    (case a_turned_place => k_is)
    (case l_turned_place => k_is)
    (case c_turned_place => k_is)
    (case k_turned_place => k_is)
    (case a_fits => k_is)
    (case l_fits => k_is)
    (case c_fits => k_is)
    (case k_fits => k_is)
    (case g_LONGEST_TEXT => k_is)
    (case g_MOST_KNOTS => k_is)
    (case g_WIDEST => k_is)
    (case g_HIGHEST => k_is)
    (case g_ROW_END => k_is)
    (case g_REFUSED_LONG_TEXT => k_is)
    (case g_REFUSED_NO_CHART => k_is)
    (case a_BORDER_TURNS => k_is)
    (case l_BORDER_TURNS => k_is)
    (case y_len => k_is)
    (case y_range => k_is)
    (case y_all => k_is)
    (case y_sum => k_is)
  case S =>
    intro K H xs a hO hwi hask hx
    obtain ⟨t, u⟩ := a
    cases hx with
    | cons h7 h8 =>
      cases h8
      cases h7 with
      | lst hs ha =>
        have e := L2.ints_dw t _ ha
        subst e
        have w1 : ((Codec.inLen 0 66100 t && t.all (Codec.inInt 0 255)) && true) = true := hwi
        simp only [Bool.and_eq_true, List.all_eq_true, and_true] at w1
        obtain ⟨w3, w4⟩ := w1
        have tl : t.length ≤ 66100 := (Codec.inNat_iff.mp w3).2
        have tb : ∀ x ∈ t, Kc.inB x := fun x hx => by
          have q := w4 x hx
          unfold Codec.inInt at q
          rw [Bool.and_eq_true] at q
          exact ⟨of_decide_eq_true q.1, of_decide_eq_true q.2⟩
        refine ⟨_, t, rfl, hs, by omega, fun H' p hp => ?_⟩
        refine .lst (L2.SqL.of (xs := (Kc.stripAns t).map L2.V.int) hp) ?_
        show L2.DwAll K H' _ ((PyWqbbcf.strip t).map WData.int)
        rw [Kc.strip_eq t tb]
        exact L2.dw_ints _
#print axioms PySem.Challenge.cw_knotcharts_s07_strip_holds
