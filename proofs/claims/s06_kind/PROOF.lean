import PyProof.Rows.All
import Wide.All
import OpenK.AllK
import Wide.FinOn
import Open.SpecLaws
import KE.OsGo
import HandS.ForSpec
import HandS.Comp
import HandS.Deep
import PySem.Challenge.RW_knotcharts_s06_kind
set_option Elab.async false
set_option linter.all false
set_option maxRecDepth 100000
set_option maxHeartbeats 4000000
namespace Kc
/-! ### the text's rows -/
abbrev Rows := List (List Int)
def spStep (s : Rows × List Int) (b : Int) : Rows × List Int := if b = 10 then (s.1 ++ [s.2], []) else (s.1, s.2 ++ [b])
def splitGo (t : List Int) : Rows × List Int := t.foldl spStep ([], [])
def splitRows (t : List Int) : Rows := (splitGo t).1
def isCol (b : Int) : Bool := decide (97 ≤ b ∧ b ≤ 122 ∨ 65 ≤ b ∧ b ≤ 90 ∨ 48 ≤ b ∧ b ≤ 57)
def rowOk (w : Nat) (r : List Int) : Bool := decide (r.length = w) && r.all isCol
def wide (rows : Rows) : Nat := (rows.headD []).length
def chartOk (rows : Rows) : Bool := decide (1 ≤ wide rows ∧ wide rows ≤ 512 ∧ rows.length ≤ 512 ∧ wide rows * rows.length ≤ 65536) && rows.all (rowOk (wide rows))
def textOk (t : List Int) : Bool := decide (t ≠ []) && (decide (t.getLast? = some 10) && chartOk (splitRows t))
def refusal (t : List Int) : Int := if 66048 < t.length then -2 else if textOk t = true then 0 else -6

/-! ### bytes and colours -/
def by8 (x : Int) : UInt8 := UInt8.ofNat x.toNat
def colN (x : Int) : Nat := (Rg.colourOf (by8 x)).getD 0
def inB (x : Int) : Prop := 0 ≤ x ∧ x ≤ 255
theorem text_eq (t : List Int) : RugBNeutral.text t = t.map by8 := by
  unfold RugBNeutral.text RugBNeutral.nats
  rw [List.map_map]; rfl
theorem byte_facts : ∀ n : Fin 256,
    (isCol ((n.val : Nat) : Int) = (Rg.colourOf (UInt8.ofNat n.val)).isSome) ∧
    (∀ k, Rg.colourOf (UInt8.ofNat n.val) = some k → Rg.byteOf k = UInt8.ofNat n.val ∧ k < 62) := by
  have h : ∀ n : Fin 256, ((isCol ((n.val : Nat) : Int) == (Rg.colourOf (UInt8.ofNat n.val)).isSome) && (match Rg.colourOf (UInt8.ofNat n.val) with | none => true | some k => (Rg.byteOf k == UInt8.ofNat n.val) && decide (k < 62))) = true := by decide +kernel
  intro n
  have q := h n
  rw [Bool.and_eq_true] at q
  refine ⟨eq_of_beq q.1, fun k e => ?_⟩
  have q2 := q.2
  rw [e] at q2
  simp only [Bool.and_eq_true] at q2
  exact ⟨eq_of_beq q2.1, of_decide_eq_true q2.2⟩
theorem by8_inj {x y : Int} (hx : inB x) (hy : inB y) (h : by8 x = by8 y) : x = y := by
  unfold by8 at h
  have h2 := congrArg UInt8.toNat h
  simp only [UInt8.toNat_ofNat'] at h2
  unfold inB at hx hy
  omega
theorem inB_fin {x : Int} (h : inB x) : ∃ n : Fin 256, ((n.val : Nat) : Int) = x := by
  unfold inB at h
  exact ⟨⟨x.toNat, by omega⟩, by simp; omega⟩
theorem col_isSome {x : Int} (h : inB x) : (Rg.colourOf (by8 x)).isSome = isCol x := by
  obtain ⟨n, rfl⟩ := inB_fin h
  exact ((byte_facts n).1).symm
theorem col_byte {x : Int} {k : Nat} (h : inB x) (e : Rg.colourOf (by8 x) = some k) : Rg.byteOf k = by8 x ∧ k < 62 := by
  obtain ⟨n, rfl⟩ := inB_fin h
  exact (byte_facts n).2 k e
theorem col_some {x : Int} (h : inB x) (c : isCol x = true) : Rg.colourOf (by8 x) = some (colN x) := by
  have q := col_isSome h
  rw [c] at q
  obtain ⟨k, e⟩ := Option.isSome_iff_exists.mp q
  unfold colN
  rw [e]; rfl
theorem col_none {x : Int} (h : inB x) (c : isCol x = false) : Rg.colourOf (by8 x) = none := by
  have q := col_isSome h
  rw [c] at q
  exact Option.isSome_eq_false_iff.mp q |> fun z => Option.isNone_iff_eq_none.mp z
theorem isCol_inB {x : Int} (c : isCol x = true) : inB x := by
  unfold isCol at c
  have := of_decide_eq_true c
  unfold inB; omega
theorem colN_inj {x y : Int} (cx : isCol x = true) (cy : isCol y = true) (h : colN x = colN y) : x = y := by
  have hx := isCol_inB cx
  have hy := isCol_inB cy
  have e1 := (col_byte hx (col_some hx cx)).1
  have e2 := (col_byte hy (col_some hy cy)).1
  exact by8_inj hx hy (by rw [← e1, ← e2, h])
theorem isCol_ne {x : Int} (c : isCol x = true) : x ≠ 10 := by
  unfold isCol at c
  have := of_decide_eq_true c
  omega

/-! ### the split -/
theorem go_append (t : List Int) : ∀ (s : Rows × List Int), (t.foldl spStep s).1.flatMap (fun r => r ++ [10]) ++ (t.foldl spStep s).2 = s.1.flatMap (fun r => r ++ [10]) ++ (s.2 ++ t) := by
  induction t with
  | nil => intro s; simp
  | cons x r ih =>
    intro s
    rw [List.foldl_cons, ih]
    unfold spStep
    by_cases h : x = 10
    · subst h; simp
    · simp [h]
theorem split_join (t : List Int) : (splitRows t).flatMap (fun r => r ++ [10]) ++ (splitGo t).2 = t := by
  have := go_append t ([], [])
  simpa [splitRows, splitGo] using this
theorem go_last (t : List Int) (s : Rows × List Int) : (t ++ [10]).foldl spStep s = ((t.foldl spStep s).1 ++ [(t.foldl spStep s).2], []) := by
  rw [List.foldl_append]
  show spStep _ 10 = _
  unfold spStep; simp
theorem split_last {t : List Int} (h : t.getLast? = some 10) : (splitGo t).2 = [] ∧ splitRows t ≠ [] := by
  obtain ⟨ys, e⟩ := List.getLast?_eq_some_iff.mp h
  subst e
  unfold splitRows splitGo
  rw [go_last]
  exact ⟨rfl, by simp⟩
theorem getLast_of {t : List Int} (h1 : (splitGo t).2 = []) (h2 : splitRows t ≠ []) : t.getLast? = some 10 := by
  have e := split_join t
  rw [h1, List.append_nil] at e
  obtain ⟨ys, y, q⟩ : ∃ ys y, splitRows t = ys ++ [y] := ⟨_, _, (List.dropLast_concat_getLast h2).symm⟩
  rw [q] at e
  rw [← e]
  simp
/-- the specification's parts are the rows and what is left -/
theorem cut_parts : ∀ (t : List Int) (p : Nat) (s : List Int) (acc : Rows), (∀ x ∈ t, inB x) →
    acc.map (List.map by8) ++ (Rg.cut Rg.LF p (s.map by8) (t.map by8)).map Prod.snd = ((t.foldl spStep (acc, s)).1 ++ [(t.foldl spStep (acc, s)).2]).map (List.map by8)
  | [], p, s, acc, _ => by simp [Rg.cut]
  | x :: r, p, s, acc, h => by
    rw [List.foldl_cons, List.map_cons]
    have hx : inB x := h x (by simp)
    have hr : ∀ y ∈ r, inB y := fun y hy => h y (by simp [hy])
    have hc : (by8 x = Rg.LF) ↔ x = 10 := ⟨fun e => by8_inj hx (by unfold inB; omega) (e.trans rfl), fun e => by rw [e]; rfl⟩
    unfold Rg.cut
    by_cases e : x = 10
    · rw [if_pos (hc.mpr e)]
      have ih := cut_parts r (p + (s.map by8).length + 1) [] (acc ++ [s]) hr
      rw [show spStep (acc, s) x = (acc ++ [s], []) by unfold spStep; rw [if_pos e], ← ih]
      simp
    · rw [if_neg (fun z => e (hc.mp z))]
      have ih := cut_parts r p (s ++ [x]) acc hr
      rw [show spStep (acc, s) x = (acc, s ++ [x]) by unfold spStep; rw [if_neg e]]
      rw [← ih]
      simp
theorem parts (t : List Int) (h : ∀ x ∈ t, inB x) : ((Rg.cut Rg.LF 0 [] (t.map by8)).map fun (x : Nat × Rg.Bytes) => x.2.map Rg.colourOf).dropLast = (splitRows t).map fun r => r.map fun x => Rg.colourOf (by8 x) := by
  have q := cut_parts t 0 [] [] h
  have e : (Rg.cut Rg.LF 0 [] (t.map by8)).map (fun (x : Nat × Rg.Bytes) => x.2.map Rg.colourOf) = ((Rg.cut Rg.LF 0 [] (t.map by8)).map Prod.snd).map (List.map Rg.colourOf) := by
    rw [List.map_map]; rfl
  rw [e]
  have q2 : (Rg.cut Rg.LF 0 [] (t.map by8)).map Prod.snd = ((splitGo t).1 ++ [(splitGo t).2]).map (List.map by8) := by
    simpa [splitGo] using q
  rw [q2, List.map_map, List.map_append, List.map_singleton, List.dropLast_concat]
  unfold splitRows
  apply List.map_congr_left
  intro r _
  simp
/-- the chart of rows -/
def chartR (rows : Rows) : Rg.Chart := ⟨wide rows, rows.length, rows.map (List.map colN)⟩
theorem filt_len (r : List Int) (h : ∀ x ∈ r, inB x) : ((r.map fun x => Rg.colourOf (by8 x)).filterMap id).map Rg.byteOf = (r.filter isCol).map by8 := by
  induction r with
  | nil => rfl
  | cons x r ih =>
    have hx : inB x := h x (by simp)
    have ih := ih (fun y hy => h y (by simp [hy]))
    by_cases c : isCol x = true
    · have e := col_some hx c
      rw [List.map_cons, e, List.filterMap_cons_some (by rfl), List.map_cons, ih, List.filter_cons_of_pos c, List.map_cons, (col_byte hx e).1]
    · have c' : isCol x = false := by simpa using c
      rw [List.map_cons, col_none hx c', List.filterMap_cons_none (by rfl), ih, List.filter_cons_of_neg c]
theorem filt_all (r : List Int) (h : r.all isCol = true) : (r.map fun x => Rg.colourOf (by8 x)).filterMap id = r.map colN := by
  induction r with
  | nil => rfl
  | cons x r ih =>
    rw [List.all_cons, Bool.and_eq_true] at h
    rw [List.map_cons, col_some (isCol_inB h.1) h.1, List.filterMap_cons_some (by rfl), ih h.2, List.map_cons]
theorem flat_len (l : Rows) : (l.flatMap fun r => r ++ [10]).length = (l.map fun r => r.length + 1).sum := by
  induction l with
  | nil => rfl
  | cons r l ih =>
    simp [ih]
    omega
theorem filt_full : ∀ (l : Rows), (l.map fun r => (r.filter isCol).length + 1).sum ≤ (l.map fun r => r.length + 1).sum ∧
    ((l.map fun r => (r.filter isCol).length + 1).sum = (l.map fun r => r.length + 1).sum → ∀ r ∈ l, r.all isCol = true)
  | [] => ⟨by simp, fun _ r h => by simp at h⟩
  | r :: l => by
    have ih := filt_full l
    have q : (r.filter isCol).length ≤ r.length := List.length_filter_le ..
    refine ⟨by simp only [List.map_cons, List.sum_cons]; omega, fun e => ?_⟩
    simp only [List.map_cons, List.sum_cons] at e
    intro r' hr'
    rcases List.mem_cons.mp hr' with rfl | hr'
    · have e1 : (r'.filter isCol).length = r'.length := by omega
      have e2 := List.length_filter_eq_length_iff.mp e1
      exact List.all_eq_true.mpr e2
    · exact ih.2 (by omega) r' hr'
theorem text_len (rows : Rows) (h : ∀ r ∈ rows, ∀ x ∈ r, inB x) : ((rows.map fun r => (r.map fun x => Rg.colourOf (by8 x)).filterMap id).flatMap fun r => r.map Rg.byteOf ++ [Rg.LF]) = rows.flatMap fun r => (r.filter isCol).map by8 ++ [Rg.LF] := by
  rw [List.flatMap_map]
  induction rows with
  | nil => rfl
  | cons r l ih =>
    rw [List.flatMap_cons, List.flatMap_cons, filt_len r (h r (by simp)), ih (fun r' hr' => h r' (by simp [hr']))]
theorem mem_split {t : List Int} (h : ∀ x ∈ t, inB x) : ∀ r ∈ splitRows t, ∀ x ∈ r, inB x := by
  intro r hr x hx
  apply h
  rw [← split_join t]
  rw [List.mem_append]
  left
  rw [List.mem_flatMap]
  exact ⟨r, hr, by simp [hx]⟩
theorem rowOk_of {w : Nat} {r : List Int} (h : rowOk w r = true) : r.length = w ∧ r.all isCol = true := by
  unfold rowOk at h
  rw [Bool.and_eq_true] at h
  exact ⟨of_decide_eq_true h.1, h.2⟩
structure Good (rows : Rows) : Prop where
  w1 : 1 ≤ wide rows
  w2 : wide rows ≤ 512
  h1 : 1 ≤ rows.length
  h2 : rows.length ≤ 512
  wh : wide rows * rows.length ≤ 65536
  len : ∀ r ∈ rows, r.length = wide rows
  col : ∀ r ∈ rows, r.all isCol = true
theorem good_of {t : List Int} (h : textOk t = true) : Good (splitRows t) ∧ (splitGo t).2 = [] := by
  unfold textOk chartOk at h
  simp only [Bool.and_eq_true] at h
  obtain ⟨_, h2, h3, h4⟩ := h
  have ⟨l1, l2⟩ := split_last (of_decide_eq_true h2)
  have ⟨a, b, c, d⟩ := of_decide_eq_true h3
  have e := List.all_eq_true.mp h4
  exact ⟨⟨a, b, List.length_pos_iff.mpr l2, c, d, fun r hr => (rowOk_of (e r hr)).1, fun r hr => (rowOk_of (e r hr)).2⟩, l1⟩
theorem chart_some {t : List Int} (hb : ∀ x ∈ t, inB x) (h : textOk t = true) : Rg.chartOf (t.map by8) = some (chartR (splitRows t)) := by
  obtain ⟨g, l1⟩ := good_of h
  unfold Rg.chartOf
  rw [parts t hb]
  have e1 : ((splitRows t).map fun r => r.map fun x => Rg.colourOf (by8 x)).map (fun (r : List (Option Nat)) => r.filterMap id) = (splitRows t).map (List.map colN) := by
    rw [List.map_map]
    apply List.map_congr_left
    intro r hr
    exact filt_all r (g.col r hr)
  have e2 : (((splitRows t).map fun r => r.map fun x => Rg.colourOf (by8 x)).headD []).length = wide (splitRows t) := by
    unfold wide
    cases splitRows t with
    | nil => rfl
    | cons r l => simp
  simp only [e1, e2, List.length_map]
  have hc : (chartR (splitRows t)).right = true ∧ (chartR (splitRows t)).text = t.map by8 := by
    constructor
    · unfold Rg.Chart.right Rg.sizeOk chartR Rg.SIDE Rg.KNOTS Rg.COLOURS
      simp only [Bool.and_eq_true, decide_eq_true_eq, List.length_map, List.all_map, List.all_eq_true, Function.comp]
      refine ⟨⟨g.w1, g.w2, g.h1, g.h2⟩, g.wh, trivial, fun r hr => ⟨g.len r hr, fun x hx => ?_⟩⟩
      have c := List.all_eq_true.mp (g.col r hr) x hx
      exact (col_byte (isCol_inB c) (col_some (isCol_inB c) c)).2
    · unfold Rg.Chart.text chartR
      have z := text_len (splitRows t) (mem_split hb)
      have z1 : (splitRows t).map (fun r => (r.map fun x => Rg.colourOf (by8 x)).filterMap id) = (splitRows t).map (List.map colN) := List.map_congr_left fun r hr => filt_all r (g.col r hr)
      rw [z1] at z
      show ((splitRows t).map (List.map colN)).flatMap _ = _
      rw [z]
      have e := split_join t
      rw [l1, List.append_nil] at e
      rw [← congrArg (List.map by8) e, List.map_flatMap]
      have q : ∀ l : Rows, (∀ r ∈ l, r.all isCol = true) → (l.flatMap fun r => (r.filter isCol).map by8 ++ [Rg.LF]) = l.flatMap fun r => (r ++ [10]).map by8 := by
        intro l
        induction l with
        | nil => intro _; rfl
        | cons r l ih =>
          intro hl
          rw [List.flatMap_cons, List.flatMap_cons, ih (fun r' hr' => hl r' (by simp [hr']))]
          rw [List.filter_eq_self.mpr (List.all_eq_true.mp (hl r (by simp))), List.map_append]
          rfl
      exact q _ g.col
  exact if_pos hc
theorem chart_none {t : List Int} (hb : ∀ x ∈ t, inB x) (h : textOk t = false) : Rg.chartOf (t.map by8) = none := by
  unfold Rg.chartOf
  rw [parts t hb]
  apply if_neg
  rintro ⟨hr, ht⟩
  have hm := mem_split hb
  -- the text's length tells that all are colours
  have z := text_len (splitRows t) hm
  unfold Rg.Chart.text at ht
  simp only [List.map_map] at ht
  have z0 : ((splitRows t).map fun r => (r.map fun x => Rg.colourOf (by8 x)).filterMap id) = (splitRows t).map ((fun (r : List (Option Nat)) => r.filterMap id) ∘ fun r => r.map fun x => Rg.colourOf (by8 x)) := rfl
  rw [z0] at z
  rw [z] at ht
  have e := split_join t
  have hl := congrArg List.length ht
  rw [List.length_map] at hl
  have hl2 := congrArg List.length e
  rw [List.length_append, flat_len] at hl2
  have hl3 : ((splitRows t).flatMap fun r => (r.filter isCol).map by8 ++ [Rg.LF]).length = ((splitRows t).map fun r => (r.filter isCol).length + 1).sum := by
    induction splitRows t with
    | nil => rfl
    | cons r l ih =>
      simp [ih]
      omega
  obtain ⟨f1, f2⟩ := filt_full (splitRows t)
  have hnil : (splitGo t).2 = [] := List.length_eq_zero_iff.mp (by omega)
  have hcol := f2 (by omega)
  unfold Rg.Chart.right Rg.sizeOk Rg.SIDE Rg.KNOTS Rg.COLOURS at hr
  simp only [Bool.and_eq_true, decide_eq_true_eq, List.length_map] at hr
  obtain ⟨⟨a, b, c, d⟩, e1, _, e2⟩ := hr
  have e3 : (((splitRows t).map fun r => r.map fun x => Rg.colourOf (by8 x)).headD []).length = wide (splitRows t) := by
    unfold wide
    cases splitRows t with
    | nil => rfl
    | cons r l => simp
  rw [e3] at a b e1 e2
  have hne : splitRows t ≠ [] := List.length_pos_iff.mp c
  have hlast := getLast_of hnil hne
  have : textOk t = true := by
    unfold textOk chartOk
    simp only [Bool.and_eq_true, decide_eq_true_eq]
    refine ⟨fun q => by rw [q] at hlast; simp at hlast, hlast, ⟨a, b, d, e1⟩, ?_⟩
    rw [List.all_eq_true] at e2 ⊢
    intro r hr
    have q := e2 ((r.map fun x => Rg.colourOf (by8 x)).filterMap id) (by
      rw [List.mem_map]
      exact ⟨r.map fun x => Rg.colourOf (by8 x), List.mem_map.mpr ⟨r, hr, rfl⟩, rfl⟩)
    rw [Bool.and_eq_true] at q
    unfold rowOk
    rw [Bool.and_eq_true]
    refine ⟨?_, hcol r hr⟩
    have q1 := of_decide_eq_true q.1
    rw [filt_all r (hcol r hr), List.length_map] at q1
    exact decide_eq_true q1
  rw [this] at h
  cases h
end Kc

namespace Kc
/-! ### the field -/
def at0 (rows : Rows) (X Y : Nat) : Int := (rows.getD Y []).getD X 0
def fld (rows : Rows) (X Y : Int) : Int := at0 rows (X % (wide rows : Int)).toNat (Y % (rows.length : Int)).toNat
/-- of one breadth, at least one knot -/
structure Rect (W H : Nat) (rows : Rows) : Prop where
  w1 : 1 ≤ W
  h1 : 1 ≤ H
  high : rows.length = H
  len : ∀ r ∈ rows, r.length = W
theorem Rect.wide {W H : Nat} {rows : Rows} (g : Rect W H rows) : Kc.wide rows = W := by
  unfold Kc.wide
  have h := g.h1
  have h2 := g.high
  cases rows with
  | nil => simp at h2; omega
  | cons r l => exact g.len r (by simp)
theorem Good.rect {rows : Rows} (g : Good rows) : Rect (wide rows) rows.length rows := ⟨g.w1, g.h1, rfl, g.len⟩
theorem Rect.row {W H : Nat} {rows : Rows} (g : Rect W H rows) {y : Nat} (hy : y < H) : ∃ r, rows[y]? = some r ∧ r.length = W ∧ r ∈ rows := by
  have h2 := g.high
  have q : y < rows.length := by omega
  exact ⟨rows[y], List.getElem?_eq_getElem q, g.len _ (List.getElem_mem q), List.getElem_mem q⟩
theorem Rect.fld_eq {W H : Nat} {rows : Rows} (g : Rect W H rows) (X Y : Int) : fld rows X Y = at0 rows (X % (W : Int)).toNat (Y % (H : Int)).toNat := by
  unfold fld
  rw [g.wide, g.high]
theorem Rect.fld_nat {W H : Nat} {rows : Rows} (g : Rect W H rows) {x y : Nat} (hx : x < W) (hy : y < H) : fld rows (x : Int) (y : Int) = at0 rows x y := by
  rw [g.fld_eq, Int.emod_eq_of_lt (by omega) (by omega), Int.emod_eq_of_lt (by omega) (by omega)]
  simp
theorem Rect.fld_add {W H : Nat} {rows : Rows} (g : Rect W H rows) (X Y k l : Int) : fld rows (X + W * k) (Y + H * l) = fld rows X Y := by
  rw [g.fld_eq, g.fld_eq, Int.add_mul_emod_self_left, Int.add_mul_emod_self_left]
/-- every place is one of the chart's, sides apart -/
theorem mod_place (W : Nat) (h : 1 ≤ W) (X : Int) : ∃ (x : Nat) (k : Int), x < W ∧ X = (x : Int) + W * k := by
  refine ⟨(X % (W : Int)).toNat, X / (W : Int), ?_, ?_⟩
  · have h1 := Int.emod_nonneg X (show (W : Int) ≠ 0 by omega)
    have h2 := Int.emod_lt_of_pos X (show (0 : Int) < W by omega)
    omega
  · have h1 := Int.emod_nonneg X (show (W : Int) ≠ 0 by omega)
    rw [Int.toNat_of_nonneg h1]
    exact (Int.emod_add_mul_ediv X W).symm
/-! ### turns -/
def tp (m : Nat) (x y : Int) : Int × Int :=
  if m = 0 then (x, y) else if m = 1 then (-y, x) else if m = 2 then (-x, -y) else if m = 3 then (y, -x) else if m = 4 then (-x, y) else if m = 5 then (-y, -x) else if m = 6 then (x, -y) else (y, x)
theorem lt8 {m : Nat} (h : m < 8) : m = 0 ∨ m = 1 ∨ m = 2 ∨ m = 3 ∨ m = 4 ∨ m = 5 ∨ m = 6 ∨ m = 7 := by omega
theorem turn_tp {m : Nat} (h : m < 8) (x y : Int) : Rg.turn m (x, y) = tp m x y := by
  rcases lt8 h with rfl | rfl | rfl | rfl | rfl | rfl | rfl | rfl <;> simp [Rg.turn, Rg.quarter, tp]
theorem tp_even {m : Nat} (h : m < 8) (e : m % 2 = 0) : ∃ s t : Int, (s = 1 ∨ s = -1) ∧ (t = 1 ∨ t = -1) ∧ ∀ x y, tp m x y = (s * x, t * y) := by
  rcases lt8 h with rfl | rfl | rfl | rfl | rfl | rfl | rfl | rfl <;> simp at e
  · exact ⟨1, 1, .inl rfl, .inl rfl, fun x y => by simp [tp]⟩
  · exact ⟨-1, -1, .inr rfl, .inr rfl, fun x y => by simp [tp]⟩
  · exact ⟨-1, 1, .inr rfl, .inl rfl, fun x y => by simp [tp]⟩
  · exact ⟨1, -1, .inl rfl, .inr rfl, fun x y => by simp [tp]⟩
theorem tp_odd {m : Nat} (h : m < 8) (e : m % 2 = 1) : ∃ s t : Int, (s = 1 ∨ s = -1) ∧ (t = 1 ∨ t = -1) ∧ ∀ x y, tp m x y = (s * y, t * x) := by
  rcases lt8 h with rfl | rfl | rfl | rfl | rfl | rfl | rfl | rfl <;> simp at e
  · exact ⟨-1, 1, .inr rfl, .inl rfl, fun x y => by simp [tp]⟩
  · exact ⟨1, -1, .inl rfl, .inr rfl, fun x y => by simp [tp]⟩
  · exact ⟨-1, -1, .inr rfl, .inr rfl, fun x y => by simp [tp]⟩
  · exact ⟨1, 1, .inl rfl, .inl rfl, fun x y => by simp [tp]⟩
/-! ### symmetries of a field -/
def SymF (F : Int → Int → Int) (m : Nat) (a b : Int) : Prop := ∀ X Y, F ((tp m X Y).1 + a) ((tp m X Y).2 + b) = F X Y
def Per (f : Int → Int) (n : Int) : Prop := ∀ X, f (X + n) = f X
theorem Per.mul {f : Int → Int} {n : Int} (h : Per f n) (k : Int) : Per f (n * k) := by
  have hn : ∀ j : Nat, Per f (n * j) := by
    intro j
    induction j with
    | zero => intro X; simp
    | succ j ih =>
      intro X
      have e : X + n * ((j + 1 : Nat) : Int) = (X + n * j) + n := by
        have : n * ((j + 1 : Nat) : Int) = n * j + n := by
          rw [Int.natCast_succ, Int.mul_add, Int.mul_one]
        omega
      rw [e, h, ih]
  intro X
  by_cases c : 0 ≤ k
  · have := hn k.toNat X
    rwa [Int.toNat_of_nonneg c] at this
  · have := hn (-k).toNat (X + n * k)
    rw [Int.toNat_of_nonneg (by omega)] at this
    rw [← this]
    congr 1
    rw [Int.mul_neg]
    omega
theorem Per.neg {f : Int → Int} {n : Int} (h : Per f n) : Per f (-n) := by
  have := h.mul (-1)
  rwa [Int.mul_neg, Int.mul_one] at this
theorem Per.gcd {f : Int → Int} : ∀ (m n : Nat), Per f m → Per f n → Per f (Nat.gcd m n) := by
  intro m n
  induction m, n using Nat.gcd.induction with
  | H0 n => intro _ h; rwa [Nat.gcd_zero_left]
  | H1 m n hm ih =>
    intro h1 h2
    rw [Nat.gcd_rec]
    refine ih (fun X => ?_) h1
    have e := h1.mul ((n / m : Nat) : Int) (X + ((n % m : Nat) : Int))
    rw [← e]
    have q : X + ((n % m : Nat) : Int) + (m : Int) * ((n / m : Nat) : Int) = X + (n : Int) := by
      have := Nat.mod_add_div n m
      have z : ((n % m : Nat) : Int) + (m : Int) * ((n / m : Nat) : Int) = (n : Int) := by exact_mod_cast this
      omega
    rw [q]
    exact h2 X
theorem Per.dvd {f : Int → Int} {m n : Nat} (h : Per f m) (d : m ∣ n) : Per f n := by
  obtain ⟨k, rfl⟩ := d
  have := h.mul (k : Int)
  intro X
  rw [Int.natCast_mul]
  exact this X
/-- the field repeats by n to the side, by k down -/
structure Rep (F : Int → Int → Int) (n k : Nat) : Prop where
  x : ∀ Y, Per (fun X => F X Y) n
  y : ∀ X, Per (fun Y => F X Y) k
theorem Rep.add {F : Int → Int → Int} {n k : Nat} (r : Rep F n k) (X Y i j : Int) : F (X + n * i) (Y + k * j) = F X Y := by
  have h1 := ((r.x (Y + k * j)).mul i) X
  have h2 := ((r.y X).mul j) Y
  exact h1.trans h2
theorem Rect.rep {W H : Nat} {rows : Rows} (g : Rect W H rows) : Rep (fld rows) W H := by
  constructor
  · intro Y X
    have := g.fld_add X Y 1 0
    simpa using this
  · intro X Y
    have := g.fld_add X Y 0 1
    simpa using this
/-- told by the places of a cell that the turn brings onto itself -/
theorem sym_cell {F : Int → Int → Int} {W H m : Nat} {a b : Int} (r : Rep F W H) (hW : 1 ≤ W) (hH : 1 ≤ H) (hm : m < 8) (sq : m % 2 = 0 ∨ W = H) :
    SymF F m a b ↔ ∀ x y : Nat, x < W → y < H → F ((tp m x y).1 + a) ((tp m x y).2 + b) = F x y := by
  refine ⟨fun h x y _ _ => h x y, fun h X Y => ?_⟩
  obtain ⟨x, k, hx, rfl⟩ := mod_place W hW X
  obtain ⟨y, l, hy, rfl⟩ := mod_place H hH Y
  rw [r.add]
  rw [← h x y hx hy]
  by_cases e : m % 2 = 0
  · obtain ⟨s, t, _, _, q⟩ := tp_even hm e
    rw [q, q]
    have := r.add (s * x + a) (t * y + b) (s * k) (t * l)
    rw [← this]
    congr 1
    · simp only [Int.mul_add, Int.mul_left_comm, Int.mul_comm, Int.mul_assoc]; omega
    · simp only [Int.mul_add, Int.mul_left_comm, Int.mul_comm, Int.mul_assoc]; omega
  · obtain ⟨s, t, _, _, q⟩ := tp_odd hm (by omega)
    have e2 : W = H := by omega
    subst e2
    rw [q, q]
    have := r.add (s * y + a) (t * x + b) (s * l) (t * k)
    rw [← this]
    congr 1
    · simp only [Int.mul_add, Int.mul_left_comm, Int.mul_comm, Int.mul_assoc]; omega
    · simp only [Int.mul_add, Int.mul_left_comm, Int.mul_comm, Int.mul_assoc]; omega
/-- a symmetry with a quarter in it turns the sides' steps -/
theorem sym_odd_rep {F : Int → Int → Int} {W H m : Nat} {a b : Int} (r : Rep F W H) (hm : m < 8) (od : m % 2 = 1) (h : SymF F m a b) : Rep F H W := by
  obtain ⟨s, t, hs, ht, q⟩ := tp_odd hm od
  have ss : s * s = 1 := by rcases hs with rfl | rfl <;> rfl
  have tt : t * t = 1 := by rcases ht with rfl | rfl <;> rfl
  -- any place (X, Y) is the turn of (t (Y - b), s (X - a)), moved on
  have key : ∀ X Y : Int, F X Y = F (t * (Y - b)) (s * (X - a)) := by
    intro X Y
    have := h (t * (Y - b)) (s * (X - a))
    rw [q] at this
    rw [← this]
    congr 1
    · show X = s * (s * (X - a)) + a
      rw [← Int.mul_assoc, ss]; omega
    · show Y = t * (t * (Y - b)) + b
      rw [← Int.mul_assoc, tt]; omega
  constructor
  · intro Y X
    show F (X + H) Y = F X Y
    rw [key (X + H) Y, key X Y]
    have := r.add (t * (Y - b)) (s * (X - a)) 0 s
    rw [← this]
    congr 1
    · simp
    · simp only [Int.mul_add, Int.mul_sub, Int.mul_comm]; omega
  · intro X Y
    show F X (Y + W) = F X Y
    rw [key X (Y + W), key X Y]
    have := r.add (t * (Y - b)) (s * (X - a)) t 0
    rw [← this]
    congr 1
    · simp only [Int.mul_add, Int.mul_sub, Int.mul_comm]; omega
    · simp
theorem Rep.gcd {F : Int → Int → Int} {W H : Nat} (r : Rep F W H) (q : Rep F H W) : Rep F (Nat.gcd W H) (Nat.gcd W H) :=
  ⟨fun Y => (r.x Y).gcd _ _ (q.x Y), fun X => (q.y X).gcd _ _ (r.y X)⟩
theorem Rep.ofGcd {F : Int → Int → Int} {W H : Nat} (r : Rep F (Nat.gcd W H) (Nat.gcd W H)) : Rep F H W :=
  ⟨fun Y => (r.x Y).dvd (Nat.gcd_dvd_right W H), fun X => (r.y X).dvd (Nat.gcd_dvd_left W H)⟩
/-! ### the specification's symmetries are the field's -/
theorem at2_eq {rows : Rows} (g : Good rows) (p : Rg.Place) : (chartR rows).at2 p = colN (fld rows p.1 p.2) := by
  unfold Rg.Chart.at2 Rg.wrap Rg.Chart.at_ chartR
  have g2 := g.rect
  rw [g2.fld_eq]
  unfold at0
  have hy := Int.emod_nonneg p.2 (show ((rows.length : Nat) : Int) ≠ 0 by have := g.h1; omega)
  have hy2 := Int.emod_lt_of_pos p.2 (show (0 : Int) < ((rows.length : Nat) : Int) by have := g.h1; omega)
  have hx := Int.emod_nonneg p.1 (show ((wide rows : Nat) : Int) ≠ 0 by have := g.w1; omega)
  have hx2 := Int.emod_lt_of_pos p.1 (show (0 : Int) < ((wide rows : Nat) : Int) by have := g.w1; omega)
  obtain ⟨r, e, el, em⟩ := g2.row (y := (p.2 % (rows.length : Int)).toNat) (by omega)
  have e2 : (p.1 % (wide rows : Int)).toNat < r.length := by omega
  simp only [List.getD_eq_getElem?_getD, List.getElem?_map, e, Option.map_some, Option.getD_some]
  rw [List.getElem?_eq_getElem e2]
  rfl
theorem fld_col {rows : Rows} (g : Good rows) (X Y : Int) : isCol (fld rows X Y) = true := by
  have g2 := g.rect
  rw [g2.fld_eq]
  unfold at0
  have hy := Int.emod_nonneg Y (show ((rows.length : Nat) : Int) ≠ 0 by have := g.h1; omega)
  have hy2 := Int.emod_lt_of_pos Y (show (0 : Int) < ((rows.length : Nat) : Int) by have := g.h1; omega)
  have hx := Int.emod_nonneg X (show ((wide rows : Nat) : Int) ≠ 0 by have := g.w1; omega)
  have hx2 := Int.emod_lt_of_pos X (show (0 : Int) < ((wide rows : Nat) : Int) by have := g.w1; omega)
  obtain ⟨r, e, el, em⟩ := g2.row (y := (Y % (rows.length : Int)).toNat) (by omega)
  have e2 : (X % (wide rows : Int)).toNat < r.length := by omega
  simp only [List.getD_eq_getElem?_getD, e, Option.getD_some]
  rw [List.getElem?_eq_getElem e2]
  exact List.all_eq_true.mp (g.col r em) _ (List.getElem_mem e2)
theorem at2_beq {rows : Rows} (g : Good rows) (p q : Rg.Place) : ((chartR rows).at2 p == (chartR rows).at2 q) = true ↔ fld rows p.1 p.2 = fld rows q.1 q.2 := by
  rw [at2_eq g, at2_eq g, beq_iff_eq]
  exact ⟨fun h => colN_inj (fld_col g _ _) (fld_col g _ _) h, fun h => by rw [h]⟩
theorem grid_all {w h : Nat} {f : Nat × Nat → Bool} : (Rg.grid w h).all f = true ↔ ∀ x y : Nat, x < w → y < h → f (x, y) = true := by
  unfold Rg.grid
  rw [List.all_eq_true]
  constructor
  · intro q x y hx hy
    exact q (x, y) (List.mem_flatMap.mpr ⟨y, List.mem_range.mpr hy, List.mem_map.mpr ⟨x, List.mem_range.mpr hx, rfl⟩⟩)
  · intro q p hp
    obtain ⟨y, hy, hp⟩ := List.mem_flatMap.mp hp
    obtain ⟨x, hx, rfl⟩ := List.mem_map.mp hp
    exact q x y (List.mem_range.mp hx) (List.mem_range.mp hy)
theorem stepBy_iff {rows : Rows} (g : Good rows) (a b : Int) : Rg.isStepBy (chartR rows) a b = true ↔ ∀ X Y, fld rows (X + a) (Y + b) = fld rows X Y := by
  unfold Rg.isStepBy
  rw [grid_all]
  simp only [at2_beq g]
  constructor
  · intro h X Y
    have := (sym_cell (m := 0) (a := a) (b := b) g.rect.rep g.w1 g.h1 (by omega) (.inl rfl)).mpr (fun x y hx hy => h x y hx hy)
    exact this X Y
  · intro h x y _ _
    exact h x y
theorem keeps_iff {rows : Rows} (g : Good rows) {m : Nat} (hm : m < 8) (a b : Int) (w h : Nat) :
    ((Rg.grid w h).all fun (p : Nat × Nat) => (chartR rows).at2 ((Rg.Sym.mk m a b).act ((p.1 : Int), (p.2 : Int))) == (chartR rows).at2 ((p.1 : Int), (p.2 : Int))) = true ↔
    ∀ x y : Nat, x < w → y < h → fld rows ((tp m x y).1 + a) ((tp m x y).2 + b) = fld rows x y := by
  rw [grid_all]
  simp only [at2_beq g, Rg.Sym.act, turn_tp hm]
theorem isSym_iff {rows : Rows} (g : Good rows) {m : Nat} (hm : m < 8) (a b : Int) : Rg.isSym (chartR rows) ⟨m, a, b⟩ = true ↔ SymF (fld rows) m a b := by
  have r := g.rect.rep
  unfold Rg.isSym Rg.MOTIONS
  simp only [Bool.and_eq_true, decide_eq_true_eq]
  by_cases e : m % 2 = 0
  · rw [if_pos e]
    rw [show ((chartR rows).wide) = wide rows from rfl, show ((chartR rows).high) = rows.length from rfl, keeps_iff g hm]
    rw [sym_cell r g.w1 g.h1 hm (.inl e)]
    exact ⟨fun h => h.2, fun h => ⟨hm, h⟩⟩
  · rw [if_neg e]
    rw [show ((chartR rows).wide) = wide rows from rfl, show ((chartR rows).high) = rows.length from rfl]
    simp only [Bool.and_eq_true, keeps_iff g hm, stepBy_iff g]
    constructor
    · rintro ⟨_, h1, h2, h3⟩
      have q : Rep (fld rows) rows.length (wide rows) := ⟨fun Y X => by have := h1 X Y; simpa using this, fun X Y => by have := h2 X Y; simpa using this⟩
      have rg := r.gcd q
      have gp : 1 ≤ Nat.gcd (wide rows) rows.length := Nat.gcd_pos_of_pos_left _ g.w1
      exact (sym_cell rg gp gp hm (.inr rfl)).mpr h3
    · intro h
      have q := sym_odd_rep r hm (by omega) h
      refine ⟨hm, fun X Y => ?_, fun X Y => ?_, fun x y _ _ => h x y⟩
      · have := q.x Y X; simpa using this
      · have := q.y X Y; simpa using this
end Kc

namespace Kc
/-! ### the turned cell -/
def tX (W m : Nat) (x y : Nat) : Nat := ((tp m x y).1 % (W : Int)).toNat
def tY (H m : Nat) (x y : Nat) : Nat := ((tp m x y).2 % (H : Int)).toNat
theorem toNat_mod_lt {W : Nat} (h : 1 ≤ W) (z : Int) : (z % (W : Int)).toNat < W := by
  have h1 := Int.emod_nonneg z (show (W : Int) ≠ 0 by omega)
  have h2 := Int.emod_lt_of_pos z (show (0 : Int) < W by omega)
  omega
theorem toNat_mod_cast {W : Nat} (h : 1 ≤ W) (z : Int) : (((z % (W : Int)).toNat : Nat) : Int) = z % (W : Int) := Int.toNat_of_nonneg (Int.emod_nonneg z (by omega))
/-- a rest tells its number up to the sides -/
theorem mod_back {W : Nat} (h : 1 ≤ W) (z : Int) : ∃ k : Int, z = (((z % (W : Int)).toNat : Nat) : Int) + W * k := ⟨z / W, by
  rw [toNat_mod_cast h]
  exact (Int.emod_add_mul_ediv z W).symm⟩
theorem near {W : Nat} {x x' : Nat} {k : Int} (hx : x < W) (hx' : x' < W) (h : (x : Int) - x' = W * k) : x = x' := by
  have d : W ∣ ((x : Int) - x').natAbs := by
    have := Int.natAbs_dvd_natAbs.mpr (show (W : Int) ∣ (x : Int) - x' from ⟨k, h⟩)
    rwa [Int.natAbs_natCast] at this
  have := Nat.eq_zero_of_dvd_of_lt d (by omega)
  omega
theorem mod_inj {W : Nat} {x x' : Nat} {s : Int} (hs : s = 1 ∨ s = -1) (hx : x < W) (hx' : x' < W) (h : ((s * x) % (W : Int)).toNat = ((s * x') % (W : Int)).toNat) : x = x' := by
  have hW : 1 ≤ W := by omega
  obtain ⟨k, e⟩ := mod_back hW (s * x)
  obtain ⟨l, e'⟩ := mod_back hW (s * x')
  rw [h] at e
  have e3 : s * x - s * x' = W * (k - l) := by
    rw [Int.mul_sub]
    omega
  rcases hs with rfl | rfl
  · exact near (k := k - l) hx hx' (by omega)
  · refine near (k := -(k - l)) hx hx' ?_
    rw [Int.mul_neg]
    omega
theorem tp_inj {W H m x y x' y' : Nat} (hm : m < 8) (sq : m % 2 = 0 ∨ W = H) (hx : x < W) (hy : y < H) (hx' : x' < W) (hy' : y' < H) (h1 : tX W m x y = tX W m x' y') (h2 : tY H m x y = tY H m x' y') : x = x' ∧ y = y' := by
  unfold tX at h1
  unfold tY at h2
  by_cases e : m % 2 = 0
  · obtain ⟨s, t, hs, ht, q⟩ := tp_even hm e
    rw [q, q] at h1 h2
    exact ⟨mod_inj hs hx hx' h1, mod_inj ht hy hy' h2⟩
  · obtain ⟨s, t, hs, ht, q⟩ := tp_odd hm (by omega)
    have e2 : W = H := by omega
    subst e2
    rw [q, q] at h1 h2
    exact ⟨mod_inj ht hx hx' h2, mod_inj hs hy hy' h1⟩
theorem mod_surj {W X : Nat} {s : Int} (hs : s = 1 ∨ s = -1) (hX : X < W) : ∃ x : Nat, x < W ∧ ((s * x) % (W : Int)).toNat = X := by
  have hW : 1 ≤ W := by omega
  have ss : s * s = 1 := by rcases hs with rfl | rfl <;> rfl
  refine ⟨((s * X) % (W : Int)).toNat, toNat_mod_lt hW _, ?_⟩
  obtain ⟨k, e⟩ := mod_back hW (s * X)
  have e2 : s * ((((s * X) % (W : Int)).toNat : Nat) : Int) = (X : Int) + W * (-(s * k)) := by
    have : s * (s * X) = s * (((((s * X) % (W : Int)).toNat : Nat) : Int) + W * k) := congrArg (s * ·) e
    rw [← Int.mul_assoc, ss, Int.mul_add, Int.one_mul] at this
    have z : s * (W * k) = W * (s * k) := by rw [← Int.mul_assoc, Int.mul_comm s, Int.mul_assoc]
    rw [Int.mul_neg]
    omega
  rw [e2, Int.add_mul_emod_self_left, Int.emod_eq_of_lt (by omega) (by omega)]
  simp
theorem tp_surj {W H m X Y : Nat} (hm : m < 8) (sq : m % 2 = 0 ∨ W = H) (hX : X < W) (hY : Y < H) : ∃ x y : Nat, x < W ∧ y < H ∧ tX W m x y = X ∧ tY H m x y = Y := by
  unfold tX tY
  by_cases e : m % 2 = 0
  · obtain ⟨s, t, hs, ht, q⟩ := tp_even hm e
    obtain ⟨x, hx, ex⟩ := mod_surj hs hX
    obtain ⟨y, hy, ey⟩ := mod_surj ht hY
    exact ⟨x, y, hx, hy, by rw [q]; exact ex, by rw [q]; exact ey⟩
  · obtain ⟨s, t, hs, ht, q⟩ := tp_odd hm (by omega)
    have e2 : W = H := by omega
    subst e2
    obtain ⟨x, hx, ex⟩ := mod_surj ht hY
    obtain ⟨y, hy, ey⟩ := mod_surj hs hX
    exact ⟨x, y, hx, hy, by rw [q]; exact ey, by rw [q]; exact ex⟩
/-- so far turned: the places ahead of the k-th -/
structure Img (W H m k : Nat) (cell img : Rows) : Prop where
  rect : Rect W H img
  at_ : ∀ x y : Nat, x < W → y < H → y * W + x < k → at0 img (tX W m x y) (tY H m x y) = at0 cell x y
theorem Img.start {W H m : Nat} {cell : Rows} (hW : 1 ≤ W) (hH : 1 ≤ H) : Img W H m 0 cell (List.replicate H (List.replicate W 0)) :=
  ⟨⟨hW, hH, List.length_replicate, fun r hr => by rw [(List.mem_replicate.mp hr).2, List.length_replicate]⟩, fun x y _ _ h => by omega⟩
theorem place_inj {W x y x' y' : Nat} (hx : x < W) (hx' : x' < W) (h : y * W + x = y' * W + x') : x = x' ∧ y = y' := by
  have h1 : (y * W + x) % W = x := by rw [Nat.mul_comm, Nat.mul_add_mod, Nat.mod_eq_of_lt hx]
  have h2 : (y' * W + x') % W = x' := by rw [Nat.mul_comm, Nat.mul_add_mod, Nat.mod_eq_of_lt hx']
  have e : x = x' := by rw [← h1, ← h2, h]
  subst e
  have : y * W = y' * W := by omega
  exact ⟨rfl, Nat.eq_of_mul_eq_mul_right (by omega) this⟩
theorem at0_set {img : Rows} {Y X X' Y' : Nat} {r : List Int} {v : Int} (e : img[Y]? = some r) (hX : X < r.length) : at0 (img.set Y (r.set X v)) X' Y' = if X' = X ∧ Y' = Y then v else at0 img X' Y' := by
  unfold at0
  have hY := (List.getElem?_eq_some_iff.mp e).1
  simp only [List.getD_eq_getElem?_getD]
  by_cases h1 : Y' = Y
  · subst h1
    rw [List.getElem?_set_self hY, e]
    simp only [Option.getD_some]
    by_cases h2 : X' = X
    · subst h2
      rw [List.getElem?_set_self hX, if_pos (by simp)]
      rfl
    · rw [List.getElem?_set_ne (Ne.symm h2), if_neg (fun z => h2 z.1)]
  · rw [List.getElem?_set_ne (Ne.symm h1), if_neg (fun z => h1 z.2)]
theorem Img.step {W H m x y : Nat} {cell img : Rows} {r : List Int} (I : Img W H m (y * W + x) cell img) (hm : m < 8) (sq : m % 2 = 0 ∨ W = H) (hx : x < W) (hy : y < H) (e : img[tY H m x y]? = some r) :
    Img W H m (y * W + x + 1) cell (img.set (tY H m x y) (r.set (tX W m x y) (at0 cell x y))) := by
  have g := I.rect
  have hr : r.length = W := g.len r (List.mem_of_getElem? e)
  have hX : tX W m x y < r.length := by rw [hr]; exact toNat_mod_lt g.w1 _
  refine ⟨⟨g.w1, g.h1, by rw [List.length_set]; exact g.high, fun q hq => ?_⟩, fun x' y' hx' hy' hk => ?_⟩
  · rcases List.mem_or_eq_of_mem_set hq with hq | rfl
    · exact g.len q hq
    · rw [List.length_set, hr]
  · rw [at0_set e hX]
    by_cases c : tX W m x' y' = tX W m x y ∧ tY H m x' y' = tY H m x y
    · obtain ⟨e1, e2⟩ := tp_inj hm sq hx' hy' hx hy c.1 c.2
      rw [if_pos c, e1, e2]
    · rw [if_neg c]
      refine I.at_ x' y' hx' hy' ?_
      have : y' * W + x' ≠ y * W + x := fun z => by
        obtain ⟨e1, e2⟩ := place_inj hx' hx z
        subst e1 e2
        exact c ⟨rfl, rfl⟩
      omega
abbrev ImgOf (W H m : Nat) (cell img : Rows) : Prop := Img W H m (H * W) cell img
theorem place_lt {W H x y : Nat} (hx : x < W) (hy : y < H) : y * W + x < H * W := by
  have : (y + 1) * W ≤ H * W := Nat.mul_le_mul_right _ hy
  rw [Nat.succ_mul] at this
  omega
/-! ### the image moved on -/
def rot (l : Nat) (r : List Int) : List Int := r.drop l ++ r.take l
def fitRow (cell img : Rows) (a b : Int) (y : Nat) : Bool := decide (rot (a % (wide cell : Int)).toNat (cell.getD (((y : Int) + b) % (cell.length : Int)).toNat []) = img.getD y [])
def fitsB (cell img : Rows) (a b : Int) : Bool := (List.range cell.length).all (fitRow cell img a b)
theorem rot_get {r : List Int} {l x : Nat} (hl : l < r.length) (hx : x < r.length) : (rot l r)[x]? = r[(x + l) % r.length]? := by
  unfold rot
  by_cases h : x < r.length - l
  · rw [List.getElem?_append_left (by rw [List.length_drop]; exact h), List.getElem?_drop, Nat.mod_eq_of_lt (by omega), Nat.add_comm]
  · rw [List.getElem?_append_right (by rw [List.length_drop]; omega), List.length_drop, List.getElem?_take_of_lt (by omega)]
    have : (x + l) % r.length = x - (r.length - l) := by
      rw [Nat.mod_eq_sub_mod (by omega), Nat.mod_eq_of_lt (by omega)]
      omega
    rw [this]
theorem row_ext {r s : List Int} {W : Nat} (h1 : r.length = W) (h2 : s.length = W) : r = s ↔ ∀ x, x < W → r.getD x 0 = s.getD x 0 := by
  refine ⟨fun h x _ => by rw [h], fun h => ?_⟩
  apply List.ext_getElem (by omega)
  intro x hx hx'
  have := h x (by omega)
  simp only [List.getD_eq_getElem?_getD, List.getElem?_eq_getElem hx, List.getElem?_eq_getElem hx', Option.getD_some] at this
  exact this
theorem mod_add_nat {W : Nat} (hW : 1 ≤ W) (x : Nat) (a : Int) : (x + (a % (W : Int)).toNat) % W = (((x : Int) + a) % (W : Int)).toNat := by
  have e : ((((x + (a % (W : Int)).toNat) % W : Nat)) : Int) = ((x : Int) + a) % (W : Int) := by
    rw [Int.natCast_emod, Int.natCast_add, toNat_mod_cast hW, Int.add_emod_emod]
  have q := congrArg Int.toNat e
  rwa [Int.toNat_natCast] at q
theorem fitRow_iff {W H : Nat} {cell img : Rows} {a b : Int} (g : Rect W H cell) (g2 : Rect W H img) {y : Nat} (hy : y < H) : fitRow cell img a b y = true ↔ ∀ x : Nat, x < W → fld cell (x + a) (y + b) = at0 img x y := by
  unfold fitRow
  rw [decide_eq_true_eq, g.wide, g.high]
  obtain ⟨r, e, hr, _⟩ := g.row (y := (((y : Int) + b) % (H : Int)).toNat) (toNat_mod_lt g.h1 _)
  obtain ⟨s, e2, hs, _⟩ := g2.row (y := y) hy
  have e' : cell.getD (((y : Int) + b) % (H : Int)).toNat [] = r := by rw [List.getD_eq_getElem?_getD, e]; rfl
  have e2' : img.getD y [] = s := by rw [List.getD_eq_getElem?_getD, e2]; rfl
  rw [e', e2']
  have hl : (a % (W : Int)).toNat < r.length := by rw [hr]; exact toNat_mod_lt g.w1 _
  have hrot : (rot (a % (W : Int)).toNat r).length = W := by
    unfold rot
    rw [List.length_append, List.length_drop, List.length_take]
    omega
  rw [row_ext hrot hs]
  have key : ∀ x : Nat, x < W → (rot (a % (W : Int)).toNat r).getD x 0 = fld cell (x + a) (y + b) := by
    intro x hx
    rw [List.getD_eq_getElem?_getD, rot_get hl (by omega), hr, mod_add_nat g.w1, g.fld_eq]
    unfold at0
    rw [e', List.getD_eq_getElem?_getD]
  have key2 : ∀ x : Nat, at0 img x y = s.getD x 0 := fun x => by unfold at0; rw [e2']
  constructor
  · intro h x hx
    rw [← key x hx, key2, h x hx]
  · intro h x hx
    rw [key x hx, ← key2, h x hx]
theorem fits_iff {W H m : Nat} {cell img : Rows} {a b : Int} (g : Rect W H cell) (I : ImgOf W H m cell img) (hm : m < 8) (sq : m % 2 = 0 ∨ W = H) :
    fitsB cell img a b = true ↔ ∀ x y : Nat, x < W → y < H → fld cell ((tp m x y).1 + a) ((tp m x y).2 + b) = fld cell x y := by
  unfold fitsB
  rw [List.all_eq_true]
  have h0 : (∀ y ∈ List.range cell.length, fitRow cell img a b y = true) ↔ ∀ X Y : Nat, X < W → Y < H → fld cell (X + a) (Y + b) = at0 img X Y := by
    rw [g.high]
    constructor
    · intro h X Y hX hY
      exact (fitRow_iff g I.rect hY).mp (h Y (List.mem_range.mpr hY)) X hX
    · intro h y hy
      exact (fitRow_iff g I.rect (List.mem_range.mp hy)).mpr fun x hx => h x y hx (List.mem_range.mp hy)
  rw [h0]
  have mv : ∀ x y : Nat, fld cell (((tX W m x y : Nat) : Int) + a) (((tY H m x y : Nat) : Int) + b) = fld cell ((tp m x y).1 + a) ((tp m x y).2 + b) := by
    intro x y
    obtain ⟨k, e⟩ := mod_back g.w1 (tp m x y).1
    obtain ⟨l, e'⟩ := mod_back g.h1 (tp m x y).2
    have := g.fld_add (((tX W m x y : Nat) : Int) + a) (((tY H m x y : Nat) : Int) + b) k l
    rw [← this]
    unfold tX tY
    congr 1
    · omega
    · omega
  constructor
  · intro h x y hx hy
    rw [← mv, h (tX W m x y) (tY H m x y) (toNat_mod_lt g.w1 _) (toNat_mod_lt g.h1 _), I.at_ x y hx hy (place_lt hx hy), g.fld_nat hx hy]
  · intro h X Y hX hY
    obtain ⟨x, y, hx, hy, rfl, rfl⟩ := tp_surj hm sq hX hY
    rw [mv, I.at_ x y hx hy (place_lt hx hy), h x y hx hy, g.fld_nat hx hy]
/-! ### the square cell -/
def cutRows (g : Nat) (rows : Rows) : Rows := (rows.take g).map (List.take g)
def tileRow (n : Nat) (r : List Int) : List Int := (List.replicate n r).flatten
def tiled (W g h : Nat) (cell : Rows) : Rows := (List.range h).map fun y => tileRow (W / g) (cell.getD (y % g) [])
def sqSide (rows : Rows) : Nat := Nat.gcd (wide rows) rows.length
def sqOk (rows : Rows) : Bool := decide (rows = tiled (wide rows) (sqSide rows) rows.length (cutRows (sqSide rows) rows))
theorem tile_get {g : Nat} {l : List Int} (hl : l.length = g) (hg : 1 ≤ g) : ∀ (n x : Nat), x < n * g → (tileRow n l)[x]? = l[x % g]?
  | 0, x, h => by omega
  | n + 1, x, h => by
    unfold tileRow
    rw [List.replicate_succ, List.flatten_cons]
    by_cases c : x < g
    · rw [List.getElem?_append_left (by omega), Nat.mod_eq_of_lt c]
    · rw [List.getElem?_append_right (by omega), hl]
      have := tile_get hl hg n (x - g) (by rw [Nat.add_mul, Nat.one_mul] at h; omega)
      unfold tileRow at this
      rw [this, (Nat.mod_eq_sub_mod (show x ≥ g by omega)).symm]
theorem tile_len (n : Nat) (l : List Int) : (tileRow n l).length = n * l.length := by
  unfold tileRow
  induction n with
  | zero => simp
  | succ n ih =>
    rw [List.replicate_succ, List.flatten_cons, List.length_append, ih, Nat.succ_mul]
    omega
section
variable {W H : Nat} {rows : Rows}
theorem cut_at {g x y : Nat} (hx : x < g) (hy : y < g) : at0 (cutRows g rows) x y = at0 rows x y := by
  unfold at0 cutRows
  simp only [List.getD_eq_getElem?_getD, List.getElem?_map, List.getElem?_take_of_lt hy]
  cases rows[y]? with
  | none => rfl
  | some r =>
    simp only [Option.map_some, Option.getD_some, List.getElem?_take_of_lt hx]
theorem cut_rect (g : Rect W H rows) {n : Nat} (h1 : 1 ≤ n) (hW : n ≤ W) (hH : n ≤ H) : Rect n n (cutRows n rows) := by
  refine ⟨h1, h1, ?_, fun r hr => ?_⟩
  · unfold cutRows
    have := g.high
    rw [List.length_map, List.length_take]
    omega
  · unfold cutRows at hr
    obtain ⟨q, hq, rfl⟩ := List.mem_map.mp hr
    have := g.len q (List.mem_of_mem_take hq)
    rw [List.length_take]
    omega
theorem sq_pos (g : Rect W H rows) : 1 ≤ Nat.gcd W H ∧ Nat.gcd W H ≤ W ∧ Nat.gcd W H ≤ H := by
  have h1 := g.w1
  have h2 := g.h1
  exact ⟨Nat.gcd_pos_of_pos_left _ h1, Nat.gcd_le_left _ h1, Nat.gcd_le_right _ h2⟩
theorem tiled_rect (g : Rect W H rows) : Rect W H (tiled W (Nat.gcd W H) H (cutRows (Nat.gcd W H) rows)) := by
  obtain ⟨p1, p2, p3⟩ := sq_pos g
  have gc := cut_rect g p1 p2 p3
  refine ⟨g.w1, g.h1, by unfold tiled; rw [List.length_map, List.length_range], fun r hr => ?_⟩
  unfold tiled at hr
  obtain ⟨y, hy, rfl⟩ := List.mem_map.mp hr
  obtain ⟨q, e, hq, _⟩ := gc.row (y := y % Nat.gcd W H) (Nat.mod_lt _ p1)
  rw [tile_len, List.getD_eq_getElem?_getD, e, Option.getD_some, hq]
  exact Nat.div_mul_cancel (Nat.gcd_dvd_left W H)
theorem tiled_at (g : Rect W H rows) {x y : Nat} (hx : x < W) (hy : y < H) : at0 (tiled W (Nat.gcd W H) H (cutRows (Nat.gcd W H) rows)) x y = at0 rows (x % Nat.gcd W H) (y % Nat.gcd W H) := by
  obtain ⟨p1, p2, p3⟩ := sq_pos g
  have gc := cut_rect g p1 p2 p3
  rw [← cut_at (rows := rows) (Nat.mod_lt x p1) (Nat.mod_lt y p1)]
  obtain ⟨q, e, hq, _⟩ := gc.row (y := y % Nat.gcd W H) (Nat.mod_lt _ p1)
  unfold at0 tiled
  have e0 : (cutRows (Nat.gcd W H) rows).getD (y % Nat.gcd W H) [] = q := by rw [List.getD_eq_getElem?_getD, e]; rfl
  rw [e0]
  have e1 : ((List.range H).map fun y => tileRow (W / Nat.gcd W H) ((cutRows (Nat.gcd W H) rows).getD (y % Nat.gcd W H) [])).getD y [] = tileRow (W / Nat.gcd W H) q := by
    rw [List.getD_eq_getElem?_getD, List.getElem?_map, List.getElem?_range hy]
    show tileRow _ ((cutRows (Nat.gcd W H) rows).getD (y % Nat.gcd W H) []) = _
    rw [e0]
  rw [e1, List.getD_eq_getElem?_getD, List.getD_eq_getElem?_getD, tile_get hq p1 _ _ (by rw [Nat.div_mul_cancel (Nat.gcd_dvd_left W H)]; exact hx)]
theorem rows_ext {r s : Rows} (g : Rect W H r) (g2 : Rect W H s) : r = s ↔ ∀ x y, x < W → y < H → at0 r x y = at0 s x y := by
  refine ⟨fun h x y _ _ => by rw [h], fun h => ?_⟩
  have l1 := g.high
  have l2 := g2.high
  apply List.ext_getElem (by omega)
  intro y hy hy'
  have e1 : r.getD y [] = r[y] := by rw [List.getD_eq_getElem?_getD, List.getElem?_eq_getElem hy]; rfl
  have e2 : s.getD y [] = s[y] := by rw [List.getD_eq_getElem?_getD, List.getElem?_eq_getElem hy']; rfl
  refine (row_ext (g.len _ (List.getElem_mem hy)) (g2.len _ (List.getElem_mem hy'))).mpr fun x hx => ?_
  have := h x y hx (by omega)
  unfold at0 at this
  rwa [e1, e2] at this
theorem sqOk_iff (g : Rect W H rows) : sqOk rows = true ↔ Rep (fld rows) (Nat.gcd W H) (Nat.gcd W H) := by
  obtain ⟨p1, p2, p3⟩ := sq_pos g
  unfold sqOk sqSide
  rw [decide_eq_true_eq, g.wide, g.high, rows_ext g (tiled_rect g)]
  constructor
  · intro h
    have hf : ∀ X Y : Int, fld rows X Y = at0 rows (X % (Nat.gcd W H : Int)).toNat (Y % (Nat.gcd W H : Int)).toNat := by
      intro X Y
      rw [g.fld_eq, h _ _ (toNat_mod_lt g.w1 _) (toNat_mod_lt g.h1 _), tiled_at g (toNat_mod_lt g.w1 _) (toNat_mod_lt g.h1 _)]
      have c : ∀ (Z : Int) (N : Nat), 1 ≤ N → Nat.gcd W H ∣ N → (Z % (N : Int)).toNat % Nat.gcd W H = (Z % (Nat.gcd W H : Int)).toNat := by
        intro Z N hN d
        have e : ((((Z % (N : Int)).toNat % Nat.gcd W H : Nat)) : Int) = Z % (Nat.gcd W H : Int) := by
          rw [Int.natCast_emod, toNat_mod_cast hN, Int.emod_emod_of_dvd _ (Int.natCast_dvd_natCast.mpr d)]
        have q := congrArg Int.toNat e
        rwa [Int.toNat_natCast] at q
      rw [c X W g.w1 (Nat.gcd_dvd_left W H), c Y H g.h1 (Nat.gcd_dvd_right W H)]
    constructor
    · intro Y X
      show fld rows (X + (Nat.gcd W H : Int)) Y = fld rows X Y
      rw [hf, hf, Int.add_emod_right]
    · intro X Y
      show fld rows X (Y + (Nat.gcd W H : Int)) = fld rows X Y
      rw [hf, hf, Int.add_emod_right]
  · intro r x y hx hy
    rw [tiled_at g hx hy, ← g.fld_nat hx hy, ← g.fld_nat (x := x % Nat.gcd W H) (y := y % Nat.gcd W H) (Nat.lt_of_le_of_lt (Nat.mod_le _ _) hx) (Nat.lt_of_le_of_lt (Nat.mod_le _ _) hy)]
    have := r.add ((x % Nat.gcd W H : Nat) : Int) ((y % Nat.gcd W H : Nat) : Int) ((x / Nat.gcd W H : Nat) : Int) ((y / Nat.gcd W H : Nat) : Int)
    rw [← this]
    have a1 := Nat.mod_add_div x (Nat.gcd W H)
    have a2 := Nat.mod_add_div y (Nat.gcd W H)
    congr 1
    · exact_mod_cast a1.symm
    · exact_mod_cast a2.symm
theorem sq_fld (g : Rect W H rows) (h : sqOk rows = true) (X Y : Int) : fld (cutRows (Nat.gcd W H) rows) X Y = fld rows X Y := by
  obtain ⟨p1, p2, p3⟩ := sq_pos g
  have gc := cut_rect g p1 p2 p3
  have r := (sqOk_iff g).mp h
  rw [gc.fld_eq, cut_at (toNat_mod_lt p1 _) (toNat_mod_lt p1 _)]
  have hx := toNat_mod_lt p1 X
  have hy := toNat_mod_lt p1 Y
  rw [← g.fld_nat (Nat.lt_of_lt_of_le hx p2) (Nat.lt_of_lt_of_le hy p3)]
  obtain ⟨k, e⟩ := mod_back p1 X
  obtain ⟨l, e'⟩ := mod_back p1 Y
  have := r.add (((X % (Nat.gcd W H : Int)).toNat : Nat) : Int) (((Y % (Nat.gcd W H : Int)).toNat : Nat) : Int) k l
  rw [← this, ← e, ← e']
end
/-! ### what has decides -/
/-- the cell that a motion's turn brings onto itself -/
def cellFor (rows : Rows) (m : Nat) : Option Rows := if m % 2 = 1 then (if sqOk rows = true then some (cutRows (sqSide rows) rows) else none) else some rows
/-- its breadth and height -/
def cW (rows : Rows) (m : Nat) : Nat := if m % 2 = 1 then sqSide rows else wide rows
def cH (rows : Rows) (m : Nat) : Nat := if m % 2 = 1 then sqSide rows else rows.length
theorem cell_none {rows : Rows} {m : Nat} {a b : Int} (g : Good rows) (hm : m < 8) (h : cellFor rows m = none) : Rg.isSym (chartR rows) ⟨m, a, b⟩ = false := by
  unfold cellFor at h
  by_cases od : m % 2 = 1
  · rw [if_pos od] at h
    by_cases c : sqOk rows = true
    · rw [if_pos c] at h; cases h
    · apply Bool.eq_false_iff.mpr
      intro z
      have s := (isSym_iff g hm a b).mp z
      have r := g.rect.rep
      exact c ((sqOk_iff g.rect).mpr (r.gcd (sym_odd_rep r hm od s)))
  · rw [if_neg od] at h; cases h
theorem cell_some {rows cell : Rows} {m : Nat} (g : Good rows) (h : cellFor rows m = some cell) : Rect (cW rows m) (cH rows m) cell ∧ (m % 2 = 0 ∨ cW rows m = cH rows m) ∧ (∀ X Y, fld cell X Y = fld rows X Y) ∧ Rep (fld rows) (cW rows m) (cH rows m) := by
  unfold cellFor at h
  unfold cW cH
  by_cases od : m % 2 = 1
  · rw [if_pos od] at h
    rw [if_pos od, if_pos od]
    by_cases c : sqOk rows = true
    · rw [if_pos c] at h
      cases h
      obtain ⟨p1, p2, p3⟩ := sq_pos g.rect
      exact ⟨cut_rect g.rect p1 p2 p3, .inr rfl, fun X Y => sq_fld g.rect c X Y, (sqOk_iff g.rect).mp c⟩
    · rw [if_neg c] at h; cases h
  · rw [if_neg od] at h
    rw [if_neg od, if_neg od]
    cases h
    exact ⟨g.rect, .inl (by omega), fun _ _ => rfl, g.rect.rep⟩
theorem fits_sym {rows cell img : Rows} {m : Nat} {a b : Int} (g : Good rows) (hm : m < 8) (h : cellFor rows m = some cell) (I : ImgOf (cW rows m) (cH rows m) m cell img) : fitsB cell img a b = Rg.isSym (chartR rows) ⟨m, a, b⟩ := by
  obtain ⟨gc, sq, hf, r⟩ := cell_some g h
  apply Bool.eq_iff_iff.mpr
  rw [fits_iff gc I hm sq, isSym_iff g hm, sym_cell r gc.w1 gc.h1 hm sq]
  simp only [hf]
end Kc

namespace Kc
open PySem PySem.Spec PyProof.Rows L2
/-! ### heaps -/
theorem same_upd {H : Hp} {p : Addr} {o : HO} (h : H p = none) : Same H (upd H p o) := fun b x e => by
  rw [upd_ne (ne_of_none e h)]
  exact e
/-- a store at what was not there at first -/
theorem same_put {H H' : Hp} {p : Addr} {o : HO} (s : Same H H') (h : H p = none) : Same H (upd H' p o) := fun b x e => by
  rw [upd_ne (ne_of_none e h)]
  exact s b x e
theorem same_new {H H' : Hp} {p : Addr} {o : HO} (s : Same H H') (h : H' p = none) : Same H (upd H' p o) := same_put s (Same.free s h)
/-- a list of ints -/
def IntsAt (H : Hp) (a : Addr) (r : List Int) : Prop := H a = some (.lst (r.map V.int))
/-- a list of lists of ints, at these addresses -/
def RowsAt (H : Hp) (p : Addr) (ps : List Addr) (rows : Rows) : Prop := H p = some (.lst (ps.map V.ref)) ∧ ps.length = rows.length ∧ ∀ (i : Nat) (a : Addr) (r : List Int), ps[i]? = some a → rows[i]? = some r → IntsAt H a r
theorem same_ints {H H' : Hp} (s : Same H H') {a : Addr} {r : List Int} (h : IntsAt H a r) : IntsAt H' a r := s _ _ h
theorem same_rows {H H' : Hp} (s : Same H H') {p : Addr} {ps : List Addr} {rows : Rows} (h : RowsAt H p ps rows) : RowsAt H' p ps rows := ⟨s _ _ h.1, h.2.1, fun i a r e1 e2 => s _ _ (h.2.2 i a r e1 e2)⟩
theorem RowsAt.get {H : Hp} {p : Addr} {ps : List Addr} {rows : Rows} (h : RowsAt H p ps rows) {i : Nat} {r : List Int} (e : rows[i]? = some r) : ∃ a, ps[i]? = some a ∧ IntsAt H a r := by
  have hi := (List.getElem?_eq_some_iff.mp e).1
  have hj : i < ps.length := by rw [h.2.1]; exact hi
  exact ⟨ps[i], List.getElem?_eq_getElem hj, h.2.2 i _ _ (List.getElem?_eq_getElem hj) e⟩
theorem line_lt {n : Nat} (h : n ≤ 16777215) : n < sizeLine := by rw [sizeLine_eq]; omega
theorem line_le {n : Nat} (h : n ≤ 16777216) : n ≤ sizeLine := by rw [sizeLine_eq]; omega
theorem map_get {α β : Type} {f : α → β} {l : List α} {i : Nat} {y : β} (h : (l.map f)[i]? = some y) : ∃ x, l[i]? = some x ∧ y = f x := by
  rw [List.getElem?_map] at h
  obtain ⟨x, e, rfl⟩ := Option.map_eq_some_iff.mp h
  exact ⟨x, e, rfl⟩
theorem take_succ {α : Type} {l : List α} {i : Nat} {x : α} (h : l[i]? = some x) : l.take (i + 1) = l.take i ++ [x] := by
  rw [List.take_add_one, h]; rfl
theorem rel_int (i : Int) (t : Tok) : RelV (.int i) (.int i t) := ⟨t, rfl⟩
theorem yes_ite {σ : L2.St} {H : Hp} {A B : Hp → Prop} (h : A H) : tYes σ H (fun b H3 => if b = true then A H3 else B H3) := by
  show (if true = true then A H else B H)
  rw [if_pos rfl]
  exact h
theorem RowsAt.there {H : Hp} {p : Addr} {ps : List Addr} {rows : Rows} (h : RowsAt H p ps rows) {a : Addr} (ha : a ∈ ps) : ∃ o, H a = some o := by
  obtain ⟨i, hi, rfl⟩ := List.mem_iff_getElem.mp ha
  have hj : i < rows.length := by rw [← h.2.1]; exact hi
  exact ⟨_, h.2.2 i _ _ (List.getElem?_eq_getElem hi) (List.getElem?_eq_getElem hj)⟩
theorem RowsAt.put {H : Hp} {p b : Addr} {ps : List Addr} {rows : Rows} {o : HO} (h : RowsAt H p ps rows) (hb : p ≠ b) (hn : b ∉ ps) : RowsAt (upd H b o) p ps rows := by
  refine ⟨by rw [upd_ne hb]; exact h.1, h.2.1, fun i a r e1 e2 => ?_⟩
  have : a ≠ b := fun z => hn (z ▸ List.mem_of_getElem? e1)
  show upd H b o a = _
  rw [upd_ne this]
  exact h.2.2 i a r e1 e2
theorem RowsAt.push {H : Hp} {p q : Addr} {ps : List Addr} {rows : Rows} {r : List Int} (h : RowsAt H p ps rows) (hq : IntsAt H q r) (hp : p ∉ ps) (hpq : p ≠ q) : RowsAt (upd H p (.lst (ps.map V.ref ++ [.ref q]))) p (ps ++ [q]) (rows ++ [r]) := by
  refine ⟨by rw [upd_same, List.map_append]; rfl, by rw [List.length_append, List.length_append, h.2.1]; rfl, fun i a r' e1 e2 => ?_⟩
  have hl := h.2.1
  by_cases hi : i < ps.length
  · rw [List.getElem?_append_left hi] at e1
    rw [List.getElem?_append_left (by omega)] at e2
    have : a ≠ p := fun z => hp (z ▸ List.mem_of_getElem? e1)
    show upd H p _ a = _
    rw [upd_ne this]
    exact h.2.2 i a r' e1 e2
  · have hlt := (List.getElem?_eq_some_iff.mp e1).1
    rw [List.length_append, List.length_singleton] at hlt
    have hi2 : i = ps.length := by omega
    subst hi2
    rw [List.getElem?_append_right (Nat.le_refl _)] at e1
    rw [hl, List.getElem?_append_right (Nat.le_refl _)] at e2
    simp at e1 e2
    subst e1 e2
    show upd H p _ q = _
    rw [upd_ne (Ne.symm hpq)]
    exact hq
/-! ### promises -/
def spColour : Sp := fun vs H Q _ => ∃ b : Int, vs = [.int b] ∧ Q (.bl (isCol b)) H
def spChartRow (K : PySem.W.Frag) : Sp := fun vs H Q _ => ∃ (a : Addr) (w : Nat) (r : List Int), vs = [.ref a, .int w] ∧ SqL K H a (r.map V.int) ∧ r.length ≤ 70000 ∧ ∀ H', Same H H' → Q (.bl (rowOk w r)) H'
def spIsChart : Sp := fun vs H Q _ => ∃ (p : Addr) (ps : List Addr) (rows : Rows), vs = [.ref p] ∧ RowsAt H p ps rows ∧ rows ≠ [] ∧ rows.length ≤ 70000 ∧ (∀ r ∈ rows, r.length ≤ 70000) ∧ ∀ H', Same H H' → Q (.bl (chartOk rows)) H'
def spSplit (K : PySem.W.Frag) : Sp := fun vs H Q _ => ∃ (a : Addr) (t : List Int), vs = [.ref a] ∧ SqL K H a (t.map V.int) ∧ t.length ≤ 70000 ∧ ∀ H' p ps, Same H H' → RowsAt H' p ps (splitRows t) → Q (.ref p) H'
def spRefusal (K : PySem.W.Frag) : Sp := fun vs H Q _ => ∃ (a : Addr) (t : List Int), vs = [.ref a] ∧ SqL K H a (t.map V.int) ∧ t.length ≤ 70000 ∧ ∀ H', Same H H' → Q (.int (refusal t)) H'
end Kc

namespace Kc
open PySem PySem.Spec PyProof.Rows L2
theorem go_take {t : List Int} {i : Nat} {z : Int} (h : t[i]? = some z) : splitGo (t.take (i + 1)) = spStep (splitGo (t.take i)) z := by
  unfold splitGo
  rw [take_succ h, List.foldl_append]
  rfl
theorem go_len (t : List Int) : ∀ s : Rows × List Int, (t.foldl spStep s).1.length ≤ s.1.length + t.length ∧ (t.foldl spStep s).2.length ≤ s.2.length + t.length := by
  induction t with
  | nil => intro s; simp
  | cons x r ih =>
    intro s
    rw [List.foldl_cons]
    have := ih (spStep s x)
    unfold spStep at this ⊢
    by_cases h : x = 10
    · simp [h] at this ⊢
      omega
    · simp [h] at this ⊢
      omega
theorem go_len0 (t : List Int) : (splitGo t).1.length ≤ t.length ∧ (splitGo t).2.length ≤ t.length := by
  have := go_len t ([], [])
  simpa [splitGo] using this
/-! ### data that is compared -/
def dInts (r : List Int) : PyData := .list (r.map PyData.int)
def dRows (rows : Rows) : PyData := .list (rows.map dInts)
theorem ints_lay : ∀ r : List Int, PyData.canLayAll0 (r.map PyData.int) = true ∧ PyData.depthAll (r.map PyData.int) = 0
  | [] => by simp [PyData.canLayAll0, PyData.depthAll]
  | x :: r => by
    have ih := ints_lay r
    simp [PyData.canLayAll0, PyData.depthAll, PyData.canLay0, PyData.depth, ih]
theorem rows_lay : ∀ rows : Rows, PyData.canLayAll0 (rows.map dInts) = true ∧ PyData.depthAll (rows.map dInts) ≤ 1
  | [] => by simp [PyData.canLayAll0, PyData.depthAll]
  | r :: rows => by
    have ih := rows_lay rows
    have h := ints_lay r
    simp [PyData.canLayAll0, PyData.depthAll, dInts, PyData.canLay0, PyData.depth, h]
    refine ⟨ih.1, ?_⟩
    have := ih.2
    omega
theorem ints_shaped (r : List Int) : SeqAt.shaped (dInts r) = true := by
  have h := ints_lay r
  show ((dInts r).canLay0 && decide ((dInts r).depth ≤ 64)) = true
  simp [dInts, PyData.canLay0, PyData.depth, h]
theorem rows_shaped (rows : Rows) : SeqAt.shaped (dRows rows) = true := by
  have h := rows_lay rows
  show ((dRows rows).canLay0 && decide ((dRows rows).depth ≤ 64)) = true
  simp only [dRows, PyData.canLay0, PyData.depth, h.1, Bool.true_and, decide_eq_true_eq]
  omega
theorem ints_eqvAll : ∀ r s : List Int, PyData.eqvAll (r.map PyData.int) (s.map PyData.int) = decide (r = s)
  | [], [] => by simp [PyData.eqvAll]
  | [], y :: s => by simp [PyData.eqvAll]
  | x :: r, [] => by simp [PyData.eqvAll]
  | x :: r, y :: s => by
    have ih := ints_eqvAll r s
    simp only [List.map_cons, PyData.eqvAll, PyData.eqv, ih]
    by_cases h : x = y <;> simp [h]
theorem ints_eqv (r s : List Int) : PyData.eqv (dInts r) (dInts s) = decide (r = s) := by
  simp only [dInts, PyData.eqv]
  exact ints_eqvAll r s
theorem rows_eqvAll : ∀ r s : Rows, PyData.eqvAll (r.map dInts) (s.map dInts) = decide (r = s)
  | [], [] => by simp [PyData.eqvAll]
  | [], y :: s => by simp [PyData.eqvAll]
  | x :: r, [] => by simp [PyData.eqvAll]
  | x :: r, y :: s => by
    have ih := rows_eqvAll r s
    simp only [List.map_cons, PyData.eqvAll, ints_eqv, ih]
    by_cases h : x = y <;> simp [h]
theorem rows_eqv (r s : Rows) : PyData.eqv (dRows r) (dRows s) = decide (r = s) := by
  simp only [dRows, PyData.eqv]
  exact rows_eqvAll r s
theorem ints_all {K : PySem.W.Frag} {H : Hp} : ∀ r : List Int, DpAll K H (r.map V.int) (r.map PyData.int)
  | [] => .nil
  | x :: r => .cons (.int x) (ints_all r)
theorem ints_dp {K : PySem.W.Frag} {H : Hp} {a : Addr} {r : List Int} (h : IntsAt H a r) : Dp K H (.ref a) (dInts r) := .lst (SqL.of h) (ints_all r)
theorem rows_all {K : PySem.W.Frag} {H : Hp} : ∀ (ps : List Addr) (rows : Rows), ps.length = rows.length → (∀ (i : Nat) (a : Addr) (r : List Int), ps[i]? = some a → rows[i]? = some r → IntsAt H a r) → DpAll K H (ps.map V.ref) (rows.map dInts)
  | [], [], _, _ => .nil
  | [], _ :: _, h, _ => by simp at h
  | _ :: _, [], h, _ => by simp at h
  | p :: ps, r :: rows, h, q => .cons (ints_dp (q 0 p r rfl rfl)) (rows_all ps rows (by simpa using h) fun i a r e1 e2 => q (i + 1) a r (by simpa using e1) (by simpa using e2))
theorem rows_dp {K : PySem.W.Frag} {H : Hp} {p : Addr} {ps : List Addr} {rows : Rows} (h : RowsAt H p ps rows) : Dp K H (.ref p) (dRows rows) := .lst (SqL.of h.1) (rows_all ps rows h.2.1 h.2.2)
/-! ### slices, places -/
theorem cut_to (xs : List V) (n : Nat) : cutV xs none (some (n : Int)) = xs.take n := by
  unfold cutV
  rw [show HT.sIx xs.length xs.length (some (n : Int)) = min n xs.length from HT.sIx_nat xs.length xs.length n, HT.sIx_none]
  simp
theorem cut_from (xs : List V) (n : Nat) : cutV xs (some (n : Int)) none = xs.drop n := by
  unfold cutV
  rw [show HT.sIx xs.length 0 (some (n : Int)) = min n xs.length from HT.sIx_nat xs.length 0 n, HT.sIx_none]
  by_cases h : n ≤ xs.length
  · rw [Nat.min_eq_left h]
    exact List.take_of_length_le (by rw [List.length_drop]; omega)
  · rw [Nat.min_eq_right (by omega), List.drop_of_length_le (by omega), List.drop_of_length_le (by omega)]
    simp
theorem ixN_nat {n : Nat} {i : Int} (h0 : 0 ≤ i) (h1 : i < n) : ixN n i = some i.toNat := by
  unfold ixN
  rw [if_pos h0, if_pos h1]
theorem RowsAt.store {H : Hp} {p a : Addr} {ps : List Addr} {rows : Rows} {i : Nat} {r : List Int} (h : RowsAt H p ps rows) (nd : ps.Nodup) (hp : p ∉ ps) (e : ps[i]? = some a) : RowsAt (upd H a (.lst (r.map V.int))) p ps (rows.set i r) := by
  have hpa : p ≠ a := fun z => hp (z ▸ List.mem_of_getElem? e)
  refine ⟨by rw [upd_ne hpa]; exact h.1, by rw [List.length_set]; exact h.2.1, fun j b s e1 e2 => ?_⟩
  by_cases c : j = i
  · subst c
    rw [e] at e1
    cases e1
    have hj : j < rows.length := by rw [← h.2.1]; exact (List.getElem?_eq_some_iff.mp e).1
    rw [List.getElem?_set_self hj] at e2
    cases e2
    exact upd_same
  · rw [List.getElem?_set_ne (Ne.symm c)] at e2
    have : b ≠ a := fun z => by
      subst z
      exact c (nd_ix nd e1 e)
    show upd H a _ b = _
    rw [upd_ne this]
    exact h.2.2 j b s e1 e2
theorem zeros_map : ∀ n : Nat, (List.replicate n [V.int 0]).flatten = (List.replicate n (0 : Int)).map V.int
  | 0 => rfl
  | n + 1 => by
    rw [List.replicate_succ, List.flatten_cons, zeros_map n, List.replicate_succ]
    rfl
theorem tile_map (r : List Int) : ∀ n : Nat, (List.replicate n (r.map V.int)).flatten = (tileRow n r).map V.int
  | 0 => rfl
  | n + 1 => by
    unfold tileRow
    rw [List.replicate_succ, List.flatten_cons, tile_map r n, List.replicate_succ, List.flatten_cons, List.map_append]
    rfl
/-! ### promises -/
def spMeasure : Sp := fun vs H Q _ => ∃ n m : Nat, vs = [.int n, .int m] ∧ Q (.int (Nat.gcd n m : Nat)) H
def spPlace : Sp := fun vs H Q _ => ∃ (m : Nat) (x y : Int), vs = [.int m, .int x, .int y] ∧ m < 8 ∧ ∀ H' p, Same H H' → H' p = some (.tup [.int (tp m x y).1, .int (tp m x y).2]) → Q (.ref p) H'
def spSquare : Sp := fun vs H Q _ => ∃ (p : Addr) (ps : List Addr) (rows : Rows), vs = [.ref p] ∧ RowsAt H p ps rows ∧ Rect (wide rows) rows.length rows ∧ wide rows ≤ 70000 ∧ rows.length ≤ 70000 ∧
  (sqOk rows = true → ∀ H' q qs, Same H H' → RowsAt H' q qs (cutRows (sqSide rows) rows) → Q (.ref q) H') ∧ (sqOk rows = false → ∀ H', Same H H' → Q .non H')
def spCellFor : Sp := fun vs H Q _ => ∃ (p : Addr) (ps : List Addr) (rows : Rows) (m : Nat), vs = [.ref p, .int m] ∧ RowsAt H p ps rows ∧ Rect (wide rows) rows.length rows ∧ wide rows ≤ 70000 ∧ rows.length ≤ 70000 ∧
  (∀ cell, cellFor rows m = some cell → ∀ H' q qs, Same H H' → RowsAt H' q qs cell → Q (.ref q) H') ∧ (cellFor rows m = none → ∀ H', Same H H' → Q .non H')
def spTurned : Sp := fun vs H Q _ => ∃ (p : Addr) (ps : List Addr) (cell : Rows) (m W Ht : Nat), vs = [.ref p, .int m] ∧ RowsAt H p ps cell ∧ Rect W Ht cell ∧ W ≤ 70000 ∧ Ht ≤ 70000 ∧ m < 8 ∧ (m % 2 = 0 ∨ W = Ht) ∧
  ∀ H' q qs img, Same H H' → RowsAt H' q qs img → ImgOf W Ht m cell img → Q (.ref q) H'
def spFits : Sp := fun vs H Q _ => ∃ (p : Addr) (ps : List Addr) (cell : Rows) (q : Addr) (qs : List Addr) (img : Rows) (W Ht : Nat) (a b : Int), vs = [.ref p, .ref q, .int a, .int b] ∧ RowsAt H p ps cell ∧ RowsAt H q qs img ∧ Rect W Ht cell ∧ Rect W Ht img ∧ W ≤ 70000 ∧ Ht ≤ 70000 ∧
  ∀ H', Same H H' → Q (.bl (fitsB cell img a b)) H'
end Kc

namespace Kc
open PySem PySem.Spec PyProof.Rows L2
/-- len, for a comprehension's element -/
def rLenS (K : PySem.W.Frag) : List V → Hp → VK → Prop := fun xs H Q => ∃ p ys, xs = [V.ref p] ∧ (SqL K H p ys ∨ SqT K H p ys) ∧ Q (.int ys.length) H
/-! ### the specification over texts, and bounds -/
theorem ref_ok {t : List Int} (h : ¬ refusal t < 0) : ¬ 66048 < t.length ∧ textOk t = true := by
  unfold refusal at h
  by_cases c : 66048 < t.length
  · rw [if_pos c] at h
    omega
  · rw [if_neg c] at h
    refine ⟨c, ?_⟩
    cases e : textOk t with
    | true => rfl
    | false =>
      rw [e] at h
      simp at h
/-- the specification over texts -/
theorem ofChart_eq (t : List Int) (h : ∀ x ∈ t, inB x) (f : Rg.Chart → Rg.Ans) : RugBNeutral.shown (RugB.ofChart (RugBNeutral.text t) f) = if refusal t < 0 then [refusal t] else RugBNeutral.shown (f (chartR (splitRows t))) := by
  unfold RugB.ofChart
  rw [text_eq, List.length_map]
  unfold refusal
  by_cases c : 66048 < t.length
  · rw [if_pos (show Rg.TEXT < t.length from c), if_pos c]
    rfl
  · rw [if_neg (show ¬ Rg.TEXT < t.length from c), if_neg c]
    cases e : textOk t with
    | true =>
      rw [chart_some h e]
      rfl
    | false =>
      rw [chart_none h e]
      rfl
theorem split_len {t : List Int} : ∀ r ∈ splitRows t, r.length ≤ t.length := by
  intro r hr
  have e := congrArg List.length (split_join t)
  rw [List.length_append, flat_len] at e
  have : ∀ l : Rows, r ∈ l → r.length ≤ (l.map fun r => r.length + 1).sum := by
    intro l
    induction l with
    | nil => intro z; simp at z
    | cons x l ih =>
      intro z
      rw [List.map_cons, List.sum_cons]
      rcases List.mem_cons.mp z with rfl | z
      · omega
      · have := ih z
        omega
  have := this _ hr
  omega
theorem good_wide {t : List Int} (h : t.length ≤ 70000) : wide (splitRows t) ≤ 70000 ∧ (splitRows t).length ≤ 70000 := by
  have gl := (go_len0 t).1
  constructor
  · unfold wide
    cases hc : splitRows t with
    | nil => simp
    | cons r l =>
      have := split_len (t := t) r (by rw [hc]; simp)
      show r.length ≤ 70000
      omega
  · show (splitGo t).1.length ≤ 70000
    omega
theorem cell_le {rows : Rows} (g : Good rows) (m : Nat) : cW rows m ≤ 512 ∧ cH rows m ≤ 512 := by
  have h1 := g.w2
  have h2 := g.h2
  have h3 := sq_pos g.rect
  unfold cW cH sqSide
  by_cases c : m % 2 = 1
  · rw [if_pos c, if_pos c]
    omega
  · rw [if_neg c, if_neg c]
    omega
end Kc

namespace Kc
open PySem PySem.Spec PyProof.Rows L2
def topS (i : Nat) : Stmt := PySem.Challenge.pw_knotcharts_s06_kind.main.body.getD i (.Pass ⟨0, 0, 0, 0⟩)
abbrev sKind : Stmt := topS 10
abbrev sRefusal : Stmt := topS 11
abbrev sSplit : Stmt := topS 12
abbrev sIsChart : Stmt := topS 13
abbrev sChartRow : Stmt := topS 14
abbrev sColour : Stmt := topS 15
abbrev sToldTurn : Stmt := topS 16
abbrev sTwice : Stmt := topS 17
abbrev sHasGlide : Stmt := topS 18
abbrev sIsTwice : Stmt := topS 19
abbrev sKindNo : Stmt := topS 20
abbrev sKindW : Stmt := topS 21
abbrev sKindH : Stmt := topS 22
abbrev sKindQ : Stmt := topS 23
abbrev sCellFor : Stmt := topS 24
abbrev sSquare : Stmt := topS 25
abbrev sMeasure : Stmt := topS 26
abbrev sTurned : Stmt := topS 27
abbrev sPlace : Stmt := topS 28
abbrev sFits : Stmt := topS 29
end Kc
namespace Kc
open PySem PySem.Spec PyProof.Rows L2
section
variable {P : Program} {w : World} {K : PySem.W.Frag} {mg : Str → Option Value} {base : Heap}
theorem scColour : FnScope ["byte"] ["byte"] (defScope sColour) := ⟨rfl, rfl, rfl, by decide +kernel, rfl, by decide +kernel, by decide +kernel⟩
theorem ok_colour {f : Addr} {fd : FuncData} {k : Nat} (F : Fun K "is_colour" "is_colour" sColour f fd) : FnOk P w K mg base CX0 (k + 1) f fd ["byte"] spColour := by
  refine F.ok scColour (fun vs H Q E h => ?_) (fun cdv A outer s H vs Q E hr h => ?_)
  · obtain ⟨b, rfl, _⟩ := h
    rfl
  · obtain ⟨b, rfl, q⟩ := h
    refine ⟨_, pss_one (ps_ret (pe_or (pe_chain op_le op_le pe_int (pv 0) pe_int) (pe_or (pe_chain op_le op_le pe_int (pv 0) pe_int) (pe_one (pe_chain op_le op_le pe_int (pv 0) pe_int))))), ?_⟩
    have go : ∀ (lo hi : Int) (R : V → Hp → Prop), R (.bl (decide (lo ≤ b ∧ b ≤ hi))) H → tChain (rI0 fun i j => .bl (decide (i ≤ j))) (rI0 fun i j => .bl (decide (i ≤ j))) (tC (.int lo)) (tVar 0) (tC (.int hi)) (start ["byte"] [.int b]) H R := by
      intro lo hi R hR
      refine ⟨.int b, rfl, lo, b, rfl, rfl, _, rfl, ite2 (fun h => ⟨b, hi, rfl, rfl, ?_⟩) (fun h => ?_)⟩
      · have h1 := of_decide_eq_true h
        show R (.bl (decide (b ≤ hi))) H
        rw [show decide (b ≤ hi) = decide (lo ≤ b ∧ b ≤ hi) by simp [h1]]
        exact hR
      · have h1 : ¬ lo ≤ b := fun z => h (decide_eq_true z)
        rw [show decide (lo ≤ b ∧ b ≤ hi) = false by simp [h1]] at hR
        exact hR
    refine go _ _ _ ⟨_, rfl, ite2 (fun h1 => ?_) (fun h1 => go _ _ _ ⟨_, rfl, ite2 (fun h2 => ?_) (fun h2 => go _ _ _ ?_)⟩)⟩
    all_goals (simp only [decide_eq_true_eq] at *)
    · rw [show isCol b = true by unfold isCol; exact decide_eq_true (by omega)] at q
      exact q
    · rw [show isCol b = true by unfold isCol; exact decide_eq_true (by omega)] at q
      exact q
    · rw [show isCol b = decide (48 ≤ b ∧ b ≤ 57) by unfold isCol; exact decide_eq_decide.mpr (by omega)] at q
      exact q
theorem scChartRow : FnScope ["row", "width", "byte"] ["row", "width"] (defScope sChartRow) := ⟨rfl, rfl, rfl, by decide +kernel, rfl, by decide +kernel, by decide +kernel⟩
theorem ok_chartRow {f fC : Addr} {fd fdC : FuncData} {k : Nat} (F : Fun K "is_chart_row" "is_chart_row" sChartRow f fd) (G : FnOk P w K mg base CX0 (k + 1) fC fdC ["byte"] spColour) (kC : PySem.W.keepIn K (.ref fC) = true)
    (bC : Binds K fdC ["byte"] []) (mC : mg "is_colour" = some (.ref fC)) (ml : mg "len" = none) (ma : mg "all" = none) : FnOk P w K mg base CX0 (k + 2) f fd ["row", "width"] (spChartRow K) := by
  refine F.ok scChartRow (fun vs H Q E h => ?_) (fun cdv A outer s H vs Q E hr h => ?_)
  · obtain ⟨a, wd, r, rfl, _⟩ := h
    rfl
  · obtain ⟨a, wd, r, rfl, hS, hlen, q⟩ := h
    refine ⟨_, pss_one (ps_ret (pe_and (pe_cmpR op_eq (pe_callB call_len_seq (by rfl) ml PySem.boot_len (pa_cons (pv 0) pa_nil)) (pv 1) (nomark _))
      (pe_one (pe_callB (cr_all rfl) (by rfl) ma (by decide +kernel) (pa_cons (pe_lc (own := [("byte", 2)]) (g := gName 2) (tt := tYes) rfl scChartRow.nd (pi_list (pv 0)) (blkOk_by (own := [("byte", 2)]) (N := ["row", "width", "byte"]) (sc := defScope sChartRow) (by decide +kernel))
        (fun _ _ _ _ _ => pg_name (i := 2) scChartRow.nd rfl (Or.inl rfl)) (fun _ _ _ _ _ => pts_nil) (fun _ _ _ _ _ => pe_call G hr (by rfl) mC kC bC .nil pass0 (pa_cons (pv 2) pa_nil))) pa_nil))))), ?_⟩
    refine ⟨.ref a, rfl, a, r.map V.int, rfl, .inl hS, .int wd, rfl, rfl, _, rfl, ite2 (fun e => ?_) (fun e => ?_)⟩
    · have e1 : r.length = wd := by
        have := V.int.inj (of_decide_eq_true e)
        rw [List.length_map] at this
        omega
      refine ⟨.ref a, rfl, a, rfl, ⟨_, hS⟩, fun D nD => lc_list (K := K) (a := a) (xs := r.map V.int) (fun i H' => Same H H' ∧ H' D = some (.lst ((r.take i).map fun x => V.bl (isCol x)))) ⟨same_upd nD, upd_same⟩ (fun i H' _ ⟨sm, _⟩ => sm.seq hS) ?_ ?_⟩
      · rintro i x H' hx ⟨sm, hD⟩
        obtain ⟨z, hz, rfl⟩ := map_get hx
        refine ⟨rfl, ?_⟩
        refine yes_ite ?_
        refine ⟨_, rfl, z, rfl, _, hD, ?_, same_put sm nD, ?_⟩
        · rw [List.length_map, List.length_take]
          exact line_lt (by omega)
        · rw [upd_same, take_succ hz, List.map_append]
          rfl
      · rintro H' ⟨sm, hD⟩
        rw [List.length_map, List.take_length] at hD
        refine ⟨D, r.map isCol, rfl, SqL.of (by rw [List.map_map]; exact hD), ?_⟩
        have := q H' sm
        rw [show rowOk wd r = (r.map isCol).all id by unfold rowOk; rw [decide_eq_true e1, List.all_map]; rfl] at this
        exact this
    · have e1 : ¬ r.length = wd := fun z => e (decide_eq_true (by rw [List.length_map, z]))
      have := q H (Same.refl H)
      rw [show rowOk wd r = false by unfold rowOk; rw [decide_eq_false e1]; rfl] at this
      exact this
end
end Kc

namespace Kc
open PySem PySem.Spec PyProof.Rows L2
section
variable {P : Program} {w : World} {K : PySem.W.Frag} {mg : Str → Option Value} {base : Heap}
theorem scSplit : FnScope ["t", "rows", "row", "byte"] ["t"] (defScope sSplit) := ⟨rfl, rfl, rfl, by decide +kernel, rfl, by decide +kernel, by decide +kernel⟩
theorem ok_split {f : Addr} {fd : FuncData} {k : Nat} {tk : Tok} (F : Fun K "split_rows" "split_rows" sSplit f fd) (mE : mg "ROW_END" = some (.int 10 tk)) : FnOk P w K mg base CX0 (k + 1) f fd ["t"] (spSplit K) := by
  refine F.ok scSplit (fun vs H Q E h => ?_) (fun cdv A outer s H vs Q E hr h => ?_)
  · obtain ⟨a, t, rfl, _⟩ := h
    rfl
  · obtain ⟨a, t, rfl, hS, hlen, q⟩ := h
    refine ⟨_, pss_cons (ps_set (i := 1) scSplit.nd rfl (.inl rfl) (pe_lst pa_nil)) (pss_cons (ps_set (i := 2) scSplit.nd rfl (.inl rfl) (pe_lst pa_nil))
      (pss_cons (ps_for PassesOwn.never rfl (pi_list (pv 0)) (pg_name (i := 3) scSplit.nd rfl (Or.inl rfl))
        (pss_one (ps_if (pt_cmpR op_eq (pv 3) (pe_glob rfl mE (rel_int _ _)) (nomark _))
          (pss_cons (ps_expr (pe_bm PySem.F.plainAttrs_list PySem.F.slot_list_append PySem.F.type_list_append mt_append (pv 1) (pa_cons (pv 2) pa_nil)))
            (pss_one (ps_set (i := 2) scSplit.nd rfl (.inl rfl) (pe_lst pa_nil))))
          (pss_one (ps_expr (pe_bm PySem.F.plainAttrs_list PySem.F.slot_list_append PySem.F.type_list_append mt_append (pv 2) (pa_cons (pv 3) pa_nil)))))))
      (pss_one (ps_ret (pv 1))))), ?_⟩
    refine ⟨Nat.zero_le _, fun p np => ⟨Nat.zero_le _, fun q0 nq0 => ?_⟩⟩
    have nq0' : p ≠ q0 := ne_of_none (upd_same (H := H) (a := p) (o := .lst [])) nq0
    have nqH : H q0 = none := by rwa [upd_ne (Ne.symm nq0')] at nq0
    refine ⟨_, rfl, a, rfl, ⟨_, (same_put (same_upd np) nqH).seq hS⟩, for_list (K := K) (a := a) (xs := t.map V.int)
      (fun i σ H' => ∃ (c : Addr) (ps : List Addr) (y : Option V), σ = [some (.ref a), some (.ref p), some (.ref c), y] ∧ Same H H' ∧ H c = none ∧ p ≠ c ∧ c ∉ ps ∧ p ∉ ps ∧ RowsAt H' p ps (splitGo (t.take i)).1 ∧ IntsAt H' c (splitGo (t.take i)).2)
      ⟨q0, [], none, rfl, same_put (same_upd np) nqH, nqH, nq0', by simp, by simp, ⟨?_, rfl, fun i a r e => by simp at e⟩, upd_same⟩ (fun i σ H' _ ⟨_, _, _, _, sm, _⟩ => sm.seq hS) ?_ ?_⟩
    · rw [upd_ne nq0', upd_same]
      rfl
    · rintro i x σ H' hx ⟨c, ps, y, rfl, sm, nc, npc, hcp, hpp, hR, hI⟩
      obtain ⟨z, hz, rfl⟩ := map_get hx
      have g := go_take hz
      have hi : i < t.length := (List.getElem?_eq_some_iff.mp hz).1
      have gl := go_len0 (t.take i)
      rw [List.length_take] at gl
      refine ⟨_, rfl, rfl, _, rfl, ite2 (fun e => ?_) (fun e => ?_)⟩
      · have e1 : z = 10 := V.int.inj (of_decide_eq_true e)
        rw [show spStep (splitGo (t.take i)) z = ((splitGo (t.take i)).1 ++ [(splitGo (t.take i)).2], []) by unfold spStep; rw [if_pos e1]] at g
        refine ⟨.ref p, rfl, .inl ⟨rfl, _, SqL.of hR.1⟩, .ref c, rfl, p, _, _, rfl, rfl, hR.1, ?_, ?_⟩
        · rw [List.length_map, hR.2.1]
          exact line_lt (by omega)
        · refine ⟨Nat.zero_le _, fun c2 nc2 => ?_⟩
          have hR2 := hR.push hI hpp npc
          have n1 : p ≠ c2 := ne_of_none hR2.1 nc2
          have n2 : c2 ∉ ps ++ [c] := fun z => by
            obtain ⟨o, ho⟩ := hR2.there z
            rw [nc2] at ho
            cases ho
          have nH : H c2 = none := Same.free (same_put sm np) nc2
          refine ⟨c2, ps ++ [c], some (.int z), rfl, same_put (same_put sm np) nH, nH, n1, n2, ?_, ?_, ?_⟩
          · intro hm
            rcases List.mem_append.mp hm with hm | hm
            · exact hpp hm
            · exact npc (List.mem_singleton.mp hm)
          · rw [g]
            exact hR2.put n1 n2
          · rw [g]
            exact upd_same
      · have e1 : ¬ z = 10 := fun q => e (decide_eq_true (by rw [q]))
        rw [show spStep (splitGo (t.take i)) z = ((splitGo (t.take i)).1, (splitGo (t.take i)).2 ++ [z]) by unfold spStep; rw [if_neg e1]] at g
        refine ⟨.ref c, rfl, .inl ⟨rfl, _, SqL.of hI⟩, .int z, rfl, c, _, _, rfl, rfl, hI, ?_, ?_⟩
        · rw [List.length_map]
          exact line_lt (by omega)
        · refine ⟨c, ps, some (.int z), rfl, same_put sm nc, nc, npc, hcp, hpp, ?_, ?_⟩
          · rw [g]
            exact hR.put npc hcp
          · rw [g]
            show upd H' c _ c = _
            rw [upd_same, List.map_append]
            rfl
    · rintro σ H' ⟨c, ps, y, rfl, sm, nc, npc, hcp, hpp, hR, hI⟩
      rw [List.length_map, List.take_length] at hR
      exact ⟨_, rfl, q H' p ps sm hR⟩
theorem scIsChart : FnScope ["rows", "height", "width", "row"] ["rows"] (defScope sIsChart) := ⟨rfl, rfl, rfl, by decide +kernel, rfl, by decide +kernel, by decide +kernel⟩
theorem ok_isChart {f fC : Addr} {fd fdC : FuncData} {k : Nat} {t1 t2 t3 : Tok} (F : Fun K "is_chart" "is_chart" sIsChart f fd) (G : FnOk P w K mg base CX0 (k + 1) fC fdC ["row", "width"] (spChartRow K)) (kC : PySem.W.keepIn K (.ref fC) = true)
    (bC : Binds K fdC ["row", "width"] []) (mC : mg "is_chart_row" = some (.ref fC)) (ml : mg "len" = none) (ma : mg "all" = none) (mW : mg "WIDEST" = some (.int 512 t1)) (mH : mg "HIGHEST" = some (.int 512 t2)) (mK : mg "MOST_KNOTS" = some (.int 65536 t3)) :
    FnOk P w K mg base CX0 (k + 2) f fd ["rows"] spIsChart := by
  refine F.ok scIsChart (fun vs H Q E h => ?_) (fun cdv A outer s H vs Q E hr h => ?_)
  · obtain ⟨p, ps, rows, rfl, _⟩ := h
    rfl
  · obtain ⟨p, ps, rows, rfl, hR, hne, hl1, hl2, q⟩ := h
    refine ⟨_, pss_cons (ps_set (i := 1) scIsChart.nd rfl (.inl rfl) (pe_callB call_len_seq (by rfl) ml PySem.boot_len (pa_cons (pv 0) pa_nil)))
      (pss_cons (ps_set (i := 2) scIsChart.nd rfl (.inr rfl) (pe_callB call_len_seq (by rfl) ml PySem.boot_len (pa_cons (pe_ix ix_list (pv 0) pe_int (fun _ _ => rfl)) pa_nil)))
      (pss_cons (ps_if (PW.pt (pw_or (pt_cmpR op_lt (pv 2) pe_int (nomark _)) (pw_or (pt_cmpR op_gt (pv 2) (pe_glob rfl mW (rel_int _ _)) (nomark _)) (pw_or (pt_cmpR op_gt (pv 1) (pe_glob rfl mH (rel_int _ _)) (nomark _)) (pw_or1 (pt_cmpR op_gt (pe_op op_mul (pv 2) (pv 1)) (pe_glob rfl mK (rel_int _ _)) (nomark _)))))))
        (pss_one (ps_ret pe_bl)) pss_nil)
      (pss_one (ps_ret (pe_callB (cr_all rfl) (by rfl) ma (by decide +kernel) (pa_cons (pe_lc (own := [("row", 3)]) (g := gName 3) (tt := tYes) rfl scIsChart.nd (pi_list (pv 0)) (blkOk_by (own := [("row", 3)]) (N := ["rows", "height", "width", "row"]) (sc := defScope sIsChart) (by decide +kernel))
        (fun _ _ _ _ _ => pg_name (i := 3) scIsChart.nd rfl (Or.inl rfl)) (fun _ _ _ _ _ => pts_nil) (fun _ _ _ _ _ => pe_call G hr (by rfl) mC kC bC .nil pass0 (pa_cons (pv 3) (pa_cons (pv 2) pa_nil)))) pa_nil)))))), ?_⟩
    obtain ⟨r0, rest, rfl⟩ : ∃ r0 rest, rows = r0 :: rest := by
      cases rows with
      | nil => exact absurd rfl hne
      | cons r0 rest => exact ⟨r0, rest, rfl⟩
    obtain ⟨a0, ha0, hI0⟩ := hR.get (i := 0) (r := r0) rfl
    have hps : ((ps.map V.ref).length : Int) = ((r0 :: rest).length : Int) := by rw [List.length_map, hR.2.1]
    have hr0 : ((r0.map V.int).length : Int) = (wide (r0 :: rest) : Int) := by rw [List.length_map]; rfl
    refine ⟨_, rfl, p, _, rfl, .inl (SqL.of hR.1), ?_⟩
    rw [hps]
    refine ⟨_, rfl, p, _, 0, .ref a0, rfl, rfl, SqL.of hR.1, atI_nat (j := 0) (by rw [List.getElem?_map, ha0]; rfl), a0, _, rfl, .inl (SqL.of hI0), ?_⟩
    rw [hr0]
    have hw : wide (r0 :: rest) ≤ 70000 := hl2 r0 (by simp)
    generalize hwd : wide (r0 :: rest) = wd at *
    generalize hht : (r0 :: rest).length = ht at *
    have no : ¬ (1 ≤ wd ∧ wd ≤ 512 ∧ ht ≤ 512 ∧ wd * ht ≤ 65536) → Q (.bl false) H := fun z => by
      have := q H (Same.refl H)
      unfold chartOk at this
      rw [hwd, hht, decide_eq_false z] at this
      exact this
    have hcast : ((wd : Int) * (ht : Int)) = ((wd * ht : Nat) : Int) := by rw [Int.natCast_mul]
    refine ⟨_, rfl, wd, 1, rfl, rfl, _, rfl, ite2 (fun e => ?_) (fun e => ⟨_, rfl, wd, 512, rfl, rfl, _, rfl, ite2 (fun e2 => ?_) (fun e2 => ⟨_, rfl, ht, 512, rfl, rfl, _, rfl, ite2 (fun e3 => ?_) (fun e3 => ?_)⟩)⟩)⟩
    · refine iteT (no fun z => ?_)
      have := of_decide_eq_true e
      omega
    · refine iteT (no fun z => ?_)
      have := of_decide_eq_true e2
      omega
    · refine iteT (no fun z => ?_)
      have := of_decide_eq_true e3
      omega
    · have e : ¬ ((wd : Int) < 1) := fun z => e (decide_eq_true z)
      have e2 : ¬ ((512 : Int) < wd) := fun z => e2 (decide_eq_true z)
      have e3 : ¬ ((512 : Int) < ht) := fun z => e3 (decide_eq_true z)
      refine ⟨_, rfl, _, rfl, wd, ht, rfl, rfl, .inl (by omega), wd * ht, 65536, rfl, rfl, _, rfl, ite2 (fun e4 => no fun z => ?_) (fun e4 => ?_)⟩
      · have := of_decide_eq_true e4
        rw [hcast] at this
        omega
      · have e4 : ¬ ((65536 : Int) < (wd : Int) * ht) := fun z => e4 (decide_eq_true z)
        rw [hcast] at e4
        refine ⟨_, rfl, p, rfl, ⟨_, SqL.of hR.1⟩, fun D nD => lc_list (K := K) (a := p) (xs := ps.map V.ref) (fun i H' => Same H H' ∧ H' D = some (.lst (((r0 :: rest).take i).map fun x => V.bl (rowOk wd x)))) ⟨same_upd nD, upd_same⟩ (fun i H' _ ⟨sm, _⟩ => SqL.of (sm _ _ hR.1)) ?_ ?_⟩
        · rintro i x H' hx ⟨sm, hD⟩
          obtain ⟨a, ha, rfl⟩ := map_get hx
          have hi : i < (r0 :: rest).length := by
            rw [← hR.2.1]
            exact (List.getElem?_eq_some_iff.mp ha).1
          have hz : (r0 :: rest)[i]? = some (r0 :: rest)[i] := List.getElem?_eq_getElem hi
          have hI := hR.2.2 i a _ ha hz
          refine ⟨rfl, ?_⟩
          refine yes_ite ?_
          refine ⟨_, rfl, _, rfl, a, wd, (r0 :: rest)[i], rfl, SqL.of (sm _ _ hI), hl2 _ (List.getElem_mem hi), fun H2 sm2 => ⟨_, sm2 _ _ hD, ?_, same_put (sm.trans sm2) nD, ?_⟩⟩
          · rw [List.length_map, List.length_take]
            exact line_lt (by omega)
          · rw [upd_same, take_succ hz, List.map_append]
            rfl
        · rintro H' ⟨sm, hD⟩
          rw [List.length_map, hR.2.1, List.take_length] at hD
          refine ⟨D, (r0 :: rest).map (rowOk wd), rfl, SqL.of (by rw [List.map_map]; exact hD), ?_⟩
          have := q H' sm
          unfold chartOk at this
          rw [hwd, hht, decide_eq_true (show 1 ≤ wd ∧ wd ≤ 512 ∧ ht ≤ 512 ∧ wd * ht ≤ 65536 by omega)] at this
          rw [List.all_map]
          exact this
theorem scRefusal : FnScope ["t"] ["t"] (defScope sRefusal) := ⟨rfl, rfl, rfl, by decide +kernel, rfl, by decide +kernel, by decide +kernel⟩
theorem ok_refusal {f fC fS : Addr} {fd fdC fdS : FuncData} {k : Nat} {t1 t2 t3 t4 : Tok} (F : Fun K "text_refusal" "text_refusal" sRefusal f fd) (GC : FnOk P w K mg base CX0 (k + 1) fC fdC ["rows"] spIsChart) (kC : PySem.W.keepIn K (.ref fC) = true) (bC : Binds K fdC ["rows"] []) (mC : mg "is_chart" = some (.ref fC))
    (GS : FnOk P w K mg base CX0 (k + 1) fS fdS ["t"] (spSplit K)) (kS : PySem.W.keepIn K (.ref fS) = true) (bS : Binds K fdS ["t"] []) (mS : mg "split_rows" = some (.ref fS)) (ml : mg "len" = none)
    (mE : mg "ROW_END" = some (.int 10 t1)) (mL : mg "LONGEST_TEXT" = some (.int 66048 t2)) (mR2 : mg "REFUSED_LONG_TEXT" = some (.int (-2) t3)) (mR6 : mg "REFUSED_NO_CHART" = some (.int (-6) t4)) : FnOk P w K mg base CX0 (k + 2) f fd ["t"] (spRefusal K) := by
  refine F.ok scRefusal (fun vs H Q E h => ?_) (fun cdv A outer s H vs Q E hr h => ?_)
  · obtain ⟨a, t, rfl, _⟩ := h
    rfl
  · obtain ⟨a, t, rfl, hS, hlen, q⟩ := h
    refine ⟨_, pss_cons (ps_if (pt_cmpR op_gt (pe_callB call_len_seq (by rfl) ml PySem.boot_len (pa_cons (pv 0) pa_nil)) (pe_glob rfl mL (rel_int _ _)) (nomark _)) (pss_one (ps_ret (pe_glob rfl mR2 (rel_int _ _)))) pss_nil)
      (pss_cons (ps_if (PW.pt (pw_or (pt_cmpR op_eq (pe_callB call_len_seq (by rfl) ml PySem.boot_len (pa_cons (pv 0) pa_nil)) pe_int (nomark _)) (pw_or (pt_cmpR op_ne (pe_ix ix_list (pv 0) (pe_un un_neg pe_int) (fun _ _ => rfl)) (pe_glob rfl mE (rel_int _ _)) (nomark _))
        (pw_or1 (pt_not (pt_val (pe_call GC hr (by rfl) mC kC bC .nil pass0 (pa_cons (pe_call GS hr (by rfl) mS kS bS .nil pass0 (pa_cons (pv 0) pa_nil)) pa_nil))))))))
        (pss_one (ps_ret (pe_glob rfl mR6 (rel_int _ _)))) pss_nil)
      (pss_one (ps_ret pe_int))), ?_⟩
    refine ⟨_, rfl, a, _, rfl, .inl hS, _, 66048, rfl, rfl, _, rfl, ite2 (fun e => ?_) (fun e => ?_)⟩
    · have e1 := of_decide_eq_true e
      rw [List.length_map] at e1
      have := q H (Same.refl H)
      unfold refusal at this
      rw [if_pos (by omega)] at this
      exact this
    · have e1 : ¬ ((66048 : Int) < ((t.map V.int).length : Nat)) := fun z => e (decide_eq_true z)
      rw [List.length_map] at e1
      have no : ∀ H', Same H H' → textOk t = false → Q (.int (-6)) H' := fun H' sm z => by
        have := q H' sm
        unfold refusal at this
        rw [if_neg (by omega), z] at this
        exact this
      refine ⟨_, rfl, a, _, rfl, .inl hS, rfl, _, rfl, ite2 (fun e2 => ?_) (fun e2 => ?_)⟩
      · have e3 := V.int.inj (of_decide_eq_true e2)
        rw [List.length_map] at e3
        refine iteT (no H (Same.refl H) ?_)
        have : t = [] := List.length_eq_zero_iff.mp (by omega)
        rw [this]
        rfl
      · have ht : t ≠ [] := fun z => e2 (decide_eq_true (by rw [z]; rfl))
        obtain ⟨ys, y, rfl⟩ : ∃ ys y, t = ys ++ [y] := ⟨_, _, (List.dropLast_concat_getLast ht).symm⟩
        refine ⟨_, rfl, _, rfl, a, _, -1, .int y, rfl, rfl, hS, by rw [List.map_append]; exact atI_last _ _, rfl, _, rfl, ite2 (fun e3 => ?_) (fun e3 => ?_)⟩
        · refine iteT (no H (Same.refl H) ?_)
          have : y ≠ 10 := fun z => by
            rw [z] at e3
            simp at e3
          unfold textOk
          rw [show decide ((ys ++ [y]).getLast? = some 10) = false by simp [this]]
          simp
        · have hy : y = 10 := by
            apply Classical.byContradiction
            intro z
            apply e3
            simp [z]
          subst hy
          have hlast : (ys ++ [10]).getLast? = some (10 : Int) := by simp
          have hsl := split_last hlast
          have gl := go_len0 (ys ++ [10])
          refine ⟨_, rfl, a, ys ++ [10], rfl, hS, hlen, fun H1 p ps sm hR => ⟨p, ps, _, rfl, hR, hsl.2, Nat.le_trans gl.1 hlen, fun r hr => ?_, fun H2 sm2 => ⟨_, rfl, ?_⟩⟩⟩
          · have e := congrArg List.length (split_join (ys ++ [10]))
            rw [List.length_append, flat_len] at e
            have : ∀ l : Rows, r ∈ l → r.length ≤ (l.map fun r => r.length + 1).sum := by
              intro l
              induction l with
              | nil => intro z; simp at z
              | cons x l ih =>
                intro z
                rw [List.map_cons, List.sum_cons]
                rcases List.mem_cons.mp z with rfl | z
                · omega
                · have := ih z
                  omega
            have := this _ hr
            omega
          · have ok : textOk (ys ++ [10]) = chartOk (splitRows (ys ++ [10])) := by
              unfold textOk
              rw [decide_eq_true ht, decide_eq_true hlast]
              rfl
            cases hc : chartOk (splitRows (ys ++ [10])) with
            | false =>
              refine iteT (no H2 (sm.trans sm2) (by rw [ok, hc]))
            | true =>
              refine iteF ?_
              have := q H2 (sm.trans sm2)
              unfold refusal at this
              rw [if_neg (by omega), ok, hc] at this
              exact this
end
end Kc

namespace Kc
open PySem PySem.Spec PyProof.Rows L2
section
variable {P : Program} {w : World} {K : PySem.W.Frag} {mg : Str → Option Value} {base : Heap}
theorem scMeasure : FnScope ["first", "second", "rest"] ["first", "second"] (defScope sMeasure) := ⟨rfl, rfl, rfl, by decide +kernel, rfl, by decide +kernel, by decide +kernel⟩
theorem ok_measure {f : Addr} {fd : FuncData} {k : Nat} (F : Fun K "common_measure" "common_measure" sMeasure f fd) : FnOk P w K mg base CX0 (k + 1) f fd ["first", "second"] spMeasure := by
  refine F.ok scMeasure (fun vs H Q E h => ?_) (fun cdv A outer s H vs Q E hr h => ?_)
  · obtain ⟨n, m, rfl, _⟩ := h
    rfl
  · obtain ⟨n, m, rfl, q⟩ := h
    refine ⟨_, pss_cons (ps_while PassesOwn.never (pt_cmpR op_gt (pv 1) pe_int (nomark _)) (pss_cons (ps_set (i := 2) scMeasure.nd rfl (.inl rfl) (pe_op op_mod (pv 0) (pv 1))) (pss_cons (ps_set (i := 0) scMeasure.nd rfl (.inl rfl) (pv 1)) (pss_one (ps_set (i := 1) scMeasure.nd rfl (.inl rfl) (pv 2)))))) (pss_one (ps_ret (pv 0))), ?_⟩
    refine while_by (fun σ H' => ∃ (x y : Nat) (z : Option V), σ = [some (.int x), some (.int y), z] ∧ Nat.gcd x y = Nat.gcd n m ∧ H' = H) (fun σ _ => match σ with | [_, some (.int y), _] => y.toNat | _ => 0) ⟨n, m, none, rfl, rfl, rfl⟩ ?_ ?_
    · rintro σ H' ⟨x, y, z, rfl, g, rfl⟩
      refine ⟨_, rfl, y, 0, rfl, rfl, _, rfl, ite2 (fun e => ?_) (fun e => ?_)⟩
      · have hy : (0 : Int) < y := of_decide_eq_true e
        have hy' : 0 < y := by omega
        refine ⟨_, rfl, _, rfl, x, y, rfl, rfl, hy, _, rfl, _, rfl, ⟨y, x % y, some (.int ((x : Int) % y)), ?_, ?_, rfl⟩, ?_⟩
        · rw [Int.natCast_emod]
          rfl
        · rw [← g, Nat.gcd_comm y, ← Nat.gcd_rec, Nat.gcd_comm]
        · show ((x : Int) % (y : Int)).toNat < ((y : Int)).toNat
          rw [← Int.natCast_emod, Int.toNat_natCast, Int.toNat_natCast]
          exact Nat.mod_lt _ hy'
      · have hy : ¬ (0 : Int) < y := fun z => e (decide_eq_true z)
        have hy' : y = 0 := by omega
        subst hy'
        refine ⟨_, rfl, ?_⟩
        rw [← g, Nat.gcd_zero_right] at q
        exact q
    · rintro σ H' R R' hR ⟨v, hv, i, j, e1, e2, b, e3, r⟩
      exact ⟨v, hv, i, j, e1, e2, b, e3, hR _ _ r⟩
end
end Kc

namespace Kc
open PySem PySem.Spec PyProof.Rows L2
section
variable {P : Program} {w : World} {K : PySem.W.Frag} {mg : Str → Option Value} {base : Heap}
theorem scPlace : FnScope ["m", "x", "y"] ["m", "x", "y"] (defScope sPlace) := ⟨rfl, rfl, rfl, by decide +kernel, rfl, by decide +kernel, by decide +kernel⟩
theorem ok_place {f : Addr} {fd : FuncData} {k : Nat} (F : Fun K "turned_place" "turned_place" sPlace f fd) : FnOk P w K mg base CX0 (k + 1) f fd ["m", "x", "y"] spPlace := by
  refine F.ok scPlace (fun vs H Q E h => ?_) (fun cdv A outer s H vs Q E hr h => ?_)
  · obtain ⟨m, x, y, rfl, _⟩ := h
    rfl
  · obtain ⟨m, x, y, rfl, hm, q⟩ := h
    refine ⟨_, pss_cons (ps_if (pt_cmpR op_eq (pv 0) pe_int (nomark _)) (pss_one (ps_ret (pe_tup (pa_cons (pv 1) (pa_cons (pv 2) pa_nil))))) pss_nil)
      (pss_cons (ps_if (pt_cmpR op_eq (pv 0) pe_int (nomark _)) (pss_one (ps_ret (pe_tup (pa_cons (pe_un un_neg (pv 2)) (pa_cons (pv 1) pa_nil))))) pss_nil)
      (pss_cons (ps_if (pt_cmpR op_eq (pv 0) pe_int (nomark _)) (pss_one (ps_ret (pe_tup (pa_cons (pe_un un_neg (pv 1)) (pa_cons (pe_un un_neg (pv 2)) pa_nil))))) pss_nil)
      (pss_cons (ps_if (pt_cmpR op_eq (pv 0) pe_int (nomark _)) (pss_one (ps_ret (pe_tup (pa_cons (pv 2) (pa_cons (pe_un un_neg (pv 1)) pa_nil))))) pss_nil)
      (pss_cons (ps_if (pt_cmpR op_eq (pv 0) pe_int (nomark _)) (pss_one (ps_ret (pe_tup (pa_cons (pe_un un_neg (pv 1)) (pa_cons (pv 2) pa_nil))))) pss_nil)
      (pss_cons (ps_if (pt_cmpR op_eq (pv 0) pe_int (nomark _)) (pss_one (ps_ret (pe_tup (pa_cons (pe_un un_neg (pv 2)) (pa_cons (pe_un un_neg (pv 1)) pa_nil))))) pss_nil)
      (pss_cons (ps_if (pt_cmpR op_eq (pv 0) pe_int (nomark _)) (pss_one (ps_ret (pe_tup (pa_cons (pv 1) (pa_cons (pe_un un_neg (pv 2)) pa_nil))))) pss_nil)
      (pss_one (ps_ret (pe_tup (pa_cons (pv 2) (pa_cons (pv 1) pa_nil))))))))))), ?_⟩
    have fin : ∀ (X Y : Int), tp m x y = (X, Y) → 2 ≤ sizeLine ∧ ∀ p, H p = none → Q (.ref p) (upd H p (.tup [.int X, .int Y])) := fun X Y e => ⟨by decide, fun p hp => q _ p (same_upd hp) (by rw [upd_same, e])⟩
    have no : ∀ j : Nat, ¬ decide (V.int m = V.int j) = true → m ≠ j := fun j h z => h (decide_eq_true (by rw [z]))
    have yes : ∀ j : Nat, decide (V.int m = V.int j) = true → m = j := fun j h => by
      have := V.int.inj (of_decide_eq_true h)
      omega
    refine ⟨_, rfl, rfl, _, rfl, ite2 (fun e => ⟨_, rfl, _, rfl, fin _ _ (by rw [yes 0 e]; rfl)⟩) (fun e0 => ?_)⟩
    refine ⟨_, rfl, rfl, _, rfl, ite2 (fun e => ⟨_, rfl, y, rfl, _, rfl, fin _ _ (by rw [yes 1 e]; rfl)⟩) (fun e1 => ?_)⟩
    refine ⟨_, rfl, rfl, _, rfl, ite2 (fun e => ⟨_, rfl, x, rfl, _, rfl, y, rfl, fin _ _ (by rw [yes 2 e]; rfl)⟩) (fun e2 => ?_)⟩
    refine ⟨_, rfl, rfl, _, rfl, ite2 (fun e => ⟨_, rfl, _, rfl, x, rfl, fin _ _ (by rw [yes 3 e]; rfl)⟩) (fun e3 => ?_)⟩
    refine ⟨_, rfl, rfl, _, rfl, ite2 (fun e => ⟨_, rfl, x, rfl, _, rfl, fin _ _ (by rw [yes 4 e]; rfl)⟩) (fun e4 => ?_)⟩
    refine ⟨_, rfl, rfl, _, rfl, ite2 (fun e => ⟨_, rfl, y, rfl, _, rfl, x, rfl, fin _ _ (by rw [yes 5 e]; rfl)⟩) (fun e5 => ?_)⟩
    refine ⟨_, rfl, rfl, _, rfl, ite2 (fun e => ⟨_, rfl, _, rfl, y, rfl, fin _ _ (by rw [yes 6 e]; rfl)⟩) (fun e6 => ?_)⟩
    have m7 : m = 7 := by
      have h0 := no 0 e0
      have h1 := no 1 e1
      have h2 := no 2 e2
      have h3 := no 3 e3
      have h4 := no 4 e4
      have h5 := no 5 e5
      have h6 := no 6 e6
      omega
    exact ⟨_, rfl, _, rfl, fin _ _ (by rw [m7]; rfl)⟩
end
end Kc

namespace Kc
open PySem PySem.Spec PyProof.Rows L2
section
variable {P : Program} {w : World} {K : PySem.W.Frag} {mg : Str → Option Value} {base : Heap}
theorem scTurned : FnScope ["tile", "m", "width", "height", "y", "image", "x", "place"] ["tile", "m"] (defScope sTurned) := ⟨rfl, rfl, rfl, by decide +kernel, rfl, by decide +kernel, by decide +kernel⟩
theorem ok_turned {f fP : Addr} {fd fdP : FuncData} {k : Nat} (F : Fun K "turned" "turned" sTurned f fd) (GP : FnOk P w K mg base CX0 (k + 1) fP fdP ["m", "x", "y"] spPlace) (kP : PySem.W.keepIn K (.ref fP) = true)
    (bP : Binds K fdP ["m", "x", "y"] []) (mP : mg "turned_place" = some (.ref fP)) (ml : mg "len" = none) (mr : mg "range" = none) : FnOk P w K mg base CX0 (k + 2) f fd ["tile", "m"] spTurned := by
  refine F.ok scTurned (fun vs H Q E h => ?_) (fun cdv A outer s H vs Q E hr h => ?_)
  · obtain ⟨p, ps, cell, m, W, Ht, rfl, _⟩ := h
    rfl
  · obtain ⟨p, ps, cell, m, W, Ht, rfl, hR, g, hW, hHt, hm, sq, q⟩ := h
    refine ⟨_, pss_cons (ps_set (i := 2) scTurned.nd rfl (.inr rfl) (pe_callB call_len_seq (by rfl) ml PySem.boot_len (pa_cons (pe_ix ix_list (pv 0) pe_int (fun _ _ => rfl)) pa_nil)))
      (pss_cons (ps_set (i := 3) scTurned.nd rfl (.inl rfl) (pe_callB call_len_seq (by rfl) ml PySem.boot_len (pa_cons (pv 0) pa_nil)))
      (pss_cons (ps_setLc (i := 5) (own := [("y", 4)]) (g := gName 4) (tt := tYes) rfl scTurned.nd rfl rfl (sw_true rfl rfl rfl (by decide +kernel)) (pi_range1 rfl mr (pa_cons (pv 3) pa_nil))
        (blkOk_by (own := [("y", 4)]) (N := ["tile", "m", "width", "height", "y", "image", "x", "place"]) (sc := defScope sTurned) (by decide +kernel))
        (fun _ _ _ _ _ => pg_name (i := 4) scTurned.nd rfl (Or.inl rfl)) (fun _ _ _ _ _ => pts_nil) (fun _ _ _ _ _ => pe_op op_rep (pe_lst (pa_cons pe_int pa_nil)) (pv 2)))
      (pss_cons (ps_for PassesOwn.never rfl (pi_range1 rfl mr (pa_cons (pv 3) pa_nil)) (pg_name (i := 4) scTurned.nd rfl (Or.inl rfl))
        (pss_one (ps_for PassesOwn.never rfl (pi_range1 rfl mr (pa_cons (pv 2) pa_nil)) (pg_name (i := 6) scTurned.nd rfl (Or.inl rfl))
          (pss_cons (ps_set (i := 7) scTurned.nd rfl (.inl rfl) (pe_call GP hr (by rfl) mP kP bP .nil pass0 (pa_cons (pv 1) (pa_cons (pv 6) (pa_cons (pv 4) pa_nil)))))
          (pss_one (ps_asg (pe_ix ix_list (pe_ix ix_list (pv 0) (pv 4) (fun _ _ => rfl)) (pv 6) (fun _ _ => rfl))
            (pg_sub (pe_ix ix_list (pv 5) (pe_op op_mod (pe_ix ix_tup (pv 7) pe_int (fun _ _ => rfl)) (pv 3)) (fun _ _ => rfl)) (pe_op op_mod (pe_ix ix_tup (pv 7) pe_int (fun _ _ => rfl)) (pv 2)) set_list)))))))
      (pss_one (ps_ret (pv 5)))))), ?_⟩
    obtain ⟨r0, e0, hr0, _⟩ := g.row (y := 0) g.h1
    obtain ⟨a0, ha0, hI0⟩ := hR.get e0
    have hps : ((ps.map V.ref).length : Int) = (Ht : Int) := by rw [List.length_map, hR.2.1, g.high]
    have hrl : ((r0.map V.int).length : Int) = (W : Int) := by rw [List.length_map, hr0]
    refine ⟨_, rfl, p, _, 0, .ref a0, rfl, rfl, SqL.of hR.1, atI_nat (j := 0) (by rw [List.getElem?_map, ha0]; rfl), a0, _, rfl, .inl (SqL.of hI0), ?_⟩
    rw [hrl]
    refine ⟨_, rfl, p, _, rfl, .inl (SqL.of hR.1), ?_⟩
    rw [hps]
    -- image = [[0] * width for y in range(height)]
    refine ⟨_, rfl, Ht, rfl, by omega, by omega, fun D nD => ?_⟩
    rw [show (Ht : Int).toNat = Ht from Int.toNat_natCast _]
    refine lc_range (lo := 0) (n := Ht) (fun i H' => ∃ qs : List Addr, Same H H' ∧ H' D = some (.lst (qs.map V.ref)) ∧ qs.length = i ∧ (∀ a ∈ qs, IntsAt H' a (List.replicate W 0)) ∧ qs.Nodup ∧ D ∉ qs ∧ ∀ a ∈ qs, H a = none)
      ⟨[], same_upd nD, upd_same, rfl, fun a h => by simp at h, List.nodup_nil, by simp, fun a h => by simp at h⟩ ?_ ?_
    · rintro i H' hi ⟨qs, sm, hD, hl, hq, nd, nq, fq⟩
      refine ⟨rfl, ?_⟩
      refine yes_ite ?_
      refine ⟨by decide, fun z nz => ⟨_, rfl, z, W, _, rfl, rfl, upd_same, by omega, by omega, ?_, fun c nc => ?_⟩⟩
      · rw [Int.toNat_natCast]
        exact line_le (by show 1 * W ≤ _; omega)
      · have zD : D ≠ z := ne_of_none hD nz
        have cz : z ≠ c := ne_of_none upd_same nc
        have hD1 : upd H' z (.lst [.int 0]) D = some (.lst (qs.map V.ref)) := by rw [upd_ne zD]; exact hD
        have cD : D ≠ c := ne_of_none hD1 nc
        have smz : Same H (upd H' z (.lst [.int 0])) := same_new sm nz
        have smc : Same H (upd (upd H' z (.lst [.int 0])) c (.lst (List.replicate (W : Int).toNat [V.int 0]).flatten)) := same_new smz nc
        have hval : (List.replicate (W : Int).toNat [V.int 0]).flatten = (List.replicate W (0 : Int)).map V.int := by
          rw [Int.toNat_natCast]
          exact zeros_map W
        have oth : ∀ a ∈ qs, a ≠ z ∧ a ≠ c := fun a ha => by
          have h1 := hq a ha
          have h2 : a ≠ z := ne_of_none h1 nz
          refine ⟨h2, ?_⟩
          have h3 : upd H' z (.lst [.int 0]) a = some (.lst ((List.replicate W (0 : Int)).map V.int)) := by rw [upd_ne h2]; exact h1
          exact ne_of_none h3 nc
        refine ⟨qs.map V.ref, by rw [upd_ne cD]; exact hD1, ?_, qs ++ [c], same_put smc nD, by rw [upd_same, List.map_append]; rfl, by rw [List.length_append, hl]; rfl, ?_, ?_, ?_, ?_⟩
        · rw [List.length_map]
          exact line_lt (by omega)
        · intro a ha
          rcases List.mem_append.mp ha with ha | ha
          · show upd _ D _ a = _
            have aD : a ≠ D := fun z => nq (z ▸ ha)
            rw [upd_ne aD, upd_ne (oth a ha).2, upd_ne (oth a ha).1]
            exact hq a ha
          · rw [List.mem_singleton.mp ha]
            show upd _ D _ c = _
            rw [upd_ne (Ne.symm cD), upd_same, hval]
        · rw [List.nodup_append]
          exact ⟨nd, by simp, fun a ha b hb => by rw [List.mem_singleton.mp hb]; exact (oth a ha).2⟩
        · intro h
          rcases List.mem_append.mp h with h | h
          · exact nq h
          · exact cD (List.mem_singleton.mp h)
        · intro a ha
          rcases List.mem_append.mp ha with ha | ha
          · exact fq a ha
          · rw [List.mem_singleton.mp ha]
            exact Same.free smz nc
    · rintro H1 ⟨qs, sm1, hD1, hl1, hq1, nd, nq, fq⟩
      have hR1 : RowsAt H1 D qs (List.replicate Ht (List.replicate W 0)) := ⟨hD1, by rw [hl1, List.length_replicate], fun i a r e1 e2 => by
        have : r = List.replicate W 0 := (List.mem_replicate.mp (List.mem_of_getElem? e2)).2
        rw [this]
        exact hq1 a (List.mem_of_getElem? e1)⟩
      -- for y in range(height)
      refine ⟨_, rfl, Ht, rfl, by omega, by omega, ?_⟩
      rw [show (Ht : Int).toNat = Ht from Int.toNat_natCast _]
      refine for_range (lo := 0) (n := Ht) (fun y σ H' => ∃ (yv xv pv : Option V) (img : Rows), σ = [some (.ref p), some (.int m), some (.int W), some (.int Ht), yv, some (.ref D), xv, pv] ∧ Same H H' ∧ RowsAt H' D qs img ∧ Img W Ht m (y * W) cell img)
        ⟨none, none, none, _, rfl, sm1, hR1, by rw [Nat.zero_mul]; exact Img.start g.w1 g.h1⟩ ?_ ?_
      · rintro y σ H' hy ⟨yv, xv, pv0, img, rfl, sm, hRi, hImg⟩
        refine ⟨_, rfl, W, rfl, by omega, by omega, ?_⟩
        rw [show (W : Int).toNat = W from Int.toNat_natCast _]
        refine for_range (lo := 0) (n := W) (fun x σ H' => ∃ (xv pv : Option V) (img : Rows), σ = [some (.ref p), some (.int m), some (.int W), some (.int Ht), some (.int y), some (.ref D), xv, pv] ∧ Same H H' ∧ RowsAt H' D qs img ∧ Img W Ht m (y * W + x) cell img)
          ⟨xv, pv0, img, by rw [Int.zero_add]; rfl, sm, hRi, hImg⟩ ?_ ?_
        · rintro x σ H2 hx ⟨xv, pv0, img, rfl, sm2, hR2, hImg2⟩
          refine ⟨_, rfl, _, rfl, _, rfl, m, (0 : Int) + x, y, rfl, hm, fun H3 T sm3 hT => ?_⟩
          rw [Int.zero_add] at hT
          have hR3 : RowsAt H3 D qs img := same_rows sm3 hR2
          have hC3 : RowsAt H3 p ps cell := same_rows sm3 (same_rows sm2 hR)
          obtain ⟨rc, erc, hrc, _⟩ := g.row hy
          obtain ⟨ac, hac, hIc⟩ := hC3.get erc
          have hxr : x < rc.length := by omega
          have ev : at0 cell x y = rc[x] := by
            unfold at0
            rw [List.getD_eq_getElem?_getD, List.getD_eq_getElem?_getD, erc, Option.getD_some, List.getElem?_eq_getElem hxr, Option.getD_some]
          obtain ⟨ri, eri, hri, _⟩ := hImg2.rect.row (y := tY Ht m x y) (toNat_mod_lt g.h1 _)
          obtain ⟨ai, hai, hIi⟩ := hR3.get eri
          -- the value: cell[y][x]
          refine ⟨_, rfl, _, rfl, p, _, y, .ref ac, rfl, rfl, SqL.of hC3.1, atI_nat (j := y) (by rw [List.getElem?_map, hac]; rfl), _, rfl, ac, _, (0 : Int) + x, .int rc[x], rfl, rfl, SqL.of hIc, ?_, ?_⟩
          · exact at_of (j := x) (by omega) (by rw [List.getElem?_map, List.getElem?_eq_getElem hxr]; rfl)
          -- the place: image[place[1] % height][place[0] % width]
          have hWp : (0 : Int) < W := by have := g.w1; omega
          have hHp : (0 : Int) < Ht := by have := g.h1; omega
          refine ⟨_, rfl, _, rfl, T, _, 1, .int (tp m x y).2, rfl, rfl, SqT.of hT, atI_nat (j := 1) rfl, _, rfl, (tp m x y).2, Ht, rfl, rfl, hHp, D, _, (tp m x y).2 % (Ht : Int), .ref ai, rfl, rfl, SqL.of hR3.1, ?_, ?_⟩
          · exact at_of (j := tY Ht m x y) (by unfold tY; rw [toNat_mod_cast g.h1]) (by rw [List.getElem?_map, hai]; rfl)
          refine ⟨_, rfl, T, _, 0, .int (tp m x y).1, rfl, rfl, SqT.of hT, atI_nat (j := 0) rfl, _, rfl, (tp m x y).1, W, rfl, rfl, hWp, ai, _, (tp m x y).1 % (W : Int), tX W m x y, rfl, rfl, hIi, ?_, ?_⟩
          · rw [List.length_map, hri]
            exact ixN_nat (Int.emod_nonneg _ (by omega)) (Int.emod_lt_of_pos _ hWp)
          · refine ⟨_, _, img.set (tY Ht m x y) (ri.set (tX W m x y) (at0 cell x y)), rfl, same_put (sm2.trans sm3) (fq ai (List.mem_of_getElem? hai)), ?_, ?_⟩
            · have := hR3.store (r := ri.set (tX W m x y) (at0 cell x y)) nd nq hai
              rw [List.map_set, ev] at this
              rw [ev]
              exact this
            · exact hImg2.step hm sq hx hy eri
        · rintro σ H2 ⟨xv, pv0, img, rfl, sm2, hR2, hImg2⟩
          refine ⟨_, _, _, img, rfl, sm2, hR2, ?_⟩
          rw [Nat.add_mul, Nat.one_mul]
          exact hImg2
      · rintro σ H' ⟨yv, xv, pv0, img, rfl, sm, hRi, hImg⟩
        exact ⟨_, rfl, q H' D qs img sm hRi hImg⟩
end
end Kc

namespace Kc
open PySem PySem.Spec PyProof.Rows L2
section
variable {P : Program} {w : World} {K : PySem.W.Frag} {mg : Str → Option Value} {base : Heap}
theorem scFits : FnScope ["tile", "image", "a", "b", "height", "left", "y", "row"] ["tile", "image", "a", "b"] (defScope sFits) := ⟨rfl, rfl, rfl, by decide +kernel, rfl, by decide +kernel, by decide +kernel⟩
theorem ok_fits {f : Addr} {fd : FuncData} {k : Nat} (F : Fun K "fits" "fits" sFits f fd) (ml : mg "len" = none) (mr : mg "range" = none) : FnOk P w K mg base CX0 (k + 1) f fd ["tile", "image", "a", "b"] spFits := by
  refine F.ok scFits (fun vs H Q E h => ?_) (fun cdv A outer s H vs Q E hr h => ?_)
  · obtain ⟨p, ps, cell, p2, ps2, img, W, Ht, a, b, rfl, _⟩ := h
    rfl
  · obtain ⟨p, ps, cell, p2, ps2, img, W, Ht, a, b, rfl, hR, hR2, g, g2, hW, hHt, q⟩ := h
    refine ⟨_, pss_cons (ps_set (i := 4) scFits.nd rfl (.inl rfl) (pe_callB call_len_seq (by rfl) ml PySem.boot_len (pa_cons (pv 0) pa_nil)))
      (pss_cons (ps_set (i := 5) scFits.nd rfl (.inl rfl) (pe_op op_mod (pv 2) (pe_callB call_len_seq (by rfl) ml PySem.boot_len (pa_cons (pe_ix ix_list (pv 0) pe_int (fun _ _ => rfl)) pa_nil))))
      (pss_cons (ps_for PassesOwn.never rfl (pi_range1 rfl mr (pa_cons (pv 4) pa_nil)) (pg_name (i := 6) scFits.nd rfl (Or.inl rfl))
        (pss_cons (ps_set (i := 7) scFits.nd rfl (.inl rfl) (pe_ix ix_list (pv 0) (pe_op op_mod (pe_op op_add (pv 6) (pv 3)) (pv 4)) (fun _ _ => rfl)))
        (pss_one (ps_if (pt_cmpR (op_neD hr.units) (pe_op op_cat (pe_slice sl_list (pv 7) (po_some (pv 5)) po_none) (pe_slice sl_list (pv 7) po_none (po_some (pv 5)))) (pe_ix ix_list (pv 1) (pv 6) (fun _ _ => rfl)) (nomark _))
          (pss_one (ps_ret pe_bl)) pss_nil))))
      (pss_one (ps_ret pe_bl)))), ?_⟩
    obtain ⟨r0, e0, hr0, _⟩ := g.row (y := 0) g.h1
    obtain ⟨a0, ha0, hI0⟩ := hR.get e0
    have hps : ((ps.map V.ref).length : Int) = (Ht : Int) := by rw [List.length_map, hR.2.1, g.high]
    have hrl : ((r0.map V.int).length : Int) = (W : Int) := by rw [List.length_map, hr0]
    have hWp : (0 : Int) < W := by have := g.w1; omega
    have hHp : (0 : Int) < Ht := by have := g.h1; omega
    refine ⟨_, rfl, p, _, rfl, .inl (SqL.of hR.1), ?_⟩
    rw [hps]
    refine ⟨_, rfl, _, rfl, p, _, 0, .ref a0, rfl, rfl, SqL.of hR.1, atI_nat (j := 0) (by rw [List.getElem?_map, ha0]; rfl), a0, _, rfl, .inl (SqL.of hI0), ?_⟩
    rw [hrl]
    refine ⟨a, W, rfl, rfl, hWp, _, rfl, Ht, rfl, by omega, by omega, ?_⟩
    rw [show (Ht : Int).toNat = Ht from Int.toNat_natCast _]
    refine for_range (lo := 0) (n := Ht) (fun i σ H' => ∃ (yv rv : Option V), σ = [some (.ref p), some (.ref p2), some (.int a), some (.int b), some (.int Ht), some (.int (a % (W : Int))), yv, rv] ∧ Same H H' ∧ ∀ j, j < i → fitRow cell img a b j = true)
      ⟨none, none, rfl, Same.refl H, fun j h => by omega⟩ ?_ ?_
    · rintro y σ H' hy ⟨yv, rv, rfl, sm, hf⟩
      have hC := same_rows sm hR
      have hM := same_rows sm hR2
      obtain ⟨rc, erc, hrc, _⟩ := g.row (y := (((y : Int) + b) % (Ht : Int)).toNat) (toNat_mod_lt g.h1 _)
      obtain ⟨ac, hac, hIc⟩ := hC.get erc
      obtain ⟨ri, eri, hri, _⟩ := g2.row hy
      obtain ⟨ai, hai, hIi⟩ := hM.get eri
      refine ⟨_, rfl, _, rfl, _, rfl, (0 : Int) + y, b, rfl, rfl, _, rfl, (0 : Int) + y + b, Ht, rfl, rfl, hHp, p, _, ((0 : Int) + y + b) % (Ht : Int), .ref ac, rfl, rfl, SqL.of hC.1, ?_, ?_⟩
      · exact at_of (j := (((y : Int) + b) % (Ht : Int)).toNat) (by rw [toNat_mod_cast g.h1, Int.zero_add]) (by rw [List.getElem?_map, hac]; rfl)
      have hleft : a % (W : Int) = (((a % (W : Int)).toNat : Nat) : Int) := (toNat_mod_cast g.w1 a).symm
      refine ⟨_, rfl, _, rfl, (a % (W : Int)), rfl, ac, _, rfl, SqL.of hIc, fun c nc => ?_⟩
      have smc : Same H' (upd H' c (.lst (cutV (rc.map V.int) (some (a % (W : Int))) none))) := same_upd nc
      refine ⟨_, rfl, _, rfl, _, rfl, ac, _, rfl, SqL.of (same_ints smc hIc), fun d nd => ?_⟩
      have cd : c ≠ d := ne_of_none upd_same nd
      refine ⟨c, d, _, _, rfl, rfl, by rw [upd_ne cd, upd_same], upd_same, ?_, fun e ne => ?_⟩
      · rw [hleft, cut_from, cut_to, List.length_drop, List.length_take, List.length_map]
        exact line_le (by omega)
      have smd := same_new (o := .lst (cutV (rc.map V.int) none (some (a % (W : Int))))) smc nd
      have sme := same_new (o := .lst (cutV (rc.map V.int) (some (a % (W : Int))) none ++ cutV (rc.map V.int) none (some (a % (W : Int))))) smd ne
      have hv : cutV (rc.map V.int) (some (a % (W : Int))) none ++ cutV (rc.map V.int) none (some (a % (W : Int))) = (rot (a % (W : Int)).toNat rc).map V.int := by
        rw [hleft, cut_from, cut_to, ← hleft]
        unfold rot
        rw [List.map_append, List.map_drop, List.map_take]
      have hRot : IntsAt (upd (upd (upd H' c (.lst (cutV (rc.map V.int) (some (a % (W : Int))) none))) d (.lst (cutV (rc.map V.int) none (some (a % (W : Int)))))) e (.lst (cutV (rc.map V.int) (some (a % (W : Int))) none ++ cutV (rc.map V.int) none (some (a % (W : Int)))))) e (rot (a % (W : Int)).toNat rc) := by
        show upd _ e _ e = _
        rw [upd_same, hv]
      have hM2 := same_rows sme hM
      have hIi2 := same_ints sme hIi
      have fr : fitRow cell img a b y = decide (rot (a % (W : Int)).toNat rc = ri) := by
        unfold fitRow
        rw [g.wide, g.high, List.getD_eq_getElem?_getD, erc, List.getD_eq_getElem?_getD, eri]
        rfl
      refine ⟨_, rfl, _, rfl, p2, _, (0 : Int) + y, .ref ai, rfl, rfl, SqL.of hM2.1, at_of (j := y) (by omega) (by rw [List.getElem?_map, hai]; rfl), dInts (rot (a % (W : Int)).toNat rc), dInts ri, ints_dp hRot, ints_dp hIi2, ints_shaped _, ints_shaped _, _, rfl, ?_⟩
      rw [ints_eqv, ← fr]
      cases hc : fitRow cell img a b y with
      | true =>
        refine iteF ⟨_, _, rfl, sm.trans sme, fun j hj => ?_⟩
        by_cases e1 : j = y
        · rw [e1]
          exact hc
        · exact hf j (by omega)
      | false =>
        refine iteT ?_
        have := q _ (sm.trans sme)
        rw [show fitsB cell img a b = false by
          unfold fitsB
          rw [g.high]
          apply Bool.eq_false_iff.mpr
          intro z
          rw [List.all_eq_true] at z
          rw [z y (List.mem_range.mpr hy)] at hc
          cases hc] at this
        exact this
    · rintro σ H' ⟨yv, rv, rfl, sm, hf⟩
      have := q _ sm
      rw [show fitsB cell img a b = true by
        unfold fitsB
        rw [g.high, List.all_eq_true]
        exact fun j hj => hf j (List.mem_range.mp hj)] at this
      exact this
end
end Kc

namespace Kc
open PySem PySem.Spec PyProof.Rows L2
section
variable {P : Program} {w : World} {K : PySem.W.Frag} {mg : Str → Option Value} {base : Heap}
theorem scSquare : FnScope ["rows", "width", "height", "side", "tile", "row", "y"] ["rows"] (defScope sSquare) := ⟨rfl, rfl, rfl, by decide +kernel, rfl, by decide +kernel, by decide +kernel⟩
theorem ok_square {f fM : Addr} {fd fdM : FuncData} {k : Nat} (F : Fun K "square_tile" "square_tile" sSquare f fd) (GM : FnOk P w K mg base CX0 (k + 1) fM fdM ["first", "second"] spMeasure) (kM : PySem.W.keepIn K (.ref fM) = true)
    (bM : Binds K fdM ["first", "second"] []) (mM : mg "common_measure" = some (.ref fM)) (ml : mg "len" = none) (mr : mg "range" = none) : FnOk P w K mg base CX0 (k + 2) f fd ["rows"] spSquare := by
  refine F.ok scSquare (fun vs H Q E h => ?_) (fun cdv A outer s H vs Q E hr h => ?_)
  · obtain ⟨p, ps, rows, rfl, _⟩ := h
    rfl
  · obtain ⟨p, ps, rows, rfl, hR, g, hW, hHt, qY, qN⟩ := h
    refine ⟨_, pss_cons (ps_set (i := 1) scSquare.nd rfl (.inr rfl) (pe_callB call_len_seq (by rfl) ml PySem.boot_len (pa_cons (pe_ix ix_list (pv 0) pe_int (fun _ _ => rfl)) pa_nil)))
      (pss_cons (ps_set (i := 2) scSquare.nd rfl (.inl rfl) (pe_callB call_len_seq (by rfl) ml PySem.boot_len (pa_cons (pv 0) pa_nil)))
      (pss_cons (ps_set (i := 3) scSquare.nd rfl (.inr rfl) (pe_call GM hr (by rfl) mM kM bM .nil pass0 (pa_cons (pv 1) (pa_cons (pv 2) pa_nil))))
      (pss_cons (ps_set (i := 4) scSquare.nd rfl (.inr rfl) (pe_lc (own := [("row", 5)]) (g := gName 5) (tt := tYes) rfl scSquare.nd (pi_list (pe_slice sl_list (pv 0) po_none (po_some (pv 3))))
        (blkOk_by (own := [("row", 5)]) (N := ["rows", "width", "height", "side", "tile", "row", "y"]) (sc := defScope sSquare) (by decide +kernel))
        (fun _ _ _ _ _ => pg_name (i := 5) scSquare.nd rfl (Or.inl rfl)) (fun _ _ _ _ _ => pts_nil) (fun _ _ _ _ _ => pe_slice (show SlR _ (rSlL K) from sl_list) (pv 5) po_none (po_some (pv 3)))))
      (pss_cons (ps_if (pt_cmpR (op_eqD hr.units) (pv 0) (pe_lc (own := [("y", 6)]) (g := gName 6) (tt := tYes) rfl scSquare.nd (pi_range1 rfl mr (pa_cons (pv 2) pa_nil))
        (blkOk_by (own := [("y", 6)]) (N := ["rows", "width", "height", "side", "tile", "row", "y"]) (sc := defScope sSquare) (by decide +kernel))
        (fun _ _ _ _ _ => pg_name (i := 6) scSquare.nd rfl (Or.inl rfl)) (fun _ _ _ _ _ => pts_nil) (fun _ _ _ _ _ => pe_op op_rep (pe_ix (show IxR _ (rIxL K) from ix_list) (pv 4) (pe_op op_mod (pv 6) (pv 3)) (fun _ _ => rfl)) (pe_op op_fdiv (pv 1) (pv 3)))) (nomark _))
        (pss_one (ps_ret (pv 4))) pss_nil)
      (pss_one (ps_ret pe_non)))))), ?_⟩
    obtain ⟨r0, e0, hr0, _⟩ := g.row (y := 0) g.h1
    obtain ⟨a0, ha0, hI0⟩ := hR.get e0
    have hps : ((ps.map V.ref).length : Int) = (rows.length : Int) := by rw [List.length_map, hR.2.1]
    have hrl : ((r0.map V.int).length : Int) = (wide rows : Int) := by rw [List.length_map, hr0]
    obtain ⟨p1, p2, p3⟩ := sq_pos g
    have gc := cut_rect g p1 p2 p3
    have gS : sqSide rows = Nat.gcd (wide rows) rows.length := rfl
    rw [← gS] at p1 p2 p3 gc
    generalize hn : sqSide rows = n at *
    refine ⟨_, rfl, p, _, 0, .ref a0, rfl, rfl, SqL.of hR.1, atI_nat (j := 0) (by rw [List.getElem?_map, ha0]; rfl), a0, _, rfl, .inl (SqL.of hI0), ?_⟩
    rw [hrl]
    refine ⟨_, rfl, p, _, rfl, .inl (SqL.of hR.1), ?_⟩
    rw [hps]
    refine ⟨_, rfl, _, rfl, wide rows, rows.length, rfl, ?_⟩
    rw [← gS]
    -- cell = [row[:side] for row in rows[:side]]
    refine ⟨_, rfl, _, rfl, n, rfl, p, _, rfl, SqL.of hR.1, fun c nc => ?_⟩
    have hcut : cutV (ps.map V.ref) none (some (n : Int)) = (ps.take n).map V.ref := by rw [cut_to, List.map_take]
    have smc : Same H (upd H c (.lst (cutV (ps.map V.ref) none (some (n : Int))))) := same_upd nc
    have hc : upd H c (.lst (cutV (ps.map V.ref) none (some (n : Int)))) c = some (.lst ((ps.take n).map V.ref)) := by rw [upd_same, hcut]
    generalize hH1 : upd H c (.lst (cutV (ps.map V.ref) none (some (n : Int)))) = H1 at *
    refine ⟨c, rfl, ⟨_, SqL.of hc⟩, fun D nD => ?_⟩
    refine lc_list (K := K) (a := c) (xs := (ps.take n).map V.ref) (fun i H' => ∃ qs : List Addr, Same H1 H' ∧ RowsAt H' D qs ((cutRows n rows).take i) ∧ D ∉ qs)
      ⟨[], same_upd nD, ⟨upd_same, rfl, fun i a r e => by simp at e⟩, by simp⟩ (fun i H' _ ⟨qs, sm, _⟩ => SqL.of (sm _ _ hc)) ?_ ?_
    · rintro i x H' hx ⟨qs, sm, hD, nD2⟩
      obtain ⟨a, ha, rfl⟩ := map_get hx
      have hi : i < n := by
        have := (List.getElem?_eq_some_iff.mp ha).1
        rw [List.length_take] at this
        omega
      rw [List.getElem?_take_of_lt hi] at ha
      obtain ⟨r, er, hrl2, _⟩ := g.row (y := i) (by omega)
      have hI : IntsAt H' a r := sm _ _ (smc _ _ (hR.2.2 i a r ha er))
      have hcr : (cutRows n rows)[i]? = some (r.take n) := by
        unfold cutRows
        rw [List.getElem?_map, List.getElem?_take_of_lt hi, er]
        rfl
      refine ⟨rfl, ?_⟩
      refine yes_ite ?_
      refine ⟨_, rfl, _, rfl, n, rfl, a, _, rfl, SqL.of hI, fun d nd => ?_⟩
      have dD : D ≠ d := ne_of_none hD.1 nd
      have hq : d ∉ qs := fun z => by
        obtain ⟨o, ho⟩ := hD.there z
        rw [nd] at ho
        cases ho
      have hv : cutV (r.map V.int) none (some (n : Int)) = (r.take n).map V.int := by rw [cut_to, List.map_take]
      have hD2 : RowsAt (upd H' d (.lst (cutV (r.map V.int) none (some (n : Int))))) D qs ((cutRows n rows).take i) := hD.put dD hq
      have hd : IntsAt (upd H' d (.lst (cutV (r.map V.int) none (some (n : Int))))) d (r.take n) := by
        show upd _ d _ d = _
        rw [upd_same, hv]
      have smd := same_new (o := .lst (cutV (r.map V.int) none (some (n : Int)))) sm nd
      refine ⟨qs.map V.ref, hD2.1, ?_, qs ++ [d], same_put smd nD, ?_, ?_⟩
      · rw [List.length_map, hD.2.1, List.length_take]
        exact line_lt (by omega)
      · rw [take_succ hcr]
        exact hD2.push hd nD2 dD
      · intro z
        rcases List.mem_append.mp z with z | z
        · exact nD2 z
        · exact dD (List.mem_singleton.mp z)
    · rintro H2 ⟨qs, sm1, hD, nD2⟩
      rw [List.length_map, List.length_take, hR.2.1, Nat.min_eq_left (by omega), List.take_of_length_le (show (cutRows n rows).length ≤ n by rw [gc.high]; exact Nat.le_refl _)] at hD
      -- rows == [cell[y % side] * (width // side) for y in range(height)]
      have sm2 : Same H H2 := smc.trans sm1
      refine ⟨_, rfl, _, rfl, rows.length, rfl, by omega, by omega, fun D2 nE => ?_⟩
      rw [show (rows.length : Int).toNat = rows.length from Int.toNat_natCast _]
      refine lc_range (lo := 0) (n := rows.length) (fun i H' => ∃ ts : List Addr, Same H2 H' ∧ RowsAt H' D2 ts ((tiled (wide rows) n rows.length (cutRows n rows)).take i) ∧ D2 ∉ ts)
        ⟨[], same_upd nE, ⟨upd_same, rfl, fun i a r e => by simp at e⟩, by simp⟩ ?_ ?_
      · rintro i H' hi ⟨ts, sm, hT, nT⟩
        have hC : RowsAt H' D qs (cutRows n rows) := same_rows sm hD
        obtain ⟨r, er, hrl2, _⟩ := gc.row (y := i % n) (Nat.mod_lt _ p1)
        obtain ⟨a, ha, hI⟩ := hC.get er
        have htr : (tiled (wide rows) n rows.length (cutRows n rows))[i]? = some (tileRow (wide rows / n) r) := by
          unfold tiled
          rw [List.getElem?_map, List.getElem?_range hi, Option.map_some, List.getD_eq_getElem?_getD, er]
          rfl
        have hnp : (0 : Int) < (n : Int) := by omega
        have hdiv : (wide rows : Int) / (n : Int) = ((wide rows / n : Nat) : Int) := by rw [Int.natCast_ediv]
        have hle : wide rows / n ≤ wide rows := Nat.div_le_self _ _
        refine ⟨rfl, ?_⟩
        refine yes_ite ?_
        refine ⟨_, rfl, _, rfl, _, rfl, (0 : Int) + i, n, rfl, rfl, hnp, D, _, ((0 : Int) + i) % (n : Int), .ref a, rfl, rfl, SqL.of hC.1, at_of (j := i % n) (by rw [Int.zero_add, Int.natCast_emod]) (by rw [List.getElem?_map, ha]; rfl), _, rfl, _, rfl, wide rows, n, rfl, rfl, ⟨hnp, by omega⟩, a, (wide rows : Int) / (n : Int), _, rfl, rfl, hI, ?_, ?_, ?_, fun d nd => ?_⟩
        · rw [hdiv]
          clear hdiv
          generalize wide rows / n = z at hle ⊢
          omega
        · rw [hdiv]
          clear hdiv
          generalize wide rows / n = z at hle ⊢
          omega
        · rw [hdiv, Int.toNat_natCast, List.length_map, hrl2]
          have : n * (wide rows / n) ≤ wide rows := Nat.mul_div_le _ _
          exact line_le (by omega)
        have dD : D2 ≠ d := ne_of_none hT.1 nd
        have hq : d ∉ ts := fun z => by
          obtain ⟨o, ho⟩ := hT.there z
          rw [nd] at ho
          cases ho
        have hv : (List.replicate ((wide rows : Int) / (n : Int)).toNat (r.map V.int)).flatten = (tileRow (wide rows / n) r).map V.int := by
          rw [hdiv, Int.toNat_natCast, tile_map]
        rw [hv]
        have hD2 : RowsAt (upd H' d (.lst ((tileRow (wide rows / n) r).map V.int))) D2 ts ((tiled (wide rows) n rows.length (cutRows n rows)).take i) := hT.put dD hq
        have hd : IntsAt (upd H' d (.lst ((tileRow (wide rows / n) r).map V.int))) d (tileRow (wide rows / n) r) := upd_same
        have smd := same_new (o := .lst ((tileRow (wide rows / n) r).map V.int)) sm nd
        refine ⟨ts.map V.ref, hD2.1, ?_, ts ++ [d], same_put smd nE, ?_, ?_⟩
        · rw [List.length_map, hT.2.1, List.length_take]
          exact line_lt (by omega)
        · rw [take_succ htr]
          exact hD2.push hd nT dD
        · intro z
          rcases List.mem_append.mp z with z | z
          · exact nT z
          · exact dD (List.mem_singleton.mp z)
      · rintro H3 ⟨ts, sm3, hT, nT⟩
        rw [List.take_of_length_le (show (tiled (wide rows) n rows.length (cutRows n rows)).length ≤ rows.length by unfold tiled; rw [List.length_map, List.length_range]; exact Nat.le_refl _)] at hT
        have sm : Same H H3 := sm2.trans sm3
        refine ⟨dRows rows, dRows (tiled (wide rows) n rows.length (cutRows n rows)), rows_dp (same_rows sm hR), rows_dp hT, rows_shaped _, rows_shaped _, _, rfl, ?_⟩
        rw [rows_eqv]
        have he : sqOk rows = decide (rows = tiled (wide rows) n rows.length (cutRows n rows)) := by
          unfold sqOk
          rw [hn]
        rw [← he]
        cases hs : sqOk rows with
        | true =>
          refine iteT ⟨_, rfl, ?_⟩
          exact qY hs H3 D qs sm (same_rows sm3 hD)
        | false =>
          refine iteF ?_
          exact qN hs H3 sm
theorem scCellFor : FnScope ["rows", "m"] ["rows", "m"] (defScope sCellFor) := ⟨rfl, rfl, rfl, by decide +kernel, rfl, by decide +kernel, by decide +kernel⟩
theorem ok_cellFor {f fS : Addr} {fd fdS : FuncData} {k : Nat} (F : Fun K "tile_for" "tile_for" sCellFor f fd) (GS : FnOk P w K mg base CX0 (k + 1) fS fdS ["rows"] spSquare) (kS : PySem.W.keepIn K (.ref fS) = true)
    (bS : Binds K fdS ["rows"] []) (mS : mg "square_tile" = some (.ref fS)) : FnOk P w K mg base CX0 (k + 2) f fd ["rows", "m"] spCellFor := by
  refine F.ok scCellFor (fun vs H Q E h => ?_) (fun cdv A outer s H vs Q E hr h => ?_)
  · obtain ⟨p, ps, rows, m, rfl, _⟩ := h
    rfl
  · obtain ⟨p, ps, rows, m, rfl, hR, g, hW, hHt, qY, qN⟩ := h
    refine ⟨_, pss_cons (ps_if (pt_cmpR op_eq (pe_op op_mod (pv 1) pe_int) pe_int (nomark _)) (pss_one (ps_ret (pe_call GS hr (by rfl) mS kS bS .nil pass0 (pa_cons (pv 0) pa_nil)))) pss_nil) (pss_one (ps_ret (pv 0))), ?_⟩
    refine ⟨_, rfl, m, 2, rfl, rfl, (by show (0 : Int) < 2; decide), rfl, _, rfl, ite2 (fun e => ?_) (fun e => ?_)⟩
    · have e1 : m % 2 = 1 := by
        have := V.int.inj (of_decide_eq_true e)
        omega
      refine ⟨_, rfl, p, ps, rows, rfl, hR, g, hW, hHt, fun hs => ?_, fun hs => ?_⟩
      · exact qY _ (by unfold cellFor; rw [if_pos e1, if_pos hs])
      · exact qN (by unfold cellFor; rw [if_pos e1, hs]; rfl)
    · have e1 : ¬ m % 2 = 1 := fun z => e (decide_eq_true (by show V.int ((m : Int) % 2) = V.int 1; rw [show (m : Int) % 2 = 1 by omega]))
      refine ⟨_, rfl, ?_⟩
      exact qY rows (by unfold cellFor; rw [if_neg e1]) H p ps (Same.refl H) hR
end
end Kc

namespace Kc
/-! ### those that are told -/
def symRow (rows : Rows) (m b n : Nat) : List Rg.Sym := (List.range n).filterMap fun (a : Nat) => if Rg.isSym (chartR rows) ⟨m, a, b⟩ = true then some ⟨m, a, b⟩ else none
def symsTo (rows : Rows) (m n : Nat) : List Rg.Sym := (List.range n).flatMap fun (b : Nat) => symRow rows m b (wide rows)
def symsM (rows : Rows) (m : Nat) : List Rg.Sym := symsTo rows m rows.length
def symsAll (rows : Rows) (n : Nat) : List Rg.Sym := (List.range n).flatMap fun (m : Nat) => symsM rows m
theorem syms_all (rows : Rows) : Rg.syms (chartR rows) = symsAll rows 8 := rfl
theorem symRow_succ (rows : Rows) (m b n : Nat) : symRow rows m b (n + 1) = symRow rows m b n ++ (if Rg.isSym (chartR rows) ⟨m, n, b⟩ = true then [⟨m, n, b⟩] else []) := by
  unfold symRow
  rw [List.range_succ, List.filterMap_append]
  congr 1
  by_cases c : Rg.isSym (chartR rows) ⟨m, n, b⟩ = true
  · simp [c]
  · simp [c]
theorem symsTo_succ (rows : Rows) (m n : Nat) : symsTo rows m (n + 1) = symsTo rows m n ++ symRow rows m n (wide rows) := by
  unfold symsTo
  rw [List.range_succ, List.flatMap_append]
  simp
theorem symsAll_succ (rows : Rows) (n : Nat) : symsAll rows (n + 1) = symsAll rows n ++ symsM rows n := by
  unfold symsAll
  rw [List.range_succ, List.flatMap_append]
  simp
theorem symRow_len (rows : Rows) (m b n : Nat) : (symRow rows m b n).length ≤ n := by
  unfold symRow
  exact Nat.le_trans (List.length_filterMap_le _ _) (by rw [List.length_range]; exact Nat.le_refl _)
theorem symsTo_len (rows : Rows) (m : Nat) : ∀ n, (symsTo rows m n).length ≤ n * wide rows
  | 0 => by simp [symsTo]
  | n + 1 => by
    rw [symsTo_succ, List.length_append, Nat.add_mul, Nat.one_mul]
    have h1 := symsTo_len rows m n
    have h2 := symRow_len rows m n (wide rows)
    omega
theorem symsAll_len (rows : Rows) : ∀ n, (symsAll rows n).length ≤ n * (rows.length * wide rows)
  | 0 => by simp [symsAll]
  | n + 1 => by
    rw [symsAll_succ, List.length_append, Nat.add_mul, Nat.one_mul]
    have h1 := symsAll_len rows n
    have h2 := symsTo_len rows n rows.length
    unfold symsM
    omega
end Kc

namespace Kc
open PySem PySem.Spec PyProof.Rows L2
/-- a list of triples -/
def SymsAt (H : Hp) (p : Addr) (ts : List Addr) (l : List Rg.Sym) : Prop := H p = some (.lst (ts.map V.ref)) ∧ ts.length = l.length ∧ ∀ (i : Nat) (a : Addr) (s : Rg.Sym), ts[i]? = some a → l[i]? = some s → H a = some (.tup [.int s.m, .int s.a, .int s.b])
theorem same_syms {H H' : Hp} (s : Same H H') {p : Addr} {ts : List Addr} {l : List Rg.Sym} (h : SymsAt H p ts l) : SymsAt H' p ts l := ⟨s _ _ h.1, h.2.1, fun i a z e1 e2 => s _ _ (h.2.2 i a z e1 e2)⟩
theorem SymsAt.nil {H : Hp} {p : Addr} : SymsAt (upd H p (.lst [])) p [] [] := ⟨upd_same, rfl, fun i a s e => by simp at e⟩
theorem get_append {α β : Type} {xs xs' : List α} {ys ys' : List β} (h : xs.length = ys.length) {i : Nat} {x : α} {y : β} (e1 : (xs ++ xs')[i]? = some x) (e2 : (ys ++ ys')[i]? = some y) :
    (xs[i]? = some x ∧ ys[i]? = some y) ∨ (xs'[i - xs.length]? = some x ∧ ys'[i - xs.length]? = some y) := by
  by_cases hi : i < xs.length
  · rw [List.getElem?_append_left hi] at e1
    rw [List.getElem?_append_left (by omega)] at e2
    exact .inl ⟨e1, e2⟩
  · rw [List.getElem?_append_right (by omega)] at e1
    rw [List.getElem?_append_right (by omega)] at e2
    rw [← h] at e2
    exact .inr ⟨e1, e2⟩
theorem SymsAt.join {H : Hp} {p q : Addr} {ts us : List Addr} {l k : List Rg.Sym} (h : SymsAt H p ts l) (h2 : SymsAt H q us k) : SymsAt (upd H p (.lst (ts.map V.ref ++ us.map V.ref))) p (ts ++ us) (l ++ k) := by
  refine ⟨by rw [upd_same, List.map_append], by rw [List.length_append, List.length_append, h.2.1, h2.2.1], fun i a s e1 e2 => ?_⟩
  have fin : H a = some (.tup [.int s.m, .int s.a, .int s.b]) → upd H p (.lst (ts.map V.ref ++ us.map V.ref)) a = some (.tup [.int s.m, .int s.a, .int s.b]) := fun e => by
    rw [upd_ne (ne_of e h.1 (fun z => by cases z))]
    exact e
  rcases get_append h.2.1 e1 e2 with ⟨f1, f2⟩ | ⟨f1, f2⟩
  · exact fin (h.2.2 i a s f1 f2)
  · exact fin (h2.2.2 _ a s f1 f2)
theorem SymsAt.push {H : Hp} {p T : Addr} {ts : List Addr} {l : List Rg.Sym} {s : Rg.Sym} (h : SymsAt H p ts l) (hT : H T = some (.tup [.int s.m, .int s.a, .int s.b])) : SymsAt (upd H p (.lst (ts.map V.ref ++ [.ref T]))) p (ts ++ [T]) (l ++ [s]) := by
  refine ⟨by rw [upd_same, List.map_append]; rfl, by rw [List.length_append, List.length_append, h.2.1]; rfl, fun i a z e1 e2 => ?_⟩
  have fin : H a = some (.tup [.int z.m, .int z.a, .int z.b]) → upd H p (.lst (ts.map V.ref ++ [.ref T])) a = some (.tup [.int z.m, .int z.a, .int z.b]) := fun e => by
    rw [upd_ne (ne_of e h.1 (fun z => by cases z))]
    exact e
  rcases get_append h.2.1 e1 e2 with ⟨f1, f2⟩ | ⟨f1, f2⟩
  · exact fin (h.2.2 i a z f1 f2)
  · have hl := (List.getElem?_eq_some_iff.mp f1).1
    simp at hl
    rw [hl] at f1 f2
    simp at f1 f2
    subst f1 f2
    exact fin hT
/-! ### promises -/
def spToldTurn : Sp := fun vs H Q _ => ∃ (p : Addr) (ps : List Addr) (rows : Rows) (m : Nat), vs = [.ref p, .int m] ∧ RowsAt H p ps rows ∧ Good rows ∧ m < 8 ∧ ∀ H' q ts, Same H H' → H q = none → SymsAt H' q ts (symsM rows m) → Q (.ref q) H'
section
variable {P : Program} {w : World} {K : PySem.W.Frag} {mg : Str → Option Value} {base : Heap}
theorem scToldTurn : FnScope ["rows", "m", "tile", "image", "found", "b", "a"] ["rows", "m"] (defScope sToldTurn) := ⟨rfl, rfl, rfl, by decide +kernel, rfl, by decide +kernel, by decide +kernel⟩
theorem ok_toldTurn {f fC fT fF : Addr} {fd fdC fdT fdF : FuncData} {k : Nat} (F : Fun K "told_with_turn" "told_with_turn" sToldTurn f fd)
    (GC : FnOk P w K mg base CX0 (k + 1) fC fdC ["rows", "m"] spCellFor) (kC : PySem.W.keepIn K (.ref fC) = true) (bC : Binds K fdC ["rows", "m"] []) (mC : mg "tile_for" = some (.ref fC))
    (GT : FnOk P w K mg base CX0 (k + 1) fT fdT ["tile", "m"] spTurned) (kT : PySem.W.keepIn K (.ref fT) = true) (bT : Binds K fdT ["tile", "m"] []) (mT : mg "turned" = some (.ref fT))
    (GF : FnOk P w K mg base CX0 (k + 1) fF fdF ["tile", "image", "a", "b"] spFits) (kF : PySem.W.keepIn K (.ref fF) = true) (bF : Binds K fdF ["tile", "image", "a", "b"] []) (mF : mg "fits" = some (.ref fF))
    (ml : mg "len" = none) (mr : mg "range" = none) : FnOk P w K mg base CX0 (k + 2) f fd ["rows", "m"] spToldTurn := by
  refine F.ok scToldTurn (fun vs H Q E h => ?_) (fun cdv A outer s H vs Q E hr h => ?_)
  · obtain ⟨p, ps, rows, m, rfl, _⟩ := h
    rfl
  · obtain ⟨p, ps, rows, m, rfl, hR, g, hm, q⟩ := h
    refine ⟨_, pss_cons (ps_set (i := 2) scToldTurn.nd rfl (.inl rfl) (pe_call GC hr (by rfl) mC kC bC .nil pass0 (pa_cons (pv 0) (pa_cons (pv 1) pa_nil))))
      (pss_cons (ps_if (pt_cmpR op_isN (pv 2) pe_non (nomark _)) (pss_one (ps_ret (pe_lst pa_nil))) pss_nil)
      (pss_cons (ps_set (i := 3) scToldTurn.nd rfl (.inl rfl) (pe_call GT hr (by rfl) mT kT bT .nil pass0 (pa_cons (pv 2) (pa_cons (pv 1) pa_nil))))
      (pss_cons (ps_set (i := 4) scToldTurn.nd rfl (.inl rfl) (pe_lst pa_nil))
      (pss_cons (ps_for PassesOwn.never rfl (pi_range1 rfl mr (pa_cons (pe_callB call_len_seq (by rfl) ml PySem.boot_len (pa_cons (pv 0) pa_nil)) pa_nil)) (pg_name (i := 5) scToldTurn.nd rfl (Or.inl rfl))
        (pss_one (ps_for PassesOwn.never rfl (pi_range1 rfl mr (pa_cons (pe_callB call_len_seq (by rfl) ml PySem.boot_len (pa_cons (pe_ix ix_list (pv 0) pe_int (fun _ _ => rfl)) pa_nil)) pa_nil)) (pg_name (i := 6) scToldTurn.nd rfl (Or.inl rfl))
          (pss_one (ps_if (pt_val (pe_call GF hr (by rfl) mF kF bF .nil pass0 (pa_cons (pv 2) (pa_cons (pv 3) (pa_cons (pv 6) (pa_cons (pv 5) pa_nil))))))
            (pss_one (ps_expr (pe_bm PySem.F.plainAttrs_list PySem.F.slot_list_append PySem.F.type_list_append mt_append (pv 4) (pa_cons (pe_tup (pa_cons (pv 1) (pa_cons (pv 6) (pa_cons (pv 5) pa_nil)))) pa_nil)))) pss_nil)))))
      (pss_one (ps_ret (pv 4))))))), ?_⟩
    obtain ⟨r0, e0, hr0, _⟩ := g.rect.row (y := 0) g.h1
    obtain ⟨a0, ha0, hI0⟩ := hR.get e0
    have hps : ((ps.map V.ref).length : Int) = (rows.length : Int) := by rw [List.length_map, hR.2.1]
    have hrl : ((r0.map V.int).length : Int) = (wide rows : Int) := by rw [List.length_map, hr0]
    have hw := g.w2
    have hh := g.h2
    have cl := cell_le g m
    refine ⟨_, rfl, _, rfl, p, ps, rows, m, rfl, hR, g.rect, by omega, by omega, fun cell hcell H1 pc pcs sm1 hC => ?_, fun hcell H1 sm1 => ?_⟩
    · obtain ⟨gc, sq, _, _⟩ := cell_some g hcell
      refine ⟨_, rfl, rfl, _, rfl, iteF ?_⟩
      refine ⟨_, rfl, _, rfl, pc, pcs, cell, m, _, _, rfl, hC, gc, by omega, by omega, hm, sq, fun H2 pi pis img sm2 hI hImg => ?_⟩
      refine ⟨Nat.zero_le _, fun D nD => ?_⟩
      have s2 : Same H H2 := sm1.trans sm2
      have s3 : Same H (upd H2 D (.lst [])) := same_new s2 nD
      have nDH : H D = none := Same.free s2 nD
      refine ⟨_, rfl, p, _, rfl, .inl (SqL.of (s3 _ _ hR.1)), rows.length, by rw [hps], by omega, by omega, ?_⟩
      rw [show (rows.length : Int).toNat = rows.length from Int.toNat_natCast _]
      refine for_range (lo := 0) (n := rows.length) (fun b σ H' => ∃ (bv av : Option V) (ts : List Addr), σ = [some (.ref p), some (.int m), some (.ref pc), some (.ref pi), some (.ref D), bv, av] ∧ Same H2 H' ∧ SymsAt H' D ts (symsTo rows m b))
        ⟨none, none, [], rfl, same_upd nD, SymsAt.nil⟩ ?_ ?_
      · rintro b σ H' hb ⟨bv, av, ts, rfl, sm, hT⟩
        have hR' : RowsAt H' p ps rows := same_rows (s2.trans sm) hR
        refine ⟨_, rfl, p, _, 0, .ref a0, rfl, rfl, SqL.of hR'.1, atI_nat (j := 0) (by rw [List.getElem?_map, ha0]; rfl), a0, _, rfl, .inl (SqL.of (same_ints (s2.trans sm) hI0)), wide rows, by rw [hrl], by omega, by omega, ?_⟩
        rw [show (wide rows : Int).toNat = wide rows from Int.toNat_natCast _]
        refine for_range (lo := 0) (n := wide rows) (fun a σ H' => ∃ (av : Option V) (ts : List Addr), σ = [some (.ref p), some (.int m), some (.ref pc), some (.ref pi), some (.ref D), some (.int b), av] ∧ Same H2 H' ∧ SymsAt H' D ts (symsTo rows m b ++ symRow rows m b a))
          ⟨av, ts, by rw [Int.zero_add]; rfl, sm, by rw [show symRow rows m b 0 = [] from rfl, List.append_nil]; exact hT⟩ ?_ ?_
        · rintro a σ H3 ha ⟨av, ts, rfl, sm3, hT3⟩
          refine ⟨_, rfl, _, rfl, _, rfl, _, rfl, pc, pcs, cell, pi, pis, img, _, _, (0 : Int) + a, b, rfl, same_rows (sm2.trans sm3) hC, same_rows sm3 hI, gc, hImg.rect, by omega, by omega, fun H4 sm4 => ⟨_, rfl, ?_⟩⟩
          rw [fits_sym g hm hcell hImg, Int.zero_add]
          have hT4 := same_syms sm4 hT3
          have bl : (symsTo rows m b ++ symRow rows m b a).length ≤ 70000 + 65536 := by
            rw [List.length_append]
            have h1 := symsTo_len rows m b
            have h2 := symRow_len rows m b a
            have h3 : b * wide rows ≤ rows.length * wide rows := Nat.mul_le_mul_right _ (by omega)
            have h4 := g.wh
            rw [Nat.mul_comm] at h4
            omega
          cases hs : Rg.isSym (chartR rows) ⟨m, a, b⟩ with
          | true =>
            refine iteT ⟨_, rfl, .inl ⟨rfl, _, SqL.of hT4.1⟩, _, rfl, _, rfl, _, rfl, show 3 ≤ sizeLine by decide, fun T nT => ?_⟩
            have hTT : SymsAt (upd H4 T (.tup [.int m, .int a, .int b])) D ts (symsTo rows m b ++ symRow rows m b a) := same_syms (same_upd nT) hT4
            have smT : Same H2 (upd H4 T (.tup [.int m, .int a, .int b])) := same_new (sm3.trans sm4) nT
            refine ⟨D, _, _, rfl, rfl, hTT.1, ?_, ?_⟩
            · rw [List.length_map, hTT.2.1]
              exact line_lt (by omega)
            · refine ⟨_, ts ++ [T], rfl, same_put smT nD, ?_⟩
              rw [symRow_succ, hs, if_pos rfl, ← List.append_assoc]
              exact hTT.push (s := ⟨m, a, b⟩) upd_same
          | false =>
            refine iteF ⟨_, ts, rfl, sm3.trans sm4, ?_⟩
            rw [symRow_succ, hs, if_neg Bool.false_ne_true, List.append_nil]
            exact hT4
        · rintro σ H3 ⟨av, ts, rfl, sm3, hT3⟩
          refine ⟨_, _, ts, rfl, sm3, ?_⟩
          rw [symsTo_succ]
          exact hT3
      · rintro σ H' ⟨bv, av, ts, rfl, sm, hT⟩
        exact ⟨_, rfl, q H' D ts (s2.trans sm) nDH hT⟩
    · refine ⟨_, rfl, rfl, _, rfl, iteT ⟨Nat.zero_le _, fun D nD => q _ D [] (same_new sm1 nD) (Same.free sm1 nD) ?_⟩⟩
      have : symsM rows m = [] := by
        unfold symsM symsTo symRow
        apply List.flatMap_eq_nil_iff.mpr
        intro b _
        apply List.filterMap_eq_nil_iff.mpr
        intro a _
        rw [cell_none g hm hcell]
        rfl
      rw [this]
      exact SymsAt.nil
end
end Kc

namespace Kc
/-! ### steps, and the least repeat -/
/-- the first of a range at which it holds -/
theorem first_is {n k : Nat} {f : Nat → Bool} (hk : k < n) (h : f k = true) (h0 : ∀ j, j < k → f j = false) : Rg.firstFrom n f = k := by
  unfold Rg.firstFrom
  have : (List.range n).find? f = some k := by
    rw [List.find?_range_eq_some]
    refine ⟨h, List.mem_range.mpr hk, fun j hj => ?_⟩
    rw [h0 j hj]; rfl
  rw [this]
  rfl
theorem mod_nat {W x : Nat} (h : x < W) : ((x : Int) % (W : Int)).toNat = x := by
  rw [Int.emod_eq_of_lt (by omega) (by omega)]
  simp
/-- rows are their own image -/
theorem img_self {rows : Rows} {W H : Nat} (g : Rect W H rows) : ImgOf W H 0 rows rows := by
  refine ⟨g, fun x y hx hy _ => ?_⟩
  have e1 : tX W 0 x y = x := mod_nat hx
  have e2 : tY H 0 x y = y := mod_nat hy
  rw [e1, e2]
/-- a step -/
def stp (rows : Rows) (a b : Int) : Bool := Rg.isSym (chartR rows) ⟨0, a, b⟩
theorem fits_step {rows : Rows} (g : Good rows) (a b : Int) : fitsB rows rows a b = stp rows a b :=
  fits_sym (m := 0) (cell := rows) g (by omega) rfl (img_self g.rect)
theorem stp_iff {rows : Rows} (g : Good rows) (a b : Int) : stp rows a b = true ↔ ∀ X Y, fld rows (X + a) (Y + b) = fld rows X Y := isSym_iff g (m := 0) (by omega) a b
theorem stp_w {rows : Rows} (g : Good rows) : stp rows (wide rows : Int) 0 = true := by
  rw [stp_iff g]
  intro X Y
  have := g.rect.rep.x Y X
  simpa using this
theorem stp_h {rows : Rows} (g : Good rows) : stp rows 0 (rows.length : Int) = true := by
  rw [stp_iff g]
  intro X Y
  have := g.rect.rep.y X Y
  simpa using this
/-- steps to the side taken off -/
theorem stp_mod {rows : Rows} (g : Good rows) {p : Nat} (hp : 1 ≤ p) (h : stp rows (p : Int) 0 = true) (a k : Nat) (ha : stp rows (a : Int) (k : Int) = true) : stp rows ((a % p : Nat) : Int) (k : Int) = true := by
  rw [stp_iff g] at h ha ⊢
  have per : ∀ Y, Per (fun X => fld rows X Y) p := fun Y X => by
    have := h X Y
    simpa using this
  intro X Y
  rw [← ha X Y]
  have := (per (Y + k)).mul ((a / p : Nat) : Int) (X + ((a % p : Nat) : Int))
  rw [← this]
  have e := Nat.mod_add_div a p
  congr 1
  have e2 : ((a % p : Nat) : Int) + (p : Int) * ((a / p : Nat) : Int) = (a : Int) := by exact_mod_cast e
  omega
/-- p, r and q -/
theorem least_p {rows : Rows} (g : Good rows) {p : Nat} (h1 : 1 ≤ p) (h2 : p ≤ wide rows) (h : stp rows (p : Int) 0 = true) (h0 : ∀ j : Nat, 1 ≤ j → j < p → stp rows (j : Int) 0 = false) : (Rg.leastOf (chartR rows)).p = p := by
  refine first_is (n := wide rows + 1) (by omega) ?_ fun j hj => ?_
  · show (decide (0 < p) && stp rows (p : Int) 0) = true
    rw [h, decide_eq_true (by omega)]; rfl
  · show (decide (0 < j) && stp rows (j : Int) 0) = false
    by_cases c : 0 < j
    · rw [h0 j c hj, Bool.and_false]
    · rw [decide_eq_false c, Bool.false_and]
/-- is there a step by k down, with any to the side -/
def down (rows : Rows) (p k : Nat) : Bool := (List.range p).any fun a => stp rows (a : Int) (k : Int)
theorem down_p {rows : Rows} (g : Good rows) {p : Nat} (h1 : 1 ≤ p) (h2 : p ≤ wide rows) (h : stp rows (p : Int) 0 = true) (k : Nat) : down rows p k = down rows (wide rows) k := by
  apply Bool.eq_iff_iff.mpr
  unfold down
  simp only [List.any_eq_true, List.mem_range]
  constructor
  · rintro ⟨a, ha, e⟩
    exact ⟨a, by omega, e⟩
  · rintro ⟨a, ha, e⟩
    exact ⟨a % p, Nat.mod_lt _ h1, stp_mod g h1 h a k e⟩
theorem down_false {rows : Rows} {p k : Nat} (h : ∀ a, a < p → stp rows (a : Int) (k : Int) = false) : down rows p k = false := by
  unfold down
  apply Bool.eq_false_iff.mpr
  intro z
  obtain ⟨a, ha, e⟩ := List.any_eq_true.mp z
  rw [h a (List.mem_range.mp ha)] at e
  cases e
theorem down_true {rows : Rows} {p k a : Nat} (ha : a < p) (h : stp rows (a : Int) (k : Int) = true) : down rows p k = true :=
  List.any_eq_true.mpr ⟨a, List.mem_range.mpr ha, h⟩
theorem least_r {rows : Rows} (g : Good rows) {p r : Nat} (h1 : 1 ≤ p) (h2 : p ≤ wide rows) (h : stp rows (p : Int) 0 = true) (r1 : 1 ≤ r) (r2 : r ≤ rows.length) (hr : down rows p r = true) (h0 : ∀ j : Nat, 1 ≤ j → j < r → down rows p j = false) : (Rg.leastOf (chartR rows)).r = r := by
  refine first_is (n := rows.length + 1) (by omega) ?_ fun j hj => ?_
  · show (decide (0 < r) && down rows (wide rows) r) = true
    rw [← down_p g h1 h2 h, hr, decide_eq_true (by omega)]; rfl
  · show (decide (0 < j) && down rows (wide rows) j) = false
    by_cases c : 0 < j
    · rw [← down_p g h1 h2 h, h0 j c hj, Bool.and_false]
    · rw [decide_eq_false c, Bool.false_and]
theorem least_q {rows : Rows} {q r : Nat} (hr : (Rg.leastOf (chartR rows)).r = r) (h2 : q < wide rows) (h : stp rows (q : Int) (r : Int) = true) (h0 : ∀ j : Nat, j < q → stp rows (j : Int) (r : Int) = false) : (Rg.leastOf (chartR rows)).q = q := by
  show Rg.firstFrom (wide rows) (fun a => stp rows (a : Int) (((Rg.leastOf (chartR rows)).r : Nat) : Int)) = q
  rw [hr]
  exact first_is h2 h h0
/-- the least step to the side is one, from 1 to the breadth -/
theorem p_facts {rows : Rows} (g : Good rows) : ∃ p : Nat, (Rg.leastOf (chartR rows)).p = p ∧ 1 ≤ p ∧ p ≤ wide rows ∧ stp rows (p : Int) 0 = true := by
  have key : ∀ n : Nat, n ≤ wide rows → (∀ j : Nat, 1 ≤ j → j < wide rows - n → stp rows (j : Int) 0 = false) → 1 ≤ wide rows - n → ∃ p : Nat, (Rg.leastOf (chartR rows)).p = p ∧ 1 ≤ p ∧ p ≤ wide rows ∧ stp rows (p : Int) 0 = true := by
    intro n
    induction n with
    | zero =>
      intro _ h0 h1
      exact ⟨wide rows, least_p g h1 (Nat.le_refl _) (stp_w g) (fun j a b => h0 j a (by omega)), h1, Nat.le_refl _, stp_w g⟩
    | succ n ih =>
      intro hn h0 h1
      cases e : stp rows ((wide rows - (n + 1) : Nat) : Int) 0 with
      | true => exact ⟨_, least_p g h1 (by omega) e h0, h1, by omega, e⟩
      | false =>
        refine ih (by omega) (fun j a b => ?_) (by omega)
        by_cases c : j = wide rows - (n + 1)
        · rw [c]; exact e
        · exact h0 j a (by omega)
  have := g.w1
  exact key (wide rows - 1) (by omega) (fun j a b => by omega) (by omega)
end Kc

namespace Kc
/-! ### mirrors and glides of the field: of all whole a, b -/
/-- done twice -/
def tw (m : Nat) (a b : Int) : Int × Int := ((tp m a b).1 + a, (tp m a b).2 + b)
def Turns (rows : Rows) (m : Nat) : Prop := ∃ a b : Int, SymF (fld rows) m a b
def Mir (rows : Rows) (m : Nat) : Prop := ∃ a b : Int, SymF (fld rows) m a b ∧ tw m a b = (0, 0)
/-- no half of it is a step -/
def NoHalf (rows : Rows) (z : Int × Int) : Prop := ¬ (z.1 % 2 = 0 ∧ z.2 % 2 = 0 ∧ SymF (fld rows) 0 (z.1 / 2) (z.2 / 2))
def Gli (rows : Rows) (m : Nat) : Prop := ∃ a b : Int, SymF (fld rows) m a b ∧ NoHalf rows (tw m a b)
theorem sym_add {F : Int → Int → Int} {W H m : Nat} {a b : Int} (r : Rep F W H) (h : SymF F m a b) (i j : Int) : SymF F m (a + W * i) (b + H * j) := by
  intro X Y
  rw [← h X Y]
  have := r.add ((tp m X Y).1 + a) ((tp m X Y).2 + b) i j
  rw [← this]
  congr 1 <;> omega
theorem mem_syms {rows : Rows} (g : Good rows) {s : Rg.Sym} : s ∈ Rg.syms (chartR rows) ↔ s.m < 8 ∧ ∃ a b : Nat, a < wide rows ∧ b < rows.length ∧ s.a = a ∧ s.b = b ∧ SymF (fld rows) s.m a b := by
  unfold Rg.syms Rg.MOTIONS
  simp only [List.mem_flatMap, List.mem_range, List.mem_filterMap]
  constructor
  · rintro ⟨m, hm, b, hb, a, ha, e⟩
    by_cases c : Rg.isSym (chartR rows) ⟨m, a, b⟩ = true
    · rw [if_pos c] at e
      cases e
      exact ⟨hm, a, b, ha, hb, rfl, rfl, (isSym_iff g hm _ _).mp c⟩
    · rw [if_neg c] at e
      cases e
  · rintro ⟨hm, a, b, ha, hb, e1, e2, hs⟩
    obtain ⟨m, sa, sb⟩ := s
    refine ⟨m, hm, b, hb, a, ha, ?_⟩
    rw [if_pos ((isSym_iff g hm _ _).mpr hs)]
    simp only at e1 e2
    rw [e1, e2]
/-- each symmetry is a told one, sides apart -/
theorem told_of {rows : Rows} (g : Good rows) {m : Nat} {a b : Int} (h : SymF (fld rows) m a b) : ∃ (x y : Nat) (i j : Int), x < wide rows ∧ y < rows.length ∧ a = x + wide rows * i ∧ b = y + rows.length * j ∧ SymF (fld rows) m x y := by
  obtain ⟨x, i, hx, e⟩ := mod_place (wide rows) g.w1 a
  obtain ⟨y, j, hy, e2⟩ := mod_place rows.length g.h1 b
  refine ⟨x, y, i, j, hx, hy, e, e2, ?_⟩
  have := sym_add g.rect.rep h (-i) (-j)
  rw [e, e2, Int.mul_neg, Int.mul_neg] at this
  rwa [show (x : Int) + wide rows * i + -(wide rows * i) = x by omega, show (y : Int) + rows.length * j + -(rows.length * j) = y by omega] at this
theorem hasTurn_iff {rows : Rows} (g : Good rows) {m : Nat} (hm : m < 8) : Rg.hasTurn (Rg.syms (chartR rows)) m = true ↔ Turns rows m := by
  unfold Rg.hasTurn Turns
  rw [List.any_eq_true]
  constructor
  · rintro ⟨s, hs, e⟩
    have e := eq_of_beq e
    obtain ⟨_, a, b, _, _, _, _, h⟩ := (mem_syms g).mp hs
    rw [e] at h
    exact ⟨a, b, h⟩
  · rintro ⟨a, b, h⟩
    obtain ⟨x, y, i, j, hx, hy, _, _, h2⟩ := told_of g h
    exact ⟨⟨m, x, y⟩, (mem_syms g).mpr ⟨hm, x, y, hx, hy, rfl, rfl, h2⟩, by simp⟩
theorem around_iff {rows : Rows} (g : Good rows) {m : Nat} (hm : m < 8) (f : Rg.Sym → Bool) : (Rg.around (chartR rows) ((Rg.syms (chartR rows)).filter fun (s : Rg.Sym) => s.m == m)).any f = true ↔
    ∃ (x y : Nat) (i j : Int), x < wide rows ∧ y < rows.length ∧ (i = -1 ∨ i = 0 ∨ i = 1) ∧ (j = -1 ∨ j = 0 ∨ j = 1) ∧ SymF (fld rows) m x y ∧ f ⟨m, x + i * wide rows, y + j * rows.length⟩ = true := by
  unfold Rg.around
  rw [List.any_eq_true]
  simp only [List.mem_flatMap, List.mem_map, List.mem_filter, mem_syms g]
  have e3 : ∀ i : Int, i ∈ ([-1, 0, 1] : List Int) ↔ (i = -1 ∨ i = 0 ∨ i = 1) := fun i => by simp
  constructor
  · rintro ⟨z, ⟨s, ⟨⟨_, x, y, hx, hy, ea, eb, h⟩, em⟩, i, hi, j, hj, rfl⟩, hz⟩
    have em := eq_of_beq em
    rw [em, ea, eb] at hz
    rw [em] at h
    exact ⟨x, y, i, j, hx, hy, (e3 i).mp hi, (e3 j).mp hj, h, hz⟩
  · rintro ⟨x, y, i, j, hx, hy, hi, hj, h, hz⟩
    exact ⟨_, ⟨⟨m, x, y⟩, ⟨⟨hm, x, y, hx, hy, rfl, rfl, h⟩, by simp⟩, i, (e3 i).mpr hi, j, (e3 j).mpr hj, rfl⟩, hz⟩
theorem twice_eq {m : Nat} (hm : m < 8) (a b : Int) : Rg.Sym.twice ⟨m, a, b⟩ = tw m a b := by
  unfold Rg.Sym.twice tw
  simp only [turn_tp hm]
theorem isMirror_iff {m : Nat} (h4 : 4 ≤ m) (hm : m < 8) (a b : Int) : Rg.Sym.isMirror ⟨m, a, b⟩ = true ↔ tw m a b = (0, 0) := by
  unfold Rg.Sym.isMirror
  rw [twice_eq hm, decide_eq_true h4, Bool.true_and, beq_iff_eq]
theorem isGlide_iff {rows : Rows} (g : Good rows) {m : Nat} (h4 : 4 ≤ m) (hm : m < 8) (a b : Int) : Rg.Sym.isGlide (chartR rows) ⟨m, a, b⟩ = true ↔ NoHalf rows (tw m a b) := by
  unfold Rg.Sym.isGlide NoHalf Rg.isStep
  rw [twice_eq hm, decide_eq_true h4, Bool.true_and, Bool.not_eq_true', ← Bool.not_eq_true, Bool.and_eq_true, Bool.and_eq_true, beq_iff_eq, beq_iff_eq, isSym_iff g (by omega)]
/-- where one is turned by a quarter or mirrored along a diagonal, the field repeats by the common measure -/
theorem odd_rep {rows : Rows} (g : Good rows) {m : Nat} {a b : Int} (hm : m < 8) (od : m % 2 = 1) (h : SymF (fld rows) m a b) : Rep (fld rows) (sqSide rows) (sqSide rows) :=
  g.rect.rep.gcd (sym_odd_rep g.rect.rep hm od h)
theorem tw4 (a b : Int) : tw 4 a b = (0, 2 * b) := by
  unfold tw tp
  simp
  omega
theorem tw5 (a b : Int) : tw 5 a b = (a - b, b - a) := by
  unfold tw tp
  simp
  omega
theorem tw6 (a b : Int) : tw 6 a b = (2 * a, 0) := by
  unfold tw tp
  simp
  omega
theorem tw7 (a b : Int) : tw 7 a b = (a + b, a + b) := by
  unfold tw tp
  simp
  omega
theorem mirror_iff {rows : Rows} (g : Good rows) {m : Nat} (h4 : 4 ≤ m) (hm : m < 8) : (Rg.around (chartR rows) ((Rg.syms (chartR rows)).filter fun (s : Rg.Sym) => s.m == m)).any Rg.Sym.isMirror = true ↔ Mir rows m := by
  rw [around_iff g hm]
  constructor
  · rintro ⟨x, y, i, j, _, _, _, _, h, hz⟩
    refine ⟨_, _, ?_, (isMirror_iff h4 hm _ _).mp hz⟩
    have := sym_add g.rect.rep h i j
    rwa [Int.mul_comm _ i, Int.mul_comm _ j] at this
  · rintro ⟨a, b, h, e⟩
    have gp := sq_pos g.rect
    have gg : sqSide rows = Nat.gcd (wide rows) rows.length := rfl
    rw [← gg] at gp
    have c : m = 4 ∨ m = 5 ∨ m = 6 ∨ m = 7 := by omega
    rcases c with rfl | rfl | rfl | rfl
    · rw [tw4] at e
      have e2 : b = 0 := by have := congrArg Prod.snd e; simp only at this; omega
      subst e2
      obtain ⟨x, i, hx, ex⟩ := mod_place (wide rows) g.w1 a
      have h2 := sym_add g.rect.rep h (-i) 0
      rw [ex, Int.mul_neg, show (x : Int) + wide rows * i + -(wide rows * i) = x by omega, Int.mul_zero, Int.add_zero] at h2
      refine ⟨x, 0, 0, 0, hx, g.h1, by simp, by simp, h2, (isMirror_iff h4 hm _ _).mpr ?_⟩
      rw [tw4]; simp
    · rw [tw5] at e
      have e2 : a = b := by have := congrArg Prod.fst e; simp only at this; omega
      subst e2
      have r := odd_rep g hm rfl h
      obtain ⟨x, i, hx, ex⟩ := mod_place (sqSide rows) gp.1 a
      have h2 := sym_add r h (-i) (-i)
      rw [ex, Int.mul_neg, show (x : Int) + sqSide rows * i + -(sqSide rows * i) = x by omega] at h2
      refine ⟨x, x, 0, 0, by omega, by omega, by simp, by simp, h2, (isMirror_iff h4 hm _ _).mpr ?_⟩
      rw [tw5]; simp
    · rw [tw6] at e
      have e2 : a = 0 := by have := congrArg Prod.fst e; simp only at this; omega
      subst e2
      obtain ⟨y, j, hy, ey⟩ := mod_place rows.length g.h1 b
      have h2 := sym_add g.rect.rep h 0 (-j)
      rw [ey, Int.mul_neg, show (y : Int) + rows.length * j + -(rows.length * j) = y by omega, Int.mul_zero, Int.add_zero] at h2
      refine ⟨0, y, 0, 0, g.w1, hy, by simp, by simp, h2, (isMirror_iff h4 hm _ _).mpr ?_⟩
      rw [tw6]; simp
    · rw [tw7] at e
      have e2 : b = -a := by have := congrArg Prod.fst e; simp only at this; omega
      subst e2
      have r := odd_rep g hm rfl h
      obtain ⟨x, i, hx, ex⟩ := mod_place (sqSide rows) gp.1 a
      have h2 := sym_add r h (-i) i
      rw [ex, Int.mul_neg, show (x : Int) + sqSide rows * i + -(sqSide rows * i) = x by omega, show -((x : Int) + sqSide rows * i) + sqSide rows * i = -x by omega] at h2
      by_cases c0 : x = 0
      · subst c0
        refine ⟨0, 0, 0, 0, g.w1, g.h1, by simp, by simp, by simpa using h2, (isMirror_iff h4 hm _ _).mpr ?_⟩
        rw [tw7]; simp
      · have h3 := sym_add g.rect.rep h2 0 1
        rw [Int.mul_zero, Int.add_zero, Int.mul_one] at h3
        refine ⟨x, rows.length - x, 0, -1, by omega, by omega, by simp, by simp, ?_, (isMirror_iff h4 hm _ _).mpr ?_⟩
        · rw [show ((rows.length - x : Nat) : Int) = -(x : Int) + rows.length by omega]
          exact h3
        · rw [tw7]
          have : ((x : Int) + 0 * (wide rows : Int)) + (((rows.length - x : Nat) : Int) + -1 * (rows.length : Int)) = 0 := by omega
          rw [this]
theorem step_add {rows : Rows} {W H : Nat} (r : Rep (fld rows) W H) (a b i j : Int) : SymF (fld rows) 0 (a + W * i) (b + H * j) ↔ SymF (fld rows) 0 a b := by
  constructor
  · intro h
    have := sym_add r h (-i) (-j)
    rw [Int.mul_neg, Int.mul_neg] at this
    rwa [show a + W * i + -(W * i) = a by omega, show b + H * j + -(H * j) = b by omega] at this
  · intro h
    exact sym_add r h i j
theorem glide_iff {rows : Rows} (g : Good rows) {m : Nat} (h4 : 4 ≤ m) (hm : m < 8) : (Rg.around (chartR rows) ((Rg.syms (chartR rows)).filter fun (s : Rg.Sym) => s.m == m)).any (Rg.Sym.isGlide (chartR rows)) = true ↔ Gli rows m := by
  rw [around_iff g hm]
  constructor
  · rintro ⟨x, y, i, j, _, _, _, _, h, hz⟩
    refine ⟨_, _, ?_, (isGlide_iff g h4 hm _ _).mp hz⟩
    have := sym_add g.rect.rep h i j
    rwa [Int.mul_comm _ i, Int.mul_comm _ j] at this
  · rintro ⟨a, b, h, e⟩
    have gp := sq_pos g.rect
    have gg : sqSide rows = Nat.gcd (wide rows) rows.length := rfl
    rw [← gg] at gp
    have c : m = 4 ∨ m = 5 ∨ m = 6 ∨ m = 7 := by omega
    have dvd : sqSide rows ∣ wide rows := by rw [gg]; exact Nat.gcd_dvd_left _ _
    -- a place by the common measure's side, and one side on
    have nextx : ∀ x : Nat, x < sqSide rows → ∃ (x' : Nat) (i : Int), x' < wide rows ∧ (i = -1 ∨ i = 0 ∨ i = 1) ∧ (x' : Int) + i * wide rows = x + sqSide rows := by
      intro x hx
      obtain ⟨k, ek⟩ := dvd
      by_cases c1 : k = 1
      · subst c1
        exact ⟨x, 1, by omega, by simp, by omega⟩
      · refine ⟨x + sqSide rows, 0, ?_, by simp, by omega⟩
        have k2 : 2 ≤ k := by
          have := g.w1
          cases k with
          | zero => omega
          | succ k => cases k with
            | zero => omega
            | succ k => omega
        have : sqSide rows * 2 ≤ sqSide rows * k := Nat.mul_le_mul_left _ k2
        omega
    rcases c with rfl | rfl | rfl | rfl
    · obtain ⟨x, y, i, j, hx, hy, ea, eb, h2⟩ := told_of g h
      refine ⟨x, y, 0, 0, hx, hy, by simp, by simp, h2, (isGlide_iff g h4 hm _ _).mpr ?_⟩
      rw [tw4] at e ⊢
      unfold NoHalf at e ⊢
      simp only at e ⊢
      rw [Int.zero_mul, Int.add_zero, show 2 * (y : Int) / 2 = y by omega]
      rw [show 2 * b / 2 = b by omega] at e
      intro z
      refine e ⟨by omega, by omega, ?_⟩
      have := (step_add g.rect.rep 0 y 0 j).mpr (by simpa using z.2.2)
      rw [← eb] at this
      simpa using this
    · have r := odd_rep g hm rfl h
      obtain ⟨x, i, hx, ex⟩ := mod_place (sqSide rows) gp.1 a
      obtain ⟨y, j, hy, ey⟩ := mod_place (sqSide rows) gp.1 b
      have h2 := sym_add r h (-i) (-j)
      rw [ex, ey, Int.mul_neg, Int.mul_neg, show (x : Int) + sqSide rows * i + -(sqSide rows * i) = x by omega, show (y : Int) + sqSide rows * j + -(sqSide rows * j) = y by omega] at h2
      rw [tw5] at e
      -- d: one side more, where the sides between are odd
      have fin : ∀ (x' : Nat) (i' k : Int), x' < wide rows → (i' = -1 ∨ i' = 0 ∨ i' = 1) → SymF (fld rows) 5 x' y → (x' : Int) + i' * wide rows - y = a - b + 2 * (sqSide rows * k) →
          ∃ (x y : Nat) (i j : Int), x < wide rows ∧ y < rows.length ∧ (i = -1 ∨ i = 0 ∨ i = 1) ∧ (j = -1 ∨ j = 0 ∨ j = 1) ∧ SymF (fld rows) 5 x y ∧ Rg.Sym.isGlide (chartR rows) ⟨5, x + i * wide rows, y + j * rows.length⟩ = true := fun x' i' k hx' hi' hs' hd => by
        refine ⟨x', y, i', 0, hx', by omega, hi', by simp, hs', (isGlide_iff g h4 hm _ _).mpr ?_⟩
        rw [tw5]
        unfold NoHalf at e ⊢
        simp only at e ⊢
        rw [Int.zero_mul, Int.add_zero]
        have d2 : (y : Int) - ((x' : Int) + i' * wide rows) = b - a + 2 * (sqSide rows * (-k)) := by rw [Int.mul_neg]; omega
        rw [hd, d2]
        intro z
        refine e ⟨by omega, by omega, ?_⟩
        have := z.2.2
        rw [show (a - b + 2 * (sqSide rows * k)) / 2 = (a - b) / 2 + sqSide rows * k by omega, show (b - a + 2 * (sqSide rows * (-k))) / 2 = (b - a) / 2 + sqSide rows * (-k) by omega] at this
        exact (step_add r _ _ k (-k)).mp this
      have hk : (i - j) % 2 = 0 ∨ (i - j) % 2 = 1 := by omega
      rcases hk with hk | hk
      · obtain ⟨k, ek⟩ : ∃ k, i - j = 2 * k := ⟨(i - j) / 2, by omega⟩
        refine fin x 0 (-k) (by omega) (by simp) h2 ?_
        have : (sqSide rows : Int) * (i - j) = 2 * (sqSide rows * k) := by rw [ek, Int.mul_left_comm]
        rw [Int.mul_sub] at this
        rw [Int.mul_neg]
        omega
      · obtain ⟨k, ek⟩ : ∃ k, i - j = 2 * k + 1 := ⟨(i - j) / 2, by omega⟩
        obtain ⟨x', i', hx', hi', ex'⟩ := nextx x hx
        have h3 : SymF (fld rows) 5 x' y := by
          have q := sym_add r h2 1 0
          rw [Int.mul_one, ← ex', Int.mul_zero, Int.add_zero] at q
          have := sym_add g.rect.rep q (-i') 0
          rw [Int.mul_neg, Int.mul_comm _ i', Int.mul_zero, Int.add_zero] at this
          rwa [show (x' : Int) + i' * wide rows + -(i' * wide rows) = x' by omega] at this
        refine fin x' i' (-k) hx' hi' h3 ?_
        have : (sqSide rows : Int) * (i - j) = 2 * (sqSide rows * k) + sqSide rows := by rw [ek, Int.mul_add, Int.mul_one, Int.mul_left_comm]
        rw [Int.mul_sub] at this
        rw [Int.mul_neg, ex']
        omega
    · obtain ⟨x, y, i, j, hx, hy, ea, eb, h2⟩ := told_of g h
      refine ⟨x, y, 0, 0, hx, hy, by simp, by simp, h2, (isGlide_iff g h4 hm _ _).mpr ?_⟩
      rw [tw6] at e ⊢
      unfold NoHalf at e ⊢
      simp only at e ⊢
      rw [Int.zero_mul, Int.add_zero, show 2 * (x : Int) / 2 = x by omega]
      rw [show 2 * a / 2 = a by omega] at e
      intro z
      refine e ⟨by omega, by omega, ?_⟩
      have := (step_add g.rect.rep x 0 i 0).mpr (by simpa using z.2.2)
      rw [← ea] at this
      simpa using this
    · have r := odd_rep g hm rfl h
      obtain ⟨x, i, hx, ex⟩ := mod_place (sqSide rows) gp.1 a
      obtain ⟨y, j, hy, ey⟩ := mod_place (sqSide rows) gp.1 b
      have h2 := sym_add r h (-i) (-j)
      rw [ex, ey, Int.mul_neg, Int.mul_neg, show (x : Int) + sqSide rows * i + -(sqSide rows * i) = x by omega, show (y : Int) + sqSide rows * j + -(sqSide rows * j) = y by omega] at h2
      rw [tw7] at e
      have fin : ∀ (x' : Nat) (i' k : Int), x' < wide rows → (i' = -1 ∨ i' = 0 ∨ i' = 1) → SymF (fld rows) 7 x' y → (x' : Int) + i' * wide rows + y = a + b + 2 * (sqSide rows * k) →
          ∃ (x y : Nat) (i j : Int), x < wide rows ∧ y < rows.length ∧ (i = -1 ∨ i = 0 ∨ i = 1) ∧ (j = -1 ∨ j = 0 ∨ j = 1) ∧ SymF (fld rows) 7 x y ∧ Rg.Sym.isGlide (chartR rows) ⟨7, x + i * wide rows, y + j * rows.length⟩ = true := fun x' i' k hx' hi' hs' hd => by
        refine ⟨x', y, i', 0, hx', by omega, hi', by simp, hs', (isGlide_iff g h4 hm _ _).mpr ?_⟩
        rw [tw7]
        unfold NoHalf at e ⊢
        simp only at e ⊢
        rw [Int.zero_mul, Int.add_zero, hd]
        intro z
        refine e ⟨by omega, by omega, ?_⟩
        have := z.2.2
        rw [show (a + b + 2 * (sqSide rows * k)) / 2 = (a + b) / 2 + sqSide rows * k by omega] at this
        exact (step_add r _ _ k k).mp this
      have hk : (i + j) % 2 = 0 ∨ (i + j) % 2 = 1 := by omega
      rcases hk with hk | hk
      · obtain ⟨k, ek⟩ : ∃ k, i + j = 2 * k := ⟨(i + j) / 2, by omega⟩
        refine fin x 0 (-k) (by omega) (by simp) h2 ?_
        have : (sqSide rows : Int) * (i + j) = 2 * (sqSide rows * k) := by rw [ek, Int.mul_left_comm]
        rw [Int.mul_add] at this
        rw [Int.mul_neg]
        omega
      · obtain ⟨k, ek⟩ : ∃ k, i + j = 2 * k + 1 := ⟨(i + j) / 2, by omega⟩
        obtain ⟨x', i', hx', hi', ex'⟩ := nextx x hx
        have h3 : SymF (fld rows) 7 x' y := by
          have q := sym_add r h2 1 0
          rw [Int.mul_one, ← ex', Int.mul_zero, Int.add_zero] at q
          have := sym_add g.rect.rep q (-i') 0
          rw [Int.mul_neg, Int.mul_comm _ i', Int.mul_zero, Int.add_zero] at this
          rwa [show (x' : Int) + i' * wide rows + -(i' * wide rows) = x' by omega] at this
        refine fin x' i' (-k) hx' hi' h3 ?_
        have : (sqSide rows : Int) * (i + j) = 2 * (sqSide rows * k) + sqSide rows := by rw [ek, Int.mul_add, Int.mul_one, Int.mul_left_comm]
        rw [Int.mul_add] at this
        rw [Int.mul_neg, ex']
        omega
/-! ### what kind asks, by tests that tell the field's symmetries -/
theorem bool_of {a b : Bool} {p : Prop} (h1 : a = true ↔ p) (h2 : b = true ↔ p) : a = b := Bool.eq_iff_iff.mpr (h1.trans h2.symm)
theorem mirrors_eq {rows : Rows} (g : Good rows) (f : Nat → Bool) (h : ∀ m, 4 ≤ m → m < 8 → (f m = true ↔ Mir rows m)) : Rg.mirrorsOf (chartR rows) (Rg.syms (chartR rows)) = [4, 5, 6, 7].filter f := by
  unfold Rg.mirrorsOf
  apply List.filter_congr
  intro m hm
  have : 4 ≤ m ∧ m < 8 := by
    simp only [List.mem_cons, List.not_mem_nil, or_false] at hm
    omega
  exact bool_of (mirror_iff g this.1 this.2) (h m this.1 this.2)
theorem any_congr {α : Type} {l : List α} {f k : α → Bool} (h : ∀ x ∈ l, f x = k x) : l.any f = l.any k := by
  induction l with
  | nil => rfl
  | cons x l ih => rw [List.any_cons, List.any_cons, h x (by simp), ih fun y hy => h y (by simp [hy])]
theorem glides_eq {rows : Rows} (g : Good rows) (f : Nat → Bool) (h : ∀ m, 4 ≤ m → m < 8 → (f m = true ↔ Gli rows m)) : Rg.hasGlide (chartR rows) (Rg.syms (chartR rows)) = [4, 5, 6, 7].any f := by
  unfold Rg.hasGlide
  apply any_congr
  intro m hm
  have : 4 ≤ m ∧ m < 8 := by
    simp only [List.mem_cons, List.not_mem_nil, or_false] at hm
    omega
  exact bool_of (glide_iff g this.1 this.2) (h m this.1 this.2)
theorem turns_eq {rows : Rows} (g : Good rows) (f : Nat → Bool) (h : ∀ m, m < 8 → (f m = true ↔ Turns rows m)) {m : Nat} (hm : m < 8) : Rg.hasTurn (Rg.syms (chartR rows)) m = f m := bool_of (hasTurn_iff g hm) (h m hm)
/-- the kind, by such tests -/
theorem kind_by {rows : Rows} (g : Good rows) (ft fm fg : Nat → Bool) (ht : ∀ m, m < 8 → (ft m = true ↔ Turns rows m)) (hm : ∀ m, 4 ≤ m → m < 8 → (fm m = true ↔ Mir rows m)) (hg : ∀ m, 4 ≤ m → m < 8 → (fg m = true ↔ Gli rows m)) :
    Rg.kindOf (chartR rows) = Rg.kindBy (ft 2) (ft 1 || ft 3) ([4, 5, 6, 7].any fg) ([4, 5, 6, 7].filter ft).length ([4, 5, 6, 7].filter fm).length := by
  unfold Rg.kindOf
  simp only
  rw [turns_eq g ft ht (by omega), turns_eq g ft ht (by omega), turns_eq g ft ht (by omega), glides_eq g fg hg, mirrors_eq g fm hm]
  congr 2
  apply List.filter_congr
  intro m hm
  refine turns_eq g ft ht ?_
  simp only [List.mem_cons, List.not_mem_nil, or_false] at hm
  omega
theorem motions_by {rows : Rows} (g : Good rows) (ft : Nat → Bool) (ht : ∀ m, m < 8 → (ft m = true ↔ Turns rows m)) : Rg.motionsOf (chartR rows) = (List.range 8).filter ft := by
  unfold Rg.motionsOf Rg.MOTIONS
  apply List.filter_congr
  intro m hm
  exact turns_eq g ft ht (List.mem_range.mp hm)
end Kc

namespace Kc
/-! ### kind: the symmetries of a tile, done twice -/
theorem cut_good {rows : Rows} (g : Good rows) {n : Nat} (h1 : 1 ≤ n) (hW : n ≤ wide rows) (hH : n ≤ rows.length) : Good (cutRows n rows) := by
  have gc := cut_rect g.rect h1 hW hH
  have e1 := gc.wide
  have e2 := gc.high
  have a1 := g.w2
  have a2 := g.h2
  refine ⟨by omega, by omega, by omega, by omega, ?_, fun r hr => by rw [e1]; exact gc.len r hr, fun r hr => ?_⟩
  · rw [e1, e2]
    exact Nat.le_trans (Nat.mul_le_mul hW hH) g.wh
  · unfold cutRows at hr
    obtain ⟨q, hq, rfl⟩ := List.mem_map.mp hr
    have := g.col q (List.mem_of_mem_take hq)
    rw [List.all_eq_true] at this ⊢
    exact fun x hx => this x (List.mem_of_mem_take hx)
theorem tile_good {rows tile : Rows} {m : Nat} (g : Good rows) (h : cellFor rows m = some tile) : Good tile := by
  unfold cellFor at h
  by_cases od : m % 2 = 1
  · rw [if_pos od] at h
    by_cases c : sqOk rows = true
    · rw [if_pos c] at h
      cases h
      obtain ⟨p1, p2, p3⟩ := sq_pos g.rect
      exact cut_good g p1 p2 p3
    · rw [if_neg c] at h; cases h
  · rw [if_neg od] at h
    cases h
    exact g
theorem mem_symsM {rows : Rows} (g : Good rows) {m : Nat} (hm : m < 8) {s : Rg.Sym} : s ∈ symsM rows m ↔ s.m = m ∧ ∃ a b : Nat, a < wide rows ∧ b < rows.length ∧ s.a = a ∧ s.b = b ∧ SymF (fld rows) m a b := by
  unfold symsM symsTo symRow
  simp only [List.mem_flatMap, List.mem_range, List.mem_filterMap]
  constructor
  · rintro ⟨b, hb, a, ha, e⟩
    by_cases c : Rg.isSym (chartR rows) ⟨m, a, b⟩ = true
    · rw [if_pos c] at e
      cases e
      exact ⟨rfl, a, b, ha, hb, rfl, rfl, (isSym_iff g hm _ _).mp c⟩
    · rw [if_neg c] at e
      cases e
  · rintro ⟨em, a, b, ha, hb, e1, e2, hs⟩
    obtain ⟨sm, sa, sb⟩ := s
    simp only at em e1 e2
    refine ⟨b, hb, a, ha, ?_⟩
    rw [if_pos ((isSym_iff g hm _ _).mpr hs), em, e1, e2]
/-- is there one that is told -/
def hasT (rows : Rows) (m : Nat) : Bool := decide (0 < (symsM rows m).length)
theorem hasT_iff {rows : Rows} (g : Good rows) (m : Nat) (hm : m < 8) : hasT rows m = true ↔ Turns rows m := by
  unfold hasT Turns
  rw [decide_eq_true_eq, List.length_pos_iff_exists_mem]
  constructor
  · rintro ⟨s, hs⟩
    obtain ⟨_, a, b, _, _, _, _, h⟩ := (mem_symsM g hm).mp hs
    exact ⟨a, b, h⟩
  · rintro ⟨a, b, h⟩
    obtain ⟨x, y, i, j, hx, hy, _, _, h2⟩ := told_of g h
    exact ⟨⟨m, x, y⟩, (mem_symsM g hm).mpr ⟨rfl, x, y, hx, hy, rfl, rfl, h2⟩⟩
theorem hasT_cell {rows : Rows} (g : Good rows) {m : Nat} (hm : m < 8) (h : hasT rows m = true) : ∃ tile, cellFor rows m = some tile := by
  obtain ⟨a, b, s⟩ := (hasT_iff g m hm).mp h
  cases e : cellFor rows m with
  | some tile => exact ⟨tile, rfl⟩
  | none =>
    have := cell_none (a := a) (b := b) g hm e
    rw [(isSym_iff g hm a b).mpr s] at this
    cases this
/-- the steps that those of a tile are, done twice; a side less, too -/
def dblOf (m : Nat) (n : Int) (l : List Rg.Sym) : List (Int × Int) := l.flatMap fun s => [tw m s.a s.b, tw m s.a (s.b - n)]
def dblR (rows : Rows) (m : Nat) : List (Int × Int) := match cellFor rows m with
  | none => []
  | some tile => dblOf m (tile.length : Int) (symsM tile m)
theorem mem_dblR {rows tile : Rows} {m : Nat} (g : Good rows) (hm : m < 8) (h : cellFor rows m = some tile) {z : Int × Int} : z ∈ dblR rows m ↔ ∃ a b : Nat, a < cW rows m ∧ b < cH rows m ∧ SymF (fld rows) m a b ∧ (z = tw m a b ∨ z = tw m a (b - cH rows m)) := by
  obtain ⟨gc, sq, hf, r⟩ := cell_some g h
  have gt := tile_good g h
  have e1 := gc.wide
  have e2 := gc.high
  have ef : fld tile = fld rows := by
    funext X Y
    exact hf X Y
  unfold dblR dblOf
  rw [h]
  simp only [List.mem_flatMap, mem_symsM gt hm, e1, e2, ef]
  constructor
  · rintro ⟨s, ⟨_, a, b, ha, hb, ea, eb, hs⟩, hz⟩
    refine ⟨a, b, ha, hb, hs, ?_⟩
    rw [ea, eb] at hz
    simpa using hz
  · rintro ⟨a, b, ha, hb, hs, hz⟩
    exact ⟨⟨m, a, b⟩, ⟨rfl, a, b, ha, hb, rfl, rfl, hs⟩, by simpa using hz⟩
/-- each of them is a symmetry's, done twice -/
theorem dblR_sym {rows tile : Rows} {m : Nat} (g : Good rows) (hm : m < 8) (h : cellFor rows m = some tile) {z : Int × Int} (hz : z ∈ dblR rows m) : ∃ a b : Int, SymF (fld rows) m a b ∧ z = tw m a b := by
  obtain ⟨gc, sq, hf, r⟩ := cell_some g h
  obtain ⟨a, b, ha, hb, hs, hz⟩ := (mem_dblR g hm h).mp hz
  rcases hz with rfl | rfl
  · exact ⟨a, b, hs, rfl⟩
  · refine ⟨a, b - cH rows m, ?_, rfl⟩
    have := sym_add r hs 0 (-1)
    rw [Int.mul_zero, Int.add_zero, Int.mul_neg, Int.mul_one] at this
    rwa [Int.sub_eq_add_neg]
/-- a symmetry's place by the tile's sides -/
theorem tile_of {rows tile : Rows} {m : Nat} (g : Good rows) (h : cellFor rows m = some tile) {a b : Int} (s : SymF (fld rows) m a b) : ∃ (x y : Nat) (i j : Int), x < cW rows m ∧ y < cH rows m ∧ a = x + cW rows m * i ∧ b = y + cH rows m * j ∧ SymF (fld rows) m x y := by
  obtain ⟨gc, sq, hf, r⟩ := cell_some g h
  obtain ⟨x, i, hx, e⟩ := mod_place (cW rows m) gc.w1 a
  obtain ⟨y, j, hy, e2⟩ := mod_place (cH rows m) gc.h1 b
  refine ⟨x, y, i, j, hx, hy, e, e2, ?_⟩
  have := sym_add r s (-i) (-j)
  rw [e, e2, Int.mul_neg, Int.mul_neg] at this
  rwa [show (x : Int) + cW rows m * i + -(cW rows m * i) = x by omega, show (y : Int) + cH rows m * j + -(cH rows m * j) = y by omega] at this
theorem cell_of {rows : Rows} {m : Nat} (g : Good rows) (hm : m < 8) {a b : Int} (s : SymF (fld rows) m a b) : ∃ tile, cellFor rows m = some tile := hasT_cell g hm ((hasT_iff g m hm).mpr ⟨a, b, s⟩)
def mirB (rows : Rows) (m : Nat) : Bool := decide ((0, 0) ∈ dblR rows m)
theorem mirB_iff {rows : Rows} (g : Good rows) (m : Nat) (h4 : 4 ≤ m) (hm : m < 8) : mirB rows m = true ↔ Mir rows m := by
  unfold mirB
  rw [decide_eq_true_eq]
  constructor
  · intro h
    cases e : cellFor rows m with
    | none =>
      unfold dblR at h
      rw [e] at h
      cases h
    | some tile =>
      obtain ⟨a, b, s, z⟩ := dblR_sym g hm e h
      exact ⟨a, b, s, z.symm⟩
  · rintro ⟨a, b, s, z⟩
    obtain ⟨tile, e⟩ := cell_of g hm s
    obtain ⟨gc, sq, hf, r⟩ := cell_some g e
    obtain ⟨x, y, i, j, hx, hy, ea, eb, hs⟩ := tile_of g e s
    have h1 := gc.h1
    have h2 := gc.w1
    rw [mem_dblR g hm e]
    have c : m = 4 ∨ m = 5 ∨ m = 6 ∨ m = 7 := by omega
    rcases c with rfl | rfl | rfl | rfl
    · rw [tw4] at z
      have b0 : b = 0 := by have := congrArg Prod.snd z; simp only at this; omega
      subst b0
      have y0 : y = 0 := near (k := -j) hy h1 (by rw [Int.mul_neg]; omega)
      subst y0
      exact ⟨x, 0, hx, h1, hs, .inl (by rw [tw4]; simp)⟩
    · rw [tw5] at z
      have b0 : a = b := by have := congrArg Prod.fst z; simp only at this; omega
      have sq : cW rows 5 = cH rows 5 := by simpa using sq
      have xy : x = y := near (W := cW rows 5) (k := j - i) hx (by omega) (by rw [Int.mul_sub]; rw [← sq] at eb; omega)
      subst xy
      exact ⟨x, x, hx, hy, hs, .inl (by rw [tw5]; simp)⟩
    · rw [tw6] at z
      have b0 : a = 0 := by have := congrArg Prod.fst z; simp only at this; omega
      subst b0
      have x0 : x = 0 := near (k := -i) hx h2 (by rw [Int.mul_neg]; omega)
      subst x0
      exact ⟨0, y, h2, hy, hs, .inl (by rw [tw6]; simp)⟩
    · rw [tw7] at z
      have b0 : a + b = 0 := by have := congrArg Prod.fst z; simp only at this; omega
      have sq : cW rows 7 = cH rows 7 := by simpa using sq
      rw [sq] at ea hx
      by_cases c0 : x + y = 0
      · have x0 : x = 0 := by omega
        have y0 : y = 0 := by omega
        subst x0 y0
        exact ⟨0, 0, h2, hy, hs, .inl (by rw [tw7]; simp)⟩
      · have xy : x + y = cH rows 7 := by
          have d : cH rows 7 ∣ (x + y) := by
            have : (cH rows 7 : Int) ∣ ((x + y : Nat) : Int) := ⟨-(i + j), by rw [Int.mul_neg, Int.mul_add]; omega⟩
            exact Int.natCast_dvd_natCast.mp this
          obtain ⟨k, ek⟩ := d
          have k1 : k = 1 := by
            cases k with
            | zero => omega
            | succ k => cases k with
              | zero => rfl
              | succ k =>
                rw [Nat.mul_succ, Nat.mul_succ] at ek
                omega
          rw [ek, k1, Nat.mul_one]
        refine ⟨x, y, by omega, hy, hs, .inr ?_⟩
        rw [tw7]
        have : (x : Int) + ((y : Int) - cH rows 7) = 0 := by omega
        rw [this]
/-- half of it is a step -/
def halfB (rows : Rows) (z : Int × Int) : Bool := decide (z.1 % 2 = 0) && (decide (z.2 % 2 = 0) && stp rows (z.1 / 2) (z.2 / 2))
theorem halfB_iff {rows : Rows} (g : Good rows) (z : Int × Int) : (!halfB rows z) = true ↔ NoHalf rows z := by
  unfold halfB NoHalf
  rw [Bool.not_eq_true', ← Bool.not_eq_true, Bool.and_eq_true, Bool.and_eq_true, decide_eq_true_eq, decide_eq_true_eq, stp_iff g]
  rfl
def gliB (rows : Rows) (m : Nat) : Bool := (dblR rows m).any fun z => !halfB rows z
theorem nohalf_add {rows : Rows} {W H : Nat} (r : Rep (fld rows) W H) {z w : Int × Int} {k l : Int} (h1 : z.1 = w.1 + 2 * (W * k)) (h2 : z.2 = w.2 + 2 * (H * l)) (h : NoHalf rows w) : NoHalf rows z := by
  unfold NoHalf at h ⊢
  rintro ⟨a, b, c⟩
  refine h ⟨by omega, by omega, ?_⟩
  rw [show z.1 / 2 = w.1 / 2 + W * k by omega, show z.2 / 2 = w.2 / 2 + H * l by omega] at c
  exact (step_add r _ _ k l).mp c
theorem gliB_iff {rows : Rows} (g : Good rows) (m : Nat) (h4 : 4 ≤ m) (hm : m < 8) : gliB rows m = true ↔ Gli rows m := by
  unfold gliB
  rw [List.any_eq_true]
  constructor
  · rintro ⟨z, hz, n⟩
    cases e : cellFor rows m with
    | none =>
      unfold dblR at hz
      rw [e] at hz
      cases hz
    | some tile =>
      obtain ⟨a, b, s, ez⟩ := dblR_sym g hm e hz
      rw [ez] at n
      exact ⟨a, b, s, (halfB_iff g _).mp n⟩
  · rintro ⟨a, b, s, n⟩
    obtain ⟨tile, e⟩ := cell_of g hm s
    obtain ⟨gc, sq, hf, r⟩ := cell_some g e
    obtain ⟨x, y, i, j, hx, hy, ea, eb, hs⟩ := tile_of g e s
    have fin : ∀ z, (z = tw m x y ∨ z = tw m x (y - cH rows m)) → NoHalf rows z → ∃ z ∈ dblR rows m, (!halfB rows z) = true := fun z hz hn => ⟨z, (mem_dblR g hm e).mpr ⟨x, y, hx, hy, hs, hz⟩, (halfB_iff g z).mpr hn⟩
    have c : m = 4 ∨ m = 5 ∨ m = 6 ∨ m = 7 := by omega
    rcases c with rfl | rfl | rfl | rfl
    · refine fin _ (.inl rfl) (nohalf_add (k := 0) (l := -j) r ?_ ?_ n)
      · rw [tw4, tw4]; simp
      · rw [tw4, tw4, Int.mul_neg]; simp only; omega
    · have sq : cW rows 5 = cH rows 5 := by simpa using sq
      have hk : (i - j) % 2 = 0 ∨ (i - j) % 2 = 1 := by omega
      rcases hk with hk | hk
      · obtain ⟨k, ek⟩ : ∃ k, i - j = 2 * k := ⟨(i - j) / 2, by omega⟩
        have ed : (cH rows 5 : Int) * (i - j) = 2 * (cH rows 5 * k) := by rw [ek, Int.mul_left_comm]
        rw [Int.mul_sub] at ed
        refine fin _ (.inl rfl) (nohalf_add (k := -k) (l := k) r ?_ ?_ n)
        · rw [tw5, tw5, Int.mul_neg, sq]; simp only; rw [sq] at ea; omega
        · rw [tw5, tw5]; simp only; rw [sq] at ea; omega
      · obtain ⟨k, ek⟩ : ∃ k, i - j = 2 * k + 1 := ⟨(i - j) / 2, by omega⟩
        have ed : (cH rows 5 : Int) * (i - j) = 2 * (cH rows 5 * k) + cH rows 5 := by rw [ek, Int.mul_add, Int.mul_one, Int.mul_left_comm]
        rw [Int.mul_sub] at ed
        refine fin _ (.inr rfl) (nohalf_add (k := -k) (l := k) r ?_ ?_ n)
        · rw [tw5, tw5, Int.mul_neg, sq]; simp only; rw [sq] at ea; omega
        · rw [tw5, tw5]; simp only; rw [sq] at ea; omega
    · refine fin _ (.inl rfl) (nohalf_add (k := -i) (l := 0) r ?_ ?_ n)
      · rw [tw6, tw6, Int.mul_neg]; simp only; omega
      · rw [tw6, tw6]; simp
    · have sq : cW rows 7 = cH rows 7 := by simpa using sq
      have hk : (i + j) % 2 = 0 ∨ (i + j) % 2 = 1 := by omega
      rcases hk with hk | hk
      · obtain ⟨k, ek⟩ : ∃ k, i + j = 2 * k := ⟨(i + j) / 2, by omega⟩
        have ed : (cH rows 7 : Int) * (i + j) = 2 * (cH rows 7 * k) := by rw [ek, Int.mul_left_comm]
        rw [Int.mul_add] at ed
        refine fin _ (.inl rfl) (nohalf_add (k := -k) (l := -k) r ?_ ?_ n)
        · rw [tw7, tw7, Int.mul_neg, sq]; simp only; rw [sq] at ea; omega
        · rw [tw7, tw7, Int.mul_neg]; simp only; rw [sq] at ea; omega
      · obtain ⟨k, ek⟩ : ∃ k, i + j = 2 * k - 1 := ⟨(i + j + 1) / 2, by omega⟩
        have ed : (cH rows 7 : Int) * (i + j) = 2 * (cH rows 7 * k) - cH rows 7 := by rw [ek, Int.mul_sub, Int.mul_one, Int.mul_left_comm]
        rw [Int.mul_add] at ed
        refine fin _ (.inr rfl) (nohalf_add (k := -k) (l := -k) r ?_ ?_ n)
        · rw [tw7, tw7, Int.mul_neg, sq]; simp only; rw [sq] at ea; omega
        · rw [tw7, tw7, Int.mul_neg]; simp only; rw [sq] at ea; omega
/-- a symmetry that is no glide, moved back by half of the step that it is when done twice, is a mirror -/
theorem half_mir {rows : Rows} {m : Nat} {a b : Int} (h4 : 4 ≤ m) (hm : m < 8) (s : SymF (fld rows) m a b) (n : ¬ NoHalf rows (tw m a b)) : Mir rows m := by
  unfold NoHalf at n
  have n := Classical.byContradiction n
  obtain ⟨e1, e2, st⟩ := n
  have mv : ∀ X Y : Int, fld rows (X + -((tw m a b).1 / 2)) (Y + -((tw m a b).2 / 2)) = fld rows X Y := fun X Y => by
    have := st (X + -((tw m a b).1 / 2)) (Y + -((tw m a b).2 / 2))
    rw [← this]
    congr 1
    · show X + -((tw m a b).1 / 2) + (tw m a b).1 / 2 = X
      omega
    · show Y + -((tw m a b).2 / 2) + (tw m a b).2 / 2 = Y
      omega
  refine ⟨a - (tw m a b).1 / 2, b - (tw m a b).2 / 2, fun X Y => ?_, ?_⟩
  · have := mv ((tp m X Y).1 + a) ((tp m X Y).2 + b)
    rw [← s X Y, ← this]
    congr 1 <;> omega
  · have c : m = 4 ∨ m = 5 ∨ m = 6 ∨ m = 7 := by omega
    rcases c with rfl | rfl | rfl | rfl
    · simp only [tw4] at e1 e2 ⊢
      exact Prod.ext rfl (by show 2 * (b - 2 * b / 2) = 0; omega)
    · simp only [tw5] at e1 e2 ⊢
      exact Prod.ext (by show a - (a - b) / 2 - (b - (b - a) / 2) = 0; omega) (by show b - (b - a) / 2 - (a - (a - b) / 2) = 0; omega)
    · simp only [tw6] at e1 e2 ⊢
      exact Prod.ext (by show 2 * (a - 2 * a / 2) = 0; omega) rfl
    · simp only [tw7] at e1 e2 ⊢
      exact Prod.ext (by show a - (a + b) / 2 + (b - (a + b) / 2) = 0; omega) (by show a - (a + b) / 2 + (b - (a + b) / 2) = 0; omega)
theorem turn_mir {rows : Rows} {m : Nat} (h4 : 4 ≤ m) (hm : m < 8) : Turns rows m ↔ Mir rows m ∨ Gli rows m := by
  constructor
  · rintro ⟨a, b, s⟩
    by_cases n : NoHalf rows (tw m a b)
    · exact .inr ⟨a, b, s, n⟩
    · exact .inl (half_mir h4 hm s n)
  · rintro (⟨a, b, s, _⟩ | ⟨a, b, s, _⟩)
    · exact ⟨a, b, s⟩
    · exact ⟨a, b, s⟩
/-! ### the kind's number, as it is told by mirrors and glides alone -/
def kindW (n : Nat) (g : Bool) : Nat := if n = 0 then (if g = true then 3 else 1) else if g = true then 4 else 2
def kindH (n : Nat) (g : Bool) : Nat := if n = 0 then (if g = true then 8 else 5) else if n = 1 then 7 else if g = true then 9 else 6
def kindQ (n : Nat) (g : Bool) : Nat := if n = 0 ∧ g = false then 10 else if n = 4 then 11 else 12
def kindN (q h : Bool) (n : Nat) (g : Bool) : Nat := if q = true then kindQ n g else if h = true then kindH n g else kindW n g
theorem kindN_eq {h q g : Bool} {k n : Nat} (e : k = 0 ↔ n = 0 ∧ g = false) : Rg.kindBy h q g k n = kindN q h n g := by
  unfold Rg.kindBy kindN kindQ kindH kindW
  by_cases c : k = 0
  · obtain ⟨rfl, rfl⟩ := e.mp c
    subst c
    cases q <;> cases h <;> rfl
  · have d : ¬ (n = 0 ∧ g = false) := fun z => c (e.mpr z)
    cases q <;> cases h <;> simp only [Bool.false_eq_true, if_true, if_false, if_neg c, if_neg d]
    · by_cases c0 : n = 0
      · subst c0
        cases g with
        | false => exact absurd ⟨rfl, rfl⟩ d
        | true => rfl
      · simp only [if_neg c0]
    · by_cases c0 : n = 0
      · subst c0
        cases g with
        | false => exact absurd ⟨rfl, rfl⟩ d
        | true => rfl
      · simp only [if_neg c0]
/-- of how many m there are mirrors; is there a glide -/
def mirN (rows : Rows) : Nat := ([4, 5, 6, 7].filter (mirB rows)).length
def gliA (rows : Rows) : Bool := [4, 5, 6, 7].any (gliB rows)
theorem turns_none {rows : Rows} (g : Good rows) : ([4, 5, 6, 7].filter (hasT rows)).length = 0 ↔ mirN rows = 0 ∧ gliA rows = false := by
  have key : ∀ m, m ∈ [4, 5, 6, 7] → (hasT rows m = true ↔ mirB rows m = true ∨ gliB rows m = true) := fun m hm => by
    have : 4 ≤ m ∧ m < 8 := by
      simp only [List.mem_cons, List.not_mem_nil, or_false] at hm
      omega
    rw [hasT_iff g m this.2, mirB_iff g m this.1 this.2, gliB_iff g m this.1 this.2]
    exact turn_mir this.1 this.2
  unfold mirN gliA
  rw [List.length_eq_zero_iff, List.length_eq_zero_iff, List.filter_eq_nil_iff, List.filter_eq_nil_iff, ← Bool.not_eq_true, List.any_eq_true]
  constructor
  · intro h
    exact ⟨fun m hm z => h m hm ((key m hm).mpr (.inl z)), fun ⟨m, hm, z⟩ => h m hm ((key m hm).mpr (.inr z))⟩
  · rintro ⟨h1, h2⟩ m hm z
    rcases (key m hm).mp z with z | z
    · exact h1 m hm z
    · exact h2 ⟨m, hm, z⟩
theorem kindOf_eq {rows : Rows} (g : Good rows) : Rg.kindOf (chartR rows) = kindN (hasT rows 1 || hasT rows 3) (hasT rows 2) (mirN rows) (gliA rows) := by
  rw [kind_by g (hasT rows) (mirB rows) (gliB rows) (hasT_iff g) (mirB_iff g) (gliB_iff g)]
  exact kindN_eq (turns_none g)
theorem motions_eq {rows : Rows} (g : Good rows) : Rg.motionsOf (chartR rows) = (List.range 8).filter (hasT rows) := motions_by g (hasT rows) (hasT_iff g)
theorem mirs_eq {rows : Rows} (g : Good rows) : (Rg.mirrorsOf (chartR rows) (Rg.syms (chartR rows))).length = mirN rows := by
  rw [mirrors_eq g (mirB rows) (mirB_iff g)]
  rfl
/-- the m from 4 on of which there are symmetries -/
def turnsOf (rows : Rows) : List Nat := (List.range 8).filter (hasT rows)
def lateOf (rows : Rows) : List Nat := (turnsOf rows).filter fun m => decide (4 ≤ m)
theorem late_eq (rows : Rows) : lateOf rows = [4, 5, 6, 7].filter (hasT rows) := by
  unfold lateOf turnsOf
  rw [List.filter_filter]
  rw [show List.range 8 = [0, 1, 2, 3] ++ [4, 5, 6, 7] from rfl, List.filter_append]
  have : [0, 1, 2, 3].filter (fun m => decide (4 ≤ m) && hasT rows m) = [] := by
    rw [List.filter_eq_nil_iff]
    intro m hm z
    rw [Bool.and_eq_true, decide_eq_true_eq] at z
    have z := z.1
    simp only [List.mem_cons, List.not_mem_nil, or_false] at hm
    omega
  rw [this, List.nil_append]
  apply List.filter_congr
  intro m hm
  have : decide (4 ≤ m) = true := decide_eq_true (by
    simp only [List.mem_cons, List.not_mem_nil, or_false] at hm
    omega)
  rw [this, Bool.true_and]
theorem late_mir {rows : Rows} (g : Good rows) : ((lateOf rows).filter (mirB rows)).length = mirN rows := by
  unfold mirN
  rw [late_eq, List.filter_filter]
  congr 1
  apply List.filter_congr
  intro m hm
  have : 4 ≤ m ∧ m < 8 := by
    simp only [List.mem_cons, List.not_mem_nil, or_false] at hm
    omega
  cases c : mirB rows m with
  | false => rfl
  | true => rw [(hasT_iff g m this.2).mpr ((turn_mir this.1 this.2).mpr (.inl ((mirB_iff g m this.1 this.2).mp c)))]; rfl
theorem late_gli {rows : Rows} (g : Good rows) : (lateOf rows).any (gliB rows) = gliA rows := by
  unfold gliA
  rw [late_eq]
  apply Bool.eq_iff_iff.mpr
  rw [List.any_eq_true, List.any_eq_true]
  constructor
  · rintro ⟨m, hm, z⟩
    exact ⟨m, (List.mem_filter.mp hm).1, z⟩
  · rintro ⟨m, hm, z⟩
    have : 4 ≤ m ∧ m < 8 := by
      simp only [List.mem_cons, List.not_mem_nil, or_false] at hm
      omega
    exact ⟨m, List.mem_filter.mpr ⟨hm, (hasT_iff g m this.2).mpr ((turn_mir this.1 this.2).mpr (.inr ((gliB_iff g m this.1 this.2).mp z)))⟩, z⟩
theorem mem_turns {rows : Rows} {m : Nat} (hm : m < 8) : decide (m ∈ turnsOf rows) = hasT rows m := by
  apply Bool.eq_iff_iff.mpr
  unfold turnsOf
  rw [decide_eq_true_eq, List.mem_filter, List.mem_range]
  exact ⟨fun h => h.2, fun h => ⟨hm, h⟩⟩
theorem dbl_len (m : Nat) (n : Int) (l : List Rg.Sym) : (dblOf m n l).length = 2 * l.length := by
  unfold dblOf
  induction l with
  | nil => rfl
  | cons s l ih =>
    rw [List.flatMap_cons, List.length_append, ih, List.length_cons]
    show 2 + 2 * l.length = 2 * (l.length + 1)
    omega
end Kc

namespace Kc
open PySem PySem.Spec PyProof.Rows L2
/-- a list of pairs -/
def PairsAt (H : Hp) (p : Addr) (ts : List Addr) (l : List (Int × Int)) : Prop := H p = some (.lst (ts.map V.ref)) ∧ ts.length = l.length ∧ ∀ (i : Nat) (a : Addr) (z : Int × Int), ts[i]? = some a → l[i]? = some z → H a = some (.tup [.int z.1, .int z.2])
theorem same_pairs {H H' : Hp} (s : Same H H') {p : Addr} {ts : List Addr} {l : List (Int × Int)} (h : PairsAt H p ts l) : PairsAt H' p ts l := ⟨s _ _ h.1, h.2.1, fun i a z e1 e2 => s _ _ (h.2.2 i a z e1 e2)⟩
theorem PairsAt.push {H : Hp} {p T : Addr} {ts : List Addr} {l : List (Int × Int)} {s : Int × Int} (h : PairsAt H p ts l) (hT : H T = some (.tup [.int s.1, .int s.2])) : PairsAt (upd H p (.lst (ts.map V.ref ++ [.ref T]))) p (ts ++ [T]) (l ++ [s]) := by
  refine ⟨by rw [upd_same, List.map_append]; rfl, by rw [List.length_append, List.length_append, h.2.1]; rfl, fun i a z e1 e2 => ?_⟩
  have fin : H a = some (.tup [.int z.1, .int z.2]) → upd H p (.lst (ts.map V.ref ++ [.ref T])) a = some (.tup [.int z.1, .int z.2]) := fun e => by
    rw [upd_ne (ne_of e h.1 (fun z => by cases z))]
    exact e
  rcases get_append h.2.1 e1 e2 with ⟨f1, f2⟩ | ⟨f1, f2⟩
  · exact fin (h.2.2 i a z f1 f2)
  · have hl := (List.getElem?_eq_some_iff.mp f1).1
    simp at hl
    rw [hl] at f1 f2
    simp at f1 f2
    subst f1 f2
    exact fin hT
/-- another list is changed -/
theorem SymsAt.other {H : Hp} {p D : Addr} {ts : List Addr} {l : List Rg.Sym} {xs ys : List V} (h : SymsAt H p ts l) (hp : p ≠ D) (hD : H D = some (.lst xs)) : SymsAt (upd H D (.lst ys)) p ts l := by
  refine ⟨by rw [upd_ne hp]; exact h.1, h.2.1, fun i a z e1 e2 => ?_⟩
  have e := h.2.2 i a z e1 e2
  rw [upd_ne (ne_of e hD (fun z => by cases z))]
  exact e
theorem PairsAt.other {H : Hp} {p D : Addr} {ts : List Addr} {l : List (Int × Int)} {xs ys : List V} (h : PairsAt H p ts l) (hp : p ≠ D) (hD : H D = some (.lst xs)) : PairsAt (upd H D (.lst ys)) p ts l := by
  refine ⟨by rw [upd_ne hp]; exact h.1, h.2.1, fun i a z e1 e2 => ?_⟩
  have e := h.2.2 i a z e1 e2
  rw [upd_ne (ne_of e hD (fun z => by cases z))]
  exact e
theorem dbl_succ {m : Nat} {n : Int} {l : List Rg.Sym} {i : Nat} {s : Rg.Sym} (h : l[i]? = some s) : dblOf m n (l.take (i + 1)) = dblOf m n (l.take i) ++ [s.b, s.b - n].map (tw m s.a) := by
  unfold dblOf
  rw [take_succ h, List.flatMap_append]
  simp
def spTwice : Sp := fun vs H Q _ => ∃ (p : Addr) (ps : List Addr) (rows : Rows) (m : Nat) (tile : Rows), vs = [.ref p, .int m] ∧ RowsAt H p ps rows ∧ Good rows ∧ m < 8 ∧ cellFor rows m = some tile ∧ ∀ H' q ts, Same H H' → H q = none → PairsAt H' q ts (dblR rows m) → Q (.ref q) H'
section
variable {P : Program} {w : World} {K : PySem.W.Frag} {mg : Str → Option Value} {base : Heap}
theorem scTwice : FnScope ["rows", "m", "tile", "steps", "found", "a", "b", "place"] ["rows", "m"] (defScope sTwice) := ⟨rfl, rfl, rfl, by decide +kernel, rfl, by decide +kernel, by decide +kernel⟩
theorem ok_twice {f fC fT fP : Addr} {fd fdC fdT fdP : FuncData} {k : Nat} (F : Fun K "done_twice" "done_twice" sTwice f fd)
    (GC : FnOk P w K mg base CX0 (k + 1) fC fdC ["rows", "m"] spCellFor) (kC : PySem.W.keepIn K (.ref fC) = true) (bC : Binds K fdC ["rows", "m"] []) (mC : mg "tile_for" = some (.ref fC))
    (GT : FnOk P w K mg base CX0 (k + 1) fT fdT ["rows", "m"] spToldTurn) (kT : PySem.W.keepIn K (.ref fT) = true) (bT : Binds K fdT ["rows", "m"] []) (mT : mg "told_with_turn" = some (.ref fT))
    (GP : FnOk P w K mg base CX0 (k + 1) fP fdP ["m", "x", "y"] spPlace) (kP : PySem.W.keepIn K (.ref fP) = true) (bP : Binds K fdP ["m", "x", "y"] []) (mP : mg "turned_place" = some (.ref fP))
    (ml : mg "len" = none) : FnOk P w K mg base CX0 (k + 2) f fd ["rows", "m"] spTwice := by
  refine F.ok scTwice (fun vs H Q E h => ?_) (fun cdv A outer s H vs Q E hr h => ?_)
  · obtain ⟨p, ps, rows, m, tile, rfl, _⟩ := h
    rfl
  · obtain ⟨p, ps, rows, m, tile, rfl, hR, g, hm, hcell, q⟩ := h
    refine ⟨_, pss_cons (ps_set (i := 2) scTwice.nd rfl (.inl rfl) (pe_call GC hr (by rfl) mC kC bC .nil pass0 (pa_cons (pv 0) (pa_cons (pv 1) pa_nil))))
      (pss_cons (ps_set (i := 3) scTwice.nd rfl (.inl rfl) (pe_lst pa_nil))
      (pss_cons (ps_for PassesOwn.never rfl (pi_list (pe_call GT hr (by rfl) mT kT bT .nil pass0 (pa_cons (pv 2) (pa_cons (pv 1) pa_nil)))) (pg_name (i := 4) scTwice.nd rfl (Or.inl rfl))
        (pss_cons (ps_set (i := 5) scTwice.nd rfl (.inl rfl) (pe_ix ix_tup (pv 4) pe_int (fun _ _ => rfl)))
        (pss_one (ps_for PassesOwn.never rfl (pi_tup (pe_tup (pa_cons (pe_ix ix_tup (pv 4) pe_int (fun _ _ => rfl)) (pa_cons (pe_op op_sub (pe_ix ix_tup (pv 4) pe_int (fun _ _ => rfl)) (pe_callB call_len_seq (by rfl) ml PySem.boot_len (pa_cons (pv 2) pa_nil))) pa_nil)))) (pg_name (i := 6) scTwice.nd rfl (Or.inl rfl))
          (pss_cons (ps_set (i := 7) scTwice.nd rfl (.inl rfl) (pe_call GP hr (by rfl) mP kP bP .nil pass0 (pa_cons (pv 1) (pa_cons (pv 5) (pa_cons (pv 6) pa_nil)))))
          (pss_one (ps_expr (pe_bm PySem.F.plainAttrs_list PySem.F.slot_list_append PySem.F.type_list_append mt_append (pv 3)
            (pa_cons (pe_tup (pa_cons (pe_op op_add (pe_ix ix_tup (pv 7) pe_int (fun _ _ => rfl)) (pv 5)) (pa_cons (pe_op op_add (pe_ix ix_tup (pv 7) pe_int (fun _ _ => rfl)) (pv 6)) pa_nil))) pa_nil)))))))))
      (pss_one (ps_ret (pv 3))))), ?_⟩
    have hw := g.w2
    have hh := g.h2
    refine ⟨_, rfl, _, rfl, p, ps, rows, m, rfl, hR, g.rect, by omega, by omega, fun tile' hc' H1 pc pcs sm1 hC => ?_, fun hc' H1 sm1 => ?_⟩
    · rw [hcell] at hc'
      cases hc'
      have gt := tile_good g hcell
      have htl : ((pcs.map V.ref).length : Int) = (tile.length : Int) := by rw [List.length_map, hC.2.1]
      refine ⟨Nat.zero_le _, fun D nD => ?_⟩
      have nDH : H D = none := Same.free sm1 nD
      refine ⟨_, rfl, _, rfl, pc, pcs, tile, m, rfl, same_rows (same_upd nD) hC, gt, hm, fun H3 L ts sm3 nL hT => ?_⟩
      have DL : D ≠ L := ne_of_none upd_same nL
      have hD3 : H3 D = some (.lst []) := sm3 _ _ upd_same
      have s13 : Same H1 H3 := (same_upd nD).trans sm3
      have bl : ∀ i, (dblOf m (tile.length : Int) ((symsM tile m).take i)).length ≤ 131072 := fun i => by
        rw [dbl_len]
        have h1 : ((symsM tile m).take i).length ≤ (symsM tile m).length := by rw [List.length_take]; exact Nat.min_le_right _ _
        have h2 := symsTo_len tile m tile.length
        have h3 := gt.wh
        rw [Nat.mul_comm] at h3
        unfold symsM at h1 ⊢
        omega
      refine ⟨L, rfl, ⟨_, SqL.of hT.1⟩, for_list (K := K) (a := L) (xs := ts.map V.ref) (fun i σ H' => ∃ (fv av bv pv : Option V) (us : List Addr), σ = [some (.ref p), some (.int m), some (.ref pc), some (.ref D), fv, av, bv, pv] ∧ Same H1 H' ∧ SymsAt H' L ts (symsM tile m) ∧ PairsAt H' D us (dblOf m (tile.length : Int) ((symsM tile m).take i)))
        ⟨none, none, none, none, [], rfl, s13, hT, ⟨hD3, rfl, fun i a z e => by simp at e⟩⟩ (fun i σ H' _ ⟨_, _, _, _, _, _, _, hT', _⟩ => SqL.of hT'.1) ?_ ?_⟩
      · rintro i x σ H' hx ⟨fv, av, bv, pv, us, rfl, sm, hT', hD⟩
        obtain ⟨T, hTi, rfl⟩ := map_get hx
        have hi : i < (symsM tile m).length := by rw [← hT.2.1]; exact (List.getElem?_eq_some_iff.mp hTi).1
        obtain ⟨z, hz⟩ : ∃ z, (symsM tile m)[i]? = some z := ⟨_, List.getElem?_eq_getElem hi⟩
        have hA := hT'.2.2 i T z hTi hz
        have hC' := same_rows sm hC
        refine ⟨_, rfl, T, _, 1, _, rfl, rfl, SqT.of hA, atI_nat (j := 1) rfl, ?_⟩
        refine ⟨_, rfl, T, _, 2, _, rfl, rfl, SqT.of hA, atI_nat (j := 2) rfl, _, rfl, T, _, 2, _, rfl, rfl, SqT.of hA, atI_nat (j := 2) rfl, _, rfl, pc, _, rfl, .inl (SqL.of hC'.1), _, _, rfl, rfl, show 2 ≤ sizeLine by decide, fun B nB => ?_⟩
        rw [htl]
        have smB : Same H' (upd H' B (.tup [.int z.b, .int (z.b - tile.length)])) := same_upd nB
        have BD : D ≠ B := ne_of_none hD.1 nB
        refine ⟨B, rfl, ⟨_, SqT.of upd_same⟩, for_tup (K := K) (a := B) (xs := [z.b, z.b - (tile.length : Int)].map V.int) (fun j σ H2 => ∃ (bv pv : Option V) (us : List Addr), σ = [some (.ref p), some (.int m), some (.ref pc), some (.ref D), some (.ref T), some (.int z.a), bv, pv] ∧ Same H1 H2 ∧ SymsAt H2 L ts (symsM tile m) ∧ H2 B = some (.tup [.int z.b, .int (z.b - tile.length)]) ∧
            PairsAt H2 D us (dblOf m (tile.length : Int) ((symsM tile m).take i) ++ ([z.b, z.b - (tile.length : Int)].map (tw m z.a)).take j))
          ⟨bv, pv, us, rfl, sm.trans smB, same_syms smB hT', upd_same, by rw [List.take_zero, List.append_nil]; exact same_pairs smB hD⟩ (fun j σ H2 _ ⟨_, _, _, _, _, _, hB, _⟩ => SqT.of hB) ?_ ?_⟩
        · rintro j y σ H2 hy ⟨bv, pv, us, rfl, sm2, hT2, hB2, hD2⟩
          obtain ⟨b, hb, rfl⟩ := map_get hy
          have hj : j < 2 := (List.getElem?_eq_some_iff.mp hb).1
          have hpr : ([z.b, z.b - (tile.length : Int)].map (tw m z.a))[j]? = some (tw m z.a b) := by rw [List.getElem?_map, hb]; rfl
          refine ⟨_, rfl, _, rfl, _, rfl, m, z.a, b, rfl, hm, fun H4 U sm4 hU => ?_⟩
          have hD4 := same_pairs sm4 hD2
          refine ⟨.ref D, rfl, .inl ⟨rfl, _, SqL.of hD4.1⟩, _, rfl, U, _, 0, _, rfl, rfl, SqT.of hU, atI_nat (j := 0) rfl, _, rfl, _, _, rfl, rfl, _, rfl, U, _, 1, _, rfl, rfl, SqT.of hU, atI_nat (j := 1) rfl, _, rfl, _, _, rfl, rfl, show 2 ≤ sizeLine by decide, fun V0 nV => ?_⟩
          have smV := same_upd (o := .tup [.int ((tp m z.a b).1 + z.a), .int ((tp m z.a b).2 + b)]) nV
          have hD5 := same_pairs smV hD4
          refine ⟨D, _, _, rfl, rfl, hD5.1, ?_, _, _, us ++ [V0], rfl, same_put ((sm2.trans sm4).trans smV) nD, ?_, ?_, ?_⟩
          · have := bl i
            rw [List.length_map, hD5.2.1, List.length_append, List.length_take]
            exact line_lt (by omega)
          · exact (same_syms (sm4.trans smV) hT2).other (Ne.symm DL) hD5.1
          · have e := (sm4.trans smV) _ _ hB2
            rw [upd_ne (Ne.symm BD)]
            exact e
          · rw [take_succ hpr, ← List.append_assoc]
            exact hD5.push (s := tw m z.a b) upd_same
        · rintro σ H2 ⟨bv, pv, us, rfl, sm2, hT2, hB2, hD2⟩
          refine ⟨_, _, _, _, us, rfl, sm2, hT2, ?_⟩
          rw [dbl_succ hz]
          exact hD2
      · rintro σ H' ⟨fv, av, bv, pv, us, rfl, sm, hT', hD⟩
        rw [List.length_map, hT.2.1, List.take_length] at hD
        refine ⟨_, rfl, q H' D us (sm1.trans sm) nDH ?_⟩
        unfold dblR
        rw [hcell]
        exact hD
    · rw [hcell] at hc'
      cases hc'
end
end Kc

namespace Kc
open PySem PySem.Spec PyProof.Rows L2
def spIsTwice : Sp := fun vs H Q _ => ∃ (p : Addr) (ps : List Addr) (rows : Rows) (a b : Int), vs = [.ref p, .int a, .int b] ∧ RowsAt H p ps rows ∧ Good rows ∧ ∀ H', Same H H' → Q (.bl (halfB rows (a, b))) H'
def spHasGlide : Sp := fun vs H Q _ => ∃ (p : Addr) (ps : List Addr) (rows : Rows) (d : Addr) (ts : List Addr) (l : List (Int × Int)), vs = [.ref p, .ref d] ∧ RowsAt H p ps rows ∧ Good rows ∧ PairsAt H d ts l ∧ l.length ≤ 200000 ∧ ∀ H', Same H H' → Q (.bl (l.any fun z => !halfB rows z)) H'
def spKind2 (f : Nat → Bool → Nat) : Sp := fun vs H Q _ => ∃ (n : Nat) (b : Bool), vs = [.int n, .bl b] ∧ Q (.int (f n b : Nat)) H
def intsOf (l : List Nat) : List Int := l.map Int.ofNat
theorem mem_intsOf (n : Nat) (l : List Nat) : decide ((n : Int) ∈ intsOf l) = decide (n ∈ l) := by
  apply decide_eq_decide.mpr
  unfold intsOf
  rw [List.mem_map]
  constructor
  · rintro ⟨a, ha, e⟩
    have : a = n := by
      have : (a : Int) = n := e
      omega
    exact this ▸ ha
  · intro h
    exact ⟨n, h, rfl⟩
def spKindNo : Sp := fun vs H Q _ => ∃ (d : Addr) (l : List Nat) (n : Nat) (b : Bool), vs = [.ref d, .int n, .bl b] ∧ IntsAt H d (intsOf l) ∧ Q (.int (kindN (decide (1 ∈ l) || decide (3 ∈ l)) (decide (2 ∈ l)) n b : Nat)) H
theorem inV_nats (n : Nat) (l : List Nat) : inV (.int n) ((intsOf l).map V.int) = decide (n ∈ l) := by
  rw [← mem_intsOf]
  unfold inV
  induction intsOf l with
  | nil => simp
  | cons x l ih =>
    rw [List.map_cons, List.any_cons, ih]
    show (decide (x = (n : Int)) || decide ((n : Int) ∈ l)) = _
    by_cases h : (n : Int) = x
    · subst h; simp
    · have : ¬ x = (n : Int) := fun z => h z.symm
      simp [h, this]
theorem flat_nats (l : List Nat) : ((intsOf l).map V.int).all flatV = true := by
  rw [List.all_eq_true]
  intro x hx
  obtain ⟨n, _, rfl⟩ := List.mem_map.mp hx
  rfl
section
variable {P : Program} {w : World} {K : PySem.W.Frag} {mg : Str → Option Value} {base : Heap}
theorem scIsTwice : FnScope ["rows", "a", "b"] ["rows", "a", "b"] (defScope sIsTwice) := ⟨rfl, rfl, rfl, by decide +kernel, rfl, by decide +kernel, by decide +kernel⟩
theorem ok_isTwice {f fF : Addr} {fd fdF : FuncData} {k : Nat} (F : Fun K "is_twice_a_step" "is_twice_a_step" sIsTwice f fd)
    (GF : FnOk P w K mg base CX0 (k + 1) fF fdF ["tile", "image", "a", "b"] spFits) (kF : PySem.W.keepIn K (.ref fF) = true) (bF : Binds K fdF ["tile", "image", "a", "b"] []) (mF : mg "fits" = some (.ref fF)) : FnOk P w K mg base CX0 (k + 2) f fd ["rows", "a", "b"] spIsTwice := by
  refine F.ok scIsTwice (fun vs H Q E h => ?_) (fun cdv A outer s H vs Q E hr h => ?_)
  · obtain ⟨p, ps, rows, a, b, rfl, _⟩ := h
    rfl
  · obtain ⟨p, ps, rows, a, b, rfl, hR, g, q⟩ := h
    refine ⟨_, pss_one (ps_ret (pe_and (pe_cmpR op_eq (pe_op op_mod (pv 1) pe_int) pe_int (nomark _)) (pe_and (pe_cmpR op_eq (pe_op op_mod (pv 2) pe_int) pe_int (nomark _))
      (pe_one (pe_call GF hr (by rfl) mF kF bF .nil pass0 (pa_cons (pv 0) (pa_cons (pv 0) (pa_cons (pe_op op_fdiv (pv 1) pe_int) (pa_cons (pe_op op_fdiv (pv 2) pe_int) pa_nil))))))))), ?_⟩
    have hw := g.w2
    have hh := g.h2
    have dd : ∀ x : Int, decide (V.int (x % 2) = V.int 0) = decide (x % 2 = 0) := fun x => decide_eq_decide.mpr ⟨fun h => V.int.inj h, fun h => by rw [h]⟩
    unfold halfB at q
    refine ⟨_, rfl, a, 2, rfl, rfl, (by show (0 : Int) < 2; decide), rfl, _, rfl, ?_⟩
    rw [dd]
    cases h1 : decide (a % 2 = 0) with
    | false =>
      rw [show ((a, b) : Int × Int).1 = a from rfl, h1] at q
      exact iteF (q H (Same.refl H))
    | true =>
      rw [show ((a, b) : Int × Int).1 = a from rfl, h1] at q
      refine iteT ⟨_, rfl, b, 2, rfl, rfl, (by show (0 : Int) < 2; decide), rfl, _, rfl, ?_⟩
      rw [dd]
      cases h2 : decide (b % 2 = 0) with
      | false =>
        rw [show ((a, b) : Int × Int).2 = b from rfl, h2] at q
        exact iteF (q H (Same.refl H))
      | true =>
        rw [show ((a, b) : Int × Int).2 = b from rfl, h2] at q
        refine iteT ⟨_, rfl, _, rfl, _, rfl, a, 2, rfl, rfl, ⟨by show (0 : Int) < 2; decide, by decide⟩, _, rfl, b, 2, rfl, rfl, ⟨by show (0 : Int) < 2; decide, by decide⟩, p, ps, rows, p, ps, rows, wide rows, rows.length, a / 2, b / 2, rfl, hR, hR, g.rect, g.rect, by omega, by omega, fun H4 sm4 => ?_⟩
        rw [fits_step g]
        exact q H4 sm4
theorem scHasGlide : FnScope ["rows", "steps", "step"] ["rows", "steps"] (defScope sHasGlide) := ⟨rfl, rfl, rfl, by decide +kernel, rfl, by decide +kernel, by decide +kernel⟩
theorem ok_hasGlide {f fI : Addr} {fd fdI : FuncData} {k : Nat} (F : Fun K "has_glide" "has_glide" sHasGlide f fd)
    (GI : FnOk P w K mg base CX0 (k + 1) fI fdI ["rows", "a", "b"] spIsTwice) (kI : PySem.W.keepIn K (.ref fI) = true) (bI : Binds K fdI ["rows", "a", "b"] []) (mI : mg "is_twice_a_step" = some (.ref fI)) (ma : mg "any" = none) : FnOk P w K mg base CX0 (k + 2) f fd ["rows", "steps"] spHasGlide := by
  refine F.ok scHasGlide (fun vs H Q E h => ?_) (fun cdv A outer s H vs Q E hr h => ?_)
  · obtain ⟨p, ps, rows, d, ts, l, rfl, _⟩ := h
    rfl
  · obtain ⟨p, ps, rows, d, ts, l, rfl, hR, g, hP, hl, q⟩ := h
    refine ⟨_, pss_one (ps_ret (pe_callB (cr_any rfl) (by rfl) ma (by decide +kernel) (pa_cons (pe_lc (own := [("step", 2)]) (g := gName 2) (tt := tYes) rfl scHasGlide.nd (pi_list (pv 1)) (blkOk_by (own := [("step", 2)]) (N := ["rows", "steps", "step"]) (sc := defScope sHasGlide) (by decide +kernel))
        (fun _ _ _ _ _ => pg_name (i := 2) scHasGlide.nd rfl (Or.inl rfl)) (fun _ _ _ _ _ => pts_nil) (fun _ _ _ _ _ => pe_not (pe_call GI hr (by rfl) mI kI bI .nil pass0 (pa_cons (pv 0) (pa_cons (pe_ix (show IxR _ (rIxT K) from ix_tup) (pv 2) pe_int (fun _ _ => rfl)) (pa_cons (pe_ix (show IxR _ (rIxT K) from ix_tup) (pv 2) pe_int (fun _ _ => rfl)) pa_nil)))))) pa_nil))), ?_⟩
    refine ⟨.ref d, rfl, d, rfl, ⟨_, SqL.of hP.1⟩, fun D nD => ?_⟩
    refine lc_list (K := K) (a := d) (xs := ts.map V.ref) (fun i H' => Same H H' ∧ H' D = some (.lst ((l.take i).map fun z => V.bl (!halfB rows z)))) ⟨same_upd nD, upd_same⟩ (fun i H' _ ⟨sm, _⟩ => SqL.of (sm _ _ hP.1)) ?_ ?_
    · rintro i x H' hx ⟨sm, hD⟩
      obtain ⟨T, hTi, rfl⟩ := map_get hx
      have hi : i < l.length := by rw [← hP.2.1]; exact (List.getElem?_eq_some_iff.mp hTi).1
      obtain ⟨z, hz⟩ : ∃ z, l[i]? = some z := ⟨_, List.getElem?_eq_getElem hi⟩
      have hA := sm _ _ (hP.2.2 i T z hTi hz)
      refine ⟨rfl, ?_⟩
      refine yes_ite ?_
      refine ⟨_, rfl, _, rfl, T, _, 0, _, rfl, rfl, SqT.of hA, atI_nat (j := 0) rfl, _, rfl, T, _, 1, _, rfl, rfl, SqT.of hA, atI_nat (j := 1) rfl, p, ps, rows, z.1, z.2, rfl, same_rows sm hR, g, fun H2 sm2 => ⟨_, rfl, _, sm2 _ _ hD, ?_, same_put (sm.trans sm2) nD, ?_⟩⟩
      · rw [List.length_map, List.length_take]
        exact line_lt (by omega)
      · rw [upd_same, take_succ hz, List.map_append]
        rfl
    · rintro H' ⟨sm, hD⟩
      rw [List.length_map, hP.2.1, List.take_length] at hD
      refine ⟨D, l.map fun z => !halfB rows z, rfl, SqL.of (by rw [List.map_map]; exact hD), ?_⟩
      rw [List.any_map]
      exact q H' sm
theorem two_eq (n j : Nat) : decide (V.int (n : Int) = V.int (j : Int)) = decide (n = j) := decide_eq_decide.mpr ⟨fun h => by
  have := V.int.inj h
  omega, fun h => by rw [h]⟩
theorem scKindW : FnScope ["mirrors", "glides"] ["mirrors", "glides"] (defScope sKindW) := ⟨rfl, rfl, rfl, by decide +kernel, rfl, by decide +kernel, by decide +kernel⟩
theorem ok_kindW {f : Addr} {fd : FuncData} {k : Nat} (F : Fun K "kind_without_turns" "kind_without_turns" sKindW f fd) : FnOk P w K mg base CX0 (k + 1) f fd ["mirrors", "glides"] (spKind2 kindW) := by
  refine F.ok scKindW (fun vs H Q E h => ?_) (fun cdv A outer s H vs Q E hr h => ?_)
  · obtain ⟨n, b, rfl, _⟩ := h
    rfl
  · obtain ⟨n, b, rfl, q⟩ := h
    refine ⟨_, pss_cons (ps_if (pt_cmpR op_eq (pv 0) pe_int (nomark _)) (pss_one (ps_ret (pe_ifExp (pt_val (pv 1)) pe_int pe_int))) pss_nil) (pss_one (ps_ret (pe_ifExp (pt_val (pv 1)) pe_int pe_int))), ?_⟩
    unfold kindW at q
    refine ⟨_, rfl, rfl, _, rfl, ?_⟩
    by_cases h0 : n = 0
    · rw [if_pos h0] at q
      rw [show decide (V.int (n : Int) = V.int 0) = true from (two_eq n 0).trans (decide_eq_true h0)]
      refine iteT ⟨_, rfl, b, rfl, ?_⟩
      cases b with
      | true => exact iteT q
      | false => exact iteF q
    · rw [if_neg h0] at q
      rw [show decide (V.int (n : Int) = V.int 0) = false from (two_eq n 0).trans (decide_eq_false h0)]
      refine iteF ⟨_, rfl, b, rfl, ?_⟩
      cases b with
      | true => exact iteT q
      | false => exact iteF q
theorem scKindH : FnScope ["mirrors", "glides"] ["mirrors", "glides"] (defScope sKindH) := ⟨rfl, rfl, rfl, by decide +kernel, rfl, by decide +kernel, by decide +kernel⟩
theorem ok_kindH {f : Addr} {fd : FuncData} {k : Nat} (F : Fun K "kind_with_half_turns" "kind_with_half_turns" sKindH f fd) : FnOk P w K mg base CX0 (k + 1) f fd ["mirrors", "glides"] (spKind2 kindH) := by
  refine F.ok scKindH (fun vs H Q E h => ?_) (fun cdv A outer s H vs Q E hr h => ?_)
  · obtain ⟨n, b, rfl, _⟩ := h
    rfl
  · obtain ⟨n, b, rfl, q⟩ := h
    refine ⟨_, pss_cons (ps_if (pt_cmpR op_eq (pv 0) pe_int (nomark _)) (pss_one (ps_ret (pe_ifExp (pt_val (pv 1)) pe_int pe_int))) pss_nil)
      (pss_cons (ps_if (pt_cmpR op_eq (pv 0) pe_int (nomark _)) (pss_one (ps_ret pe_int)) pss_nil)
      (pss_one (ps_ret (pe_ifExp (pt_val (pv 1)) pe_int pe_int)))), ?_⟩
    unfold kindH at q
    refine ⟨_, rfl, rfl, _, rfl, ?_⟩
    by_cases h0 : n = 0
    · rw [if_pos h0] at q
      rw [show decide (V.int (n : Int) = V.int 0) = true from (two_eq n 0).trans (decide_eq_true h0)]
      refine iteT ⟨_, rfl, b, rfl, ?_⟩
      cases b with
      | true => exact iteT q
      | false => exact iteF q
    · rw [if_neg h0] at q
      rw [show decide (V.int (n : Int) = V.int 0) = false from (two_eq n 0).trans (decide_eq_false h0)]
      refine iteF ⟨_, rfl, rfl, _, rfl, ?_⟩
      by_cases h1 : n = 1
      · rw [if_pos h1] at q
        rw [show decide (V.int (n : Int) = V.int 1) = true from (two_eq n 1).trans (decide_eq_true h1)]
        exact iteT q
      · rw [if_neg h1] at q
        rw [show decide (V.int (n : Int) = V.int 1) = false from (two_eq n 1).trans (decide_eq_false h1)]
        refine iteF ⟨_, rfl, b, rfl, ?_⟩
        cases b with
        | true => exact iteT q
        | false => exact iteF q
theorem scKindQ : FnScope ["mirrors", "glides"] ["mirrors", "glides"] (defScope sKindQ) := ⟨rfl, rfl, rfl, by decide +kernel, rfl, by decide +kernel, by decide +kernel⟩
theorem ok_kindQ {f : Addr} {fd : FuncData} {k : Nat} (F : Fun K "kind_with_quarter_turns" "kind_with_quarter_turns" sKindQ f fd) : FnOk P w K mg base CX0 (k + 1) f fd ["mirrors", "glides"] (spKind2 kindQ) := by
  refine F.ok scKindQ (fun vs H Q E h => ?_) (fun cdv A outer s H vs Q E hr h => ?_)
  · obtain ⟨n, b, rfl, _⟩ := h
    rfl
  · obtain ⟨n, b, rfl, q⟩ := h
    refine ⟨_, pss_cons (ps_if (PW.pt (pw_and (pt_cmpR op_eq (pv 0) pe_int (nomark _)) (pw_and1 (pt_not (pt_val (pv 1)))))) (pss_one (ps_ret pe_int)) pss_nil)
      (pss_one (ps_ret (pe_ifExp (pt_cmpR op_eq (pv 0) pe_int (nomark _)) pe_int pe_int))), ?_⟩
    unfold kindQ at q
    have rest : ∀ R : VK, ¬ (n = 0 ∧ b = false) → (R (.int ((if n = 0 ∧ b = false then 10 else if n = 4 then 11 else 12 : Nat) : Int)) H) → tIf (tTest (tOp rEq (tVar 0) (tC (V.int 4)))) (tC (V.int 11)) (tC (V.int 12)) (L2.start ["mirrors", "glides"] [V.int n, V.bl b]) H R := fun R hn h => by
      rw [if_neg hn] at h
      refine ⟨_, rfl, rfl, _, rfl, ?_⟩
      by_cases h4 : n = 4
      · rw [if_pos h4] at h
        rw [show decide (V.int (n : Int) = V.int 4) = true from (two_eq n 4).trans (decide_eq_true h4)]
        exact iteT h
      · rw [if_neg h4] at h
        rw [show decide (V.int (n : Int) = V.int 4) = false from (two_eq n 4).trans (decide_eq_false h4)]
        exact iteF h
    refine ⟨_, rfl, rfl, _, rfl, ?_⟩
    by_cases h0 : n = 0
    · rw [show decide (V.int (n : Int) = V.int 0) = true from (two_eq n 0).trans (decide_eq_true h0)]
      refine iteT ⟨_, rfl, b, rfl, ?_⟩
      cases b with
      | false =>
        rw [if_pos ⟨h0, rfl⟩] at q
        exact iteT q
      | true =>
        refine iteF ?_
        exact rest _ (fun z => by cases z.2) q
    · rw [show decide (V.int (n : Int) = V.int 0) = false from (two_eq n 0).trans (decide_eq_false h0)]
      refine iteF (iteF ?_)
      exact rest _ (fun z => h0 z.1) q
theorem scKindNo : FnScope ["turns", "mirrors", "glides"] ["turns", "mirrors", "glides"] (defScope sKindNo) := ⟨rfl, rfl, rfl, by decide +kernel, rfl, by decide +kernel, by decide +kernel⟩
theorem ok_kindNo {f fQ fH fW : Addr} {fd fdQ fdH fdW : FuncData} {k : Nat} (F : Fun K "kind_number" "kind_number" sKindNo f fd)
    (GQ : FnOk P w K mg base CX0 (k + 1) fQ fdQ ["mirrors", "glides"] (spKind2 kindQ)) (kQ : PySem.W.keepIn K (.ref fQ) = true) (bQ : Binds K fdQ ["mirrors", "glides"] []) (mQ : mg "kind_with_quarter_turns" = some (.ref fQ))
    (GH : FnOk P w K mg base CX0 (k + 1) fH fdH ["mirrors", "glides"] (spKind2 kindH)) (kH : PySem.W.keepIn K (.ref fH) = true) (bH : Binds K fdH ["mirrors", "glides"] []) (mH : mg "kind_with_half_turns" = some (.ref fH))
    (GW : FnOk P w K mg base CX0 (k + 1) fW fdW ["mirrors", "glides"] (spKind2 kindW)) (kW : PySem.W.keepIn K (.ref fW) = true) (bW : Binds K fdW ["mirrors", "glides"] []) (mW : mg "kind_without_turns" = some (.ref fW)) : FnOk P w K mg base CX0 (k + 2) f fd ["turns", "mirrors", "glides"] spKindNo := by
  refine F.ok scKindNo (fun vs H Q E h => ?_) (fun cdv A outer s H vs Q E hr h => ?_)
  · obtain ⟨d, l, n, b, rfl, _⟩ := h
    rfl
  · obtain ⟨d, l, n, b, rfl, hI, q⟩ := h
    refine ⟨_, pss_cons (ps_if (PW.pt (pw_or (pt_cmpR op_in_seq pe_int (pv 0) rfl) (pw_or1 (pt_cmpR op_in_seq pe_int (pv 0) rfl)))) (pss_one (ps_ret (pe_call GQ hr (by rfl) mQ kQ bQ .nil pass0 (pa_cons (pv 1) (pa_cons (pv 2) pa_nil))))) pss_nil)
      (pss_cons (ps_if (pt_cmpR op_in_seq pe_int (pv 0) rfl) (pss_one (ps_ret (pe_call GH hr (by rfl) mH kH bH .nil pass0 (pa_cons (pv 1) (pa_cons (pv 2) pa_nil))))) pss_nil)
      (pss_one (ps_ret (pe_call GW hr (by rfl) mW kW bW .nil pass0 (pa_cons (pv 1) (pa_cons (pv 2) pa_nil)))))), ?_⟩
    unfold kindN at q
    have inn : ∀ j : Nat, (if false = true then !inV (.int j) ((intsOf l).map V.int) else inV (.int j) ((intsOf l).map V.int)) = decide (j ∈ l) := fun j => inV_nats j l
    have i1 := inn 1
    have i2 := inn 2
    have i3 := inn 3
    refine ⟨_, rfl, d, _, rfl, .inl (SqL.of hI), rfl, flat_nats l, _, rfl, ?_⟩
    rw [show (if false = true then !inV (.int 1) ((intsOf l).map V.int) else inV (.int 1) ((intsOf l).map V.int)) = decide (1 ∈ l) from i1]
    cases h1 : decide (1 ∈ l) with
    | true =>
      rw [h1] at q
      exact iteT (iteT ⟨_, rfl, _, rfl, n, b, rfl, q⟩)
    | false =>
      rw [h1] at q
      refine iteF ⟨_, rfl, d, _, rfl, .inl (SqL.of hI), rfl, flat_nats l, _, rfl, ?_⟩
      rw [show (if false = true then !inV (.int 3) ((intsOf l).map V.int) else inV (.int 3) ((intsOf l).map V.int)) = decide (3 ∈ l) from i3]
      cases h3 : decide (3 ∈ l) with
      | true =>
        rw [h3] at q
        exact iteT ⟨_, rfl, _, rfl, n, b, rfl, q⟩
      | false =>
        rw [h3] at q
        refine iteF ⟨_, rfl, d, _, rfl, .inl (SqL.of hI), rfl, flat_nats l, _, rfl, ?_⟩
        rw [show (if false = true then !inV (.int 2) ((intsOf l).map V.int) else inV (.int 2) ((intsOf l).map V.int)) = decide (2 ∈ l) from i2]
        cases h2 : decide (2 ∈ l) with
        | true =>
          rw [h2] at q
          exact iteT ⟨_, rfl, _, rfl, n, b, rfl, q⟩
        | false =>
          rw [h2] at q
          exact iteF ⟨_, rfl, _, rfl, n, b, rfl, q⟩
end
end Kc

namespace Kc
open PySem PySem.Spec PyProof.Rows L2
/-! ### pairs as data -/
def dPair (z : Int × Int) : PyData := .tuple [.int z.1, .int z.2]
theorem pairs_lay : ∀ l : List (Int × Int), PyData.canLayAll0 (l.map dPair) = true ∧ PyData.depthAll (l.map dPair) ≤ 1
  | [] => by simp [PyData.canLayAll0, PyData.depthAll]
  | z :: l => by
    have ih := pairs_lay l
    simp [PyData.canLayAll0, PyData.depthAll, dPair, PyData.canLay0, PyData.depth]
    refine ⟨ih.1, ?_⟩
    have := ih.2
    omega
theorem pair_shaped (z : Int × Int) : SeqAt.shaped (dPair z) = true := by
  show ((dPair z).canLay0 && decide ((dPair z).depth ≤ 64)) = true
  simp [dPair, PyData.canLay0, PyData.canLayAll0, PyData.depth, PyData.depthAll]
theorem pairs_shaped (l : List (Int × Int)) : SeqAt.shaped (.list (l.map dPair)) = true := by
  have h := pairs_lay l
  show ((PyData.list (l.map dPair)).canLay0 && decide ((PyData.list (l.map dPair)).depth ≤ 64)) = true
  simp only [PyData.canLay0, PyData.depth, h.1, Bool.true_and, decide_eq_true_eq]
  exact decide_eq_true (by omega)
theorem pair_eqv (z w : Int × Int) : PyData.eqv (dPair z) (dPair w) = decide (z = w) := by
  obtain ⟨a, b⟩ := z
  obtain ⟨c, d⟩ := w
  simp only [dPair, PyData.eqv, PyData.eqvAll]
  by_cases h : a = c <;> by_cases h2 : b = d <;> simp [h, h2]
theorem pair_in (w : Int × Int) (l : List (Int × Int)) : ((l.map dPair).any fun z => PyData.eqv z (dPair w)) = decide (w ∈ l) := by
  induction l with
  | nil => simp
  | cons x l ih =>
    rw [List.map_cons, List.any_cons, ih, pair_eqv]
    by_cases h : w = x
    · subst h; simp
    · have : ¬ x = w := fun z => h z.symm
      simp [h, this]
theorem pair_dp {K : PySem.W.Frag} {H : Hp} {a : Addr} {z : Int × Int} (h : H a = some (.tup [.int z.1, .int z.2])) : Dp K H (.ref a) (dPair z) := .tup (SqT.of h) (.cons (.int _) (.cons (.int _) .nil))
theorem pairs_all {K : PySem.W.Frag} {H : Hp} : ∀ (ts : List Addr) (l : List (Int × Int)), ts.length = l.length → (∀ (i : Nat) (a : Addr) (z : Int × Int), ts[i]? = some a → l[i]? = some z → H a = some (.tup [.int z.1, .int z.2])) → DpAll K H (ts.map V.ref) (l.map dPair)
  | [], [], _, _ => .nil
  | [], _ :: _, h, _ => by simp at h
  | _ :: _, [], h, _ => by simp at h
  | t :: ts, z :: l, h, q => .cons (pair_dp (q 0 t z rfl rfl)) (pairs_all ts l (by simpa using h) fun i a r e1 e2 => q (i + 1) a r (by simpa using e1) (by simpa using e2))
theorem pairs_dp {K : PySem.W.Frag} {H : Hp} {p : Addr} {ts : List Addr} {l : List (Int × Int)} (h : PairsAt H p ts l) : Dp K H (.ref p) (.list (l.map dPair)) := .lst (SqL.of h.1) (pairs_all ts l h.2.1 h.2.2)
theorem room65 {k : Nat} {A : Around} (r : Room k A) : A.units + 65 < cLine := by
  have := r.un
  omega
/-- a list of lists of pairs -/
def DblsAt (H : Hp) (p : Addr) (ps : List Addr) (ls : List (List (Int × Int))) : Prop := H p = some (.lst (ps.map V.ref)) ∧ ps.length = ls.length ∧ ∀ (i : Nat) (a : Addr) (l : List (Int × Int)), ps[i]? = some a → ls[i]? = some l → ∃ ts, PairsAt H a ts l
theorem same_dbls {H H' : Hp} (s : Same H H') {p : Addr} {ps : List Addr} {ls : List (List (Int × Int))} (h : DblsAt H p ps ls) : DblsAt H' p ps ls := ⟨s _ _ h.1, h.2.1, fun i a l e1 e2 => by
  obtain ⟨ts, q⟩ := h.2.2 i a l e1 e2
  exact ⟨ts, same_pairs s q⟩⟩
theorem DblsAt.push {H : Hp} {p q : Addr} {ps ts : List Addr} {ls : List (List (Int × Int))} {l : List (Int × Int)} (h : DblsAt H p ps ls) (hq : PairsAt H q ts l) (hp : p ∉ ps) (hpq : p ≠ q) : DblsAt (upd H p (.lst (ps.map V.ref ++ [.ref q]))) p (ps ++ [q]) (ls ++ [l]) := by
  refine ⟨by rw [upd_same, List.map_append]; rfl, by rw [List.length_append, List.length_append, h.2.1]; rfl, fun i a z e1 e2 => ?_⟩
  rcases get_append h.2.1 e1 e2 with ⟨f1, f2⟩ | ⟨f1, f2⟩
  · obtain ⟨us, r⟩ := h.2.2 i a z f1 f2
    have : a ≠ p := fun y => hp (y ▸ List.mem_of_getElem? f1)
    exact ⟨us, r.other this h.1⟩
  · have hl := (List.getElem?_eq_some_iff.mp f1).1
    simp at hl
    rw [hl] at f1 f2
    simp at f1 f2
    subst f1 f2
    exact ⟨ts, hq.other (Ne.symm hpq) h.1⟩
/-! ### what is due of kind -/
def kindAns (t : List Int) : List Int := if refusal t < 0 then [refusal t] else [(Rg.kindOf (chartR (splitRows t)) : Int), ((Rg.motionsOf (chartR (splitRows t))).length : Int), ((Rg.mirrorsOf (chartR (splitRows t)) (Rg.syms (chartR (splitRows t)))).length : Int)]
theorem kind_eq (t : List Int) (h : ∀ x ∈ t, inB x) : PyWqbbcf.kind t = kindAns t := by
  show RugBNeutral.shown (RugB.ofChart (RugBNeutral.text t) _) = _
  rw [ofChart_eq t h]
  rfl
def spKind (K : PySem.W.Frag) : Sp := fun vs H Q _ => ∃ (ad : Addr) (t : List Int), vs = [.ref ad] ∧ SqL K H ad (t.map V.int) ∧ t.length ≤ 70000 ∧ ∀ H' p, H' p = some (.lst ((kindAns t).map V.int)) → Q (.ref p) H'
theorem filter_take {α : Type} {l : List α} {i : Nat} {x : α} (h : l[i]? = some x) (f : α → Bool) : (l.take (i + 1)).filter f = (l.take i).filter f ++ (if f x = true then [x] else []) := by
  rw [take_succ h, List.filter_append]
  by_cases c : f x = true
  · simp [c]
  · simp [c]
theorem filter_range (i : Nat) (f : Nat → Bool) : (List.range (i + 1)).filter f = (List.range i).filter f ++ (if f i = true then [i] else []) := by
  rw [List.range_succ, List.filter_append]
  by_cases c : f i = true
  · simp [c]
  · simp [c]
theorem filter_le {α : Type} (l : List α) (i n : Nat) (f : α → Bool) (h : l.length ≤ n) : ((l.take i).filter f).length ≤ n := by
  have h1 := List.length_filter_le f (l.take i)
  have h2 : (l.take i).length ≤ l.length := by rw [List.length_take]; exact Nat.min_le_right _ _
  omega
theorem turns_le (rows : Rows) : (turnsOf rows).length ≤ 8 := by
  unfold turnsOf
  have := List.length_filter_le (hasT rows) (List.range 8)
  rw [List.length_range] at this
  exact this
theorem dblR_len {rows : Rows} (g : Good rows) (m : Nat) : (dblR rows m).length ≤ 131072 := by
  unfold dblR
  cases e : cellFor rows m with
  | none => simp
  | some tile =>
    have gt := tile_good g e
    show (dblOf m (tile.length : Int) (symsM tile m)).length ≤ _
    rw [dbl_len]
    have h2 := symsTo_len tile m tile.length
    have h3 := gt.wh
    rw [Nat.mul_comm] at h3
    unfold symsM
    omega
section
variable {P : Program} {w : World} {K : PySem.W.Frag} {mg : Str → Option Value} {base : Heap}
theorem scKind : FnScope ["t", "refusal", "rows", "turns", "doubles", "mirrors", "glides", "m", "steps"] ["t"] (defScope sKind) := ⟨rfl, rfl, rfl, by decide +kernel, rfl, by decide +kernel, by decide +kernel⟩
theorem ok_kind {f fR fS fT fD fG fN : Addr} {fd fdR fdS fdT fdD fdG fdN : FuncData} {k : Nat} {t1 t2 : Tok} (F : Fun K "kind" "kind" sKind f fd)
    (GR : FnOk P w K mg base CX0 (k + 1) fR fdR ["t"] (spRefusal K)) (kR : PySem.W.keepIn K (.ref fR) = true) (bR : Binds K fdR ["t"] []) (mR : mg "text_refusal" = some (.ref fR))
    (GS : FnOk P w K mg base CX0 (k + 1) fS fdS ["t"] (spSplit K)) (kS : PySem.W.keepIn K (.ref fS) = true) (bS : Binds K fdS ["t"] []) (mS : mg "split_rows" = some (.ref fS))
    (GT : FnOk P w K mg base CX0 (k + 1) fT fdT ["rows", "m"] spToldTurn) (kT : PySem.W.keepIn K (.ref fT) = true) (bT : Binds K fdT ["rows", "m"] []) (mT : mg "told_with_turn" = some (.ref fT))
    (GD : FnOk P w K mg base CX0 (k + 1) fD fdD ["rows", "m"] spTwice) (kD : PySem.W.keepIn K (.ref fD) = true) (bD : Binds K fdD ["rows", "m"] []) (mD : mg "done_twice" = some (.ref fD))
    (GG : FnOk P w K mg base CX0 (k + 1) fG fdG ["rows", "steps"] spHasGlide) (kG : PySem.W.keepIn K (.ref fG) = true) (bG : Binds K fdG ["rows", "steps"] []) (mG : mg "has_glide" = some (.ref fG))
    (GN : FnOk P w K mg base CX0 (k + 1) fN fdN ["turns", "mirrors", "glides"] spKindNo) (kN : PySem.W.keepIn K (.ref fN) = true) (bN : Binds K fdN ["turns", "mirrors", "glides"] []) (mN : mg "kind_number" = some (.ref fN))
    (ml : mg "len" = none) (mr : mg "range" = none) (ma : mg "any" = none) (mL : mg "LAST_TURN" = some (.int 7 t1)) (mF : mg "FIRST_MIRRORED" = some (.int 4 t2)) : FnOk P w K mg base CX0 (k + 2) f fd ["t"] (spKind K) := by
  refine F.ok scKind (fun vs H Q E h => ?_) (fun cdv A outer s H vs Q E hr h => ?_)
  · obtain ⟨ad, t, rfl, _⟩ := h
    rfl
  · obtain ⟨ad, t, rfl, hS, hlen, q⟩ := h
    refine ⟨_, pss_cons (ps_set (i := 1) scKind.nd rfl (.inl rfl) (pe_call GR hr (by rfl) mR kR bR .nil pass0 (pa_cons (pv 0) pa_nil)))
      (pss_cons (ps_if (pt_cmpR op_lt (pv 1) pe_int (nomark _)) (pss_one (ps_ret (pe_lst (pa_cons (pv 1) pa_nil)))) pss_nil)
      (pss_cons (ps_set (i := 2) scKind.nd rfl (.inr rfl) (pe_call GS hr (by rfl) mS kS bS .nil pass0 (pa_cons (pv 0) pa_nil)))
      (pss_cons (ps_setLc (i := 3) (own := [("m", 7)]) (g := gName 7) rfl scKind.nd rfl rfl (sw_true rfl rfl rfl (by decide +kernel)) (pi_range1 rfl mr (pa_cons (pe_op op_add (pe_glob rfl mL (rel_int _ _)) pe_int) pa_nil))
        (blkOk_by (own := [("m", 7)]) (N := ["t", "refusal", "rows", "turns", "doubles", "mirrors", "glides", "m", "steps"]) (sc := defScope sKind) (by decide +kernel))
        (fun _ _ _ _ _ => pg_name (i := 7) scKind.nd rfl (Or.inl rfl)) (fun _ _ _ _ _ => pts_one (pt_cmpR op_gt (pe_callB (show CallR _ (.builtin "len") (rLenS K) from call_len_seq) (by rfl) ml PySem.boot_len (pa_cons (pe_call GT hr (by rfl) mT kT bT .nil pass0 (pa_cons (pv 2) (pa_cons (pv 7) pa_nil))) pa_nil)) pe_int (nomark _))) (fun _ _ _ _ _ => pv 7))
      (pss_cons (ps_setLc (i := 4) (own := [("m", 7)]) (g := gName 7) rfl scKind.nd rfl rfl (sw_true rfl rfl rfl (by decide +kernel)) (pi_list (pv 3))
        (blkOk_by (own := [("m", 7)]) (N := ["t", "refusal", "rows", "turns", "doubles", "mirrors", "glides", "m", "steps"]) (sc := defScope sKind) (by decide +kernel))
        (fun _ _ _ _ _ => pg_name (i := 7) scKind.nd rfl (Or.inl rfl)) (fun _ _ _ _ _ => pts_one (pt_cmpR op_ge (pv 7) (pe_glob rfl mF (rel_int _ _)) (nomark _))) (fun _ _ _ _ _ => pe_call GD hr (by rfl) mD kD bD .nil pass0 (pa_cons (pv 2) (pa_cons (pv 7) pa_nil))))
      (pss_cons (ps_set (i := 5) scKind.nd rfl (.inl rfl) (pe_callB call_len_seq (by rfl) ml PySem.boot_len (pa_cons (pe_lc (own := [("steps", 8)]) (g := gName 8) rfl scKind.nd (pi_list (pv 4))
        (blkOk_by (own := [("steps", 8)]) (N := ["t", "refusal", "rows", "turns", "doubles", "mirrors", "glides", "m", "steps"]) (sc := defScope sKind) (by decide +kernel))
        (fun _ _ _ _ _ => pg_name (i := 8) scKind.nd rfl (Or.inl rfl)) (fun _ _ _ _ _ => pts_one (pt_cmpR (show OpR _ (compareOp .In) (rInD K) from op_inD (room65 hr)) (pe_tup (pa_cons pe_int (pa_cons pe_int pa_nil))) (pv 8) rfl)) (fun _ _ _ _ _ => pv 8)) pa_nil)))
      (pss_cons (ps_set (i := 6) scKind.nd rfl (.inl rfl) (pe_callB (cr_any rfl) (by rfl) ma (by decide +kernel) (pa_cons (pe_lc (own := [("steps", 8)]) (g := gName 8) (tt := tYes) rfl scKind.nd (pi_list (pv 4))
        (blkOk_by (own := [("steps", 8)]) (N := ["t", "refusal", "rows", "turns", "doubles", "mirrors", "glides", "m", "steps"]) (sc := defScope sKind) (by decide +kernel))
        (fun _ _ _ _ _ => pg_name (i := 8) scKind.nd rfl (Or.inl rfl)) (fun _ _ _ _ _ => pts_nil) (fun _ _ _ _ _ => pe_call GG hr (by rfl) mG kG bG .nil pass0 (pa_cons (pv 2) (pa_cons (pv 8) pa_nil)))) pa_nil)))
      (pss_one (ps_ret (pe_lst (pa_cons (pe_call GN hr (by rfl) mN kN bN .nil pass0 (pa_cons (pv 3) (pa_cons (pv 5) (pa_cons (pv 6) pa_nil)))) (pa_cons (pe_callB call_len_seq (by rfl) ml PySem.boot_len (pa_cons (pv 3) pa_nil)) (pa_cons (pv 5) pa_nil)))))))))))), ?_⟩
    refine ⟨_, rfl, ad, t, rfl, hS, hlen, fun H1 sm1 => ?_⟩
    refine ⟨_, rfl, refusal t, 0, rfl, rfl, _, rfl, ite2 (fun e => ?_) (fun e => ?_)⟩
    · have e1 : refusal t < 0 := of_decide_eq_true e
      refine ⟨_, rfl, show 1 ≤ sizeLine by decide, fun p np => q _ p ?_⟩
      unfold kindAns
      rw [upd_same, if_pos e1]
      rfl
    · have e1 : ¬ refusal t < 0 := fun z => e (decide_eq_true z)
      obtain ⟨c1, c2⟩ := ref_ok e1
      obtain ⟨g, hnil⟩ := good_of c2
      refine ⟨_, rfl, ad, t, rfl, sm1.seq hS, hlen, fun H2 p ps sm2 hR => ?_⟩
      have ans : kindAns t = [(Rg.kindOf (chartR (splitRows t)) : Int), ((Rg.motionsOf (chartR (splitRows t))).length : Int), ((Rg.mirrorsOf (chartR (splitRows t)) (Rg.syms (chartR (splitRows t)))).length : Int)] := by
        unfold kindAns
        rw [if_neg e1]
      generalize hrows : splitRows t = rows at *
      have dn : ∀ n : Nat, decide ((0 : Int) < (n : Int)) = decide (0 < n) := fun n => decide_eq_decide.mpr (by omega)
      -- turns
      refine ⟨7, 1, rfl, rfl, 8, rfl, by decide, by decide, fun T nT => ?_⟩
      refine lc_range (lo := 0) (n := 8) (fun i H' => Same H2 H' ∧ IntsAt H' T (intsOf ((List.range i).filter (hasT rows)))) ⟨same_upd nT, upd_same⟩ ?_ ?_
      · rintro m H' hm ⟨sm, hT⟩
        refine ⟨rfl, ?_⟩
        refine ⟨_, rfl, _, rfl, p, ps, rows, m, by rw [Int.zero_add]; rfl, same_rows sm hR, g, hm, fun H3 d ts sm3 nd hU => ⟨d, _, rfl, .inl (SqL.of hU.1), _, 0, rfl, rfl, _, rfl, ?_⟩⟩
        rw [List.length_map, hU.2.1, dn]
        have hT3 : IntsAt H3 T _ := same_ints sm3 hT
        rw [show decide (0 < (symsM rows m).length) = hasT rows m from rfl]
        have ll : ((List.range m).filter (hasT rows)).length ≤ m := Nat.le_trans (List.length_filter_le _ _) (by rw [List.length_range]; exact Nat.le_refl _)
        cases hs : hasT rows m with
        | true =>
          refine iteT ⟨_, rfl, _, hT3, ?_, same_put (sm.trans sm3) nT, ?_⟩
          · unfold intsOf
            rw [List.length_map, List.length_map]
            exact line_lt (by omega)
          · show upd _ T _ T = _
            rw [upd_same, filter_range, hs, if_pos rfl, Int.zero_add]
            unfold intsOf
            rw [List.map_append, List.map_append]
            rfl
        | false =>
          refine iteF ⟨sm.trans sm3, ?_⟩
          rw [filter_range, hs, if_neg Bool.false_ne_true, List.append_nil]
          exact hT3
      · rintro H3 ⟨sm3, hT⟩
        rw [show (List.range 8).filter (hasT rows) = turnsOf rows from rfl] at hT
        -- doubles
        refine ⟨_, rfl, T, rfl, ⟨_, SqL.of hT⟩, fun D nD => ?_⟩
        have s23 : Same H H3 := (sm1.trans sm2).trans sm3
        refine lc_list (K := K) (a := T) (xs := (intsOf (turnsOf rows)).map V.int) (fun i H' => ∃ qs : List Addr, Same H3 H' ∧ DblsAt H' D qs ((((turnsOf rows).take i).filter fun m => decide (4 ≤ m)).map (dblR rows)) ∧ D ∉ qs)
          ⟨[], same_upd nD, ⟨upd_same, rfl, fun i a r e => by simp at e⟩, by simp⟩ (fun i H' _ ⟨qs, sm, _⟩ => SqL.of (sm _ _ hT)) ?_ ?_
        · rintro i x H' hx ⟨qs, sm, hD, nq⟩
          obtain ⟨z, hz, rfl⟩ := map_get hx
          obtain ⟨m, hm, rfl⟩ := map_get hz
          have hm2 := List.mem_filter.mp (List.mem_of_getElem? hm)
          have hm8 : m < 8 := List.mem_range.mp hm2.1
          obtain ⟨tile, htile⟩ := hasT_cell g hm8 hm2.2
          refine ⟨rfl, ?_⟩
          refine ⟨_, rfl, _, _, rfl, rfl, _, rfl, ?_⟩
          rw [show decide ((4 : Int) ≤ Int.ofNat m) = decide (4 ≤ m) from decide_eq_decide.mpr (by
            show (4 : Int) ≤ (m : Int) ↔ _
            omega)]
          have ft := filter_take hm fun m => decide (4 ≤ m)
          cases h4 : decide (4 ≤ m) with
          | true =>
            rw [h4, if_pos rfl] at ft
            refine iteT ⟨_, rfl, _, rfl, p, ps, rows, m, tile, rfl, same_rows (sm3.trans sm) hR, g, hm8, htile, fun H4 d ts sm4 nd hU => ?_⟩
            have hD4 := same_dbls sm4 hD
            have dD : D ≠ d := ne_of_none hD.1 nd
            refine ⟨qs.map V.ref, hD4.1, ?_, qs ++ [d], same_put (sm.trans sm4) nD, ?_, ?_⟩
            · have := filter_le (turnsOf rows) i 8 (fun m => decide (4 ≤ m)) (turns_le rows)
              rw [List.length_map, hD4.2.1, List.length_map]
              exact line_lt (by omega)
            · rw [ft, List.map_append]
              exact hD4.push hU nq dD
            · intro z
              rcases List.mem_append.mp z with z | z
              · exact nq z
              · exact dD (List.mem_singleton.mp z)
          | false =>
            rw [h4, if_neg Bool.false_ne_true, List.append_nil] at ft
            refine iteF ⟨qs, sm, ?_, nq⟩
            rw [ft]
            exact hD
        · rintro H4 ⟨qs, sm4, hD, nq⟩
          rw [show ((intsOf (turnsOf rows)).map V.int).length = (turnsOf rows).length by unfold intsOf; rw [List.length_map, List.length_map], List.take_length] at hD
          rw [show (turnsOf rows).filter (fun m => decide (4 ≤ m)) = lateOf rows from rfl] at hD
          have hT4 : IntsAt H4 T (intsOf (turnsOf rows)) := same_ints sm4 hT
          have late : ∀ {i : Nat} {a : Addr}, qs[i]? = some a → ∃ m, (lateOf rows)[i]? = some m ∧ ∃ ts, PairsAt H4 a ts (dblR rows m) := fun {i a} ha => by
            have hi : i < (lateOf rows).length := by
              have := (List.getElem?_eq_some_iff.mp ha).1
              have e := hD.2.1
              rw [List.length_map] at e
              omega
            refine ⟨(lateOf rows)[i], List.getElem?_eq_getElem hi, ?_⟩
            exact hD.2.2 i a _ ha (by rw [List.getElem?_map, List.getElem?_eq_getElem hi]; rfl)
          have ql : qs.length = (lateOf rows).length := by
            have e := hD.2.1
            rwa [List.length_map] at e
          have l8 : (lateOf rows).length ≤ 8 := Nat.le_trans (List.length_filter_le _ _) (turns_le rows)
          -- mirrors
          refine ⟨_, rfl, D, rfl, ⟨_, SqL.of hD.1⟩, fun M nM => ?_⟩
          refine lc_list (K := K) (a := D) (xs := qs.map V.ref) (fun i H' => ∃ ms : List V, Same H4 H' ∧ H' M = some (.lst ms) ∧ ms.length = (((lateOf rows).take i).filter (mirB rows)).length)
            ⟨[], same_upd nM, upd_same, rfl⟩ (fun i H' _ ⟨ms, sm, _⟩ => SqL.of (sm _ _ hD.1)) ?_ ?_
          · rintro i x H' hx ⟨ms, sm, hM, lm⟩
            obtain ⟨a, ha, rfl⟩ := map_get hx
            obtain ⟨m, hm, ts, hP⟩ := late ha
            refine ⟨rfl, ?_⟩
            refine ⟨show 2 ≤ sizeLine by decide, fun Z nZ => ?_⟩
            have smZ := same_upd (o := .tup [.int 0, .int 0]) nZ
            refine ⟨_, rfl, dPair (0, 0), (dblR rows m).map dPair, pair_dp (z := (0, 0)) upd_same, pairs_dp (same_pairs (sm.trans smZ) hP), pair_shaped _, pairs_shaped _, _, rfl, ?_⟩
            rw [pair_in]
            rw [show decide ((0, 0) ∈ dblR rows m) = mirB rows m from rfl]
            have ft := filter_take hm (mirB rows)
            cases h4 : mirB rows m with
            | true =>
              rw [h4, if_pos rfl] at ft
              refine iteT ⟨_, rfl, ms, smZ _ _ hM, ?_, ms ++ [.ref a], same_put (sm.trans smZ) nM, upd_same, ?_⟩
              · have := filter_le (lateOf rows) i 8 (mirB rows) l8
                exact line_lt (by omega)
              · rw [ft, List.length_append, List.length_append, lm]
                rfl
            | false =>
              rw [h4, if_neg Bool.false_ne_true, List.append_nil] at ft
              refine iteF ⟨ms, sm.trans smZ, smZ _ _ hM, ?_⟩
              rw [ft]
              exact lm
          · rintro H5 ⟨ms, sm5, hM, lm⟩
            rw [List.length_map, ql, List.take_length, late_mir g] at lm
            refine ⟨M, _, rfl, .inl (SqL.of hM), ?_⟩
            rw [lm]
            have hD5 := same_dbls sm5 hD
            -- glides
            refine ⟨_, rfl, D, rfl, ⟨_, SqL.of hD5.1⟩, fun G nG => ?_⟩
            refine lc_list (K := K) (a := D) (xs := qs.map V.ref) (fun i H' => Same H5 H' ∧ H' G = some (.lst (((lateOf rows).take i).map fun m => V.bl (gliB rows m)))) ⟨same_upd nG, upd_same⟩ (fun i H' _ ⟨sm, _⟩ => SqL.of (sm _ _ hD5.1)) ?_ ?_
            · rintro i x H' hx ⟨sm, hG⟩
              obtain ⟨a, ha, rfl⟩ := map_get hx
              obtain ⟨m, hm, ts, hP⟩ := late ha
              refine ⟨rfl, ?_⟩
              refine yes_ite ?_
              refine ⟨_, rfl, _, rfl, p, ps, rows, a, ts, dblR rows m, rfl, same_rows (((sm3.trans sm4).trans sm5).trans sm) hR, g, same_pairs (sm5.trans sm) hP, by have := dblR_len g m; omega, fun H6 sm6 => ⟨_, sm6 _ _ hG, ?_, same_put (sm.trans sm6) nG, ?_⟩⟩
              · rw [List.length_map, List.length_take]
                exact line_lt (by omega)
              · rw [upd_same, take_succ hm, List.map_append]
                rfl
            · rintro H6 ⟨sm6, hG⟩
              rw [List.length_map, ql, List.take_length] at hG
              refine ⟨G, (lateOf rows).map (gliB rows), rfl, SqL.of (by rw [List.map_map]; exact hG), ?_⟩
              rw [show ((lateOf rows).map (gliB rows)).any id = gliA rows by rw [List.any_map, ← late_gli g]; rfl]
              have hT6 : IntsAt H6 T (intsOf (turnsOf rows)) := same_ints (sm5.trans sm6) hT4
              refine ⟨_, rfl, _, rfl, _, rfl, T, turnsOf rows, mirN rows, gliA rows, rfl, hT6, ?_⟩
              rw [mem_turns (rows := rows) (m := 1) (by omega), mem_turns (rows := rows) (m := 2) (by omega), mem_turns (rows := rows) (m := 3) (by omega), ← kindOf_eq g]
              refine ⟨_, rfl, T, _, rfl, .inl (SqL.of hT6), _, rfl, show 3 ≤ sizeLine by decide, fun r nr => q _ r ?_⟩
              rw [upd_same, ans, mirs_eq g, motions_eq g]
              unfold intsOf
              rw [List.length_map, List.length_map]
              rfl
end
end Kc

namespace Kc
open PySem PySem.Spec PyProof.Rows L2
theorem all_mk {P : Program} {w : World} {K : PySem.W.Frag} {h : Heap} {mg : Str → Option Value} {fa : Addr} (X : K.In h) (G : h.Ns mainGlobals mg) (hfa : mg "kind" = some (.ref fa))
    {f_kind : Addr} {od_kind an_kind : Option Addr} {sl_kind : Array (Option Value)} {oc_kind kV_kind dc_kind pm_kind cd_kind ct_kind : Value}
    (a_kind : PySem.W.nsIn K mainGlobals "kind" = some (some (.ref f_kind)))
    (l_kind : K.lookup f_kind = some ⟨oc_kind, od_kind, .func (PySem.W.fnOf "kind" "kind" (defArgs sKind) (defBody sKind) (defScope sKind) .none kV_kind dc_kind pm_kind an_kind cd_kind ct_kind), sl_kind⟩)
    (c_kind : PySem.W.codeIn K cd_kind "kind" = true) (k_kind : PySem.W.keepIn K (.ref f_kind) = true)
    {f_text_refusal : Addr} {od_text_refusal an_text_refusal : Option Addr} {sl_text_refusal : Array (Option Value)} {oc_text_refusal kV_text_refusal dc_text_refusal pm_text_refusal cd_text_refusal ct_text_refusal : Value}
    (a_text_refusal : PySem.W.nsIn K mainGlobals "text_refusal" = some (some (.ref f_text_refusal)))
    (l_text_refusal : K.lookup f_text_refusal = some ⟨oc_text_refusal, od_text_refusal, .func (PySem.W.fnOf "text_refusal" "text_refusal" (defArgs sRefusal) (defBody sRefusal) (defScope sRefusal) .none kV_text_refusal dc_text_refusal pm_text_refusal an_text_refusal cd_text_refusal ct_text_refusal), sl_text_refusal⟩)
    (c_text_refusal : PySem.W.codeIn K cd_text_refusal "text_refusal" = true) (k_text_refusal : PySem.W.keepIn K (.ref f_text_refusal) = true)
    {f_split_rows : Addr} {od_split_rows an_split_rows : Option Addr} {sl_split_rows : Array (Option Value)} {oc_split_rows kV_split_rows dc_split_rows pm_split_rows cd_split_rows ct_split_rows : Value}
    (a_split_rows : PySem.W.nsIn K mainGlobals "split_rows" = some (some (.ref f_split_rows)))
    (l_split_rows : K.lookup f_split_rows = some ⟨oc_split_rows, od_split_rows, .func (PySem.W.fnOf "split_rows" "split_rows" (defArgs sSplit) (defBody sSplit) (defScope sSplit) .none kV_split_rows dc_split_rows pm_split_rows an_split_rows cd_split_rows ct_split_rows), sl_split_rows⟩)
    (c_split_rows : PySem.W.codeIn K cd_split_rows "split_rows" = true) (k_split_rows : PySem.W.keepIn K (.ref f_split_rows) = true)
    {f_is_chart : Addr} {od_is_chart an_is_chart : Option Addr} {sl_is_chart : Array (Option Value)} {oc_is_chart kV_is_chart dc_is_chart pm_is_chart cd_is_chart ct_is_chart : Value}
    (a_is_chart : PySem.W.nsIn K mainGlobals "is_chart" = some (some (.ref f_is_chart)))
    (l_is_chart : K.lookup f_is_chart = some ⟨oc_is_chart, od_is_chart, .func (PySem.W.fnOf "is_chart" "is_chart" (defArgs sIsChart) (defBody sIsChart) (defScope sIsChart) .none kV_is_chart dc_is_chart pm_is_chart an_is_chart cd_is_chart ct_is_chart), sl_is_chart⟩)
    (c_is_chart : PySem.W.codeIn K cd_is_chart "is_chart" = true) (k_is_chart : PySem.W.keepIn K (.ref f_is_chart) = true)
    {f_is_chart_row : Addr} {od_is_chart_row an_is_chart_row : Option Addr} {sl_is_chart_row : Array (Option Value)} {oc_is_chart_row kV_is_chart_row dc_is_chart_row pm_is_chart_row cd_is_chart_row ct_is_chart_row : Value}
    (a_is_chart_row : PySem.W.nsIn K mainGlobals "is_chart_row" = some (some (.ref f_is_chart_row)))
    (l_is_chart_row : K.lookup f_is_chart_row = some ⟨oc_is_chart_row, od_is_chart_row, .func (PySem.W.fnOf "is_chart_row" "is_chart_row" (defArgs sChartRow) (defBody sChartRow) (defScope sChartRow) .none kV_is_chart_row dc_is_chart_row pm_is_chart_row an_is_chart_row cd_is_chart_row ct_is_chart_row), sl_is_chart_row⟩)
    (c_is_chart_row : PySem.W.codeIn K cd_is_chart_row "is_chart_row" = true) (k_is_chart_row : PySem.W.keepIn K (.ref f_is_chart_row) = true)
    {f_is_colour : Addr} {od_is_colour an_is_colour : Option Addr} {sl_is_colour : Array (Option Value)} {oc_is_colour kV_is_colour dc_is_colour pm_is_colour cd_is_colour ct_is_colour : Value}
    (a_is_colour : PySem.W.nsIn K mainGlobals "is_colour" = some (some (.ref f_is_colour)))
    (l_is_colour : K.lookup f_is_colour = some ⟨oc_is_colour, od_is_colour, .func (PySem.W.fnOf "is_colour" "is_colour" (defArgs sColour) (defBody sColour) (defScope sColour) .none kV_is_colour dc_is_colour pm_is_colour an_is_colour cd_is_colour ct_is_colour), sl_is_colour⟩)
    (c_is_colour : PySem.W.codeIn K cd_is_colour "is_colour" = true) (k_is_colour : PySem.W.keepIn K (.ref f_is_colour) = true)
    {f_told_with_turn : Addr} {od_told_with_turn an_told_with_turn : Option Addr} {sl_told_with_turn : Array (Option Value)} {oc_told_with_turn kV_told_with_turn dc_told_with_turn pm_told_with_turn cd_told_with_turn ct_told_with_turn : Value}
    (a_told_with_turn : PySem.W.nsIn K mainGlobals "told_with_turn" = some (some (.ref f_told_with_turn)))
    (l_told_with_turn : K.lookup f_told_with_turn = some ⟨oc_told_with_turn, od_told_with_turn, .func (PySem.W.fnOf "told_with_turn" "told_with_turn" (defArgs sToldTurn) (defBody sToldTurn) (defScope sToldTurn) .none kV_told_with_turn dc_told_with_turn pm_told_with_turn an_told_with_turn cd_told_with_turn ct_told_with_turn), sl_told_with_turn⟩)
    (c_told_with_turn : PySem.W.codeIn K cd_told_with_turn "told_with_turn" = true) (k_told_with_turn : PySem.W.keepIn K (.ref f_told_with_turn) = true)
    {f_done_twice : Addr} {od_done_twice an_done_twice : Option Addr} {sl_done_twice : Array (Option Value)} {oc_done_twice kV_done_twice dc_done_twice pm_done_twice cd_done_twice ct_done_twice : Value}
    (a_done_twice : PySem.W.nsIn K mainGlobals "done_twice" = some (some (.ref f_done_twice)))
    (l_done_twice : K.lookup f_done_twice = some ⟨oc_done_twice, od_done_twice, .func (PySem.W.fnOf "done_twice" "done_twice" (defArgs sTwice) (defBody sTwice) (defScope sTwice) .none kV_done_twice dc_done_twice pm_done_twice an_done_twice cd_done_twice ct_done_twice), sl_done_twice⟩)
    (c_done_twice : PySem.W.codeIn K cd_done_twice "done_twice" = true) (k_done_twice : PySem.W.keepIn K (.ref f_done_twice) = true)
    {f_has_glide : Addr} {od_has_glide an_has_glide : Option Addr} {sl_has_glide : Array (Option Value)} {oc_has_glide kV_has_glide dc_has_glide pm_has_glide cd_has_glide ct_has_glide : Value}
    (a_has_glide : PySem.W.nsIn K mainGlobals "has_glide" = some (some (.ref f_has_glide)))
    (l_has_glide : K.lookup f_has_glide = some ⟨oc_has_glide, od_has_glide, .func (PySem.W.fnOf "has_glide" "has_glide" (defArgs sHasGlide) (defBody sHasGlide) (defScope sHasGlide) .none kV_has_glide dc_has_glide pm_has_glide an_has_glide cd_has_glide ct_has_glide), sl_has_glide⟩)
    (c_has_glide : PySem.W.codeIn K cd_has_glide "has_glide" = true) (k_has_glide : PySem.W.keepIn K (.ref f_has_glide) = true)
    {f_is_twice_a_step : Addr} {od_is_twice_a_step an_is_twice_a_step : Option Addr} {sl_is_twice_a_step : Array (Option Value)} {oc_is_twice_a_step kV_is_twice_a_step dc_is_twice_a_step pm_is_twice_a_step cd_is_twice_a_step ct_is_twice_a_step : Value}
    (a_is_twice_a_step : PySem.W.nsIn K mainGlobals "is_twice_a_step" = some (some (.ref f_is_twice_a_step)))
    (l_is_twice_a_step : K.lookup f_is_twice_a_step = some ⟨oc_is_twice_a_step, od_is_twice_a_step, .func (PySem.W.fnOf "is_twice_a_step" "is_twice_a_step" (defArgs sIsTwice) (defBody sIsTwice) (defScope sIsTwice) .none kV_is_twice_a_step dc_is_twice_a_step pm_is_twice_a_step an_is_twice_a_step cd_is_twice_a_step ct_is_twice_a_step), sl_is_twice_a_step⟩)
    (c_is_twice_a_step : PySem.W.codeIn K cd_is_twice_a_step "is_twice_a_step" = true) (k_is_twice_a_step : PySem.W.keepIn K (.ref f_is_twice_a_step) = true)
    {f_kind_number : Addr} {od_kind_number an_kind_number : Option Addr} {sl_kind_number : Array (Option Value)} {oc_kind_number kV_kind_number dc_kind_number pm_kind_number cd_kind_number ct_kind_number : Value}
    (a_kind_number : PySem.W.nsIn K mainGlobals "kind_number" = some (some (.ref f_kind_number)))
    (l_kind_number : K.lookup f_kind_number = some ⟨oc_kind_number, od_kind_number, .func (PySem.W.fnOf "kind_number" "kind_number" (defArgs sKindNo) (defBody sKindNo) (defScope sKindNo) .none kV_kind_number dc_kind_number pm_kind_number an_kind_number cd_kind_number ct_kind_number), sl_kind_number⟩)
    (c_kind_number : PySem.W.codeIn K cd_kind_number "kind_number" = true) (k_kind_number : PySem.W.keepIn K (.ref f_kind_number) = true)
    {f_kind_without_turns : Addr} {od_kind_without_turns an_kind_without_turns : Option Addr} {sl_kind_without_turns : Array (Option Value)} {oc_kind_without_turns kV_kind_without_turns dc_kind_without_turns pm_kind_without_turns cd_kind_without_turns ct_kind_without_turns : Value}
    (a_kind_without_turns : PySem.W.nsIn K mainGlobals "kind_without_turns" = some (some (.ref f_kind_without_turns)))
    (l_kind_without_turns : K.lookup f_kind_without_turns = some ⟨oc_kind_without_turns, od_kind_without_turns, .func (PySem.W.fnOf "kind_without_turns" "kind_without_turns" (defArgs sKindW) (defBody sKindW) (defScope sKindW) .none kV_kind_without_turns dc_kind_without_turns pm_kind_without_turns an_kind_without_turns cd_kind_without_turns ct_kind_without_turns), sl_kind_without_turns⟩)
    (c_kind_without_turns : PySem.W.codeIn K cd_kind_without_turns "kind_without_turns" = true) (k_kind_without_turns : PySem.W.keepIn K (.ref f_kind_without_turns) = true)
    {f_kind_with_half_turns : Addr} {od_kind_with_half_turns an_kind_with_half_turns : Option Addr} {sl_kind_with_half_turns : Array (Option Value)} {oc_kind_with_half_turns kV_kind_with_half_turns dc_kind_with_half_turns pm_kind_with_half_turns cd_kind_with_half_turns ct_kind_with_half_turns : Value}
    (a_kind_with_half_turns : PySem.W.nsIn K mainGlobals "kind_with_half_turns" = some (some (.ref f_kind_with_half_turns)))
    (l_kind_with_half_turns : K.lookup f_kind_with_half_turns = some ⟨oc_kind_with_half_turns, od_kind_with_half_turns, .func (PySem.W.fnOf "kind_with_half_turns" "kind_with_half_turns" (defArgs sKindH) (defBody sKindH) (defScope sKindH) .none kV_kind_with_half_turns dc_kind_with_half_turns pm_kind_with_half_turns an_kind_with_half_turns cd_kind_with_half_turns ct_kind_with_half_turns), sl_kind_with_half_turns⟩)
    (c_kind_with_half_turns : PySem.W.codeIn K cd_kind_with_half_turns "kind_with_half_turns" = true) (k_kind_with_half_turns : PySem.W.keepIn K (.ref f_kind_with_half_turns) = true)
    {f_kind_with_quarter_turns : Addr} {od_kind_with_quarter_turns an_kind_with_quarter_turns : Option Addr} {sl_kind_with_quarter_turns : Array (Option Value)} {oc_kind_with_quarter_turns kV_kind_with_quarter_turns dc_kind_with_quarter_turns pm_kind_with_quarter_turns cd_kind_with_quarter_turns ct_kind_with_quarter_turns : Value}
    (a_kind_with_quarter_turns : PySem.W.nsIn K mainGlobals "kind_with_quarter_turns" = some (some (.ref f_kind_with_quarter_turns)))
    (l_kind_with_quarter_turns : K.lookup f_kind_with_quarter_turns = some ⟨oc_kind_with_quarter_turns, od_kind_with_quarter_turns, .func (PySem.W.fnOf "kind_with_quarter_turns" "kind_with_quarter_turns" (defArgs sKindQ) (defBody sKindQ) (defScope sKindQ) .none kV_kind_with_quarter_turns dc_kind_with_quarter_turns pm_kind_with_quarter_turns an_kind_with_quarter_turns cd_kind_with_quarter_turns ct_kind_with_quarter_turns), sl_kind_with_quarter_turns⟩)
    (c_kind_with_quarter_turns : PySem.W.codeIn K cd_kind_with_quarter_turns "kind_with_quarter_turns" = true) (k_kind_with_quarter_turns : PySem.W.keepIn K (.ref f_kind_with_quarter_turns) = true)
    {f_tile_for : Addr} {od_tile_for an_tile_for : Option Addr} {sl_tile_for : Array (Option Value)} {oc_tile_for kV_tile_for dc_tile_for pm_tile_for cd_tile_for ct_tile_for : Value}
    (a_tile_for : PySem.W.nsIn K mainGlobals "tile_for" = some (some (.ref f_tile_for)))
    (l_tile_for : K.lookup f_tile_for = some ⟨oc_tile_for, od_tile_for, .func (PySem.W.fnOf "tile_for" "tile_for" (defArgs sCellFor) (defBody sCellFor) (defScope sCellFor) .none kV_tile_for dc_tile_for pm_tile_for an_tile_for cd_tile_for ct_tile_for), sl_tile_for⟩)
    (c_tile_for : PySem.W.codeIn K cd_tile_for "tile_for" = true) (k_tile_for : PySem.W.keepIn K (.ref f_tile_for) = true)
    {f_square_tile : Addr} {od_square_tile an_square_tile : Option Addr} {sl_square_tile : Array (Option Value)} {oc_square_tile kV_square_tile dc_square_tile pm_square_tile cd_square_tile ct_square_tile : Value}
    (a_square_tile : PySem.W.nsIn K mainGlobals "square_tile" = some (some (.ref f_square_tile)))
    (l_square_tile : K.lookup f_square_tile = some ⟨oc_square_tile, od_square_tile, .func (PySem.W.fnOf "square_tile" "square_tile" (defArgs sSquare) (defBody sSquare) (defScope sSquare) .none kV_square_tile dc_square_tile pm_square_tile an_square_tile cd_square_tile ct_square_tile), sl_square_tile⟩)
    (c_square_tile : PySem.W.codeIn K cd_square_tile "square_tile" = true) (k_square_tile : PySem.W.keepIn K (.ref f_square_tile) = true)
    {f_common_measure : Addr} {od_common_measure an_common_measure : Option Addr} {sl_common_measure : Array (Option Value)} {oc_common_measure kV_common_measure dc_common_measure pm_common_measure cd_common_measure ct_common_measure : Value}
    (a_common_measure : PySem.W.nsIn K mainGlobals "common_measure" = some (some (.ref f_common_measure)))
    (l_common_measure : K.lookup f_common_measure = some ⟨oc_common_measure, od_common_measure, .func (PySem.W.fnOf "common_measure" "common_measure" (defArgs sMeasure) (defBody sMeasure) (defScope sMeasure) .none kV_common_measure dc_common_measure pm_common_measure an_common_measure cd_common_measure ct_common_measure), sl_common_measure⟩)
    (c_common_measure : PySem.W.codeIn K cd_common_measure "common_measure" = true) (k_common_measure : PySem.W.keepIn K (.ref f_common_measure) = true)
    {f_turned : Addr} {od_turned an_turned : Option Addr} {sl_turned : Array (Option Value)} {oc_turned kV_turned dc_turned pm_turned cd_turned ct_turned : Value}
    (a_turned : PySem.W.nsIn K mainGlobals "turned" = some (some (.ref f_turned)))
    (l_turned : K.lookup f_turned = some ⟨oc_turned, od_turned, .func (PySem.W.fnOf "turned" "turned" (defArgs sTurned) (defBody sTurned) (defScope sTurned) .none kV_turned dc_turned pm_turned an_turned cd_turned ct_turned), sl_turned⟩)
    (c_turned : PySem.W.codeIn K cd_turned "turned" = true) (k_turned : PySem.W.keepIn K (.ref f_turned) = true)
    {f_turned_place : Addr} {od_turned_place an_turned_place : Option Addr} {sl_turned_place : Array (Option Value)} {oc_turned_place kV_turned_place dc_turned_place pm_turned_place cd_turned_place ct_turned_place : Value}
    (a_turned_place : PySem.W.nsIn K mainGlobals "turned_place" = some (some (.ref f_turned_place)))
    (l_turned_place : K.lookup f_turned_place = some ⟨oc_turned_place, od_turned_place, .func (PySem.W.fnOf "turned_place" "turned_place" (defArgs sPlace) (defBody sPlace) (defScope sPlace) .none kV_turned_place dc_turned_place pm_turned_place an_turned_place cd_turned_place ct_turned_place), sl_turned_place⟩)
    (c_turned_place : PySem.W.codeIn K cd_turned_place "turned_place" = true) (k_turned_place : PySem.W.keepIn K (.ref f_turned_place) = true)
    {f_fits : Addr} {od_fits an_fits : Option Addr} {sl_fits : Array (Option Value)} {oc_fits kV_fits dc_fits pm_fits cd_fits ct_fits : Value}
    (a_fits : PySem.W.nsIn K mainGlobals "fits" = some (some (.ref f_fits)))
    (l_fits : K.lookup f_fits = some ⟨oc_fits, od_fits, .func (PySem.W.fnOf "fits" "fits" (defArgs sFits) (defBody sFits) (defScope sFits) .none kV_fits dc_fits pm_fits an_fits cd_fits ct_fits), sl_fits⟩)
    (c_fits : PySem.W.codeIn K cd_fits "fits" = true) (k_fits : PySem.W.keepIn K (.ref f_fits) = true)
    {t_LONGEST_TEXT : Tok} (g_LONGEST_TEXT : PySem.W.nsIn K mainGlobals "LONGEST_TEXT" = some (some (.int 66048 t_LONGEST_TEXT)))
    {t_MOST_KNOTS : Tok} (g_MOST_KNOTS : PySem.W.nsIn K mainGlobals "MOST_KNOTS" = some (some (.int 65536 t_MOST_KNOTS)))
    {t_WIDEST : Tok} (g_WIDEST : PySem.W.nsIn K mainGlobals "WIDEST" = some (some (.int 512 t_WIDEST)))
    {t_HIGHEST : Tok} (g_HIGHEST : PySem.W.nsIn K mainGlobals "HIGHEST" = some (some (.int 512 t_HIGHEST)))
    {t_ROW_END : Tok} (g_ROW_END : PySem.W.nsIn K mainGlobals "ROW_END" = some (some (.int 10 t_ROW_END)))
    {t_LAST_TURN : Tok} (g_LAST_TURN : PySem.W.nsIn K mainGlobals "LAST_TURN" = some (some (.int 7 t_LAST_TURN)))
    {t_FIRST_MIRRORED : Tok} (g_FIRST_MIRRORED : PySem.W.nsIn K mainGlobals "FIRST_MIRRORED" = some (some (.int 4 t_FIRST_MIRRORED)))
    {t_REFUSED_LONG_TEXT : Tok} (g_REFUSED_LONG_TEXT : PySem.W.nsIn K mainGlobals "REFUSED_LONG_TEXT" = some (some (.int (-2) t_REFUSED_LONG_TEXT)))
    {t_REFUSED_NO_CHART : Tok} (g_REFUSED_NO_CHART : PySem.W.nsIn K mainGlobals "REFUSED_NO_CHART" = some (some (.int (-6) t_REFUSED_NO_CHART)))
    (y_len : PySem.W.nsIn K mainGlobals "len" = some none)
    (y_range : PySem.W.nsIn K mainGlobals "range" = some none)
    (y_all : PySem.W.nsIn K mainGlobals "all" = some none)
    (y_any : PySem.W.nsIn K mainGlobals "any" = some none)
    : ∃ fd : FuncData, (∀ (s : Shared) (us : List Value), us.length = (["t"] : List Str).length → BindsTo s fd ⟨us, []⟩ ((["t"] : List Str).zip us)) ∧ ∀ base : Heap, K.In base → base.Ns mainGlobals mg → FnOk P w K mg base CX0 7 fa fd ["t"] (spKind K) := by
  have e := hfa.symm.trans (PySem.W.mg_of X G a_kind)
  cases e
  have F_kind := fun_mk (st := sKind) l_kind c_kind k_kind
  have b_kind := F_kind.binds (ps := ["t"]) fun _ _ _ _ _ _ us hl => match us, hl with | [_], _ => rfl
  have m_kind := PySem.W.mg_of X G a_kind
  have F_text_refusal := fun_mk (st := sRefusal) l_text_refusal c_text_refusal k_text_refusal
  have b_text_refusal := F_text_refusal.binds (ps := ["t"]) fun _ _ _ _ _ _ us hl => match us, hl with | [_], _ => rfl
  have m_text_refusal := PySem.W.mg_of X G a_text_refusal
  have F_split_rows := fun_mk (st := sSplit) l_split_rows c_split_rows k_split_rows
  have b_split_rows := F_split_rows.binds (ps := ["t"]) fun _ _ _ _ _ _ us hl => match us, hl with | [_], _ => rfl
  have m_split_rows := PySem.W.mg_of X G a_split_rows
  have F_is_chart := fun_mk (st := sIsChart) l_is_chart c_is_chart k_is_chart
  have b_is_chart := F_is_chart.binds (ps := ["rows"]) fun _ _ _ _ _ _ us hl => match us, hl with | [_], _ => rfl
  have m_is_chart := PySem.W.mg_of X G a_is_chart
  have F_is_chart_row := fun_mk (st := sChartRow) l_is_chart_row c_is_chart_row k_is_chart_row
  have b_is_chart_row := F_is_chart_row.binds (ps := ["row", "width"]) fun _ _ _ _ _ _ us hl => match us, hl with | [_, _], _ => rfl
  have m_is_chart_row := PySem.W.mg_of X G a_is_chart_row
  have F_is_colour := fun_mk (st := sColour) l_is_colour c_is_colour k_is_colour
  have b_is_colour := F_is_colour.binds (ps := ["byte"]) fun _ _ _ _ _ _ us hl => match us, hl with | [_], _ => rfl
  have m_is_colour := PySem.W.mg_of X G a_is_colour
  have F_told_with_turn := fun_mk (st := sToldTurn) l_told_with_turn c_told_with_turn k_told_with_turn
  have b_told_with_turn := F_told_with_turn.binds (ps := ["rows", "m"]) fun _ _ _ _ _ _ us hl => match us, hl with | [_, _], _ => rfl
  have m_told_with_turn := PySem.W.mg_of X G a_told_with_turn
  have F_done_twice := fun_mk (st := sTwice) l_done_twice c_done_twice k_done_twice
  have b_done_twice := F_done_twice.binds (ps := ["rows", "m"]) fun _ _ _ _ _ _ us hl => match us, hl with | [_, _], _ => rfl
  have m_done_twice := PySem.W.mg_of X G a_done_twice
  have F_has_glide := fun_mk (st := sHasGlide) l_has_glide c_has_glide k_has_glide
  have b_has_glide := F_has_glide.binds (ps := ["rows", "steps"]) fun _ _ _ _ _ _ us hl => match us, hl with | [_, _], _ => rfl
  have m_has_glide := PySem.W.mg_of X G a_has_glide
  have F_is_twice_a_step := fun_mk (st := sIsTwice) l_is_twice_a_step c_is_twice_a_step k_is_twice_a_step
  have b_is_twice_a_step := F_is_twice_a_step.binds (ps := ["rows", "a", "b"]) fun _ _ _ _ _ _ us hl => match us, hl with | [_, _, _], _ => rfl
  have m_is_twice_a_step := PySem.W.mg_of X G a_is_twice_a_step
  have F_kind_number := fun_mk (st := sKindNo) l_kind_number c_kind_number k_kind_number
  have b_kind_number := F_kind_number.binds (ps := ["turns", "mirrors", "glides"]) fun _ _ _ _ _ _ us hl => match us, hl with | [_, _, _], _ => rfl
  have m_kind_number := PySem.W.mg_of X G a_kind_number
  have F_kind_without_turns := fun_mk (st := sKindW) l_kind_without_turns c_kind_without_turns k_kind_without_turns
  have b_kind_without_turns := F_kind_without_turns.binds (ps := ["mirrors", "glides"]) fun _ _ _ _ _ _ us hl => match us, hl with | [_, _], _ => rfl
  have m_kind_without_turns := PySem.W.mg_of X G a_kind_without_turns
  have F_kind_with_half_turns := fun_mk (st := sKindH) l_kind_with_half_turns c_kind_with_half_turns k_kind_with_half_turns
  have b_kind_with_half_turns := F_kind_with_half_turns.binds (ps := ["mirrors", "glides"]) fun _ _ _ _ _ _ us hl => match us, hl with | [_, _], _ => rfl
  have m_kind_with_half_turns := PySem.W.mg_of X G a_kind_with_half_turns
  have F_kind_with_quarter_turns := fun_mk (st := sKindQ) l_kind_with_quarter_turns c_kind_with_quarter_turns k_kind_with_quarter_turns
  have b_kind_with_quarter_turns := F_kind_with_quarter_turns.binds (ps := ["mirrors", "glides"]) fun _ _ _ _ _ _ us hl => match us, hl with | [_, _], _ => rfl
  have m_kind_with_quarter_turns := PySem.W.mg_of X G a_kind_with_quarter_turns
  have F_tile_for := fun_mk (st := sCellFor) l_tile_for c_tile_for k_tile_for
  have b_tile_for := F_tile_for.binds (ps := ["rows", "m"]) fun _ _ _ _ _ _ us hl => match us, hl with | [_, _], _ => rfl
  have m_tile_for := PySem.W.mg_of X G a_tile_for
  have F_square_tile := fun_mk (st := sSquare) l_square_tile c_square_tile k_square_tile
  have b_square_tile := F_square_tile.binds (ps := ["rows"]) fun _ _ _ _ _ _ us hl => match us, hl with | [_], _ => rfl
  have m_square_tile := PySem.W.mg_of X G a_square_tile
  have F_common_measure := fun_mk (st := sMeasure) l_common_measure c_common_measure k_common_measure
  have b_common_measure := F_common_measure.binds (ps := ["first", "second"]) fun _ _ _ _ _ _ us hl => match us, hl with | [_, _], _ => rfl
  have m_common_measure := PySem.W.mg_of X G a_common_measure
  have F_turned := fun_mk (st := sTurned) l_turned c_turned k_turned
  have b_turned := F_turned.binds (ps := ["tile", "m"]) fun _ _ _ _ _ _ us hl => match us, hl with | [_, _], _ => rfl
  have m_turned := PySem.W.mg_of X G a_turned
  have F_turned_place := fun_mk (st := sPlace) l_turned_place c_turned_place k_turned_place
  have b_turned_place := F_turned_place.binds (ps := ["m", "x", "y"]) fun _ _ _ _ _ _ us hl => match us, hl with | [_, _, _], _ => rfl
  have m_turned_place := PySem.W.mg_of X G a_turned_place
  have F_fits := fun_mk (st := sFits) l_fits c_fits k_fits
  have b_fits := F_fits.binds (ps := ["tile", "image", "a", "b"]) fun _ _ _ _ _ _ us hl => match us, hl with | [_, _, _, _], _ => rfl
  have m_fits := PySem.W.mg_of X G a_fits
  have m_LONGEST_TEXT := PySem.W.mg_of X G g_LONGEST_TEXT
  have m_MOST_KNOTS := PySem.W.mg_of X G g_MOST_KNOTS
  have m_WIDEST := PySem.W.mg_of X G g_WIDEST
  have m_HIGHEST := PySem.W.mg_of X G g_HIGHEST
  have m_ROW_END := PySem.W.mg_of X G g_ROW_END
  have m_LAST_TURN := PySem.W.mg_of X G g_LAST_TURN
  have m_FIRST_MIRRORED := PySem.W.mg_of X G g_FIRST_MIRRORED
  have m_REFUSED_LONG_TEXT := PySem.W.mg_of X G g_REFUSED_LONG_TEXT
  have m_REFUSED_NO_CHART := PySem.W.mg_of X G g_REFUSED_NO_CHART
  have z_len := PySem.W.mg_none_of X G y_len
  have z_range := PySem.W.mg_none_of X G y_range
  have z_all := PySem.W.mg_none_of X G y_all
  have z_any := PySem.W.mg_none_of X G y_any
  refine ⟨PySem.W.fnOf "kind" "kind" (defArgs sKind) (defBody sKind) (defScope sKind) .none kV_kind dc_kind pm_kind an_kind cd_kind ct_kind, fun s us hu => match us, hu with | [_], _ => .of_eq rfl, fun base _ _ => ?_⟩
  · have G1 := ok_colour (P := P) (w := w) (K := K) (mg := mg) (base := base) (k := 2) F_is_colour
    have G2 := ok_chartRow (k := 2) F_is_chart_row G1 k_is_colour b_is_colour m_is_colour z_len z_all
    have G3 := ok_isChart (k := 3) F_is_chart G2 k_is_chart_row b_is_chart_row m_is_chart_row z_len z_all m_WIDEST m_HIGHEST m_MOST_KNOTS
    have GS3 := ok_split (P := P) (w := w) (K := K) (mg := mg) (base := base) (k := 4) F_split_rows m_ROW_END
    have GS := ok_split (P := P) (w := w) (K := K) (mg := mg) (base := base) (k := 5) F_split_rows m_ROW_END
    have GR := ok_refusal (k := 4) F_text_refusal G3 k_is_chart b_is_chart m_is_chart GS3 k_split_rows b_split_rows m_split_rows z_len m_ROW_END m_LONGEST_TEXT m_REFUSED_LONG_TEXT m_REFUSED_NO_CHART
    have GM := ok_measure (P := P) (w := w) (K := K) (mg := mg) (base := base) (k := 1) F_common_measure
    have GQ := ok_square (k := 1) F_square_tile GM k_common_measure b_common_measure m_common_measure z_len z_range
    have GC := ok_cellFor (k := 2) F_tile_for GQ k_square_tile b_square_tile m_square_tile
    have GP := ok_place (P := P) (w := w) (K := K) (mg := mg) (base := base) (k := 2) F_turned_place
    have GT := ok_turned (k := 2) F_turned GP k_turned_place b_turned_place m_turned_place z_len z_range
    have GF := ok_fits (P := P) (w := w) (K := K) (mg := mg) (base := base) (k := 3) F_fits z_len z_range
    have GT5 := ok_toldTurn (k := 3) F_told_with_turn GC k_tile_for b_tile_for m_tile_for GT k_turned b_turned m_turned GF k_fits b_fits m_fits z_len z_range
    have GI := ok_isTwice (k := 3) F_is_twice_a_step GF k_fits b_fits m_fits
    have GG := ok_hasGlide (k := 4) F_has_glide GI k_is_twice_a_step b_is_twice_a_step m_is_twice_a_step z_any
    have GP5 := ok_place (P := P) (w := w) (K := K) (mg := mg) (base := base) (k := 4) F_turned_place
    have GM := ok_measure (P := P) (w := w) (K := K) (mg := mg) (base := base) (k := 2) F_common_measure
    have GQ := ok_square (k := 2) F_square_tile GM k_common_measure b_common_measure m_common_measure z_len z_range
    have GC := ok_cellFor (k := 3) F_tile_for GQ k_square_tile b_square_tile m_square_tile
    have GP := ok_place (P := P) (w := w) (K := K) (mg := mg) (base := base) (k := 3) F_turned_place
    have GT := ok_turned (k := 3) F_turned GP k_turned_place b_turned_place m_turned_place z_len z_range
    have GF := ok_fits (P := P) (w := w) (K := K) (mg := mg) (base := base) (k := 4) F_fits z_len z_range
    have GT6 := ok_toldTurn (k := 4) F_told_with_turn GC k_tile_for b_tile_for m_tile_for GT k_turned b_turned m_turned GF k_fits b_fits m_fits z_len z_range
    have GD := ok_twice (k := 4) F_done_twice GC k_tile_for b_tile_for m_tile_for GT5 k_told_with_turn b_told_with_turn m_told_with_turn GP5 k_turned_place b_turned_place m_turned_place z_len
    have GKQ := ok_kindQ (P := P) (w := w) (K := K) (mg := mg) (base := base) (k := 4) F_kind_with_quarter_turns
    have GKH := ok_kindH (P := P) (w := w) (K := K) (mg := mg) (base := base) (k := 4) F_kind_with_half_turns
    have GKW := ok_kindW (P := P) (w := w) (K := K) (mg := mg) (base := base) (k := 4) F_kind_without_turns
    have GN := ok_kindNo (k := 4) F_kind_number GKQ k_kind_with_quarter_turns b_kind_with_quarter_turns m_kind_with_quarter_turns GKH k_kind_with_half_turns b_kind_with_half_turns m_kind_with_half_turns GKW k_kind_without_turns b_kind_without_turns m_kind_without_turns
    exact ok_kind (k := 5) F_kind GR k_text_refusal b_text_refusal m_text_refusal GS k_split_rows b_split_rows m_split_rows GT6 k_told_with_turn b_told_with_turn m_told_with_turn GD k_done_twice b_done_twice m_done_twice GG k_has_glide b_has_glide m_has_glide GN k_kind_number b_kind_number m_kind_number z_len z_range z_any m_LAST_TURN m_FIRST_MIRRORED
end Kc
open PySem PySem.W PyProof.Rows
set_option maxRecDepth 100000 in
set_option maxHeartbeats 8000000 in
theorem PySem.Challenge.cw_knotcharts_s06_kind_holds : PySem.Challenge.rw_knotcharts_s06_kind.Holds := by
  w_on; k_headS; (case hw => exact ⟨[.list []], by decide +kernel, by decide +kernel⟩)
  k_fillS
  refine L2.walk_specK (r := PySem.Challenge.rw_knotcharts_s06_kind) (k := 7) (CX := L2.CX0) (ps := ["t"]) (sp := Kc.spKind) (by decide +kernel) rfl rfl ⟨rfl, by decide, by decide⟩ (fun w h Y => PySem.W.kIn_of Y) ?F ?S (fun _ _ _ _ z => z)
  case F =>
    intro w mg fa h Y KX G hmg
    refine' Kc.all_mk KX G hmg ?a_kind ?l_kind ?c_kind ?k_kind ?a_text_refusal ?l_text_refusal ?c_text_refusal ?k_text_refusal ?a_split_rows ?l_split_rows ?c_split_rows ?k_split_rows ?a_is_chart ?l_is_chart ?c_is_chart ?k_is_chart ?a_is_chart_row ?l_is_chart_row ?c_is_chart_row ?k_is_chart_row ?a_is_colour ?l_is_colour ?c_is_colour ?k_is_colour ?a_told_with_turn ?l_told_with_turn ?c_told_with_turn ?k_told_with_turn ?a_done_twice ?l_done_twice ?c_done_twice ?k_done_twice ?a_has_glide ?l_has_glide ?c_has_glide ?k_has_glide ?a_is_twice_a_step ?l_is_twice_a_step ?c_is_twice_a_step ?k_is_twice_a_step ?a_kind_number ?l_kind_number ?c_kind_number ?k_kind_number ?a_kind_without_turns ?l_kind_without_turns ?c_kind_without_turns ?k_kind_without_turns ?a_kind_with_half_turns ?l_kind_with_half_turns ?c_kind_with_half_turns ?k_kind_with_half_turns ?a_kind_with_quarter_turns ?l_kind_with_quarter_turns ?c_kind_with_quarter_turns ?k_kind_with_quarter_turns ?a_tile_for ?l_tile_for ?c_tile_for ?k_tile_for ?a_square_tile ?l_square_tile ?c_square_tile ?k_square_tile ?a_common_measure ?l_common_measure ?c_common_measure ?k_common_measure ?a_turned ?l_turned ?c_turned ?k_turned ?a_turned_place ?l_turned_place ?c_turned_place ?k_turned_place ?a_fits ?l_fits ?c_fits ?k_fits ?g_LONGEST_TEXT ?g_MOST_KNOTS ?g_WIDEST ?g_HIGHEST ?g_ROW_END ?g_LAST_TURN ?g_FIRST_MIRRORED ?g_REFUSED_LONG_TEXT ?g_REFUSED_NO_CHART ?y_len ?y_range ?y_all ?y_any
    (case a_kind => k_is)
    (case l_kind => k_is)
    (case c_kind => k_is)
    (case k_kind => k_is)
    (case a_text_refusal => k_is)
    (case l_text_refusal => k_is)
    (case c_text_refusal => k_is)
    (case k_text_refusal => k_is)
    (case a_split_rows => k_is)
    (case l_split_rows => k_is)
    (case c_split_rows => k_is)
    (case k_split_rows => k_is)
    (case a_is_chart => k_is)
    (case l_is_chart => k_is)
    (case c_is_chart => k_is)
    (case k_is_chart => k_is)
    (case a_is_chart_row => k_is)
    (case l_is_chart_row => k_is)
    (case c_is_chart_row => k_is)
    (case k_is_chart_row => k_is)
    (case a_is_colour => k_is)
    (case l_is_colour => k_is)
    (case c_is_colour => k_is)
    (case k_is_colour => k_is)
    (case a_told_with_turn => k_is)
    (case l_told_with_turn => k_is)
    (case c_told_with_turn => k_is)
    (case k_told_with_turn => k_is)
    (case a_done_twice => k_is)
    (case l_done_twice => k_is)
    (case c_done_twice => k_is)
    (case k_done_twice => k_is)
    (case a_has_glide => k_is)
    (case l_has_glide => k_is)
    (case c_has_glide => k_is)
    (case k_has_glide => k_is)
    (case a_is_twice_a_step => k_is)
    (case l_is_twice_a_step => k_is)
    (case c_is_twice_a_step => k_is)
    (case k_is_twice_a_step => k_is)
    (case a_kind_number => k_is)
    (case l_kind_number => k_is)
    (case c_kind_number => k_is)
    (case k_kind_number => k_is)
    (case a_kind_without_turns => k_is)
    (case l_kind_without_turns => k_is)
    (case c_kind_without_turns => k_is)
    (case k_kind_without_turns => k_is)
    (case a_kind_with_half_turns => k_is)
    (case l_kind_with_half_turns => k_is)
    (case c_kind_with_half_turns => k_is)
    (case k_kind_with_half_turns => k_is)
    (case a_kind_with_quarter_turns => k_is)
    (case l_kind_with_quarter_turns => k_is)
    (case c_kind_with_quarter_turns => k_is)
    (case k_kind_with_quarter_turns => k_is)
    (case a_tile_for => k_is)
    (case l_tile_for => k_is)
    (case c_tile_for => k_is)
    (case k_tile_for => k_is)
    (case a_square_tile => k_is)
    (case l_square_tile => k_is)
    (case c_square_tile => k_is)
    (case k_square_tile => k_is)
    (case a_common_measure => k_is)
    (case l_common_measure => k_is)
    (case c_common_measure => k_is)
    (case k_common_measure => k_is)
    (case a_turned => k_is)
    (case l_turned => k_is)
    (case c_turned => k_is)
    (case k_turned => k_is)
    (case a_turned_place => k_is)
    (case l_turned_place => k_is)
    (case c_turned_place => k_is)
    (case k_turned_place => k_is)
    (case a_fits => k_is)
    (case l_fits => k_is)
    (case c_fits => k_is)
    (case k_fits => k_is)
    (case g_LONGEST_TEXT => k_is)
    (case g_MOST_KNOTS => k_is)
    (case g_WIDEST => k_is)
    (case g_HIGHEST => k_is)
    (case g_ROW_END => k_is)
    (case g_LAST_TURN => k_is)
    (case g_FIRST_MIRRORED => k_is)
    (case g_REFUSED_LONG_TEXT => k_is)
    (case g_REFUSED_NO_CHART => k_is)
    (case y_len => k_is)
    (case y_range => k_is)
    (case y_all => k_is)
    (case y_any => k_is)
  case S =>
    intro K H xs a hO hwi hask hx
    obtain ⟨t, u⟩ := a
    cases hx with
    | cons h7 h8 =>
      cases h8
      cases h7 with
      | lst hs ha =>
        have e := L2.ints_dw t _ ha
        subst e
        have w1 : ((Codec.inLen 0 66100 t && t.all (Codec.inInt 0 255)) && true) = true := hwi
        simp only [Bool.and_eq_true, List.all_eq_true, and_true] at w1
        obtain ⟨w3, w4⟩ := w1
        have tl : t.length ≤ 66100 := (Codec.inNat_iff.mp w3).2
        have tb : ∀ x ∈ t, Kc.inB x := fun x hx => by
          have q := w4 x hx
          unfold Codec.inInt at q
          rw [Bool.and_eq_true] at q
          exact ⟨of_decide_eq_true q.1, of_decide_eq_true q.2⟩
        refine ⟨_, t, rfl, hs, by omega, fun H' p hp => ?_⟩
        refine .lst (L2.SqL.of (xs := (Kc.kindAns t).map L2.V.int) hp) ?_
        show L2.DwAll K H' _ ((PyWqbbcf.kind t).map WData.int)
        rw [Kc.kind_eq t tb]
        exact L2.dw_ints _
#print axioms PySem.Challenge.cw_knotcharts_s06_kind_holds
