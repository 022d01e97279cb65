import PyProof.Rows.All
import Wide.All
import OpenK.AllK
import Wide.FinOn
import PyProof.EqAt
import PyProof.EqKinds
import PyProof.TupleCall
import Open.SpecLaws
import KE.OsGo
import HandS.ForSpec
import HandS.Comp
import HandS.Dict
import HandS.Iter
import HandS.Text
import HandS.Wide
import HandS.WideBits
import HandS.TupAny
import HandS.Walk
import KE.SortData
import HandS.TupSets
import HandS.Style
import HandS.Zip
import HandS.Deep
import HandS.ExcCtx
import HandS.HotCalls
import HandS.IsInst
import HandS.Codes
import KE.GoesRaise
import HandS.ExcSuper
import PySem.Challenge.RW_pagefiles_s04_read
set_option Elab.async false
set_option linter.all false
set_option maxRecDepth 100000
set_option maxHeartbeats 3200000
namespace PfM
/-! numbers as bytes -/
theorem pow_pos (n : Nat) : (0 : Int) < 256 ^ n := Int.pow_pos (by decide)
theorem cast_pow (n : Nat) : ((256 ^ n : Nat) : Int) = 256 ^ n := by
  induction n with
  | zero => rfl
  | succ n ih => rw [Nat.pow_succ, Int.natCast_mul, ih, Int.pow_succ]; rfl
theorem byte_at (z : Int) {i w : Nat} (h : i < w) : (z % 256 ^ w) / 256 ^ i % 256 = z / 256 ^ i % 256 := by
  obtain ⟨d, rfl⟩ : ∃ d, w = i + 1 + d := ⟨w - (i + 1), by omega⟩
  have e : (256 : Int) ^ (i + 1 + d) = 256 ^ i * (256 * 256 ^ d) := by
    rw [Int.pow_add, Int.pow_succ, Int.mul_assoc]
  have p := pow_pos i
  have ez : z % 256 ^ (i + 1 + d) = z + 256 ^ i * (-(256 * 256 ^ d * (z / 256 ^ (i + 1 + d)))) := by
    rw [Int.emod_def, e, Int.mul_neg, ← Int.sub_eq_add_neg, Int.mul_assoc]
  rw [ez, Int.add_mul_ediv_left _ _ (by omega)]
  have e2 : -(256 * (256 : Int) ^ d * (z / 256 ^ (i + 1 + d))) = 256 * (-((256 : Int) ^ d * (z / 256 ^ (i + 1 + d)))) := by
    rw [Int.mul_neg, Int.mul_assoc]
  rw [e2, Int.add_mul_emod_self_left]
theorem wide_eq (w : Nat) (z : Int) : Pg.wide w z = (List.range w).map fun i => (z / 256 ^ i % 256).toNat := by
  unfold Pg.wide Pg.le
  refine List.map_congr_left fun i hi => ?_
  have h : i < w := List.mem_range.mp hi
  have hp := pow_pos w
  have hm : (0 : Int) ≤ z % 256 ^ w := Int.emod_nonneg _ (by omega)
  rw [← byte_at z h, cast_pow]
  generalize z % 256 ^ w = y at hm
  obtain ⟨n, rfl⟩ := Int.eq_ofNat_of_zero_le hm
  rw [Int.toNat_natCast]
  have : ((n : Int) / 256 ^ i % 256) = ((n / 256 ^ i % 256 : Nat) : Int) := by
    rw [← cast_pow, ← Int.natCast_ediv]
    rfl
  rw [this, Int.toNat_natCast]
theorem wide_succ (w : Nat) (z : Int) : Pg.wide (w + 1) z = Pg.wide w z ++ [(z / 256 ^ w % 256).toNat] := by
  rw [wide_eq, wide_eq, List.range_succ, List.map_append]
  rfl
theorem wide_nat (w n : Nat) : Pg.wide w (n : Int) = Pg.le w n := by
  rw [wide_eq]
  unfold Pg.le
  refine List.map_congr_left fun i _ => ?_
  have : ((n : Int) / 256 ^ i % 256) = ((n / 256 ^ i % 256 : Nat) : Int) := by
    rw [← cast_pow, ← Int.natCast_ediv]
    rfl
  rw [this, Int.toNat_natCast]
theorem wide_len (w : Nat) (z : Int) : (Pg.wide w z).length = w := by
  rw [wide_eq, List.length_map, List.length_range]
theorem le_len (w n : Nat) : (Pg.le w n).length = w := by
  unfold Pg.le
  rw [List.length_map, List.length_range]
theorem wide_byte {w : Nat} {z : Int} {c : Nat} (h : c ∈ Pg.wide w z) : c < 256 := by
  rw [wide_eq] at h
  obtain ⟨i, _, rfl⟩ := List.mem_map.mp h
  have := Int.emod_lt_of_pos (z / 256 ^ i) (show (0 : Int) < 256 by decide)
  have := Int.emod_nonneg (z / 256 ^ i) (show (256 : Int) ≠ 0 by decide)
  omega
theorem le_byte {w n c : Nat} (h : c ∈ Pg.le w n) : c < 256 := by
  rw [← wide_nat] at h
  exact wide_byte h
theorem div_more (z : Int) (i : Nat) : z / 256 ^ i / 256 = z / 256 ^ (i + 1) := by
  have h := pow_pos i
  rw [Int.ediv_ediv, if_neg (fun q => by have := q.1; omega), Int.sub_zero, Int.pow_succ]
/-! packed -/
def fits (q : Nat) (l : List Nat) : Prop := ∀ x ∈ l, x < 2 ^ q
theorem together_cons {q x : Nat} {l : List Nat} (h : x < 2 ^ q) : Pg.together q (x :: l) = Pg.together q l * 2 ^ q + x := by
  show x % 2 ^ q + 2 ^ q * Pg.together q l = _
  rw [Nat.mod_eq_of_lt h, Nat.mul_comm, Nat.add_comm]
theorem together_lt {q : Nat} : ∀ {l : List Nat}, Pg.together q l < 2 ^ (q * l.length)
  | [] => by show 0 < 2 ^ (q * 0); rw [Nat.mul_zero]; decide
  | x :: l => by
    have ih := @together_lt q l
    show x % 2 ^ q + 2 ^ q * Pg.together q l < 2 ^ (q * (l.length + 1))
    have hq : 0 < 2 ^ q := Nat.pow_pos (by decide)
    have hx := Nat.mod_lt x hq
    rw [Nat.mul_add, Nat.mul_one, Nat.pow_add, Nat.mul_comm (2 ^ (q * l.length))]
    calc x % 2 ^ q + 2 ^ q * Pg.together q l < 2 ^ q + 2 ^ q * Pg.together q l := by omega
      _ = 2 ^ q * (Pg.together q l + 1) := by rw [Nat.mul_add, Nat.mul_one, Nat.add_comm]
      _ ≤ 2 ^ q * 2 ^ (q * l.length) := Nat.mul_le_mul_left _ ih
/-! the check -/
def steps : List Nat := [0, 274646895, 549293790, 820201905, 1098587580, 1361435347, 1640403810, 1905808397, 2197175160, 2460548119, 2722870694, 2987750089, 3280807620, 3553878443, 3811616794, 4084100981]
theorem bitOn_eq (x : Nat) : Pg.bitOn x = (x / 2) ^^^ (x % 2 * 0x82F63B78) := by
  unfold Pg.bitOn
  rcases Nat.mod_two_eq_zero_or_one x with h | h
  · rw [h, if_neg (by decide), Nat.zero_mul, Nat.xor_zero]
  · rw [h, if_pos rfl, Nat.one_mul]
theorem xor_mod2 (x y : Nat) : (x ^^^ y) % 2 = (x % 2) ^^^ (y % 2) := Nat.xor_mod_two_pow (n := 1)
theorem xor_div2 (x y : Nat) : (x ^^^ y) / 2 = (x / 2) ^^^ (y / 2) := Nat.xor_div_two
theorem bitOn_xor (x y : Nat) : Pg.bitOn (x ^^^ y) = Pg.bitOn x ^^^ Pg.bitOn y := by
  rw [bitOn_eq, bitOn_eq, bitOn_eq, xor_div2, xor_mod2]
  have c : ((x % 2) ^^^ (y % 2)) * 0x82F63B78 = (x % 2 * 0x82F63B78) ^^^ (y % 2 * 0x82F63B78) := by
    rcases Nat.mod_two_eq_zero_or_one x with h | h <;> rcases Nat.mod_two_eq_zero_or_one y with k | k <;> rw [h, k] <;> decide
  rw [c]
  ac_rfl
theorem bitOn_dbl (y : Nat) : Pg.bitOn (2 * y) = y := by
  rw [bitOn_eq, Nat.mul_div_cancel_left _ (by decide), Nat.mul_mod_right, Nat.zero_mul, Nat.xor_zero]
def nib (x : Nat) : Nat := Pg.bitOn (Pg.bitOn (Pg.bitOn (Pg.bitOn x)))
theorem nib_xor (x y : Nat) : nib (x ^^^ y) = nib x ^^^ nib y := by
  unfold nib
  rw [bitOn_xor, bitOn_xor, bitOn_xor, bitOn_xor]
theorem nib_high (y : Nat) : nib (16 * y) = y := by
  unfold nib
  rw [show 16 * y = 2 * (2 * (2 * (2 * y))) by omega, bitOn_dbl, bitOn_dbl, bitOn_dbl, bitOn_dbl]
theorem parts16 (x : Nat) : x = (16 * (x / 16)) ^^^ (x % 16) := by
  have h : x % 16 < 2 ^ 4 := Nat.mod_lt _ (by decide)
  have e := Nat.two_pow_add_eq_or_of_lt h (x / 16)
  apply Nat.eq_of_testBit_eq
  intro i
  rw [Nat.testBit_xor]
  have t1 := Nat.testBit_two_pow_mul_add (x / 16) h i
  have e2 : 2 ^ 4 * (x / 16) + x % 16 = x := by omega
  rw [e2] at t1
  rw [t1]
  have t2 := Nat.testBit_two_pow_mul_add (x / 16) (show 0 < 2 ^ 4 by decide) i
  rw [Nat.add_zero] at t2
  rw [show 16 * (x / 16) = 2 ^ 4 * (x / 16) from rfl, t2]
  by_cases hi : i < 4
  · rw [if_pos hi, if_pos hi, Nat.zero_testBit, Bool.false_xor]
  · rw [if_neg hi, if_neg hi, Nat.testBit_lt_two_pow (Nat.lt_of_lt_of_le h (Nat.pow_le_pow_right (by decide) (by omega))), Bool.xor_false]
theorem step_tab : ∀ r, r < 16 → steps.getD r 0 = nib r := by decide
theorem nib_eq (x : Nat) : nib x = (x / 16) ^^^ steps.getD (x % 16) 0 := by
  rw [step_tab _ (Nat.mod_lt _ (by decide))]
  conv => lhs; rw [parts16 x]
  rw [nib_xor, nib_high]
theorem byteOn_eq (x : Nat) : Pg.byteOn x = nib (nib x) := rfl
theorem bitOn_lt {x : Nat} (h : x < 2 ^ 32) : Pg.bitOn x < 2 ^ 32 := by
  rw [bitOn_eq]
  refine Nat.xor_lt_two_pow (by omega) ?_
  rcases Nat.mod_two_eq_zero_or_one x with k | k <;> rw [k] <;> decide
theorem nib_lt {x : Nat} (h : x < 2 ^ 32) : nib x < 2 ^ 32 := bitOn_lt (bitOn_lt (bitOn_lt (bitOn_lt h)))
theorem byteOn_lt {x : Nat} (h : x < 2 ^ 32) : Pg.byteOn x < 2 ^ 32 := nib_lt (nib_lt h)
def crc (x : Nat) (s : List Nat) : Nat := s.foldl (fun (x b : Nat) => Pg.byteOn (x ^^^ b)) x
theorem crc_more (x : Nat) (s : List Nat) (b : Nat) : crc x (s ++ [b]) = Pg.byteOn (crc x s ^^^ b) := by
  unfold crc
  rw [List.foldl_append]
  rfl
theorem check_eq (s : List Nat) : Pg.check 0 s = crc 0xFFFFFFFF s ^^^ 0xFFFFFFFF := rfl
end PfM
namespace PfM
def byteOk (c : Int) : Bool := decide (0 ≤ c) && decide (c < 256)
theorem byteOk_nn {l : List Int} (h : l.all byteOk = true) : ∀ c ∈ l, 0 ≤ c ∧ c < 256 := fun c hc => by
  have := List.all_eq_true.mp h c hc
  unfold byteOk at this
  rw [Bool.and_eq_true, decide_eq_true_eq, decide_eq_true_eq] at this
  exact this
/-! what is handed over -/
theorem valIn_num (c : Int) (r : List Int) : Pg.valIn 0 (c :: r) = if Pg.inRange c = true then some (.num c, r) else none := rfl
theorem valIn_one (c : Int) (r : List Int) : Pg.valIn 1 (c :: r) = if c < 0 ∨ ((Pg.LONG : Nat) : Int) < c ∨ r.length < c.toNat then none else if (r.take c.toNat).all byteOk = true then some (.str ((r.take c.toNat).map Int.toNat), r.drop c.toNat) else none := rfl
theorem valIn_bad {c : Int} {r : List Int} (h : c < 0 ∨ 40 < c ∨ r.length < c.toNat) : Pg.valIn 1 (c :: r) = none := by
  have h' : c < 0 ∨ ((Pg.LONG : Nat) : Int) < c ∨ r.length < c.toNat := h
  rw [valIn_one, if_pos h']
theorem valIn_str {c : Int} {r : List Int} (h0 : 0 ≤ c) (h1 : c ≤ 40) (h2 : c.toNat ≤ r.length) :
    Pg.valIn 1 (c :: r) = if (r.take c.toNat).all byteOk = true then some (.str ((r.take c.toNat).map Int.toNat), r.drop c.toNat) else none := by
  have h' : ¬ (c < 0 ∨ ((Pg.LONG : Nat) : Int) < c ∨ r.length < c.toNat) := fun q => by
    rcases q with q | q | q
    · omega
    · have : (40 : Int) < c := q
      omega
    · omega
  rw [valIn_one, if_neg h']
theorem written_len (v : Pg.Val) : (Pg.written v).length = match v with | .num _ => 1 | .str b => b.length + 1 := by
  cases v with
  | num z => rfl
  | str b =>
    show (((b.length : Nat) : Int) :: Pg.ints b).length = b.length + 1
    rw [List.length_cons]
    unfold Pg.ints
    rw [List.length_map]
theorem valIn_some {k : Nat} (hk : k ≤ 1) : ∀ {l r : List Int} {v : Pg.Val}, Pg.valIn k l = some (v, r) → r = l.drop (Pg.written v).length ∧ (Pg.written v).length ≤ l.length ∧ v.is k = true
  | [], r, v, h => by cases h
  | c :: t, r, v, h => by
    rcases (show k = 0 ∨ k = 1 by omega) with rfl | rfl
    · rw [valIn_num] at h
      split at h
      · rename_i hr
        cases h
        refine ⟨rfl, by show 1 ≤ t.length + 1; omega, ?_⟩
        show ((0 : Nat) == 0 && Pg.inRange c) = true
        rw [hr]
        rfl
      · cases h
    · by_cases hb : c < 0 ∨ 40 < c ∨ t.length < c.toNat
      · rw [valIn_bad hb] at h
        cases h
      · have h0 : 0 ≤ c := by omega
        have h1 : c ≤ 40 := by omega
        have h2 : c.toNat ≤ t.length := by omega
        rw [valIn_str h0 h1 h2] at h
        split at h
        · rename_i ha
          cases h
          have hn : (List.map Int.toNat (t.take c.toNat)).length = c.toNat := by
            rw [List.length_map, List.length_take, Nat.min_eq_left h2]
          rw [written_len]
          show t.drop c.toNat = (c :: t).drop ((List.map Int.toNat (t.take c.toNat)).length + 1) ∧ (List.map Int.toNat (t.take c.toNat)).length + 1 ≤ t.length + 1 ∧ _
          rw [hn]
          refine ⟨rfl, by omega, ?_⟩
          show ((1 : Nat) == 1 && (decide ((List.map Int.toNat (t.take c.toNat)).length ≤ Pg.LONG) && Pg.isBytes (List.map Int.toNat (t.take c.toNat)))) = true
          rw [hn, decide_eq_true (show c.toNat ≤ Pg.LONG by show c.toNat ≤ 40; omega)]
          show Pg.isBytes (List.map Int.toNat (t.take c.toNat)) = true
          unfold Pg.isBytes
          refine List.all_eq_true.mpr fun x hx => ?_
          obtain ⟨y, hy, rfl⟩ := List.mem_map.mp hx
          have := byteOk_nn ha y hy
          exact decide_eq_true (by omega)
        · cases h
/-- the cells to the end -/
def ca (k : Nat) (l : List Int) : Option (List Pg.Cell) := (Pg.rowsIn [k] l.length l).map fun r => Pg.colOf r 0
theorem rowIn_one (k : Nat) (l : List Int) : Pg.rowIn [k] l = match Pg.cellIn k l with | none => none | some (c, r) => some ([c], r) := by
  show (match Pg.cellIn k l with | none => none | some (c, r) => match Pg.rowIn [] r with | some (x, s) => some (c :: x, s) | none => none) = _
  cases Pg.cellIn k l with
  | none => rfl
  | some p => rfl
theorem cellIn_rest {k : Nat} (hk : k ≤ 1) {l r : List Int} {c : Pg.Cell} (h : Pg.cellIn k l = some (c, r)) : r = l.drop (Pg.cellList c).length ∧ (Pg.cellList c).length ≤ l.length ∧ Pg.cellIs k c = true := by
  cases l with
  | nil => cases h
  | cons x t =>
    have h' : (if x = 0 then some (none, t) else if x = 1 then (match Pg.valIn k t with | some (v, s) => some (some v, s) | none => none) else none) = some (c, r) := h
    by_cases x0 : x = 0
    · rw [if_pos x0] at h'
      cases h'
      exact ⟨rfl, by show 1 ≤ r.length + 1; omega, rfl⟩
    · rw [if_neg x0] at h'
      by_cases x1 : x = 1
      · rw [if_pos x1] at h'
        cases e : Pg.valIn k t with
        | none => rw [e] at h'; cases h'
        | some p =>
          obtain ⟨v, s⟩ := p
          rw [e] at h'
          cases h'
          obtain ⟨e1, e2, e3⟩ := valIn_some hk e
          refine ⟨?_, ?_, e3⟩
          · show r = (x :: t).drop ((Pg.written v).length + 1)
            rw [e1]
            rfl
          · show (Pg.written v).length + 1 ≤ t.length + 1
            omega
      · rw [if_neg x1] at h'
        cases h'
theorem rowsIn_fuel {k : Nat} (hk : k ≤ 1) : ∀ (f g : Nat) (l : List Int), l.length ≤ f → l.length ≤ g → Pg.rowsIn [k] f l = Pg.rowsIn [k] g l
  | f, g, [], _, _ => by
    cases f <;> cases g <;> rfl
  | 0, g, x :: l, h, _ => by simp at h
  | f + 1, 0, x :: l, _, h => by simp at h
  | f + 1, g + 1, x :: l, hf, hg => by
    show (match Pg.rowIn [k] (x :: l) with | none => none | some (r, s) => match Pg.rowsIn [k] f s with | some y => some (r :: y) | none => none) = (match Pg.rowIn [k] (x :: l) with | none => none | some (r, s) => match Pg.rowsIn [k] g s with | some y => some (r :: y) | none => none)
    rw [rowIn_one]
    cases e : Pg.cellIn k (x :: l) with
    | none => rfl
    | some p =>
      obtain ⟨c, r⟩ := p
      obtain ⟨e1, e2, _⟩ := cellIn_rest hk e
      have hc : 1 ≤ (Pg.cellList c).length := by
        cases c with
        | none => exact Nat.le_refl _
        | some v => show 1 ≤ (Pg.written v).length + 1; omega
      have hl : r.length ≤ l.length := by
        rw [e1, List.length_drop, List.length_cons]
        omega
      rw [List.length_cons] at hf hg
      show (match Pg.rowsIn [k] f r with | some y => some ([c] :: y) | none => none) = (match Pg.rowsIn [k] g r with | some y => some ([c] :: y) | none => none)
      rw [rowsIn_fuel hk f g r (by omega) (by omega)]
theorem ca_nil (k : Nat) : ca k [] = some [] := rfl
theorem ca_cons {k : Nat} (hk : k ≤ 1) (x : Int) (l : List Int) : ca k (x :: l) = match Pg.cellIn k (x :: l) with | none => none | some (c, r) => (ca k r).map (c :: ·) := by
  unfold ca
  show (match Pg.rowIn [k] (x :: l) with | none => none | some (r, s) => match Pg.rowsIn [k] l.length s with | some y => some (r :: y) | none => none).map _ = _
  rw [rowIn_one]
  cases e : Pg.cellIn k (x :: l) with
  | none => rfl
  | some p =>
    obtain ⟨c, r⟩ := p
    obtain ⟨e1, e2, _⟩ := cellIn_rest hk e
    have hc : 1 ≤ (Pg.cellList c).length := by
      cases c with
      | none => exact Nat.le_refl _
      | some v => show 1 ≤ (Pg.written v).length + 1; omega
    have hl : r.length ≤ l.length := by
      rw [e1, List.length_drop, List.length_cons]
      omega
    show (match Pg.rowsIn [k] l.length r with | some y => some ([c] :: y) | none => none).map (fun r => Pg.colOf r 0) = ((Pg.rowsIn [k] r.length r).map fun r => Pg.colOf r 0).map (c :: ·)
    rw [rowsIn_fuel hk l.length r.length r hl (Nat.le_refl _)]
    cases Pg.rowsIn [k] r.length r with
    | none => rfl
    | some y => rfl
theorem cellsIn_eq {k : Nat} (hk : k ≤ 1) (l : List Int) : Pg.cellsIn k l = match ca k l with | none => none | some c => if c.length ≤ 64 then some c else none := by
  unfold Pg.cellsIn ca
  rw [if_neg (by omega)]
  cases Pg.rowsIn [k] l.length l with
  | none => rfl
  | some r =>
    show (if r.length ≤ Pg.ROWS then some (Pg.colOf r 0) else none) = if (Pg.colOf r 0).length ≤ 64 then some (Pg.colOf r 0) else none
    unfold Pg.colOf
    rw [List.length_map]
    rfl
theorem ca_right {k : Nat} (hk : k ≤ 1) : ∀ (n : Nat) (l : List Int) (c : List Pg.Cell), l.length ≤ n → ca k l = some c → c.all (Pg.cellIs k) = true
  | _, [], c, _, h => by
    rw [ca_nil] at h
    cases h
    rfl
  | 0, x :: l, c, h, _ => by simp at h
  | n + 1, x :: l, c, hn, h => by
    rw [ca_cons hk] at h
    cases e : Pg.cellIn k (x :: l) with
    | none => rw [e] at h; cases h
    | some p =>
      obtain ⟨d, r⟩ := p
      rw [e] at h
      obtain ⟨e1, e2, e3⟩ := cellIn_rest hk e
      have hc : 1 ≤ (Pg.cellList d).length := by
        cases d with
        | none => exact Nat.le_refl _
        | some v => show 1 ≤ (Pg.written v).length + 1; omega
      have hl : r.length ≤ n := by
        rw [e1, List.length_drop]
        rw [List.length_cons] at hn ⊢
        omega
      cases e4 : ca k r with
      | none =>
        have h' : (ca k r).map (d :: ·) = some c := h
        rw [e4] at h'
        cases h'
      | some t =>
        have h' : (ca k r).map (d :: ·) = some c := h
        rw [e4] at h'
        cases h'
        rw [List.all_cons, e3, ca_right hk n r t hl e4]
        rfl
theorem cellsIn_right {k : Nat} (hk : k ≤ 1) {l : List Int} {c : List Pg.Cell} (h : Pg.cellsIn k l = some c) : c.length ≤ 64 ∧ ∀ x ∈ c, Pg.cellIs k x = true := by
  rw [cellsIn_eq hk] at h
  cases e : ca k l with
  | none => rw [e] at h; cases h
  | some d =>
    rw [e] at h
    have h' : (if d.length ≤ 64 then some d else none) = some c := h
    split at h'
    · cases h'
      exact ⟨by assumption, List.all_eq_true.mp (ca_right hk l.length l c (Nat.le_refl _) e)⟩
    · cases h'
/-- what stands once cs has been read -/
def Got (k : Nat) (ns : List Int) (i : Nat) (cs : List Pg.Cell) : Prop := ca k ns = (ca k (ns.drop i)).map (cs ++ ·)
theorem Got.zero (k : Nat) (ns : List Int) : Got k ns 0 [] := by
  unfold Got
  rw [List.drop_zero]
  cases ca k ns <;> rfl
theorem drop_at {ns : List Int} {i : Nat} {x : Int} (h : ns[i]? = some x) : ns.drop i = x :: ns.drop (i + 1) := by
  have hi := (List.getElem?_eq_some_iff.mp h).1
  have e := (List.getElem?_eq_some_iff.mp h).2
  rw [List.drop_eq_getElem_cons hi, e]
theorem Got.none {k : Nat} (hk : k ≤ 1) {ns : List Int} {i : Nat} {cs : List Pg.Cell} {x : Int} (g : Got k ns i cs) (hx : ns[i]? = some x) (h : Pg.cellIn k (ns.drop i) = none) : Pg.cellsIn k ns = none := by
  unfold Got at g
  rw [drop_at hx] at g h
  rw [ca_cons hk, h] at g
  rw [cellsIn_eq hk, g]
  rfl
theorem Got.more {k : Nat} (hk : k ≤ 1) {ns : List Int} {i : Nat} {cs : List Pg.Cell} {x : Int} {c : Pg.Cell} {r : List Int} (g : Got k ns i cs) (hx : ns[i]? = some x) (h : Pg.cellIn k (ns.drop i) = some (c, r)) :
    Got k ns (i + (Pg.cellList c).length) (cs ++ [c]) := by
  have hr := (cellIn_rest hk h).1
  unfold Got at g ⊢
  rw [List.drop_drop] at hr
  rw [← hr]
  rw [drop_at hx] at g h
  rw [ca_cons hk, h] at g
  rw [g]
  show ((ca k r).map (c :: ·)).map (cs ++ ·) = _
  cases ca k r with
  | none => rfl
  | some t =>
    show some (cs ++ c :: t) = some ((cs ++ [c]) ++ t)
    rw [List.append_assoc]
    rfl
theorem Got.many {k : Nat} (hk : k ≤ 1) {ns : List Int} {i : Nat} {cs : List Pg.Cell} (g : Got k ns i cs) (h : 64 < cs.length) : Pg.cellsIn k ns = .none := by
  unfold Got at g
  rw [cellsIn_eq hk, g]
  cases ca k (ns.drop i) with
  | none => rfl
  | some t =>
    show (if (cs ++ t).length ≤ 64 then some (cs ++ t) else .none) = .none
    rw [if_neg (by rw [List.length_append]; omega)]
theorem Got.all {k : Nat} (hk : k ≤ 1) {ns : List Int} {i : Nat} {cs : List Pg.Cell} (g : Got k ns i cs) (hi : ns.length ≤ i) (h : cs.length ≤ 64) : Pg.cellsIn k ns = some cs := by
  unfold Got at g
  rw [List.drop_of_length_le hi, ca_nil] at g
  rw [cellsIn_eq hk, g]
  show (if (cs ++ []).length ≤ 64 then some (cs ++ []) else .none) = some cs
  rw [List.append_nil, if_pos h]
end PfM
namespace PfM
/-! sizes of what is strung together -/
theorem flat_len {α : Type} {f : α → List Nat} {B : Nat} : ∀ {l : List α}, (∀ v ∈ l, (f v).length ≤ B) → (l.flatMap f).length ≤ l.length * B
  | [], _ => by simp
  | v :: l, h => by
    rw [List.flatMap_cons, List.length_append, List.length_cons, Nat.add_mul, Nat.one_mul, Nat.add_comm]
    exact Nat.add_le_add (flat_len fun x hx => h x (List.mem_cons_of_mem _ hx)) (h v List.mem_cons_self)
theorem flat_more {α : Type} {f : α → List Nat} {l : List α} {i : Nat} {v : α} (h : l[i]? = some v) : (l.take (i + 1)).flatMap f = (l.take i).flatMap f ++ f v := by
  rw [List.take_add_one, h, List.flatMap_append]
  simp
/-! alike -/
theorem bo_eq : ∀ {a b : List Nat}, Pg.bytesOrder a b = .eq → a = b
  | [], [], _ => rfl
  | [], _ :: _, h => by cases h
  | _ :: _, [], h => by cases h
  | x :: a, y :: b, h => by
    have h' : (if x < y then Ordering.lt else if y < x then .gt else Pg.bytesOrder a b) = .eq := h
    by_cases h1 : x < y
    · rw [if_pos h1] at h'; cases h'
    · rw [if_neg h1] at h'
      by_cases h2 : y < x
      · rw [if_pos h2] at h'; cases h'
      · rw [if_neg h2] at h'
        rw [bo_eq h', show x = y by omega]
theorem bo_refl : ∀ a : List Nat, Pg.bytesOrder a a = .eq
  | [] => rfl
  | x :: a => by
    show (if x < x then Ordering.lt else if x < x then .gt else Pg.bytesOrder a a) = .eq
    rw [if_neg (by omega), if_neg (by omega), bo_refl a]
theorem order_eq {a b : Pg.Val} (h : Pg.order a b = .eq) : a = b := by
  cases a with
  | num x =>
    cases b with
    | num y =>
      have h' : (if x < y then Ordering.lt else if y < x then .gt else .eq) = .eq := h
      by_cases h1 : x < y
      · rw [if_pos h1] at h'; cases h'
      · rw [if_neg h1] at h'
        by_cases h2 : y < x
        · rw [if_pos h2] at h'; cases h'
        · rw [show x = y by omega]
    | str y => cases h
  | str x =>
    cases b with
    | num y => cases h
    | str y => rw [bo_eq h]
theorem order_refl (a : Pg.Val) : Pg.order a a = .eq := by
  cases a with
  | num x =>
    show (if x < x then Ordering.lt else if x < x then .gt else .eq) = .eq
    rw [if_neg (by omega), if_neg (by omega)]
  | str x => exact bo_refl x
theorem same_iff {a b : Pg.Val} : Pg.same a b = true ↔ a = b := by
  unfold Pg.same
  constructor
  · intro h
    exact order_eq (by simpa using h)
  · rintro rfl
    rw [order_refl]
    rfl
theorem same_dec (a b : Pg.Val) [Decidable (a = b)] : Pg.same a b = decide (a = b) := by
  by_cases h : a = b
  · rw [decide_eq_true h]; exact same_iff.mpr h
  · rw [decide_eq_false h]
    cases e : Pg.same a b with
    | true => exact absurd (same_iff.mp e) h
    | false => rfl
/-! runs -/
def push (u : Pg.Val) : List (Nat × Pg.Val) → List (Nat × Pg.Val)
  | [] => [(1, u)]
  | (n, w) :: s => if Pg.same w u = true then (n + 1, w) :: s else (1, u) :: (n, w) :: s
theorem runsOf_cons (u : Pg.Val) (l : List Pg.Val) : Pg.runsOf (u :: l) = push u (Pg.runsOf l) := by
  show (match Pg.runsOf l with | [] => [(1, u)] | (n, w) :: s => if Pg.same w u = true then (n + 1, w) :: s else (1, u) :: (n, w) :: s) = _
  cases Pg.runsOf l with
  | nil => rfl
  | cons p s => rfl
/-- one value more at the end -/
def bump (v : Pg.Val) : List (Nat × Pg.Val) → List (Nat × Pg.Val)
  | [] => [(1, v)]
  | [(n, w)] => if Pg.same w v = true then [(n + 1, w)] else [(n, w), (1, v)]
  | p :: q :: s => p :: bump v (q :: s)
theorem bump_ne (v : Pg.Val) : ∀ rs, bump v rs ≠ []
  | [] => by simp [bump]
  | [(n, w)] => by
    unfold bump
    split <;> simp
  | p :: q :: s => by simp [bump]
theorem push_bump (u v : Pg.Val) : ∀ rs, push u (bump v rs) = bump v (push u rs)
  | [] => by
    show (if Pg.same v u = true then [(1 + 1, v)] else [(1, u), (1, v)]) = (if Pg.same u v = true then [(1 + 1, u)] else [(1, u), (1, v)])
    by_cases h : Pg.same v u = true
    · have e := same_iff.mp h
      subst e
      rw [if_pos h]
    · rw [if_neg h, if_neg (fun q => h (same_iff.mpr (same_iff.mp q).symm))]
  | [(n, w)] => by
    have b1 : ∀ (m : Nat) (x : Pg.Val), bump v [(m, x)] = if Pg.same x v = true then [(m + 1, x)] else [(m, x), (1, v)] := fun _ _ => rfl
    have b2 : ∀ (p : Nat × Pg.Val) (m : Nat) (x : Pg.Val), bump v [p, (m, x)] = p :: (if Pg.same x v = true then [(m + 1, x)] else [(m, x), (1, v)]) := fun _ _ _ => rfl
    have p1 : ∀ (m : Nat) (x : Pg.Val) (s : List (Nat × Pg.Val)), push u ((m, x) :: s) = if Pg.same x u = true then (m + 1, x) :: s else (1, u) :: (m, x) :: s := fun _ _ _ => rfl
    by_cases h : Pg.same w v = true
    · rw [b1, if_pos h, p1, p1]
      by_cases k : Pg.same w u = true
      · rw [if_pos k, if_pos k, b1, if_pos h]
      · rw [if_neg k, if_neg k, b2, if_pos h]
    · rw [b1, if_neg h, p1, p1]
      by_cases k : Pg.same w u = true
      · rw [if_pos k, if_pos k, b1, if_neg h]
      · rw [if_neg k, if_neg k, b2, if_neg h]
  | (n, w) :: q :: s => by
    show (if Pg.same w u = true then (n + 1, w) :: bump v (q :: s) else (1, u) :: (n, w) :: bump v (q :: s)) = bump v (if Pg.same w u = true then (n + 1, w) :: q :: s else (1, u) :: (n, w) :: q :: s)
    by_cases k : Pg.same w u = true
    · rw [if_pos k, if_pos k]
      rfl
    · rw [if_neg k, if_neg k]
      rfl
theorem runsOf_snoc (v : Pg.Val) : ∀ l, Pg.runsOf (l ++ [v]) = bump v (Pg.runsOf l)
  | [] => rfl
  | u :: l => by
    rw [List.cons_append, runsOf_cons, runsOf_snoc v l, push_bump, runsOf_cons]
theorem bump_app (v : Pg.Val) (n : Nat) (w : Pg.Val) : ∀ rs, bump v (rs ++ [(n, w)]) = rs ++ (if Pg.same w v = true then [(n + 1, w)] else [(n, w), (1, v)])
  | [] => rfl
  | [p] => by
    obtain ⟨m, x⟩ := p
    rfl
  | p :: q :: s => by
    show p :: bump v (q :: s ++ [(n, w)]) = p :: (q :: s ++ _)
    rw [bump_app v n w (q :: s)]
theorem runs_len : ∀ l, (Pg.runsOf l).length ≤ l.length
  | [] => Nat.le_refl _
  | u :: l => by
    have ih := runs_len l
    rw [runsOf_cons, List.length_cons]
    cases e : Pg.runsOf l with
    | nil => show 1 ≤ _; omega
    | cons p s =>
      obtain ⟨n, w⟩ := p
      rw [e, List.length_cons] at ih
      show (if Pg.same w u = true then (n + 1, w) :: s else (1, u) :: (n, w) :: s).length ≤ _
      split
      · rw [List.length_cons]; omega
      · rw [List.length_cons, List.length_cons]; omega
theorem runs_vals : ∀ (l : List Pg.Val) (p : Nat × Pg.Val), p ∈ Pg.runsOf l → p.2 ∈ l ∧ p.1 ≤ l.length
  | [], p, h => by cases h
  | u :: l, p, h => by
    rw [runsOf_cons] at h
    have ih := runs_vals l
    cases e : Pg.runsOf l with
    | nil =>
      rw [e] at h
      have : p = (1, u) := by simpa [push] using h
      subst this
      exact ⟨List.mem_cons_self, by show 1 ≤ l.length + 1; omega⟩
    | cons q s =>
      obtain ⟨n, w⟩ := q
      rw [e] at h ih
      have h' : p ∈ (if Pg.same w u = true then (n + 1, w) :: s else (1, u) :: (n, w) :: s) := h
      have hn := ih (n, w) List.mem_cons_self
      split at h'
      · rcases List.mem_cons.mp h' with rfl | h2
        · exact ⟨List.mem_cons_of_mem _ hn.1, by show n + 1 ≤ l.length + 1; have : n ≤ l.length := hn.2; omega⟩
        · have := ih p (List.mem_cons_of_mem _ h2)
          exact ⟨List.mem_cons_of_mem _ this.1, by rw [List.length_cons]; omega⟩
      · rcases List.mem_cons.mp h' with rfl | h2
        · exact ⟨List.mem_cons_self, by show 1 ≤ l.length + 1; omega⟩
        · have := ih p h2
          exact ⟨List.mem_cons_of_mem _ this.1, by rw [List.length_cons]; omega⟩
theorem runs_one : ∀ (r : List Pg.Val) (v : Pg.Val), (r.all (Pg.same v) = true ∧ Pg.runsOf (v :: r) = [(r.length + 1, v)]) ∨ (r.all (Pg.same v) = false ∧ 2 ≤ (Pg.runsOf (v :: r)).length)
  | [], v => .inl ⟨rfl, rfl⟩
  | u :: t, v => by
    rw [runsOf_cons]
    rcases runs_one t u with ⟨h1, h2⟩ | ⟨h1, h2⟩
    · rw [h2]
      by_cases k : Pg.same u v = true
      · have e := same_iff.mp k
        subst e
        refine .inl ⟨?_, ?_⟩
        · rw [List.all_cons, k, h1]; rfl
        · show (if Pg.same u u = true then [(t.length + 1 + 1, u)] else _) = _
          rw [if_pos k, List.length_cons]
      · refine .inr ⟨?_, ?_⟩
        · rw [List.all_cons]
          cases e : Pg.same v u with
          | true => exact absurd (same_iff.mpr (same_iff.mp e).symm) k
          | false => rfl
        · show 2 ≤ (if Pg.same u v = true then [(t.length + 1 + 1, u)] else [(1, v), (t.length + 1, u)]).length
          rw [if_neg k]
          exact Nat.le_refl 2
    · refine .inr ⟨?_, ?_⟩
      · rw [List.all_cons]
        cases e : Pg.same v u with
        | true =>
          have := same_iff.mp e
          subst this
          rw [h1]; rfl
        | false => rfl
      · cases e : Pg.runsOf (u :: t) with
        | nil => rw [e] at h2; simp at h2
        | cons p s =>
          obtain ⟨n, w⟩ := p
          rw [e] at h2
          show 2 ≤ (if Pg.same w v = true then (n + 1, w) :: s else (1, v) :: (n, w) :: s).length
          rw [List.length_cons] at h2
          split
          · rw [List.length_cons]; omega
          · rw [List.length_cons, List.length_cons]; omega
/-! least, greatest -/
theorem fmin : ∀ (r : List Int) (z : Int), r.foldl min z ∈ z :: r ∧ ∀ y ∈ z :: r, r.foldl min z ≤ y
  | [], z => ⟨List.mem_cons_self, fun y hy => by rw [List.mem_singleton.mp hy]; exact Int.le_refl _⟩
  | a :: r, z => by
    obtain ⟨h1, h2⟩ := fmin r (min z a)
    show r.foldl min (min z a) ∈ z :: a :: r ∧ ∀ y ∈ z :: a :: r, r.foldl min (min z a) ≤ y
    have hm := h2 (min z a) List.mem_cons_self
    refine ⟨?_, fun y hy => ?_⟩
    · rcases List.mem_cons.mp h1 with e | e
      · rw [e]
        by_cases h : z ≤ a
        · rw [Int.min_eq_left h]; exact List.mem_cons_self
        · rw [Int.min_eq_right (by omega)]; exact List.mem_cons_of_mem _ List.mem_cons_self
      · exact List.mem_cons_of_mem _ (List.mem_cons_of_mem _ e)
    · rcases List.mem_cons.mp hy with rfl | hy
      · omega
      · rcases List.mem_cons.mp hy with rfl | hy
        · omega
        · exact h2 y (List.mem_cons_of_mem _ hy)
theorem fmax : ∀ (r : List Int) (z : Int), r.foldl max z ∈ z :: r ∧ ∀ y ∈ z :: r, y ≤ r.foldl max z
  | [], z => ⟨List.mem_cons_self, fun y hy => by rw [List.mem_singleton.mp hy]; exact Int.le_refl _⟩
  | a :: r, z => by
    obtain ⟨h1, h2⟩ := fmax r (max z a)
    show r.foldl max (max z a) ∈ z :: a :: r ∧ ∀ y ∈ z :: a :: r, y ≤ r.foldl max (max z a)
    have hm := h2 (max z a) List.mem_cons_self
    refine ⟨?_, fun y hy => ?_⟩
    · rcases List.mem_cons.mp h1 with e | e
      · rw [e]
        by_cases h : a ≤ z
        · rw [Int.max_eq_left h]; exact List.mem_cons_self
        · rw [Int.max_eq_right (by omega)]; exact List.mem_cons_of_mem _ List.mem_cons_self
      · exact List.mem_cons_of_mem _ (List.mem_cons_of_mem _ e)
    · rcases List.mem_cons.mp hy with rfl | hy
      · omega
      · rcases List.mem_cons.mp hy with rfl | hy
        · omega
        · exact h2 y (List.mem_cons_of_mem _ hy)
theorem fmin_is {z m : Int} {r : List Int} (h1 : m ∈ z :: r) (h2 : ∀ y ∈ z :: r, m ≤ y) : m = r.foldl min z := by
  have h := fmin r z
  have a := h2 _ h.1
  have b := h.2 _ h1
  omega
theorem fmax_is {z m : Int} {r : List Int} (h1 : m ∈ z :: r) (h2 : ∀ y ∈ z :: r, y ≤ m) : m = r.foldl max z := by
  have h := fmax r z
  have a := h2 _ h.1
  have b := h.2 _ h1
  omega
theorem bits_lt (n : Nat) : n < 2 ^ Pg.bitsFor n := by
  unfold Pg.bitsFor
  split
  · rename_i h; subst h; decide
  · exact Nat.lt_log2_self
theorem bits_le {n m : Nat} (h : n < 2 ^ m) : Pg.bitsFor n ≤ m := by
  unfold Pg.bitsFor
  split
  · omega
  · rename_i h0
    exact (Nat.log2_lt h0).mpr h
/-- what stands from the byte q on -/
def aboveL : List Int → List Nat
  | [] => []
  | z :: r => Pg.bitsFor (r.foldl max z - r.foldl min z).toNat :: Pg.packed (Pg.bitsFor (r.foldl max z - r.foldl min z).toNat) ((z :: r).map fun (x : Int) => (x - r.foldl min z).toNat)
def leastOf : List Int → Int
  | [] => 0
  | z :: r => r.foldl min z
theorem fromLeast_eq (l : List Pg.Val) (h : l ≠ []) : Pg.fromLeast 0 l = some (Pg.wide 8 (leastOf (l.map Pg.zOf)) ++ aboveL (l.map Pg.zOf)) := by
  cases l with
  | nil => exact absurd rfl h
  | cons v r => rfl
theorem steps_len : ∀ zs : List Int, (Pg.stepsOf zs).length = zs.length - 1
  | [] => rfl
  | [_] => rfl
  | a :: b :: r => by
    show (Pg.stepsOf (b :: r)).length + 1 = r.length + 1 + 1 - 1
    rw [steps_len (b :: r), List.length_cons]
    omega
theorem steps_get : ∀ (zs : List Int) (i : Nat) (x y : Int), zs[i]? = some x → zs[i + 1]? = some y → (Pg.stepsOf zs)[i]? = some (y - x)
  | [], _, _, _, h, _ => by simp at h
  | [_], 0, _, _, _, h => by simp at h
  | [_], i + 1, _, _, h, _ => by simp at h
  | a :: b :: r, 0, x, y, h, h2 => by
    have e1 : a = x := Option.some.inj h
    have e2 : b = y := Option.some.inj h2
    rw [← e1, ← e2]
    rfl
  | a :: b :: r, i + 1, x, y, h, h2 => steps_get (b :: r) i x y h h2
theorem differences_eq (l : List Pg.Val) (h : 2 ≤ l.length) : Pg.differences 0 l = some (Pg.wide 8 ((l.map Pg.zOf).getD 0 0) ++ (Pg.wide 9 (leastOf (Pg.stepsOf (l.map Pg.zOf))) ++ aboveL (Pg.stepsOf (l.map Pg.zOf)))) := by
  cases l with
  | nil => simp at h
  | cons v r =>
    cases r with
    | nil => simp at h
    | cons u t => rfl
theorem differences_none (l : List Pg.Val) (h : l.length < 2) : Pg.differences 0 l = none := by
  cases l with
  | nil => rfl
  | cons v r =>
    cases r with
    | nil => rfl
    | cons u t => simp at h; omega
/-! shared -/
theorem common_step : ∀ (b c : List Nat) (j : Nat), Pg.common b c = j + Pg.common (b.drop j) (c.drop j) → ∀ x y, b[j]? = some x → c[j]? = some y → (x = y → Pg.common b c = (j + 1) + Pg.common (b.drop (j + 1)) (c.drop (j + 1))) ∧ (x ≠ y → Pg.common b c = j) := by
  intro b c j h x y hx hy
  have hb : b.drop j = x :: b.drop (j + 1) := by
    have := (List.getElem?_eq_some_iff.mp hx)
    rw [List.drop_eq_getElem_cons this.1, this.2]
  have hc : c.drop j = y :: c.drop (j + 1) := by
    have := (List.getElem?_eq_some_iff.mp hy)
    rw [List.drop_eq_getElem_cons this.1, this.2]
  rw [hb, hc] at h
  have h' : Pg.common b c = j + (if x = y then Pg.common (b.drop (j + 1)) (c.drop (j + 1)) + 1 else 0) := h
  refine ⟨fun e => ?_, fun e => ?_⟩
  · rw [if_pos e] at h'; omega
  · rw [if_neg e] at h'; omega
theorem common_end {b c : List Nat} {j : Nat} (h : Pg.common b c = j + Pg.common (b.drop j) (c.drop j)) (hj : b.length ≤ j ∨ c.length ≤ j) : Pg.common b c = j := by
  rcases hj with hj | hj
  · rw [List.drop_of_length_le hj] at h
    have h' : Pg.common b c = j + 0 := h
    omega
  · rw [List.drop_of_length_le hj] at h
    cases e : b.drop j with
    | nil => rw [e] at h; exact h
    | cons x r => rw [e] at h; exact h
theorem common_le : ∀ b c : List Nat, Pg.common b c ≤ b.length ∧ Pg.common b c ≤ c.length
  | [], _ => ⟨Nat.le_refl _, Nat.zero_le _⟩
  | x :: b, [] => ⟨Nat.zero_le _, Nat.le_refl _⟩
  | x :: b, y :: c => by
    show (if x = y then Pg.common b c + 1 else 0) ≤ b.length + 1 ∧ (if x = y then Pg.common b c + 1 else 0) ≤ c.length + 1
    have := common_le b c
    split
    · omega
    · omega
/-! the way taken -/
def takeStep (a : Nat × List Nat) (x : Option (List Nat) × Nat) : Nat × List Nat := match x.1 with
  | some b => if b.length < a.2.length then (x.2, b) else a
  | none => a
def pick (ws : List (Option (List Nat))) (b : List Nat) : Nat × List Nat := ws.zipIdx.foldl takeStep (0, b)
theorem chosen_eq (k : Nat) {l : List Pg.Val} (h : l ≠ []) : Pg.chosen k l = pick (Pg.ways k l) (Pg.plain k l) := by
  cases l with
  | nil => exact absurd rfl h
  | cons v r => rfl
def pickTo (ws : List (Option (List Nat))) (b : List Nat) (i : Nat) : Nat × List Nat := (ws.zipIdx.take i).foldl takeStep (0, b)
theorem pickTo_more {ws : List (Option (List Nat))} {b : List Nat} {i : Nat} {w : Option (List Nat)} (h : ws[i]? = some w) : pickTo ws b (i + 1) = takeStep (pickTo ws b i) (w, i) := by
  unfold pickTo
  have e : ws.zipIdx[i]? = some (w, i) := by
    rw [List.getElem?_zipIdx, h]
    simp
  rw [List.take_add_one, e, List.foldl_append]
  rfl
theorem pickTo_all (ws : List (Option (List Nat))) (b : List Nat) : pickTo ws b ws.length = pick ws b := by
  unfold pickTo pick
  rw [List.take_of_length_le (by rw [List.length_zipIdx]; exact Nat.le_refl _)]
theorem pickTo_at {ws : List (Option (List Nat))} {b : List Nat} (h0 : ws[0]? = some (some b)) : ∀ i, i ≤ ws.length → ws[(pickTo ws b i).1]? = some (some (pickTo ws b i).2)
  | 0, _ => by
    unfold pickTo
    rw [List.take_zero]
    exact h0
  | i + 1, hi => by
    have ih := pickTo_at h0 i (by omega)
    have hw : ws[i]? = some ws[i] := List.getElem?_eq_getElem (by omega)
    rw [pickTo_more hw]
    unfold takeStep
    split
    · rename_i c hc
      have hc' : ws[i] = some c := hc
      split
      · show ws[i]? = some (some c)
        rw [hw, hc']
      · exact ih
    · exact ih
theorem pick_at {ws : List (Option (List Nat))} {b : List Nat} (h0 : ws[0]? = some (some b)) : ws[(pick ws b).1]? = some (some (pick ws b).2) := by
  rw [← pickTo_all]
  exact pickTo_at h0 _ (Nat.le_refl _)
/-! nulls -/
theorem vals_len (c : List Pg.Cell) : (Pg.valuesOf c).length ≤ c.length := List.length_filterMap_le _ _
theorem above_len {ns : List Int} (hl : ns.length ≤ 1000) (hb : ∀ z ∈ ns, -(2 ^ 65) ≤ z ∧ z ≤ 2 ^ 65) : (aboveL ns).length ≤ 100000 := by
  cases ns with
  | nil => decide
  | cons z r =>
    have h1 := hb _ (fmin r z).1
    have h2 := hb _ (fmax r z).1
    have hq : Pg.bitsFor (r.foldl max z - r.foldl min z).toNat ≤ 67 := bits_le (by omega)
    show (Pg.packed (Pg.bitsFor (r.foldl max z - r.foldl min z).toNat) ((z :: r).map fun (x : Int) => (x - r.foldl min z).toNat)).length + 1 ≤ 100000
    unfold Pg.packed
    rw [le_len, List.length_map]
    unfold Pg.packedLong
    have : (z :: r).length * Pg.bitsFor (r.foldl max z - r.foldl min z).toNat ≤ 1000 * 67 := Nat.mul_le_mul hl hq
    omega
theorem least_is {ns : List Int} {m : Int} (hne : ns ≠ []) (hm : m ∈ ns) (hle : ∀ y ∈ ns, m ≤ y) : m = leastOf ns := by
  cases ns with
  | nil => exact absurd rfl hne
  | cons z r => exact fmin_is hm hle
/-! a page from its parts -/
def frame (w st n m : Nat) (bd : List Nat) : List Nat := [w, st, 0, 0] ++ (Pg.le 4 n ++ (Pg.le 4 m ++ (Pg.le 4 bd.length ++ bd)))
theorem page_eq (k : Nat) (cs : List Pg.Cell) {w st : Nat} {bd : List Nat} (hw : w = (Pg.chosen k (Pg.valuesOf cs)).1) (hst : st = if Pg.nullsOf cs = 0 then 0 else if Pg.nullsOf cs = cs.length then 1 else 2)
    (hb : bd = (if st = 2 then Pg.bitBytes (cs.map Option.isSome) else []) ++ (Pg.chosen k (Pg.valuesOf cs)).2) :
    Pg.page k cs = frame w st cs.length (Pg.nullsOf cs) bd ++ Pg.le 4 (Pg.check 0 (frame w st cs.length (Pg.nullsOf cs) bd)) := by
  have e : (if 0 < Pg.nullsOf cs ∧ Pg.nullsOf cs < cs.length then Pg.bitBytes (cs.map Option.isSome) else []) = (if st = 2 then Pg.bitBytes (cs.map Option.isSome) else []) := by
    have hn : Pg.nullsOf cs ≤ cs.length := Nat.sub_le _ _
    by_cases h : 0 < Pg.nullsOf cs ∧ Pg.nullsOf cs < cs.length
    · rw [if_pos h, if_pos]
      rw [hst, if_neg (by omega), if_neg (by omega)]
    · rw [if_neg h, if_neg]
      intro h2
      rw [hst] at h2
      split at h2
      · cases h2
      · split at h2
        · cases h2
        · omega
  rw [← e] at hb
  rw [hw, hst, hb]
  rfl
theorem frame_len (w st n m : Nat) (bd : List Nat) : (frame w st n m bd).length = 16 + bd.length := by
  unfold frame
  simp only [List.length_append, le_len]
  show 4 + _ = _
  omega
theorem vals_more {cs : List Pg.Cell} {i : Nat} {c : Pg.Cell} (h : cs[i]? = some c) : Pg.valuesOf (cs.take (i + 1)) = Pg.valuesOf (cs.take i) ++ c.toList := by
  rw [List.take_add_one, h]
  unfold Pg.valuesOf
  rw [List.filterMap_append]
  cases c <;> rfl
theorem vals_is {k : Nat} {cs : List Pg.Cell} (h : ∀ c ∈ cs, Pg.cellIs k c = true) : ∀ v ∈ Pg.valuesOf cs, v.is k = true := by
  intro v hv
  unfold Pg.valuesOf at hv
  obtain ⟨c, hc, e⟩ := List.mem_filterMap.mp hv
  have := h c hc
  cases c with
  | none => cases e
  | some u => cases e; exact this
/-- how long the ways are -/
theorem pick_le : ∀ (ws : List (Option (List Nat))) (b : List Nat) (i : Nat), i ≤ ws.length → (pickTo ws b i).2.length ≤ b.length
  | ws, b, 0, _ => by unfold pickTo; rw [List.take_zero]; exact Nat.le_refl _
  | ws, b, i + 1, hi => by
    have ih := pick_le ws b i (by omega)
    have hw : ws[i]? = some ws[i] := List.getElem?_eq_getElem (by omega)
    rw [pickTo_more hw]
    unfold takeStep
    split
    · split
      · rename_i c hc h
        show c.length ≤ b.length
        omega
      · exact ih
    · exact ih
theorem plain_len {k : Nat} {l : List Pg.Val} (h : ∀ v ∈ l, (Pg.raw v).length ≤ 40) (hl : l.length ≤ 64) : (Pg.plain k l).length ≤ 3000 := by
  unfold Pg.plain
  have h1 := flat_len (f := Pg.raw) (B := 40) h
  have h2 := flat_len (f := fun (v : Pg.Val) => Pg.le 4 (Pg.raw v).length) (B := 4) (l := l) fun v _ => by rw [le_len]; exact Nat.le_refl _
  rw [List.length_append]
  split
  · omega
  · rw [List.length_nil]; omega
theorem bits_len (cs : List Pg.Cell) (h : cs.length ≤ 64) : (Pg.bitBytes (cs.map Option.isSome)).length ≤ 10 := by
  unfold Pg.bitBytes Pg.packed
  rw [le_len, List.length_map, List.length_map]
  unfold Pg.packedLong
  omega
theorem raw_le {k : Nat} {v : Pg.Val} (h : v.is k = true) : (Pg.raw v).length ≤ 40 := by
  cases v with
  | num z =>
    show (Pg.wide 8 z).length ≤ 40
    rw [wide_len]
    decide
  | str b =>
    unfold Pg.Val.is at h
    rw [Bool.and_eq_true, Bool.and_eq_true, decide_eq_true_eq] at h
    exact h.2.1
theorem page_len {k : Nat} (hk : k ≤ 1) {cs : List Pg.Cell} (hi : ∀ c ∈ cs, Pg.cellIs k c = true) (hl : cs.length ≤ 64) : (Pg.page k cs).length ≤ 500000 := by
  rw [page_eq k cs rfl rfl rfl, List.length_append, frame_len, le_len, List.length_append]
  generalize (if Pg.nullsOf cs = 0 then 0 else if Pg.nullsOf cs = cs.length then 1 else 2) = st
  have hb : (if st = 2 then Pg.bitBytes (cs.map Option.isSome) else []).length ≤ 10 := by
    by_cases h : st = 2
    · rw [if_pos h]
      exact bits_len cs hl
    · rw [if_neg h]
      exact Nat.zero_le _
  have hv := vals_is hi
  have hvl := vals_len cs
  have hc : (Pg.chosen k (Pg.valuesOf cs)).2.length ≤ 3000 := by
    cases e : Pg.valuesOf cs with
    | nil => exact Nat.zero_le _
    | cons v r =>
      rw [← e, chosen_eq k (by rw [e]; simp)]
      have h1 := pick_le (Pg.ways k (Pg.valuesOf cs)) (Pg.plain k (Pg.valuesOf cs)) _ (Nat.le_refl _)
      rw [pickTo_all] at h1
      have h2 := plain_len (k := k) (l := Pg.valuesOf cs) (fun v hv' => raw_le (hv v hv')) (by omega)
      omega
  omega
end PfM
namespace PfM
/-! what is due, by the call -/
theorem whole1 {k : Int} (h : 0 ≤ k) : PgNeutral.whole [k] = true := by
  unfold PgNeutral.whole
  rw [List.all_cons, decide_eq_true h]
  rfl
theorem due_page {k : Int} (h : 0 ≤ k) (ns : List Int) : PyWrpage.page k ns = match Pg.cellsIn k.toNat ns with
    | none => [-1]
    | some c => ((Pg.page k.toNat c).length : Int) :: ((Pg.ints (Pg.page k.toNat c)).length : Int) :: Pg.ints (Pg.page k.toNat c) := by
  unfold PyWrpage.page PgNeutral.step
  have e : PgNeutral.callOf [[0, k], ns] = some (.page k.toNat ns) := by
    show (if PgNeutral.whole [k] = true then some (Pg.Call.page k.toNat ns) else none) = _
    rw [if_pos (whole1 h)]
  rw [e]
  show PgNeutral.shown (Pg.answer (.page k.toNat ns)) = _
  show PgNeutral.shown (match Pg.cellsIn k.toNat ns with | none => Pg.says (-1) | some c => Pg.gives (Pg.page k.toNat c)) = _
  cases Pg.cellsIn k.toNat ns with
  | none => rfl
  | some c =>
    show ((Pg.page k.toNat c).length : Int) :: ([Pg.ints (Pg.page k.toNat c)].flatMap fun (l : List Int) => (l.length : Int) :: l) = _
    simp
theorem cellsIn_none {k : Nat} (h : 1 < k) (ns : List Int) : Pg.cellsIn k ns = none := by
  unfold Pg.cellsIn
  rw [if_pos h]
end PfM
namespace PfM
/-! the order of values -/
theorem bo_swap : ∀ a b : List Nat, Pg.bytesOrder a b = .gt ↔ Pg.bytesOrder b a = .lt
  | [], [] => by simp [Pg.bytesOrder]
  | [], _ :: _ => by simp [Pg.bytesOrder]
  | _ :: _, [] => by simp [Pg.bytesOrder]
  | x :: a, y :: b => by
    show (if x < y then Ordering.lt else if y < x then .gt else Pg.bytesOrder a b) = .gt ↔ (if y < x then Ordering.lt else if x < y then .gt else Pg.bytesOrder b a) = .lt
    by_cases h1 : x < y
    · rw [if_pos h1, if_neg (by omega), if_pos h1]; simp
    · rw [if_neg h1]
      by_cases h2 : y < x
      · rw [if_pos h2, if_pos h2]; simp
      · rw [if_neg h2, if_neg h2, if_neg h1]; exact bo_swap a b
theorem bo_trans : ∀ {a b c : List Nat}, Pg.bytesOrder a b = .lt → Pg.bytesOrder b c = .lt → Pg.bytesOrder a c = .lt
  | [], [], _, h, _ => by cases h
  | [], _ :: _, [], _, h => by cases h
  | [], _ :: _, _ :: _, _, _ => rfl
  | _ :: _, [], _, h, _ => by cases h
  | _ :: _, _ :: _, [], _, h => by cases h
  | x :: a, y :: b, z :: c, h1, h2 => by
    have h1' : (if x < y then Ordering.lt else if y < x then .gt else Pg.bytesOrder a b) = .lt := h1
    have h2' : (if y < z then Ordering.lt else if z < y then .gt else Pg.bytesOrder b c) = .lt := h2
    show (if x < z then Ordering.lt else if z < x then .gt else Pg.bytesOrder a c) = .lt
    by_cases a1 : x < y
    · by_cases b1 : y < z
      · rw [if_pos (by omega)]
      · rw [if_neg b1] at h2'
        by_cases b2 : z < y
        · rw [if_pos b2] at h2'; cases h2'
        · rw [if_pos (by omega)]
    · rw [if_neg a1] at h1'
      by_cases a2 : y < x
      · rw [if_pos a2] at h1'; cases h1'
      · rw [if_neg a2] at h1'
        by_cases b1 : y < z
        · rw [if_pos (by omega)]
        · rw [if_neg b1] at h2'
          by_cases b2 : z < y
          · rw [if_pos b2] at h2'; cases h2'
          · rw [if_neg b2] at h2'
            rw [if_neg (by omega), if_neg (by omega)]
            exact bo_trans h1' h2'
theorem order_swap (a b : Pg.Val) : Pg.order a b = .gt ↔ Pg.order b a = .lt := by
  cases a with
  | num x =>
    cases b with
    | num y =>
      show (if x < y then Ordering.lt else if y < x then .gt else .eq) = .gt ↔ (if y < x then Ordering.lt else if x < y then .gt else .eq) = .lt
      by_cases h1 : x < y
      · rw [if_pos h1, if_neg (by omega), if_pos h1]; simp
      · rw [if_neg h1]
        by_cases h2 : y < x
        · rw [if_pos h2, if_pos h2]; simp
        · rw [if_neg h2, if_neg h2, if_neg h1]; simp
    | str y => simp [Pg.order]
  | str x =>
    cases b with
    | num y => simp [Pg.order]
    | str y => exact bo_swap x y
theorem order_trans {a b c : Pg.Val} (h1 : Pg.order a b = .lt) (h2 : Pg.order b c = .lt) : Pg.order a c = .lt := by
  cases a with
  | num x =>
    cases b with
    | num y =>
      cases c with
      | num z =>
        have h1' : (if x < y then Ordering.lt else if y < x then .gt else .eq) = .lt := h1
        have h2' : (if y < z then Ordering.lt else if z < y then .gt else .eq) = .lt := h2
        have e1 : x < y := by
          by_cases h : x < y
          · exact h
          · rw [if_neg h] at h1'
            split at h1' <;> cases h1'
        have e2 : y < z := by
          by_cases h : y < z
          · exact h
          · rw [if_neg h] at h2'
            split at h2' <;> cases h2'
        show (if x < z then Ordering.lt else _) = .lt
        rw [if_pos (by omega)]
      | str z => rfl
    | str y =>
      cases c with
      | num z => cases h2
      | str z => rfl
  | str x =>
    cases b with
    | num y => cases h1
    | str y =>
      cases c with
      | num z => cases h2
      | str z => exact bo_trans h1 h2
def LtV (a b : Pg.Val) : Prop := Pg.order a b = .lt
theorem ltV_irrefl (a : Pg.Val) : ¬ LtV a a := fun h => by
  unfold LtV at h
  rw [order_refl] at h
  cases h
/-- of two that aren't alike one is less -/
theorem ltV_of {a b : Pg.Val} (h : ¬ LtV b a) (ne : a ≠ b) : LtV a b := by
  unfold LtV at *
  cases e : Pg.order a b with
  | lt => rfl
  | eq => exact absurd (order_eq e) ne
  | gt => exact absurd ((order_swap a b).mp e) h
theorem ins_mem (v : Pg.Val) : ∀ (D : List Pg.Val) (u : Pg.Val), u ∈ Pg.insertOnce v D ↔ u = v ∨ u ∈ D
  | [], u => by simp [Pg.insertOnce]
  | w :: D, u => by
    have e : Pg.insertOnce v (w :: D) = match Pg.order v w with | .lt => v :: w :: D | .eq => w :: D | .gt => w :: Pg.insertOnce v D := rfl
    rw [e]
    cases h : Pg.order v w with
    | lt => simp
    | eq =>
      have := order_eq h
      subst this
      simp
    | gt =>
      show u ∈ w :: Pg.insertOnce v D ↔ _
      rw [List.mem_cons, ins_mem v D u, List.mem_cons]
      constructor
      · rintro (h | h | h)
        · exact .inr (.inl h)
        · exact .inl h
        · exact .inr (.inr h)
      · rintro (h | h | h)
        · exact .inr (.inl h)
        · exact .inl h
        · exact .inr (.inr h)
theorem ins_sorted (v : Pg.Val) : ∀ D : List Pg.Val, D.Pairwise LtV → (Pg.insertOnce v D).Pairwise LtV
  | [], _ => by simp [Pg.insertOnce]
  | w :: D, h => by
    have hw := List.pairwise_cons.mp h
    have e : Pg.insertOnce v (w :: D) = match Pg.order v w with | .lt => v :: w :: D | .eq => w :: D | .gt => w :: Pg.insertOnce v D := rfl
    rw [e]
    cases k : Pg.order v w with
    | lt =>
      refine List.pairwise_cons.mpr ⟨fun u hu => ?_, h⟩
      rcases List.mem_cons.mp hu with rfl | hu
      · exact k
      · exact order_trans k (hw.1 u hu)
    | eq => exact h
    | gt =>
      show (w :: Pg.insertOnce v D).Pairwise LtV
      refine List.pairwise_cons.mpr ⟨fun u hu => ?_, ins_sorted v D hw.2⟩
      rcases (ins_mem v D u).mp hu with rfl | hu
      · exact (order_swap u w).mp k
      · exact hw.1 u hu
theorem words_mem : ∀ (l : List Pg.Val) (u : Pg.Val), u ∈ Pg.wordsOf l ↔ u ∈ l
  | [], u => Iff.rfl
  | v :: l, u => by
    show u ∈ Pg.insertOnce v (Pg.wordsOf l) ↔ _
    rw [ins_mem, words_mem l u, List.mem_cons]
theorem words_sorted : ∀ l : List Pg.Val, (Pg.wordsOf l).Pairwise LtV
  | [] => List.Pairwise.nil
  | v :: l => ins_sorted v _ (words_sorted l)
theorem sorted_one : ∀ (D F : List Pg.Val), D.Pairwise LtV → F.Pairwise LtV → (∀ u, u ∈ D ↔ u ∈ F) → D = F
  | [], [], _, _, _ => rfl
  | [], f :: F, _, _, h => by have := (h f).mpr List.mem_cons_self; cases this
  | d :: D, [], _, _, h => by have := (h d).mp List.mem_cons_self; cases this
  | d :: D, f :: F, hD, hF, h => by
    have hd := List.pairwise_cons.mp hD
    have hf := List.pairwise_cons.mp hF
    have e : d = f := by
      rcases List.mem_cons.mp ((h d).mp List.mem_cons_self) with e | e
      · exact e
      · rcases List.mem_cons.mp ((h f).mpr List.mem_cons_self) with e2 | e2
        · exact e2.symm
        · exact absurd (order_trans (hf.1 d e) (hd.1 f e2)) (ltV_irrefl f)
    subst e
    rw [sorted_one D F hd.2 hf.2 fun u => ?_]
    constructor
    · intro hu
      rcases List.mem_cons.mp ((h u).mp (List.mem_cons_of_mem _ hu)) with e | e
      · subst e; exact absurd (hd.1 _ hu) (ltV_irrefl _)
      · exact e
    · intro hu
      rcases List.mem_cons.mp ((h u).mpr (List.mem_cons_of_mem _ hu)) with e | e
      · subst e; exact absurd (hf.1 _ hu) (ltV_irrefl _)
      · exact e
theorem words_is {D l : List Pg.Val} (h : D.Pairwise LtV) (hm : ∀ u, u ∈ D ↔ u ∈ l) : D = Pg.wordsOf l :=
  sorted_one D _ h (words_sorted l) fun u => (hm u).trans (words_mem l u).symm
/-- rising, none twice: strictly rising -/
theorem strict_of : ∀ {D : List Pg.Val}, D.Pairwise (fun a b => ¬ LtV b a) → D.Nodup → D.Pairwise LtV
  | [], _, _ => List.Pairwise.nil
  | d :: D, h, n => by
    have h' := List.pairwise_cons.mp h
    have n' := List.nodup_cons.mp n
    exact List.pairwise_cons.mpr ⟨fun u hu => ltV_of (h'.1 u hu) fun e => n'.1 (e ▸ hu), strict_of h'.2 n'.2⟩
theorem words_nodup (l : List Pg.Val) : (Pg.wordsOf l).Nodup := by
  refine List.Pairwise.imp ?_ (words_sorted l)
  intro a b h e
  subst e
  exact ltV_irrefl _ h
theorem words_len (l : List Pg.Val) : (Pg.wordsOf l).length ≤ l.length := by
  have ins_len : ∀ (v : Pg.Val) (D : List Pg.Val), (Pg.insertOnce v D).length ≤ D.length + 1 := by
    intro v D
    induction D with
    | nil => exact Nat.le_refl _
    | cons w D ih =>
      have e : Pg.insertOnce v (w :: D) = match Pg.order v w with | .lt => v :: w :: D | .eq => w :: D | .gt => w :: Pg.insertOnce v D := rfl
      rw [e]
      cases Pg.order v w with
      | lt => exact Nat.le_refl _
      | eq => exact Nat.le_succ _
      | gt =>
        show (w :: Pg.insertOnce v D).length ≤ _
        rw [List.length_cons, List.length_cons]
        omega
  induction l with
  | nil => exact Nat.le_refl _
  | cons v l ih =>
    have := ins_len v (Pg.wordsOf l)
    show (Pg.insertOnce v (Pg.wordsOf l)).length ≤ l.length + 1
    omega
theorem words_ne {l : List Pg.Val} (h : l ≠ []) : Pg.wordsOf l ≠ [] := by
  cases l with
  | nil => exact absurd rfl h
  | cons v l =>
    intro e
    have := (words_mem (v :: l) v).mpr List.mem_cons_self
    rw [e] at this
    cases this
/-- which one -/
theorem index_at {D : List Pg.Val} (hn : D.Nodup) {j : Nat} {v : Pg.Val} (h : D[j]? = some v) : Pg.indexOf D v = j := by
  unfold Pg.indexOf
  have hj := (List.getElem?_eq_some_iff.mp h).1
  have e := (List.getElem?_eq_some_iff.mp h).2
  have : D.findIdx? (fun w => Pg.same w v) = some j := by
    rw [List.findIdx?_eq_some_iff_getElem]
    refine ⟨hj, by rw [e]; exact same_iff.mpr rfl, fun i hi hs => ?_⟩
    have e2 := same_iff.mp hs
    have := (List.getElem_inj hn).mp (e2.trans e.symm)
    omega
  rw [this]
  rfl
theorem index_lt {D : List Pg.Val} (hn : D.Nodup) {v : Pg.Val} (h : v ∈ D) : Pg.indexOf D v < D.length ∧ D[Pg.indexOf D v]? = some v := by
  obtain ⟨j, hj, e⟩ := List.mem_iff_getElem.mp h
  have := index_at hn (List.getElem?_eq_some_iff.mpr ⟨hj, e⟩)
  rw [this]
  exact ⟨hj, List.getElem?_eq_some_iff.mpr ⟨hj, e⟩⟩
theorem dictionary_eq (k : Nat) (l : List Pg.Val) : Pg.dictionary k l = Pg.le 4 (Pg.wordsOf l).length ++ (Pg.plain k (Pg.wordsOf l) ++ Pg.packed (Pg.bitsFor ((Pg.wordsOf l).length - 1)) (l.map (Pg.indexOf (Pg.wordsOf l)))) := rfl
end PfM
namespace PfM
/-! ## read back: the specification's reader gives what was written -/
theorem num_app : ∀ a b : List Nat, Pg.num (a ++ b) = Pg.num a + 256 ^ a.length * Pg.num b
  | [], b => by
    show Pg.num b = 0 + 1 * Pg.num b
    omega
  | c :: a, b => by
    show c + 256 * Pg.num (a ++ b) = (c + 256 * Pg.num a) + 256 ^ (a.length + 1) * Pg.num b
    rw [num_app a b, Nat.pow_succ, Nat.mul_add, ← Nat.mul_assoc, Nat.mul_comm 256 (256 ^ a.length)]
    omega
theorem le_succ (w n : Nat) : Pg.le (w + 1) n = Pg.le w n ++ [n / 256 ^ w % 256] := by
  unfold Pg.le
  rw [List.range_succ, List.map_append]
  rfl
theorem num_le : ∀ w n : Nat, Pg.num (Pg.le w n) = n % 256 ^ w
  | 0, n => by
    rw [Nat.pow_zero, Nat.mod_one]
    rfl
  | w + 1, n => by
    rw [le_succ, num_app, num_le w n, le_len]
    show n % 256 ^ w + 256 ^ w * (n / 256 ^ w % 256 + 256 * 0) = n % 256 ^ (w + 1)
    rw [Nat.mul_zero, Nat.add_zero, Nat.pow_succ, Nat.mod_mul]
theorem num_le_lt {w n : Nat} (h : n < 256 ^ w) : Pg.num (Pg.le w n) = n := by
  rw [num_le, Nat.mod_eq_of_lt h]
theorem signed_wide {w : Nat} {z : Int} (h1 : -(256 ^ w : Int) ≤ 2 * z) (h2 : 2 * z < 256 ^ w) : Pg.signed (Pg.wide w z) = z := by
  unfold Pg.signed
  have e : Pg.num (Pg.wide w z) = (z % (256 ^ w : Nat)).toNat := by
    unfold Pg.wide
    refine num_le_lt ?_
    have hp : (0 : Int) < (256 ^ w : Nat) := by rw [cast_pow]; exact pow_pos w
    have := Int.emod_lt_of_pos z hp
    have := Int.emod_nonneg z (show ((256 ^ w : Nat) : Int) ≠ 0 by omega)
    omega
  rw [e, wide_len]
  dsimp only
  rw [cast_pow]
  have hp := pow_pos w
  by_cases hz : 0 ≤ z
  · have e2 : z % 256 ^ w = z := Int.emod_eq_of_lt hz (by omega)
    rw [e2, if_neg]
    · omega
    · have : ((256 ^ w : Nat) : Int) = 256 ^ w := cast_pow w
      omega
  · have e2 : z % 256 ^ w = z + 256 ^ w := by
      rw [← Int.add_emod_right, Int.emod_eq_of_lt (by omega) (by omega)]
    rw [e2, if_pos]
    · omega
    · have : ((256 ^ w : Nat) : Int) = 256 ^ w := cast_pow w
      omega
theorem take_le (w n : Nat) (r : List Nat) : (Pg.le w n ++ r).take w = Pg.le w n := by
  rw [List.take_append_of_le_length (by rw [le_len]; exact Nat.le_refl _), List.take_of_length_le (by rw [le_len]; exact Nat.le_refl _)]
theorem drop_le (w n : Nat) (r : List Nat) : (Pg.le w n ++ r).drop w = r := by
  have h := le_len w n
  rw [List.drop_append_of_le_length (by omega), List.drop_of_length_le (by omega), List.nil_append]
theorem take_wide (w : Nat) (z : Int) (r : List Nat) : (Pg.wide w z ++ r).take w = Pg.wide w z := take_le _ _ _
theorem drop_wide (w : Nat) (z : Int) (r : List Nat) : (Pg.wide w z ++ r).drop w = r := drop_le _ _ _
theorem take_app (a r : List Nat) : (a ++ r).take a.length = a := by
  rw [List.take_append_of_le_length (Nat.le_refl _), List.take_of_length_le (Nat.le_refl _)]
theorem drop_app (a r : List Nat) : (a ++ r).drop a.length = r := by
  rw [List.drop_append_of_le_length (Nat.le_refl _), List.drop_of_length_le (Nat.le_refl _), List.nil_append]
/-! packed numbers -/
theorem packed_len (q : Nat) (l : List Nat) : (Pg.packed q l).length = Pg.packedLong q l.length := by
  unfold Pg.packed
  rw [le_len]
theorem num_packed (q : Nat) (l : List Nat) : Pg.num (Pg.packed q l) = Pg.together q l := by
  unfold Pg.packed
  refine num_le_lt (Nat.lt_of_lt_of_le together_lt ?_)
  rw [show (256 : Nat) = 2 ^ 8 from rfl, ← Nat.pow_mul]
  refine Nat.pow_le_pow_right (by decide) ?_
  unfold Pg.packedLong
  have : l.length * q = q * l.length := Nat.mul_comm _ _
  omega
theorem together_get {q : Nat} : ∀ {l : List Nat} {i x : Nat}, fits q l → l[i]? = some x → Pg.together q l / 2 ^ (q * i) % 2 ^ q = x
  | [], i, x, _, h => by simp at h
  | y :: l, 0, x, hf, h => by
    have e : y = x := Option.some.inj h
    subst e
    have hy := hf y List.mem_cons_self
    rw [together_cons hy, Nat.mul_zero, Nat.pow_zero, Nat.div_one, Nat.mul_comm, Nat.mul_add_mod, Nat.mod_eq_of_lt hy]
  | y :: l, i + 1, x, hf, h => by
    have hy := hf y List.mem_cons_self
    have ih := together_get (q := q) (l := l) (i := i) (x := x) (fun z hz => hf z (List.mem_cons_of_mem _ hz)) (by simpa using h)
    have hp : 0 < 2 ^ q := Nat.pow_pos (by decide)
    rw [together_cons hy, Nat.mul_add, Nat.mul_one, Nat.add_comm (q * i) q, Nat.pow_add, ← Nat.div_div_eq_div_mul, Nat.mul_comm (Pg.together q l), Nat.mul_add_div hp, Nat.div_eq_of_lt hy, Nat.add_zero]
    exact ih
theorem unpacked_packed {q : Nat} {l : List Nat} (hf : fits q l) (k : Nat) (hk : k = l.length) : Pg.unpacked q k (Pg.packed q l) = l := by
  subst hk
  unfold Pg.unpacked
  rw [num_packed]
  apply List.ext_getElem?
  intro i
  rw [List.getElem?_map]
  by_cases hi : i < l.length
  · rw [List.getElem?_range hi, List.getElem?_eq_getElem hi]
    show some (Pg.together q l / 2 ^ (q * i) % 2 ^ q) = some l[i]
    rw [together_get hf (List.getElem?_eq_getElem hi)]
  · rw [List.getElem?_eq_none (by rw [List.length_range]; omega), List.getElem?_eq_none (by omega)]
    rfl
/-! values one behind another -/
theorem is_num' {k : Nat} {z : Int} (h : (Pg.Val.num z).is k = true) : k = 0 ∧ -(2 ^ 63) ≤ z ∧ z < 2 ^ 63 := by
  unfold Pg.Val.is Pg.inRange at h
  rw [Bool.and_eq_true, beq_iff_eq, Bool.and_eq_true, decide_eq_true_eq, decide_eq_true_eq] at h
  exact h
theorem is_str' {k : Nat} {b : List Nat} (h : (Pg.Val.str b).is k = true) : k = 1 ∧ b.length ≤ 40 := by
  unfold Pg.Val.is at h
  rw [Bool.and_eq_true, beq_iff_eq, Bool.and_eq_true, decide_eq_true_eq] at h
  exact ⟨h.1, h.2.1⟩
theorem signed8 {z : Int} (h1 : -(2 ^ 63) ≤ z) (h2 : z < 2 ^ 63) : Pg.signed (Pg.wide 8 z) = z := signed_wide (by show -(18446744073709551616 : Int) ≤ 2 * z; omega) (by show 2 * z < (18446744073709551616 : Int); omega)
theorem pieces_num : ∀ (l : List Pg.Val) (r : List Nat), (∀ v ∈ l, v.is 0 = true) → (Pg.piecesOf 8 l.length (l.flatMap Pg.raw ++ r)).map (fun x => Pg.Val.num (Pg.signed x)) = l ∧ (l.flatMap Pg.raw ++ r).drop (8 * l.length) = r ∧ (l.flatMap Pg.raw).length = 8 * l.length
  | [], r, _ => ⟨rfl, rfl, rfl⟩
  | v :: l, r, h => by
    obtain ⟨h1, h2, h3⟩ := pieces_num l r fun u hu => h u (List.mem_cons_of_mem _ hu)
    have iv := h v List.mem_cons_self
    cases v with
    | str b => have := (is_str' iv).1; omega
    | num z =>
      obtain ⟨_, r1, r2⟩ := is_num' iv
      have e : (Pg.Val.num z :: l).flatMap Pg.raw ++ r = Pg.wide 8 z ++ (l.flatMap Pg.raw ++ r) := by
        rw [List.flatMap_cons, List.append_assoc]
        rfl
      rw [e]
      refine ⟨?_, ?_, ?_⟩
      · show Pg.Val.num (Pg.signed ((Pg.wide 8 z ++ (l.flatMap Pg.raw ++ r)).take 8)) :: (Pg.piecesOf 8 l.length ((Pg.wide 8 z ++ (l.flatMap Pg.raw ++ r)).drop 8)).map (fun x => Pg.Val.num (Pg.signed x)) = _
        rw [take_wide, drop_wide, h1, signed8 r1 r2]
      · rw [List.length_cons, show 8 * (l.length + 1) = 8 + 8 * l.length by omega, ← List.drop_drop, drop_wide, h2]
      · rw [List.flatMap_cons, List.length_append, h3, List.length_cons]
        show (Pg.wide 8 z).length + _ = _
        rw [wide_len]
        omega
theorem pieces_len : ∀ (l : List Pg.Val) (r : List Nat), (∀ v ∈ l, (Pg.raw v).length ≤ 40) → (Pg.piecesOf 4 l.length ((l.flatMap fun v => Pg.le 4 (Pg.raw v).length) ++ r)).map Pg.num = l.map (fun v => (Pg.raw v).length) ∧ ((l.flatMap fun v => Pg.le 4 (Pg.raw v).length) ++ r).drop (4 * l.length) = r ∧ (l.flatMap fun v => Pg.le 4 (Pg.raw v).length).length = 4 * l.length
  | [], r, _ => ⟨rfl, rfl, rfl⟩
  | v :: l, r, h => by
    obtain ⟨h1, h2, h3⟩ := pieces_len l r fun u hu => h u (List.mem_cons_of_mem _ hu)
    have iv := h v List.mem_cons_self
    have e : ((v :: l).flatMap fun v => Pg.le 4 (Pg.raw v).length) ++ r = Pg.le 4 (Pg.raw v).length ++ ((l.flatMap fun v => Pg.le 4 (Pg.raw v).length) ++ r) := by
      rw [List.flatMap_cons, List.append_assoc]
    rw [e]
    refine ⟨?_, ?_, ?_⟩
    · show Pg.num ((Pg.le 4 (Pg.raw v).length ++ ((l.flatMap fun v => Pg.le 4 (Pg.raw v).length) ++ r)).take 4) :: (Pg.piecesOf 4 l.length ((Pg.le 4 (Pg.raw v).length ++ ((l.flatMap fun v => Pg.le 4 (Pg.raw v).length) ++ r)).drop 4)).map Pg.num = _
      rw [take_le, drop_le, h1, num_le_lt (by show _ < 4294967296; omega)]
      rfl
    · rw [List.length_cons, show 4 * (l.length + 1) = 4 + 4 * l.length by omega, ← List.drop_drop, drop_le, h2]
    · rw [List.flatMap_cons, List.length_append, h3, List.length_cons, le_len]
      omega
theorem cut_raws : ∀ (l : List Pg.Val) (r : List Nat), (∀ v ∈ l, v.is 1 = true) → (Pg.cutBy (l.map fun v => (Pg.raw v).length) (l.flatMap Pg.raw ++ r)).map Pg.Val.str = l
  | [], r, _ => rfl
  | v :: l, r, h => by
    have ih := cut_raws l r fun u hu => h u (List.mem_cons_of_mem _ hu)
    have iv := h v List.mem_cons_self
    cases v with
    | num z => have := (is_num' iv).1; omega
    | str b =>
      have e : (Pg.Val.str b :: l).flatMap Pg.raw ++ r = b ++ (l.flatMap Pg.raw ++ r) := by
        rw [List.flatMap_cons, List.append_assoc]
        rfl
      rw [e]
      show Pg.Val.str ((b ++ (l.flatMap Pg.raw ++ r)).take b.length) :: (Pg.cutBy (l.map fun v => (Pg.raw v).length) ((b ++ (l.flatMap Pg.raw ++ r)).drop b.length)).map Pg.Val.str = _
      rw [take_app, drop_app, ih]
theorem sum_raws : ∀ l : List Pg.Val, (l.map fun v => (Pg.raw v).length).foldr (fun (x y : Nat) => x + y) 0 = (l.flatMap Pg.raw).length
  | [] => rfl
  | v :: l => by
    rw [List.flatMap_cons, List.length_append, ← sum_raws l]
    rfl
theorem plainIn_eq {k : Nat} {l : List Pg.Val} (hk : k ≤ 1) (hi : ∀ v ∈ l, v.is k = true) (r : List Nat) : Pg.plainIn k l.length (Pg.plain k l ++ r) = some (l, r) := by
  rcases (show k = 0 ∨ k = 1 by omega) with rfl | rfl
  · obtain ⟨h1, h2, h3⟩ := pieces_num l r hi
    have e : Pg.plain 0 l = l.flatMap Pg.raw := by
      unfold Pg.plain
      rw [if_neg (by decide), List.nil_append]
    rw [e]
    unfold Pg.plainIn
    rw [if_pos rfl, if_neg (by rw [List.length_append]; omega), h1, h2]
  · have hr : ∀ v ∈ l, (Pg.raw v).length ≤ 40 := fun v hv => raw_le (hi v hv)
    have e : Pg.plain 1 l ++ r = (l.flatMap fun v => Pg.le 4 (Pg.raw v).length) ++ (l.flatMap Pg.raw ++ r) := by
      unfold Pg.plain
      rw [if_pos rfl, List.append_assoc]
    obtain ⟨h1, h2, h3⟩ := pieces_len l (l.flatMap Pg.raw ++ r) hr
    have h4 := cut_raws l r hi
    have h5 := sum_raws l
    rw [e]
    unfold Pg.plainIn
    rw [if_neg (by decide), if_neg (by rw [List.length_append]; omega)]
    dsimp only
    rw [h1, h5, if_neg, h2, h4]
    · congr 2
      rw [← List.drop_drop, h2, drop_app]
    · rintro (h | h)
      · obtain ⟨x, hx, hd⟩ := List.any_eq_true.mp h
        obtain ⟨v, hv, rfl⟩ := List.mem_map.mp hx
        have := hr v hv
        have h40 : Pg.LONG < (Pg.raw v).length := of_decide_eq_true hd
        have : Pg.LONG = 40 := rfl
        omega
      · rw [List.length_append, List.length_append] at h
        omega
theorem plain_one {k : Nat} {v : Pg.Val} (hk : k ≤ 1) (hi : v.is k = true) : Pg.plain k [v] = Pg.alone v := by
  cases v with
  | num z =>
    have := (is_num' hi).1
    subst this
    show [] ++ (Pg.wide 8 z ++ []) = Pg.wide 8 z
    simp
  | str b =>
    have := (is_str' hi).1
    subst this
    show (Pg.le 4 b.length ++ []) ++ (b ++ []) = Pg.le 4 b.length ++ b
    simp
theorem aloneIn_eq {k : Nat} {v : Pg.Val} (hk : k ≤ 1) (hi : v.is k = true) (r : List Nat) : Pg.aloneIn k (Pg.alone v ++ r) = some (v, r) := by
  have h : Pg.plainIn k 1 (Pg.plain k [v] ++ r) = some ([v], r) := plainIn_eq (l := [v]) hk (fun u hu => by rw [List.mem_singleton.mp hu]; exact hi) r
  unfold Pg.aloneIn
  rw [← plain_one hk hi, h]
/-! runs -/
def expand (rs : List (Nat × Pg.Val)) : List Pg.Val := rs.flatMap fun x => List.replicate x.1 x.2
theorem expand_runs : ∀ l : List Pg.Val, expand (Pg.runsOf l) = l
  | [] => rfl
  | u :: l => by
    have ih := expand_runs l
    rw [runsOf_cons]
    cases e : Pg.runsOf l with
    | nil =>
      rw [e] at ih
      have : l = [] := ih.symm
      subst this
      rfl
    | cons p s =>
      obtain ⟨n, w⟩ := p
      rw [e] at ih
      show expand (if Pg.same w u = true then (n + 1, w) :: s else (1, u) :: (n, w) :: s) = _
      have ih' : List.replicate n w ++ expand s = l := ih
      split
      · rename_i h
        have := same_iff.mp h
        subst this
        show List.replicate (n + 1) w ++ expand s = w :: l
        rw [List.replicate_succ, List.cons_append, ih']
      · show [u] ++ (List.replicate n w ++ expand s) = u :: l
        rw [ih']
        rfl
theorem runsIn_eq {k : Nat} (hk : k ≤ 1) : ∀ (rs : List (Nat × Pg.Val)) (r : List Nat), (∀ x ∈ rs, x.2.is k = true ∧ x.1 ≤ 64) → Pg.runsIn k rs.length ((rs.flatMap fun (x : Nat × Pg.Val) => Pg.le 4 x.1 ++ Pg.alone x.2) ++ r) = some (expand rs, r)
  | [], r, _ => rfl
  | (n, v) :: rs, r, h => by
    have ih := runsIn_eq hk rs r fun x hx => h x (List.mem_cons_of_mem _ hx)
    obtain ⟨h1, h2⟩ := h (n, v) List.mem_cons_self
    have h2' : n ≤ 64 := h2
    have e : (((n, v) :: rs).flatMap fun (x : Nat × Pg.Val) => Pg.le 4 x.1 ++ Pg.alone x.2) ++ r = Pg.le 4 n ++ (Pg.alone v ++ ((rs.flatMap fun (x : Nat × Pg.Val) => Pg.le 4 x.1 ++ Pg.alone x.2) ++ r)) := by
      rw [List.flatMap_cons, List.append_assoc, List.append_assoc]
    rw [e]
    generalize (rs.flatMap fun (x : Nat × Pg.Val) => Pg.le 4 x.1 ++ Pg.alone x.2) ++ r = t at ih
    show Pg.runsIn k (rs.length + 1) (Pg.le 4 n ++ (Pg.alone v ++ t)) = _
    unfold Pg.runsIn
    have hn : Pg.num ((Pg.le 4 n ++ (Pg.alone v ++ t)).take 4) = n := by
      rw [take_le, num_le_lt (by show n < 4294967296; omega)]
    rw [if_neg, hn, drop_le, aloneIn_eq hk h1]
    · dsimp only
      rw [ih]
      rfl
    · rw [hn]
      rintro (h | h)
      · rw [List.length_append, le_len] at h
        omega
      · have : Pg.ROWS = 64 := rfl
        omega
/-! shared -/
theorem sharedIn_eq : ∀ (l : List Pg.Val) (u r : List Nat), (∀ v ∈ l, v.is 1 = true) → Pg.sharedIn l.length u (Pg.sharedFrom u l ++ r) = some (l, r)
  | [], u, r, _ => rfl
  | v :: l, u, r, h => by
    have iv := h v List.mem_cons_self
    cases v with
    | num z => have := (is_num' iv).1; omega
    | str c =>
      have ih := sharedIn_eq l c r fun x hx => h x (List.mem_cons_of_mem _ hx)
      have hc := (is_str' iv).2
      have cl := common_le u c
      have e : Pg.sharedFrom u (.str c :: l) ++ r = Pg.le 4 (Pg.common u c) ++ (Pg.le 4 (c.length - Pg.common u c) ++ (c.drop (Pg.common u c) ++ (Pg.sharedFrom c l ++ r))) := by
        show (Pg.le 4 (Pg.common u c) ++ (Pg.le 4 (c.length - Pg.common u c) ++ (c.drop (Pg.common u c) ++ Pg.sharedFrom c l))) ++ r = _
        simp only [List.append_assoc]
      have ctake : u.take (Pg.common u c) = c.take (Pg.common u c) := common_take u c
      rw [e]
      generalize Pg.common u c = n at cl ctake
      generalize Pg.sharedFrom c l ++ r = t at ih
      show Pg.sharedIn (l.length + 1) u (Pg.le 4 n ++ (Pg.le 4 (c.length - n) ++ (c.drop n ++ t))) = _
      unfold Pg.sharedIn
      have e1 : Pg.num ((Pg.le 4 n ++ (Pg.le 4 (c.length - n) ++ (c.drop n ++ t))).take 4) = n := by
        rw [take_le, num_le_lt (by show n < 4294967296; omega)]
      have e2 : Pg.num (((Pg.le 4 n ++ (Pg.le 4 (c.length - n) ++ (c.drop n ++ t))).drop 4).take 4) = c.length - n := by
        rw [drop_le, take_le, num_le_lt (by show c.length - n < 4294967296; omega)]
      have e3 : (Pg.le 4 n ++ (Pg.le 4 (c.length - n) ++ (c.drop n ++ t))).drop 8 = c.drop n ++ t := by
        rw [show (8 : Nat) = 4 + 4 from rfl, ← List.drop_drop, drop_le, drop_le]
      have dl : (c.drop n).length = c.length - n := List.length_drop
      dsimp only
      rw [e1, e2, if_neg]
      · rw [e3]
        have e4 : (c.drop n ++ t).take (c.length - n) = c.drop n := by rw [← dl, take_app]
        have e5 : (Pg.le 4 n ++ (Pg.le 4 (c.length - n) ++ (c.drop n ++ t))).drop (8 + (c.length - n)) = t := by
          rw [← List.drop_drop, e3, ← dl, drop_app]
        rw [e4, e5, ctake, List.take_append_drop, ih]
      · have hL : Pg.LONG = 40 := rfl
        rw [hL]
        simp only [List.length_append, le_len, dl]
        omega
where
  common_take : ∀ u c : List Nat, u.take (Pg.common u c) = c.take (Pg.common u c)
    | [], c => by
      show ([] : List Nat).take 0 = c.take 0
      rw [List.take_zero, List.take_zero]
    | x :: u, [] => by
      show (x :: u).take 0 = ([] : List Nat).take 0
      rw [List.take_zero, List.take_zero]
    | x :: u, y :: c => by
      show (x :: u).take (if x = y then Pg.common u c + 1 else 0) = (y :: c).take (if x = y then Pg.common u c + 1 else 0)
      by_cases h : x = y
      · subst h
        rw [if_pos rfl, List.take_succ_cons, List.take_succ_cons, common_take u c]
      · rw [if_neg h, List.take_zero, List.take_zero]
/-! numbers -/
theorem zs_of {l : List Pg.Val} (hi : ∀ v ∈ l, v.is 0 = true) : (l.map Pg.zOf).map Pg.Val.num = l := by
  rw [List.map_map]
  refine (List.map_congr_left fun v hv => ?_).trans (List.map_id l)
  have iv := hi v hv
  cases v with
  | num z => rfl
  | str b => have := (is_str' iv).1; omega
theorem zs_range {l : List Pg.Val} (hi : ∀ v ∈ l, v.is 0 = true) : ∀ z ∈ l.map Pg.zOf, -(2 ^ 63) ≤ z ∧ z < 2 ^ 63 := fun z hz => by
  obtain ⟨v, hv, rfl⟩ := List.mem_map.mp hz
  have iv := hi v hv
  cases v with
  | num z => exact (is_num' iv).2
  | str b => have := (is_str' iv).1; omega
/-- of the numbers zs: how far each lies above the least, in q bits -/
theorem above_parts {z : Int} {r : List Int} : PfM.aboveL (z :: r) = Pg.bitsFor (r.foldl max z - r.foldl min z).toNat :: Pg.packed (Pg.bitsFor (r.foldl max z - r.foldl min z).toNat) ((z :: r).map fun (x : Int) => (x - r.foldl min z).toNat) := rfl
theorem above_fits (z : Int) (r : List Int) : fits (Pg.bitsFor (r.foldl max z - r.foldl min z).toNat) ((z :: r).map fun (x : Int) => (x - r.foldl min z).toNat) := by
  intro x hx
  obtain ⟨y, hy, rfl⟩ := List.mem_map.mp hx
  have h1 := (fmin r z).2 y hy
  have h2 := (fmax r z).2 y hy
  exact Nat.lt_of_le_of_lt (by omega) (bits_lt _)
theorem above_back (z : Int) (r : List Int) (k : Nat) (hk : k = (z :: r).length) : (Pg.unpacked ((PfM.aboveL (z :: r)).getD 0 0) k ((PfM.aboveL (z :: r)).drop 1)).map (fun (x : Nat) => leastOf (z :: r) + (x : Int)) = z :: r := by
  show (Pg.unpacked (Pg.bitsFor (r.foldl max z - r.foldl min z).toNat) k (Pg.packed (Pg.bitsFor (r.foldl max z - r.foldl min z).toNat) ((z :: r).map fun (x : Int) => (x - r.foldl min z).toNat))).map (fun (x : Nat) => r.foldl min z + (x : Int)) = z :: r
  rw [unpacked_packed (above_fits z r) k (by rw [List.length_map]; exact hk), List.map_map]
  refine (List.map_congr_left fun y hy => ?_).trans (List.map_id _)
  have h1 := (fmin r z).2 y hy
  show r.foldl min z + (((y - r.foldl min z).toNat : Nat) : Int) = y
  omega
theorem sums_steps : ∀ (z : Int) (r : List Int), Pg.sumsFrom z (Pg.stepsOf (z :: r)) = z :: r
  | z, [] => rfl
  | z, y :: r => by
    show z :: Pg.sumsFrom (z + (y - z)) (Pg.stepsOf (y :: r)) = z :: y :: r
    rw [show z + (y - z) = y by omega, sums_steps y r]
end PfM
namespace PfM
/-! ## a page read back by the specification -/
theorem filter_index {D : List Pg.Val} (hn : D.Nodup) : ∀ l : List Pg.Val, (∀ v ∈ l, v ∈ D) → (l.map (Pg.indexOf D)).filterMap (fun i => D[i]?) = l
  | [], _ => rfl
  | v :: l, h => by
    have hv := index_lt hn (h v List.mem_cons_self)
    rw [List.map_cons, List.filterMap_cons, hv.2, filter_index hn l fun u hu => h u (List.mem_cons_of_mem _ hu)]
theorem one_all {l : List Pg.Val} {b : List Nat} (h : Pg.one l = some b) : ∃ v r, l = v :: r ∧ b = Pg.alone v ∧ l = List.replicate l.length v := by
  cases l with
  | nil => cases h
  | cons v r =>
    have h' : (if r.all (Pg.same v) = true then some (Pg.alone v) else none) = some b := h
    split at h'
    · rename_i ha
      cases h'
      refine ⟨v, r, rfl, rfl, ?_⟩
      rw [List.length_cons, List.replicate_succ]
      congr 1
      rw [List.eq_replicate_iff]
      exact ⟨rfl, fun u hu => (same_iff.mp (List.all_eq_true.mp ha u hu)).symm⟩
    · cases h'
theorem vi0 {kind k : Nat} {b : List Nat} (h : k ≠ 0) : Pg.valuesIn kind 0 k b = (match Pg.plainIn kind k b with | some (l, []) => some l | _ => none) := if_neg h
theorem vi1 {kind k : Nat} {b : List Nat} (h : k ≠ 0) : Pg.valuesIn kind 1 k b = (match Pg.aloneIn kind b with | some (v, []) => some (List.replicate k v) | _ => none) := if_neg h
theorem vi2 {kind k : Nat} {b : List Nat} (h : k ≠ 0) : Pg.valuesIn kind 2 k b = (if 64 < Pg.num (b.take 4) then none else (match Pg.runsIn kind (Pg.num (b.take 4)) (b.drop 4) with | some (l, []) => some l | _ => none)) := if_neg h
theorem vi3 {kind k : Nat} {b : List Nat} (h : k ≠ 0) : Pg.valuesIn kind 3 k b = (if 64 < Pg.num (b.take 4) then none else (match Pg.plainIn kind (Pg.num (b.take 4)) (b.drop 4) with | some (d, r) => some ((Pg.unpacked (Pg.bitsFor (d.length - 1)) k r).filterMap fun (i : Nat) => d[i]?) | none => none)) := if_neg h
theorem vi4 {kind k : Nat} {b : List Nat} (h : k ≠ 0) : Pg.valuesIn kind 4 k b = (if 64 < b.getD 8 0 then none else some ((Pg.unpacked (b.getD 8 0) k (b.drop 9)).map fun (x : Nat) => .num (Pg.signed (b.take 8) + x))) := if_neg h
theorem vi5 {kind k : Nat} {b : List Nat} (h : k ≠ 0) : Pg.valuesIn kind 5 k b = (if 65 < b.getD 17 0 then none else some ((Pg.sumsFrom (Pg.signed (b.take 8)) ((Pg.unpacked (b.getD 17 0) (k - 1) (b.drop 18)).map fun (x : Nat) => Pg.signed ((b.drop 8).take 9) + x)).map Pg.Val.num)) := if_neg h
theorem vi6 {kind k : Nat} {b : List Nat} (h : k ≠ 0) : Pg.valuesIn kind 6 k b = (match Pg.sharedIn k [] b with | some (l, []) => some l | _ => none) := if_neg h
/-- each way, read back -/
theorem valuesIn_eq {k : Nat} {l : List Pg.Val} (hk : k ≤ 1) (hi : ∀ v ∈ l, v.is k = true) (hl : l.length ≤ 64) (hne : l ≠ []) {e : Nat} {b : List Nat} (h : (Pg.ways k l)[e]? = some (some b)) : Pg.valuesIn k e l.length b = some l := by
  have h0 : l.length ≠ 0 := fun z => hne (List.eq_nil_of_length_eq_zero z)
  have he : e < 7 := by
    have := (List.getElem?_eq_some_iff.mp h).1
    exact this
  have e7 : e = 0 ∨ e = 1 ∨ e = 2 ∨ e = 3 ∨ e = 4 ∨ e = 5 ∨ e = 6 := by omega
  rcases e7 with rfl | rfl | rfl | rfl | rfl | rfl | rfl
  · have hb : some (Pg.plain k l) = some b := Option.some.inj h
    cases hb
    have hp := plainIn_eq hk hi []
    rw [List.append_nil] at hp
    rw [vi0 h0]
    rw [hp]
  · have hb : Pg.one l = some b := Option.some.inj h
    obtain ⟨v, r, e1, e2, e3⟩ := one_all hb
    have iv : v.is k = true := hi v (by rw [e1]; exact List.mem_cons_self)
    have hp := aloneIn_eq hk iv []
    rw [List.append_nil, ← e2] at hp
    rw [vi1 h0]
    rw [hp]
    try dsimp only
    rw [← e3]
  · have hb : some (Pg.runs l) = some b := Option.some.inj h
    cases hb
    have rl := runs_len l
    have hp := runsIn_eq hk (Pg.runsOf l) [] fun x hx => ⟨hi _ (runs_vals l x hx).1, by have := (runs_vals l x hx).2; omega⟩
    rw [List.append_nil] at hp
    have e1 : Pg.num ((Pg.runs l).take 4) = (Pg.runsOf l).length := by
      unfold Pg.runs
      rw [take_le, num_le_lt (by show _ < 4294967296; omega)]
    have e2 : (Pg.runs l).drop 4 = (Pg.runsOf l).flatMap fun (x : Nat × Pg.Val) => Pg.le 4 x.1 ++ Pg.alone x.2 := by
      unfold Pg.runs
      rw [drop_le]
    rw [vi2 h0]
    rw [e1, e2, if_neg (by omega), hp]
    try dsimp only
    rw [expand_runs]
  · have hb : some (Pg.dictionary k l) = some b := Option.some.inj h
    cases hb
    have dl := words_len l
    have dn := words_nodup l
    have hin : ∀ v ∈ Pg.wordsOf l, v.is k = true := fun v hv => hi v ((words_mem l v).mp hv)
    have e1 : Pg.num ((Pg.dictionary k l).take 4) = (Pg.wordsOf l).length := by
      rw [dictionary_eq, take_le, num_le_lt (by show _ < 4294967296; omega)]
    have e2 : (Pg.dictionary k l).drop 4 = Pg.plain k (Pg.wordsOf l) ++ Pg.packed (Pg.bitsFor ((Pg.wordsOf l).length - 1)) (l.map (Pg.indexOf (Pg.wordsOf l))) := by
      rw [dictionary_eq, drop_le]
    have hf : fits (Pg.bitsFor ((Pg.wordsOf l).length - 1)) (l.map (Pg.indexOf (Pg.wordsOf l))) := by
      intro j hj
      obtain ⟨v, hv, rfl⟩ := List.mem_map.mp hj
      have := index_lt dn ((words_mem l v).mpr hv)
      exact Nat.lt_of_le_of_lt (by omega) (bits_lt _)
    rw [vi3 h0]
    rw [e1, e2, if_neg (by omega), plainIn_eq hk hin]
    try dsimp only
    rw [unpacked_packed hf _ (by rw [List.length_map]), filter_index dn l fun v hv => (words_mem l v).mpr hv]
  · have hb : Pg.fromLeast k l = some b := Option.some.inj h
    have k0 : k = 0 := by
      rcases (show k = 0 ∨ k = 1 by omega) with h | h
      · exact h
      · subst h
        cases l with
        | nil => cases hb
        | cons v r => cases hb
    subst k0
    rw [fromLeast_eq l hne] at hb
    cases hb
    have zr := zs_range hi
    have zz := zs_of hi
    cases hm : l.map Pg.zOf with
    | nil => exact absurd (by simpa using hm) hne
    | cons z r =>
      rw [hm] at zr zz
      have hlen : l.length = (z :: r).length := by rw [← hm, List.length_map]
      have mb := zr _ (fmin r z).1
      have ab := above_back z r l.length hlen
      have e8 : (Pg.wide 8 (leastOf (z :: r)) ++ aboveL (z :: r)).getD 8 0 = (aboveL (z :: r)).getD 0 0 := by
        rw [List.getD_eq_getElem?_getD, List.getD_eq_getElem?_getD, List.getElem?_append_right (by rw [wide_len]; exact Nat.le_refl _), wide_len]
      have e9 : (Pg.wide 8 (leastOf (z :: r)) ++ aboveL (z :: r)).drop 9 = (aboveL (z :: r)).drop 1 := by
        rw [show (9 : Nat) = 8 + 1 from rfl, ← List.drop_drop, drop_wide]
      have hq : (aboveL (z :: r)).getD 0 0 ≤ 64 := by
        show Pg.bitsFor (r.foldl max z - r.foldl min z).toNat ≤ 64
        have xb := zr _ (fmax r z).1
        exact bits_le (by omega)
      rw [vi4 h0]
      rw [e8, e9, if_neg (by omega), take_wide]
      have s8 : Pg.signed (Pg.wide 8 (leastOf (z :: r))) = leastOf (z :: r) := signed8 mb.1 mb.2
      rw [s8]
      have : (Pg.unpacked ((aboveL (z :: r)).getD 0 0) l.length ((aboveL (z :: r)).drop 1)).map (fun (x : Nat) => Pg.Val.num (leastOf (z :: r) + (x : Int))) = ((Pg.unpacked ((aboveL (z :: r)).getD 0 0) l.length ((aboveL (z :: r)).drop 1)).map (fun (x : Nat) => leastOf (z :: r) + (x : Int))).map Pg.Val.num := by
        rw [List.map_map]
        rfl
      rw [this, ab, zz]
  · have hb : Pg.differences k l = some b := Option.some.inj h
    have k0 : k = 0 := by
      rcases (show k = 0 ∨ k = 1 by omega) with h | h
      · exact h
      · subst h
        cases hb
    subst k0
    have h2 : 2 ≤ l.length := by
      rcases Nat.lt_or_ge l.length 2 with h | h
      · rw [differences_none l h] at hb
        cases hb
      · exact h
    rw [differences_eq l h2] at hb
    cases hb
    have zr := zs_range hi
    have zz := zs_of hi
    have hlm : (l.map Pg.zOf).length = l.length := List.length_map _
    cases hm : l.map Pg.zOf with
    | nil => exact absurd (by simpa using hm) hne
    | cons z r =>
      rw [hm] at zr zz hlm
      have sl := steps_len (z :: r)
      have ss := sums_steps z r
      cases hs : Pg.stepsOf (z :: r) with
      | nil =>
        rw [hs, List.length_nil] at sl
        omega
      | cons d t =>
        have hsb : ∀ y ∈ d :: t, -(2 ^ 64) < y ∧ y < 2 ^ 64 := by
          intro y hy
          rw [← hs] at hy
          obtain ⟨i, hi', ey⟩ := List.mem_iff_getElem.mp hy
          have h1 : i < (z :: r).length := by omega
          have h3 : i + 1 < (z :: r).length := by omega
          have gs := steps_get (z :: r) i _ _ (List.getElem?_eq_getElem h1) (List.getElem?_eq_getElem h3)
          have e2 := Option.some.inj ((List.getElem?_eq_getElem hi').symm.trans gs)
          have b1 := zr _ (List.getElem_mem h1)
          have b2 := zr _ (List.getElem_mem h3)
          rw [← ey, e2]
          omega
        have mb := hsb _ (fmin t d).1
        have xb := hsb _ (fmax t d).1
        have ab := above_back d t (l.length - 1) (by rw [← hs, sl]; omega)
        rw [hs] at ss
        have e17 : (Pg.wide 8 z ++ (Pg.wide 9 (leastOf (d :: t)) ++ aboveL (d :: t))).getD 17 0 = (aboveL (d :: t)).getD 0 0 := by
          rw [List.getD_eq_getElem?_getD, List.getD_eq_getElem?_getD, List.getElem?_append_right (by rw [wide_len]; decide), wide_len, List.getElem?_append_right (by rw [wide_len]; decide), wide_len]
        have e18 : (Pg.wide 8 z ++ (Pg.wide 9 (leastOf (d :: t)) ++ aboveL (d :: t))).drop 18 = (aboveL (d :: t)).drop 1 := by
          rw [show (18 : Nat) = 8 + (9 + 1) from rfl, ← List.drop_drop, drop_wide, ← List.drop_drop, drop_wide]
        have e89 : ((Pg.wide 8 z ++ (Pg.wide 9 (leastOf (d :: t)) ++ aboveL (d :: t))).drop 8).take 9 = Pg.wide 9 (leastOf (d :: t)) := by
          rw [drop_wide, take_wide]
        have hq : (aboveL (d :: t)).getD 0 0 ≤ 65 := by
          show Pg.bitsFor (t.foldl max d - t.foldl min d).toNat ≤ 65
          exact bits_le (by omega)
        have s9 : Pg.signed (Pg.wide 9 (leastOf (d :: t))) = leastOf (d :: t) := signed_wide (by show -(4722366482869645213696 : Int) ≤ 2 * (t.foldl min d); omega) (by show 2 * (t.foldl min d) < (4722366482869645213696 : Int); omega)
        have zb := zr z List.mem_cons_self
        rw [vi5 h0]
        show (if 65 < (Pg.wide 8 z ++ (Pg.wide 9 (leastOf (d :: t)) ++ aboveL (d :: t))).getD 17 0 then none else some ((Pg.sumsFrom (Pg.signed ((Pg.wide 8 z ++ (Pg.wide 9 (leastOf (d :: t)) ++ aboveL (d :: t))).take 8)) ((Pg.unpacked ((Pg.wide 8 z ++ (Pg.wide 9 (leastOf (d :: t)) ++ aboveL (d :: t))).getD 17 0) (l.length - 1) ((Pg.wide 8 z ++ (Pg.wide 9 (leastOf (d :: t)) ++ aboveL (d :: t))).drop 18)).map fun (x : Nat) => Pg.signed (((Pg.wide 8 z ++ (Pg.wide 9 (leastOf (d :: t)) ++ aboveL (d :: t))).drop 8).take 9) + (x : Int))).map Pg.Val.num)) = some l
        rw [e17, e18, e89, s9, take_wide, signed8 zb.1 zb.2, if_neg (by omega), ab, ss, zz]
  · have hb : Pg.shared k l = some b := Option.some.inj h
    have k1 : k = 1 := by
      rcases (show k = 0 ∨ k = 1 by omega) with h | h
      · subst h
        cases hb
      · exact h
    subst k1
    have hb' : some (Pg.sharedFrom [] l) = some b := hb
    cases hb'
    have hp := sharedIn_eq l [] [] hi
    rw [List.append_nil] at hp
    rw [vi6 h0]
    rw [hp]
end PfM
namespace PfM
theorem vals_cons (x : Pg.Cell) (c : List Pg.Cell) : Pg.valuesOf (x :: c) = x.toList ++ Pg.valuesOf c := by
  unfold Pg.valuesOf
  rw [List.filterMap_cons]
  cases x <;> rfl
theorem spread_cells : ∀ c : List Pg.Cell, Pg.spread (c.map Option.isSome) (Pg.valuesOf c) = c
  | [] => rfl
  | none :: c => by
    rw [vals_cons]
    show none :: Pg.spread (c.map Option.isSome) (Pg.valuesOf c) = _
    rw [spread_cells c]
  | some v :: c => by
    rw [vals_cons]
    show some v :: Pg.spread (c.map Option.isSome) (Pg.valuesOf c) = _
    rw [spread_cells c]
theorem vals_full : ∀ {c : List Pg.Cell}, (Pg.valuesOf c).length = c.length → c.map Option.isSome = List.replicate c.length true
  | [], _ => rfl
  | none :: c, h => by
    rw [vals_cons] at h
    have h' : (Pg.valuesOf c).length = c.length + 1 := h
    have := vals_len c
    omega
  | some v :: c, h => by
    rw [vals_cons] at h
    have h' : (Pg.valuesOf c).length + 1 = c.length + 1 := h
    rw [List.map_cons, vals_full (by omega), List.length_cons, List.replicate_succ]
    rfl
theorem vals_none : ∀ {c : List Pg.Cell}, (Pg.valuesOf c).length = 0 → c.map Option.isSome = List.replicate c.length false
  | [], _ => rfl
  | none :: c, h => by
    rw [vals_cons] at h
    have h' : (Pg.valuesOf c).length = 0 := h
    rw [List.map_cons, vals_none h', List.length_cons, List.replicate_succ]
    rfl
  | some v :: c, h => by
    rw [vals_cons] at h
    have h' : (Pg.valuesOf c).length + 1 = 0 := h
    omega
theorem bits_back (c : List Pg.Cell) (n : Nat) (hn : n = c.length) : (Pg.unpacked 1 n (Pg.bitBytes (c.map Option.isSome))).map (fun (x : Nat) => x == 1) = c.map Option.isSome := by
  unfold Pg.bitBytes
  rw [unpacked_packed (q := 1) (fun x hx => ?_) n (by rw [List.length_map, List.length_map]; exact hn), List.map_map]
  · refine (List.map_congr_left fun b _ => ?_).trans (List.map_id _)
    cases b <;> rfl
  · obtain ⟨b, _, rfl⟩ := List.mem_map.mp hx
    cases b <;> decide
theorem bits_long (c : List Pg.Cell) : (Pg.bitBytes (c.map Option.isSome)).length = (c.length + 7) / 8 := by
  unfold Pg.bitBytes
  rw [packed_len, List.length_map, List.length_map]
  unfold Pg.packedLong
  rw [Nat.mul_one]
/-- what a page's parts are -/
structure Parts (k : Nat) (c : List Pg.Cell) (w st : Nat) (bd : List Nat) : Prop where
  pg : Pg.page k c = frame w st c.length (Pg.nullsOf c) bd ++ Pg.le 4 (Pg.check 0 (frame w st c.length (Pg.nullsOf c) bd))
  way : w = (Pg.chosen k (Pg.valuesOf c)).1
  stt : st = if Pg.nullsOf c = 0 then 0 else if Pg.nullsOf c = c.length then 1 else 2
  body : bd = (if st = 2 then Pg.bitBytes (c.map Option.isSome) else []) ++ (Pg.chosen k (Pg.valuesOf c)).2
  small : bd.length ≤ 4000
theorem parts {k : Nat} {c : List Pg.Cell} (hi : ∀ x ∈ c, Pg.cellIs k x = true) (hl : c.length ≤ 64) : ∃ w st bd, Parts k c w st bd := by
  refine ⟨_, _, _, ⟨page_eq k c rfl rfl rfl, rfl, rfl, rfl, ?_⟩⟩
  generalize (if Pg.nullsOf c = 0 then 0 else if Pg.nullsOf c = c.length then 1 else 2) = st
  have hb : (if st = 2 then Pg.bitBytes (c.map Option.isSome) else []).length ≤ 10 := by
    by_cases h : st = 2
    · rw [if_pos h]
      exact bits_len c hl
    · rw [if_neg h]
      exact Nat.zero_le _
  have hv := vals_is hi
  have hvl := vals_len c
  have hc : (Pg.chosen k (Pg.valuesOf c)).2.length ≤ 3000 := by
    cases e : Pg.valuesOf c with
    | nil => exact Nat.zero_le _
    | cons v r =>
      rw [← e, chosen_eq k (by rw [e]; simp)]
      have h1 := pick_le (Pg.ways k (Pg.valuesOf c)) (Pg.plain k (Pg.valuesOf c)) _ (Nat.le_refl _)
      rw [pickTo_all] at h1
      have h2 := plain_len (k := k) (l := Pg.valuesOf c) (fun v hv' => raw_le (hv v hv')) (by omega)
      omega
  rw [List.length_append]
  omega
/-- the values' bytes read back -/
theorem chosen_back {k : Nat} {c : List Pg.Cell} (hk : k ≤ 1) (hi : ∀ x ∈ c, Pg.cellIs k x = true) (hl : c.length ≤ 64) : Pg.valuesIn k (Pg.chosen k (Pg.valuesOf c)).1 (Pg.valuesOf c).length (Pg.chosen k (Pg.valuesOf c)).2 = some (Pg.valuesOf c) := by
  have hv := vals_is hi
  have hvl := vals_len c
  by_cases hne : Pg.valuesOf c = []
  · rw [hne]
    rfl
  · refine valuesIn_eq hk hv (by omega) hne ?_
    rw [chosen_eq k hne]
    exact pick_at rfl
theorem nums4 {n : Nat} (h : n ≤ 100000) (r : List Nat) : Pg.num ((Pg.le 4 n ++ r).take 4) = n := by
  rw [take_le, num_le_lt (by show n < 4294967296; omega)]
theorem pageIn_page {k : Nat} {c : List Pg.Cell} (hk : k ≤ 1) (hi : ∀ x ∈ c, Pg.cellIs k x = true) (hl : c.length ≤ 64) (rest : List Nat) : Pg.pageIn k (Pg.page k c ++ rest) = some (c, (Pg.page k c).length) := by
  obtain ⟨w, st, bd, P⟩ := parts (k := k) hi hl
  have vl := vals_len c
  have hm : Pg.nullsOf c = c.length - (Pg.valuesOf c).length := rfl
  have fl := frame_len w st c.length (Pg.nullsOf c) bd
  have pl : (Pg.page k c).length = 20 + bd.length := by
    rw [P.pg, List.length_append, fl, le_len]
    omega
  have sm := P.small
  generalize hchk : Pg.le 4 (Pg.check 0 (frame w st c.length (Pg.nullsOf c) bd)) = chk
  have chl : chk.length = 4 := by rw [← hchk, le_len]
  have eb : Pg.page k c ++ rest = w :: st :: 0 :: 0 :: (Pg.le 4 c.length ++ (Pg.le 4 (Pg.nullsOf c) ++ (Pg.le 4 bd.length ++ (bd ++ (chk ++ rest))))) := by
    rw [P.pg, hchk]
    unfold frame
    simp only [List.append_assoc, List.cons_append, List.nil_append]
  have d4 : (Pg.page k c ++ rest).drop 4 = Pg.le 4 c.length ++ (Pg.le 4 (Pg.nullsOf c) ++ (Pg.le 4 bd.length ++ (bd ++ (chk ++ rest)))) := by rw [eb]; rfl
  have d8 : (Pg.page k c ++ rest).drop 8 = Pg.le 4 (Pg.nullsOf c) ++ (Pg.le 4 bd.length ++ (bd ++ (chk ++ rest))) := by
    rw [show (8 : Nat) = 4 + 4 from rfl, ← List.drop_drop, d4, drop_le]
  have d12 : (Pg.page k c ++ rest).drop 12 = Pg.le 4 bd.length ++ (bd ++ (chk ++ rest)) := by
    rw [show (12 : Nat) = 8 + 4 from rfl, ← List.drop_drop, d8, drop_le]
  have d16 : (Pg.page k c ++ rest).drop 16 = bd ++ (chk ++ rest) := by
    rw [show (16 : Nat) = 12 + 4 from rfl, ← List.drop_drop, d12, drop_le]
  have g0 : (Pg.page k c ++ rest).getD 0 9 = w := by rw [eb]; rfl
  have n1 : Pg.num (((Pg.page k c ++ rest).drop 4).take 4) = c.length := by rw [d4, nums4 (by omega)]
  have n2 : Pg.num (((Pg.page k c ++ rest).drop 8).take 4) = Pg.nullsOf c := by rw [d8, nums4 (by omega)]
  have n3 : Pg.num (((Pg.page k c ++ rest).drop 12).take 4) = bd.length := by rw [d12, nums4 (by omega)]
  have bt : ((Pg.page k c ++ rest).drop 16).take bd.length = bd := by rw [d16, take_app]
  have tk : (Pg.page k c ++ rest).take (20 + bd.length) = Pg.page k c := by rw [← pl, take_app]
  unfold Pg.pageIn
  dsimp only
  rw [n1, n2, n3, bt, g0, tk, if_neg]
  · -- the body's parts
    have cb := chosen_back hk hi hl
    have ek : c.length - Pg.nullsOf c = (Pg.valuesOf c).length := by omega
    have hst := P.stt
    have hbd := P.body
    have body : bd.drop (if 0 < Pg.nullsOf c ∧ Pg.nullsOf c < c.length then (c.length + 7) / 8 else 0) = (Pg.chosen k (Pg.valuesOf c)).2 ∧
        (if Pg.nullsOf c = 0 then List.replicate c.length true else if Pg.nullsOf c = c.length then List.replicate c.length false else (Pg.unpacked 1 c.length (bd.take (if 0 < Pg.nullsOf c ∧ Pg.nullsOf c < c.length then (c.length + 7) / 8 else 0))).map fun (x : Nat) => x == 1) = c.map Option.isSome := by
      by_cases h1 : Pg.nullsOf c = 0
      · rw [if_pos h1] at hst
        rw [hst, if_neg (by decide), List.nil_append] at hbd
        rw [if_neg (by omega), if_pos h1, hbd]
        exact ⟨rfl, (vals_full (by omega)).symm⟩
      · rw [if_neg h1] at hst
        by_cases h2 : Pg.nullsOf c = c.length
        · rw [if_pos h2] at hst
          rw [hst, if_neg (by decide), List.nil_append] at hbd
          rw [if_neg (by omega), if_neg h1, if_pos h2, hbd]
          exact ⟨rfl, (vals_none (by omega)).symm⟩
        · rw [if_neg h2] at hst
          rw [hst, if_pos rfl] at hbd
          have bl := bits_long c
          rw [if_pos (by omega), if_neg h1, if_neg h2, hbd, ← bl, drop_app, take_app]
          exact ⟨rfl, bits_back c _ rfl⟩
    rw [body.1, body.2, ek, P.way, cb]
    dsimp only
    rw [spread_cells, if_pos, pl]
    refine ⟨?_, rfl⟩
    unfold Pg.colRight
    rw [decide_eq_true (show c.length ≤ Pg.ROWS from hl), List.all_eq_true.mpr hi]
    rfl
  · rw [List.length_append, pl]
    have : Pg.ROWS = 64 := rfl
    omega
def Right (k : Nat) (c : List Pg.Cell) : Prop := c.length ≤ 64 ∧ ∀ x ∈ c, Pg.cellIs k x = true
theorem right_of {k : Nat} {c : List Pg.Cell} (h : Pg.colRight k c = true) : Right k c := by
  unfold Pg.colRight at h
  rw [Bool.and_eq_true, decide_eq_true_eq] at h
  exact ⟨h.1, List.all_eq_true.mp h.2⟩
theorem pageIn_some {k : Nat} {b : List Nat} {c : List Pg.Cell} {n : Nat} (h : Pg.pageIn k b = some (c, n)) : Right k c ∧ Pg.page k c = b.take n := by
  unfold Pg.pageIn at h
  dsimp only at h
  split at h
  · cases h
  · generalize (if Pg.num ((b.drop 8).take 4) = 0 then List.replicate (Pg.num ((b.drop 4).take 4)) true else if Pg.num ((b.drop 8).take 4) = Pg.num ((b.drop 4).take 4) then List.replicate (Pg.num ((b.drop 4).take 4)) false else (Pg.unpacked 1 (Pg.num ((b.drop 4).take 4)) ((((b.drop 16).take (Pg.num ((b.drop 12).take 4)))).take (if 0 < Pg.num ((b.drop 8).take 4) ∧ Pg.num ((b.drop 8).take 4) < Pg.num ((b.drop 4).take 4) then (Pg.num ((b.drop 4).take 4) + 7) / 8 else 0))).map fun (x : Nat) => x == 1) = there at h
    split at h
    · cases h
    · split at h
      · rename_i hh
        cases h
        exact ⟨right_of hh.1, hh.2⟩
      · cases h
theorem pageOf_iff {k : Nat} (hk : k ≤ 1) {b : List Nat} {c : List Pg.Cell} : Pg.pageOf k b = some c ↔ Right k c ∧ Pg.page k c = b := by
  constructor
  · intro h
    unfold Pg.pageOf at h
    cases e : Pg.pageIn k b with
    | none => rw [e] at h; cases h
    | some p =>
      obtain ⟨c', n⟩ := p
      rw [e] at h
      have h' : (if n = b.length then some c' else none) = some c := h
      split at h'
      · rename_i hn
        cases h'
        obtain ⟨h1, h2⟩ := pageIn_some e
        rw [hn, List.take_length] at h2
        exact ⟨h1, h2⟩
      · cases h'
  · rintro ⟨⟨h1, h2⟩, rfl⟩
    have e := pageIn_page hk h2 h1 []
    rw [List.append_nil] at e
    unfold Pg.pageOf
    rw [e]
    show (if (Pg.page k c).length = (Pg.page k c).length then some c else none) = some c
    rw [if_pos rfl]
theorem page_inj {k : Nat} (hk : k ≤ 1) {c d : List Pg.Cell} (h1 : Right k c) (h2 : Right k d) (h : Pg.page k c = Pg.page k d) : c = d := by
  have a := (pageOf_iff hk (b := Pg.page k d)).mpr ⟨h1, h⟩
  have b := (pageOf_iff hk (b := Pg.page k d)).mpr ⟨h2, rfl⟩
  rw [a] at b
  exact Option.some.inj b
end PfM
namespace PfM
/-! ## what the program reads, from any bytes -/
/-- a number below 0 where its highest bit is 1 -/
def sgn (w n : Nat) : Int := if 2 ^ (8 * w - 1) ≤ n then (n : Int) - 2 * 2 ^ (8 * w - 1) else n
def numAt (b : List Nat) (i w : Nat) : Nat := Pg.num ((b.drop i).take w)
def sgnAt (b : List Nat) (i w : Nat) : Int := sgn w (numAt b i w)
theorem pow8 (w : Nat) (hw : 0 < w) : 2 * 2 ^ (8 * w - 1) = 256 ^ w := by
  rw [show (256 : Nat) = 2 ^ 8 from rfl, ← Nat.pow_mul, ← Nat.pow_succ']
  congr 1
  omega
theorem sgn_signed {b : List Nat} {w : Nat} (hw : 0 < w) (hl : b.length = w) : sgn w (Pg.num b) = Pg.signed b := by
  unfold sgn Pg.signed
  have h := pow8 w hw
  dsimp only
  rw [hl]
  by_cases c : 2 ^ (8 * w - 1) ≤ Pg.num b
  · rw [if_pos c, if_pos (by omega), ← h, Int.natCast_mul, Int.natCast_pow]
    rfl
  · rw [if_neg c, if_neg (by omega)]
theorem sgnAt_wide {a r : List Nat} {w : Nat} {z : Int} (hw : 0 < w) (h1 : -(256 ^ w : Int) ≤ 2 * z) (h2 : 2 * z < 256 ^ w) : sgnAt (a ++ (Pg.wide w z ++ r)) a.length w = z := by
  unfold sgnAt numAt
  rw [drop_app, take_wide, sgn_signed hw (wide_len w z), signed_wide h1 h2]
theorem sgnAt8 {a r : List Nat} {z : Int} (h1 : -(2 ^ 63) ≤ z) (h2 : z < 2 ^ 63) : sgnAt (a ++ (Pg.wide 8 z ++ r)) a.length 8 = z := sgnAt_wide (by decide) (by show -(18446744073709551616 : Int) ≤ 2 * z; omega) (by show 2 * z < (18446744073709551616 : Int); omega)
theorem numAt_le {a r : List Nat} {n : Nat} (h : n ≤ 100000) : numAt (a ++ (Pg.le 4 n ++ r)) a.length 4 = n := by
  unfold numAt
  rw [drop_app, nums4 h]
theorem num_cons (c : Nat) (l : List Nat) : Pg.num (c :: l) = c + 256 * Pg.num l := rfl
theorem num_lt : ∀ {l : List Nat}, (∀ c ∈ l, c < 256) → Pg.num l < 256 ^ l.length
  | [], _ => by decide
  | c :: l, h => by
    have ih := num_lt (l := l) fun x hx => h x (List.mem_cons_of_mem _ hx)
    have hc := h c List.mem_cons_self
    rw [num_cons, List.length_cons, Nat.pow_succ, Nat.mul_comm (256 ^ l.length)]
    omega
theorem numAt_lt {b : List Nat} (h : ∀ c ∈ b, c < 256) (i w : Nat) : numAt b i w < 256 ^ w := by
  unfold numAt
  refine Nat.lt_of_lt_of_le (num_lt fun c hc => h c (List.mem_of_mem_drop (List.mem_of_mem_take hc))) (Nat.pow_le_pow_right (by decide) ?_)
  rw [List.length_take]
  exact Nat.min_le_left _ _
theorem sgn8_range {n : Nat} (h : n < 256 ^ 8) : -(2 ^ 63) ≤ sgn 8 n ∧ sgn 8 n < 2 ^ 63 := by
  have h' : n < 18446744073709551616 := h
  unfold sgn
  show -(9223372036854775808 : Int) ≤ (if 9223372036854775808 ≤ n then (n : Int) - 2 * 9223372036854775808 else n) ∧ (if 9223372036854775808 ≤ n then (n : Int) - 2 * 9223372036854775808 else n) < 9223372036854775808
  split <;> omega
/-- a value alone, at a place -/
def aloneV (k : Nat) (b : List Nat) (i : Nat) : Pg.Val := if k = 0 then .num (sgnAt b i 8) else .str ((b.drop (i + 4)).take (numAt b i 4))
theorem aloneV_eq {k : Nat} {v : Pg.Val} (hk : k ≤ 1) (hi : v.is k = true) (a r : List Nat) : aloneV k (a ++ (Pg.alone v ++ r)) a.length = v := by
  unfold aloneV
  cases v with
  | num z =>
    obtain ⟨k0, h1, h2⟩ := is_num' hi
    rw [if_pos k0]
    show Pg.Val.num (sgnAt (a ++ (Pg.wide 8 z ++ r)) a.length 8) = _
    rw [sgnAt8 h1 h2]
  | str c =>
    obtain ⟨k1, hc⟩ := is_str' hi
    rw [if_neg (by omega)]
    have e : a ++ (Pg.alone (.str c) ++ r) = a ++ (Pg.le 4 c.length ++ (c ++ r)) := by
      show a ++ ((Pg.le 4 c.length ++ c) ++ r) = _
      rw [List.append_assoc]
    rw [e, numAt_le (by omega), ← List.drop_drop, drop_app, drop_le, take_app]
end PfM
namespace PfM
theorem flat_split {α : Type} {f : α → List Nat} {l : List α} {i : Nat} {v : α} (h : l[i]? = some v) : l.flatMap f = (l.take i).flatMap f ++ (f v ++ (l.drop (i + 1)).flatMap f) := by
  have hh := List.getElem?_eq_some_iff.mp h
  have e : l = l.take i ++ v :: l.drop (i + 1) := by
    rw [← hh.2, ← List.drop_eq_getElem_cons hh.1, List.take_append_drop]
  conv => lhs; rw [e]
  rw [List.flatMap_append, List.flatMap_cons]
theorem plain_zero {l : List Pg.Val} : Pg.plain 0 l = l.flatMap Pg.raw := by
  unfold Pg.plain
  rw [if_neg (by decide), List.nil_append]
theorem plain_uno {l : List Pg.Val} : Pg.plain 1 l = (l.flatMap fun v => Pg.le 4 (Pg.raw v).length) ++ l.flatMap Pg.raw := by
  unfold Pg.plain
  rw [if_pos rfl]
theorem at_num {l : List Pg.Val} {i : Nat} {z : Int} {r : List Nat} (hi : ∀ v ∈ l, v.is 0 = true) (h : l[i]? = some (.num z)) : sgnAt (Pg.plain 0 l ++ r) (8 * i) 8 = z := by
  have hb := is_num' (hi _ (List.mem_of_getElem? h))
  have hil := (List.getElem?_eq_some_iff.mp h).1
  have e8 := (pieces_num (l.take i) [] fun v hv => hi v (List.mem_of_mem_take hv)).2.2
  have e : Pg.plain 0 l ++ r = (l.take i).flatMap Pg.raw ++ (Pg.wide 8 z ++ ((l.drop (i + 1)).flatMap Pg.raw ++ r)) := by
    rw [plain_zero, flat_split h, List.append_assoc, List.append_assoc]
    rfl
  rw [e, show 8 * i = ((l.take i).flatMap Pg.raw).length by rw [e8, List.length_take, Nat.min_eq_left (by omega)]]
  exact sgnAt8 hb.2.1 hb.2.2
theorem at_len {l : List Pg.Val} {i : Nat} {v : Pg.Val} {r : List Nat} (hr : ∀ v ∈ l, (Pg.raw v).length ≤ 40) (h : l[i]? = some v) : numAt (Pg.plain 1 l ++ r) (4 * i) 4 = (Pg.raw v).length := by
  have hv := hr v (List.mem_of_getElem? h)
  have hil := (List.getElem?_eq_some_iff.mp h).1
  have e4 := (pieces_len (l.take i) [] fun v hv => hr v (List.mem_of_mem_take hv)).2.2
  have e : Pg.plain 1 l ++ r = ((l.take i).flatMap fun v => Pg.le 4 (Pg.raw v).length) ++ (Pg.le 4 (Pg.raw v).length ++ (((l.drop (i + 1)).flatMap fun v => Pg.le 4 (Pg.raw v).length) ++ (l.flatMap Pg.raw ++ r))) := by
    rw [plain_uno, flat_split (f := fun v => Pg.le 4 (Pg.raw v).length) h]
    simp only [List.append_assoc]
  rw [e, show 4 * i = ((l.take i).flatMap fun v => Pg.le 4 (Pg.raw v).length).length by rw [e4, List.length_take, Nat.min_eq_left (by omega)]]
  exact numAt_le (by omega)
theorem at_raw {l : List Pg.Val} {i n : Nat} {v : Pg.Val} {r : List Nat} (hr : ∀ v ∈ l, (Pg.raw v).length ≤ 40) (hn : n = l.length) (h : l[i]? = some v) : ((Pg.plain 1 l ++ r).drop (4 * n + ((l.take i).flatMap Pg.raw).length)).take (Pg.raw v).length = Pg.raw v := by
  have e4 := (pieces_len l [] hr).2.2
  have e : Pg.plain 1 l ++ r = (l.flatMap fun v => Pg.le 4 (Pg.raw v).length) ++ ((l.take i).flatMap Pg.raw ++ (Pg.raw v ++ ((l.drop (i + 1)).flatMap Pg.raw ++ r))) := by
    rw [plain_uno, flat_split (f := Pg.raw) h]
    simp only [List.append_assoc]
  rw [e, hn, ← e4, ← List.drop_drop, drop_app, drop_app, take_app]
/-- the runs' entries -/
def ent (x : Nat × Pg.Val) : List Nat := Pg.le 4 x.1 ++ Pg.alone x.2
theorem runs_eq (l : List Pg.Val) : Pg.runs l = Pg.le 4 (Pg.runsOf l).length ++ (Pg.runsOf l).flatMap ent := rfl
theorem at_run {k : Nat} {rs : List (Nat × Pg.Val)} {i m d : Nat} {v : Pg.Val} (hk : k ≤ 1) (hi : v.is k = true) (hm : m ≤ 1000) (h : rs[i]? = some (m, v)) :
    numAt (Pg.le 4 d ++ rs.flatMap ent) (4 + ((rs.take i).flatMap ent).length) 4 = m ∧ aloneV k (Pg.le 4 d ++ rs.flatMap ent) (4 + ((rs.take i).flatMap ent).length + 4) = v := by
  have e : Pg.le 4 d ++ rs.flatMap ent = (Pg.le 4 d ++ (rs.take i).flatMap ent) ++ (Pg.le 4 m ++ (Pg.alone v ++ (rs.drop (i + 1)).flatMap ent)) := by
    rw [flat_split (f := ent) h]
    unfold ent
    simp only [List.append_assoc]
  have el : 4 + ((rs.take i).flatMap ent).length = (Pg.le 4 d ++ (rs.take i).flatMap ent).length := by rw [List.length_append, le_len]
  constructor
  · rw [e, el]
    exact numAt_le (by omega)
  · have e2 : (Pg.le 4 d ++ (rs.take i).flatMap ent) ++ (Pg.le 4 m ++ (Pg.alone v ++ (rs.drop (i + 1)).flatMap ent)) = ((Pg.le 4 d ++ (rs.take i).flatMap ent) ++ Pg.le 4 m) ++ (Pg.alone v ++ (rs.drop (i + 1)).flatMap ent) := by simp only [List.append_assoc]
    rw [e, e2, el, show (Pg.le 4 d ++ (rs.take i).flatMap ent).length + 4 = ((Pg.le 4 d ++ (rs.take i).flatMap ent) ++ Pg.le 4 m).length by rw [List.length_append (bs := Pg.le 4 m), le_len]]
    exact aloneV_eq hk hi _ _
theorem expand_more {rs : List (Nat × Pg.Val)} {i m : Nat} {v : Pg.Val} (h : rs[i]? = some (m, v)) : expand (rs.take (i + 1)) = expand (rs.take i) ++ List.replicate m v := by
  unfold expand
  rw [List.take_add_one, h, List.flatMap_append]
  simp
theorem numAt0 {n : Nat} (h : n ≤ 100000) (r : List Nat) : numAt (Pg.le 4 n ++ r) 0 4 = n := numAt_le (a := []) h
/-- sums, from both ends -/
theorem sums_len : ∀ (z : Int) (l : List Int), (Pg.sumsFrom z l).length = l.length + 1
  | z, [] => rfl
  | z, d :: l => by
    show (Pg.sumsFrom (z + d) l).length + 1 = _
    rw [sums_len (z + d) l]
    rfl
/-- k values in way e have the bytes b -/
def Wr (k e n : Nat) (b : List Nat) (l : List Pg.Val) : Prop := (∀ v ∈ l, v.is k = true) ∧ l.length = n ∧ (Pg.ways k l)[e]? = some (some b)
theorem unpacked_len (q k : Nat) (b : List Nat) : (Pg.unpacked q k b).length = k := by
  unfold Pg.unpacked
  dsimp only
  rw [List.length_map, List.length_range]
theorem take_packed {q : Nat} {l : List Nat} {n : Nat} (hn : n = l.length) : (Pg.packed q l).take (Pg.packedLong q n) = Pg.packed q l := by
  rw [hn, List.take_of_length_le (by rw [packed_len]; exact Nat.le_refl _)]
end PfM
namespace PfM
/-! ## numbers read back from any bytes -/
theorem least_back {n : Nat} {b : List Nat} {l : List Pg.Val} (hn : 1 ≤ n) (h : Wr 0 4 n b l) : ((Pg.unpacked ((b.drop 8).getD 0 0) n (((b.drop 8).drop 1).take (Pg.packedLong ((b.drop 8).getD 0 0) n))).map fun (x : Nat) => sgnAt b 0 8 + (x : Int)).map Pg.Val.num = l := by
  obtain ⟨hi, hln, h⟩ := h
  have hne : l ≠ [] := fun e => by rw [e, List.length_nil] at hln; omega
  have hb : Pg.fromLeast 0 l = some b := Option.some.inj h
  rw [fromLeast_eq l hne] at hb
  cases hb
  have zr := zs_range hi
  have zz := zs_of hi
  cases hm : l.map Pg.zOf with
  | nil => exact absurd (by simpa using hm) hne
  | cons z r =>
    rw [hm] at zr zz
    have hlen : n = (z :: r).length := by rw [← hm, List.length_map]; exact hln.symm
    have mb := zr _ (fmin r z).1
    have ab := above_back z r n hlen
    have s8 : sgnAt (Pg.wide 8 (leastOf (z :: r)) ++ aboveL (z :: r)) 0 8 = leastOf (z :: r) := sgnAt8 (a := []) mb.1 mb.2
    have tk : ((aboveL (z :: r)).drop 1).take (Pg.packedLong ((aboveL (z :: r)).getD 0 0) n) = (aboveL (z :: r)).drop 1 := by
      have := take_packed (q := Pg.bitsFor (r.foldl max z - r.foldl min z).toNat) (l := (z :: r).map fun (x : Int) => (x - r.foldl min z).toNat) (n := n) (by rw [List.length_map]; exact hlen)
      exact this
    rw [drop_wide, s8, tk, ab, zz]
theorem diffs_back {n : Nat} {b : List Nat} {l : List Pg.Val} (hn : 1 ≤ n) (h : Wr 0 5 n b l) : (Pg.sumsFrom (sgnAt b 0 8) ((Pg.unpacked ((b.drop 17).getD 0 0) (n - 1) (((b.drop 17).drop 1).take (Pg.packedLong ((b.drop 17).getD 0 0) (n - 1)))).map fun (x : Nat) => sgnAt b 8 9 + (x : Int))).map Pg.Val.num = l := by
  obtain ⟨hi, hln, h⟩ := h
  have hne : l ≠ [] := fun e => by rw [e, List.length_nil] at hln; omega
  have hb : Pg.differences 0 l = some b := Option.some.inj h
  have h2 : 2 ≤ l.length := by
    rcases Nat.lt_or_ge l.length 2 with h | h
    · rw [differences_none l h] at hb
      cases hb
    · exact h
  rw [differences_eq l h2] at hb
  cases hb
  have zr := zs_range hi
  have zz := zs_of hi
  have hlm : (l.map Pg.zOf).length = l.length := List.length_map _
  cases hm : l.map Pg.zOf with
  | nil => exact absurd (by simpa using hm) hne
  | cons z r =>
    rw [hm] at zr zz hlm
    have sl := steps_len (z :: r)
    have ss := sums_steps z r
    cases hs : Pg.stepsOf (z :: r) with
    | nil =>
      rw [hs, List.length_nil] at sl
      omega
    | cons d t =>
      have hsb : ∀ y ∈ d :: t, -(2 ^ 64) < y ∧ y < 2 ^ 64 := by
        intro y hy
        rw [← hs] at hy
        obtain ⟨i, hi', ey⟩ := List.mem_iff_getElem.mp hy
        have h1 : i < (z :: r).length := by omega
        have h3 : i + 1 < (z :: r).length := by omega
        have gs := steps_get (z :: r) i _ _ (List.getElem?_eq_getElem h1) (List.getElem?_eq_getElem h3)
        have e2 := Option.some.inj ((List.getElem?_eq_getElem hi').symm.trans gs)
        have b1 := zr _ (List.getElem_mem h1)
        have b2 := zr _ (List.getElem_mem h3)
        rw [← ey, e2]
        omega
      have mb := hsb _ (fmin t d).1
      have hdt : n - 1 = (d :: t).length := by rw [← hs, sl]; omega
      have ab := above_back d t (n - 1) hdt
      rw [hs] at ss
      have zb := zr z List.mem_cons_self
      have e17 : (Pg.wide 8 z ++ (Pg.wide 9 (leastOf (d :: t)) ++ aboveL (d :: t))).drop 17 = aboveL (d :: t) := by
        rw [show (17 : Nat) = 8 + 9 from rfl, ← List.drop_drop, drop_wide, drop_wide]
      have s8 : sgnAt (Pg.wide 8 z ++ (Pg.wide 9 (leastOf (d :: t)) ++ aboveL (d :: t))) 0 8 = z := sgnAt8 (a := []) zb.1 zb.2
      have s9 : sgnAt (Pg.wide 8 z ++ (Pg.wide 9 (leastOf (d :: t)) ++ aboveL (d :: t))) 8 9 = leastOf (d :: t) := by
        have := sgnAt_wide (a := Pg.wide 8 z) (r := aboveL (d :: t)) (w := 9) (z := leastOf (d :: t)) (by decide) (by show -(4722366482869645213696 : Int) ≤ 2 * (t.foldl min d); omega) (by show 2 * (t.foldl min d) < (4722366482869645213696 : Int); omega)
        rw [wide_len] at this
        exact this
      have tk : ((aboveL (d :: t)).drop 1).take (Pg.packedLong ((aboveL (d :: t)).getD 0 0) (n - 1)) = (aboveL (d :: t)).drop 1 := by
        have := take_packed (q := Pg.bitsFor (t.foldl max d - t.foldl min d).toNat) (l := (d :: t).map fun (x : Int) => (x - t.foldl min d).toNat) (n := n - 1) (by rw [List.length_map]; exact hdt)
        exact this
      show (Pg.sumsFrom (sgnAt (Pg.wide 8 z ++ (Pg.wide 9 (leastOf (d :: t)) ++ aboveL (d :: t))) 0 8) ((Pg.unpacked (((Pg.wide 8 z ++ (Pg.wide 9 (leastOf (d :: t)) ++ aboveL (d :: t))).drop 17).getD 0 0) (n - 1) ((((Pg.wide 8 z ++ (Pg.wide 9 (leastOf (d :: t)) ++ aboveL (d :: t))).drop 17).drop 1).take (Pg.packedLong (((Pg.wide 8 z ++ (Pg.wide 9 (leastOf (d :: t)) ++ aboveL (d :: t))).drop 17).getD 0 0) (n - 1)))).map fun (x : Nat) => sgnAt (Pg.wide 8 z ++ (Pg.wide 9 (leastOf (d :: t)) ++ aboveL (d :: t))) 8 9 + (x : Int))).map Pg.Val.num = l
      rw [e17, s8, s9, tk, ab, ss, zz]
/-! ## a page's parts, from any bytes -/
def marksIn (st n : Nat) (b : List Nat) : List Nat := if st = 2 then Pg.unpacked 1 n (b.take (Pg.packedLong 1 n)) else List.replicate n (if st = 0 then 1 else 0)
theorem sum_bits (c : List Pg.Cell) : ((c.map Option.isSome).map Bool.toNat).foldr (fun (x y : Nat) => x + y) 0 = (Pg.valuesOf c).length := by
  induction c with
  | nil => rfl
  | cons x c ih =>
    rw [vals_cons, List.length_append]
    show x.isSome.toNat + ((c.map Option.isSome).map Bool.toNat).foldr (fun (x y : Nat) => x + y) 0 = _
    rw [ih]
    cases x <;> rfl
theorem marks_page {c : List Pg.Cell} {st : Nat} {r : List Nat} (hst : st = if Pg.nullsOf c = 0 then 0 else if Pg.nullsOf c = c.length then 1 else 2) : marksIn st c.length ((if st = 2 then Pg.bitBytes (c.map Option.isSome) else []) ++ r) = (c.map Option.isSome).map Bool.toNat ∧ (if st = 2 then ((if st = 2 then Pg.bitBytes (c.map Option.isSome) else []) ++ r).drop (Pg.packedLong 1 c.length) else (if st = 2 then Pg.bitBytes (c.map Option.isSome) else []) ++ r) = r := by
  have vl := vals_len c
  have hm : Pg.nullsOf c = c.length - (Pg.valuesOf c).length := rfl
  unfold marksIn
  by_cases h1 : Pg.nullsOf c = 0
  · rw [if_pos h1] at hst
    subst hst
    rw [if_neg (by decide), if_pos rfl, if_neg (by decide), if_neg (by decide), List.nil_append, vals_full (by omega), List.map_replicate]
    exact ⟨rfl, rfl⟩
  · rw [if_neg h1] at hst
    by_cases h2 : Pg.nullsOf c = c.length
    · rw [if_pos h2] at hst
      subst hst
      rw [if_neg (by decide), if_neg (by decide), if_neg (by decide), if_neg (by decide), List.nil_append, vals_none (by omega), List.map_replicate]
      exact ⟨rfl, rfl⟩
    · rw [if_neg h2] at hst
      subst hst
      have bl : Pg.packedLong 1 c.length = (Pg.bitBytes (c.map Option.isSome)).length := by
        rw [bits_long]
        unfold Pg.packedLong
        rw [Nat.mul_one]
      rw [if_pos rfl, if_pos rfl, if_pos rfl, bl, take_app, drop_app]
      refine ⟨?_, rfl⟩
      unfold Pg.bitBytes
      refine unpacked_packed (fun x hx => ?_) _ (by rw [List.length_map, List.length_map])
      obtain ⟨b, _, rfl⟩ := List.mem_map.mp hx
      cases b <;> decide
theorem page_facts {k : Nat} {c : List Pg.Cell} {b : List Nat} (R : Right k c) (e : Pg.page k c = b) {bd : List Nat} (hbd : bd = (b.drop 16).take (b.length - 20)) :
    numAt b 4 4 = c.length ∧ marksIn (numAt b 1 1) c.length bd = (c.map Option.isSome).map Bool.toNat ∧
    (Pg.valuesOf c ≠ [] → Wr k (numAt b 0 1) (Pg.valuesOf c).length (if numAt b 1 1 = 2 then bd.drop (Pg.packedLong 1 c.length) else bd) (Pg.valuesOf c)) ∧
    numAt b 8 4 = Pg.nullsOf c ∧ numAt b 0 1 = (Pg.chosen k (Pg.valuesOf c)).1 ∧ numAt b 1 1 = (if Pg.nullsOf c = 0 then 0 else if Pg.nullsOf c = c.length then 1 else 2) := by
  obtain ⟨hl, hi⟩ := R
  obtain ⟨w, st, b0, P⟩ := parts (k := k) hi hl
  have vl := vals_len c
  have hm : Pg.nullsOf c = c.length - (Pg.valuesOf c).length := rfl
  have sm := P.small
  have fl := frame_len w st c.length (Pg.nullsOf c) b0
  have pl : b.length = 20 + b0.length := by
    rw [← e, P.pg, List.length_append, fl, le_len]
    omega
  generalize hchk : Pg.le 4 (Pg.check 0 (frame w st c.length (Pg.nullsOf c) b0)) = chk at *
  have chl : chk.length = 4 := by rw [← hchk, le_len]
  have eb : b = w :: st :: 0 :: 0 :: (Pg.le 4 c.length ++ (Pg.le 4 (Pg.nullsOf c) ++ (Pg.le 4 b0.length ++ (b0 ++ chk)))) := by
    rw [← e, P.pg, hchk]
    unfold frame
    simp only [List.append_assoc, List.cons_append, List.nil_append]
  have d4 : b.drop 4 = Pg.le 4 c.length ++ (Pg.le 4 (Pg.nullsOf c) ++ (Pg.le 4 b0.length ++ (b0 ++ chk))) := by rw [eb]; rfl
  have d8 : b.drop 8 = Pg.le 4 (Pg.nullsOf c) ++ (Pg.le 4 b0.length ++ (b0 ++ chk)) := by
    rw [show (8 : Nat) = 4 + 4 from rfl, ← List.drop_drop, d4, drop_le]
  have d12 : b.drop 12 = Pg.le 4 b0.length ++ (b0 ++ chk) := by
    rw [show (12 : Nat) = 8 + 4 from rfl, ← List.drop_drop, d8, drop_le]
  have d16 : b.drop 16 = b0 ++ chk := by
    rw [show (16 : Nat) = 12 + 4 from rfl, ← List.drop_drop, d12, drop_le]
  have eb0 : bd = b0 := by rw [hbd, d16, show b.length - 20 = b0.length by omega, take_app]
  have n0 : numAt b 0 1 = w := by
    rw [eb]
    show w + 256 * 0 = w
    omega
  have n1 : numAt b 1 1 = st := by
    rw [eb]
    show st + 256 * 0 = st
    omega
  have n4 : numAt b 4 4 = c.length := by
    unfold numAt
    rw [d4, nums4 (by omega)]
  have n8 : numAt b 8 4 = Pg.nullsOf c := by
    unfold numAt
    rw [d8, nums4 (by omega)]
  have mp := marks_page (c := c) (st := st) (r := (Pg.chosen k (Pg.valuesOf c)).2) P.stt
  rw [← P.body, ← eb0] at mp
  rw [n0, n1, n4, n8]
  refine ⟨rfl, mp.1, fun hne => ?_, rfl, P.way, P.stt⟩
  rw [mp.2, P.way]
  refine ⟨vals_is hi, rfl, ?_⟩
  rw [chosen_eq k hne]
  exact pick_at rfl
theorem spread_len : ∀ (m : List Bool) (l : List Pg.Val), (Pg.spread m l).length = m.length
  | [], _ => rfl
  | false :: r, l => congrArg (· + 1) (spread_len r l)
  | true :: r, [] => congrArg (· + 1) (spread_len r [])
  | true :: r, v :: l => congrArg (· + 1) (spread_len r l)
theorem spread_is {k : Nat} : ∀ (m : List Bool) (l : List Pg.Val), (∀ v ∈ l, v.is k = true) → ∀ x ∈ Pg.spread m l, Pg.cellIs k x = true
  | [], _, _, x, hx => by cases hx
  | false :: r, l, h, x, hx => by
    rcases List.mem_cons.mp hx with e | hx
    · subst e; rfl
    · exact spread_is r l h x hx
  | true :: r, [], h, x, hx => by
    rcases List.mem_cons.mp hx with e | hx
    · subst e; rfl
    · exact spread_is r [] h x hx
  | true :: r, v :: l, h, x, hx => by
    rcases List.mem_cons.mp hx with e | hx
    · subst e; exact h v List.mem_cons_self
    · exact spread_is r l (fun u hu => h u (List.mem_cons_of_mem _ hu)) x hx
theorem bits_is1 (c : List Pg.Cell) : ((c.map Option.isSome).map Bool.toNat).map (fun (x : Nat) => x == 1) = c.map Option.isSome := by
  rw [List.map_map]
  refine (List.map_congr_left fun b _ => ?_).trans (List.map_id _)
  cases b <;> rfl
theorem marks_le1 {st n : Nat} {b : List Nat} : ∀ m ∈ marksIn st n b, m ≤ 1 := by
  intro m hm
  unfold marksIn at hm
  split at hm
  · unfold Pg.unpacked at hm
    obtain ⟨i, _, rfl⟩ := List.mem_map.mp hm
    have := Nat.mod_lt (Pg.num (b.take (Pg.packedLong 1 n)) / 2 ^ (1 * i)) (show 0 < 2 ^ 1 by decide)
    omega
  · rw [(List.mem_replicate.mp hm).2]
    split <;> decide
theorem marks_len {st n : Nat} {b : List Nat} : (marksIn st n b).length = n := by
  unfold marksIn
  split
  · rw [unpacked_len]
  · rw [List.length_replicate]
end PfM
namespace PfM
/-! ## what is due: judge, look, read -/
theorem whole_of {ns : List Int} (h : ∀ c ∈ ns, 0 ≤ c ∧ c ≤ 255) : PgNeutral.whole ns = true := by
  unfold PgNeutral.whole
  rw [List.all_eq_true]
  intro c hc
  exact decide_eq_true (h c hc).1
theorem due_judge {k : Int} (h : 0 ≤ k) {ns : List Int} (hn : ∀ c ∈ ns, 0 ≤ c ∧ c ≤ 255) : PyWrpage.judge k ns = if 1 < k.toNat then [-1] else [match Pg.pageOf k.toNat (ns.map Int.toNat) with | some _ => 1 | none => 0] := by
  unfold PyWrpage.judge PgNeutral.step
  have e : PgNeutral.callOf [[1, k], ns] = some (.judge k.toNat (ns.map Int.toNat)) := by
    show (if (PgNeutral.whole [k] && PgNeutral.whole ns) = true then some (Pg.Call.judge k.toNat (PgNeutral.nats ns)) else none) = _
    rw [whole1 h, whole_of hn]
    rfl
  rw [e]
  show PgNeutral.shown (if 1 < k.toNat then Pg.says (-1) else Pg.says (match Pg.pageOf k.toNat (ns.map Int.toNat) with | some _ => 1 | none => 0)) = _
  split
  · rfl
  · cases Pg.pageOf k.toNat (ns.map Int.toNat) <;> rfl
theorem due_look {k : Int} (h : 0 ≤ k) {ns : List Int} (hn : ∀ c ∈ ns, 0 ≤ c ∧ c ≤ 255) : PyWrpage.look k ns = if 1 < k.toNat then [-1] else match Pg.pageOf k.toNat (ns.map Int.toNat) with
    | none => [-2]
    | some c => ([0, 4, (((ns.map Int.toNat).getD 0 0 : Nat) : Int), (((ns.map Int.toNat).getD 1 0 : Nat) : Int), (c.length : Int), ((Pg.nullsOf c : Nat) : Int)] : List Int) := by
  unfold PyWrpage.look PgNeutral.step
  have e : PgNeutral.callOf [[2, k], ns] = some (.look k.toNat (ns.map Int.toNat)) := by
    show (if (PgNeutral.whole [k] && PgNeutral.whole ns) = true then some (Pg.Call.look k.toNat (PgNeutral.nats ns)) else none) = _
    rw [whole1 h, whole_of hn]
    rfl
  rw [e]
  show PgNeutral.shown (if 1 < k.toNat then Pg.says (-1) else match Pg.pageOf k.toNat (ns.map Int.toNat) with | some c => ⟨0, [Pg.ints [(ns.map Int.toNat).getD 0 0, (ns.map Int.toNat).getD 1 0, c.length, Pg.nullsOf c]]⟩ | none => Pg.says (-2)) = _
  split
  · rfl
  · cases Pg.pageOf k.toNat (ns.map Int.toNat) <;> rfl
theorem due_read {k s n : Int} (h : 0 ≤ k) (hs : 0 ≤ s) (hn0 : 0 ≤ n) {ns : List Int} (hn : ∀ c ∈ ns, 0 ≤ c ∧ c ≤ 255) : PyWrpage.read k s n ns = if 1 < k.toNat then [-1] else match Pg.pageOf k.toNat (ns.map Int.toNat) with
    | none => [-2]
    | some c => if c.length < s.toNat + n.toNat then [-4] else (n.toNat : Int) :: ((((c.drop s.toNat).take n.toNat).flatMap Pg.cellList).length : Int) :: ((c.drop s.toNat).take n.toNat).flatMap Pg.cellList := by
  unfold PyWrpage.read PgNeutral.step
  have e : PgNeutral.callOf [[3, k, s, n], ns] = some (.read k.toNat s.toNat n.toNat (ns.map Int.toNat)) := by
    show (if (PgNeutral.whole [k, s, n] && PgNeutral.whole ns) = true then some (Pg.Call.read k.toNat s.toNat n.toNat (PgNeutral.nats ns)) else none) = _
    have w : PgNeutral.whole [k, s, n] = true := by
      unfold PgNeutral.whole
      simp [h, hs, hn0]
    rw [w, whole_of hn]
    rfl
  rw [e]
  show PgNeutral.shown (if 1 < k.toNat then Pg.says (-1) else match Pg.pageOf k.toNat (ns.map Int.toNat) with | some c => (if c.length < s.toNat + n.toNat then Pg.says (-4) else ⟨(n.toNat : Nat), [((c.drop s.toNat).take n.toNat).flatMap Pg.cellList]⟩) | none => Pg.says (-2)) = _
  split
  · rfl
  · cases Pg.pageOf k.toNat (ns.map Int.toNat) with
    | none => rfl
    | some c =>
      dsimp only
      split
      · rfl
      · show (n.toNat : Int) :: ([((c.drop s.toNat).take n.toNat).flatMap Pg.cellList].flatMap fun (l : List Int) => (l.length : Int) :: l) = _
        simp
theorem numAt1 (b : List Nat) (i : Nat) : numAt b i 1 = b.getD i 0 := by
  unfold numAt
  rw [List.getD_eq_getElem?_getD]
  by_cases h : i < b.length
  · rw [List.drop_eq_getElem_cons h, List.getElem?_eq_getElem h]
    show b[i] + 256 * 0 = b[i]
    omega
  · rw [List.drop_of_length_le (by omega), List.getElem?_eq_none (by omega)]
    rfl
theorem toNat_back {ns : List Int} (h : ∀ c ∈ ns, 0 ≤ c ∧ c ≤ 255) : (ns.map Int.toNat).map (fun (c : Nat) => (c : Int)) = ns := by
  rw [List.map_map]
  refine (List.map_congr_left fun c hc => ?_).trans (List.map_id _)
  have := h c hc
  show ((c.toNat : Nat) : Int) = c
  omega
theorem toNat_bytes {ns : List Int} (h : ∀ c ∈ ns, 0 ≤ c ∧ c ≤ 255) : ∀ c ∈ ns.map Int.toNat, c < 256 := by
  intro c hc
  obtain ⟨z, hz, rfl⟩ := List.mem_map.mp hc
  have := h z hz
  omega
theorem cell_len {k : Nat} {c : Pg.Cell} (h : Pg.cellIs k c = true) : (Pg.cellList c).length ≤ 42 := by
  cases c with
  | none => exact (by decide : 1 ≤ 42)
  | some v =>
    cases v with
    | num z => exact (by decide : 2 ≤ 42)
    | str b =>
      have := (is_str' (k := k) h).2
      show (1 :: ((b.length : Int) :: Pg.ints b)).length ≤ 42
      unfold Pg.ints
      rw [List.length_cons, List.length_cons, List.length_map]
      omega
theorem told_len {k : Nat} {l : List Pg.Cell} (h : ∀ c ∈ l, Pg.cellIs k c = true) : (l.flatMap Pg.cellList).length ≤ 42 * l.length := by
  induction l with
  | nil => exact Nat.le_refl _
  | cons c l ih =>
    have h1 := cell_len (h c List.mem_cons_self)
    have h2 := ih fun x hx => h x (List.mem_cons_of_mem _ hx)
    rw [List.flatMap_cons, List.length_append, List.length_cons]
    omega
end PfM
namespace PfM
/-! ## a page at the front of more bytes -/
theorem pageIn_long {k : Nat} {d : List Nat} {c : List Pg.Cell} {n : Nat} (h : Pg.pageIn k d = some (c, n)) : n = 20 + numAt d 12 4 := by
  unfold Pg.pageIn at h
  dsimp only at h
  split at h
  · cases h
  · generalize (if Pg.num ((d.drop 8).take 4) = 0 then List.replicate (Pg.num ((d.drop 4).take 4)) true else if Pg.num ((d.drop 8).take 4) = Pg.num ((d.drop 4).take 4) then List.replicate (Pg.num ((d.drop 4).take 4)) false else (Pg.unpacked 1 (Pg.num ((d.drop 4).take 4)) ((((d.drop 16).take (Pg.num ((d.drop 12).take 4)))).take (if 0 < Pg.num ((d.drop 8).take 4) ∧ Pg.num ((d.drop 8).take 4) < Pg.num ((d.drop 4).take 4) then (Pg.num ((d.drop 4).take 4) + 7) / 8 else 0))).map fun (x : Nat) => x == 1) = there at h
    split at h
    · cases h
    · split at h
      · cases h
        rfl
      · cases h
theorem pageIn_take {k : Nat} (hk : k ≤ 1) (d : List Nat) : Pg.pageIn k d = match Pg.pageOf k (d.take (20 + numAt d 12 4)) with
    | some c => some (c, 20 + numAt d 12 4)
    | none => none := by
  cases e : Pg.pageOf k (d.take (20 + numAt d 12 4)) with
  | some c =>
    obtain ⟨R, hp⟩ := (pageOf_iff hk).mp e
    have h := pageIn_page hk R.2 R.1 (d.drop (20 + numAt d 12 4))
    rw [hp, List.take_append_drop] at h
    rw [h]
    have := pageIn_long h
    rw [this]
  | none =>
    cases e2 : Pg.pageIn k d with
    | none => rfl
    | some x =>
      obtain ⟨c, n⟩ := x
      have hl := pageIn_long e2
      obtain ⟨R, hp⟩ := pageIn_some e2
      rw [hl] at hp
      have := (pageOf_iff hk).mpr ⟨R, hp⟩
      rw [this] at e
      cases e
/-- a page's length stands in it -/
theorem page_long {k : Nat} (hk : k ≤ 1) {c : List Pg.Cell} (R : Right k c) (r : List Nat) : (Pg.page k c).length = 20 + numAt (Pg.page k c ++ r) 12 4 := pageIn_long (pageIn_page hk R.2 R.1 r)
end PfM
namespace PfM
/-! ## cells in turn: the kinds one behind another, round and round -/
def kAt (ks : List Nat) (j : Nat) : Nat := ks.getD (j % ks.length) 0
def turnIn (ks : List Nat) : Nat → Nat → List Int → Option (List Pg.Cell)
  | _, _, [] => some []
  | 0, _, _ :: _ => none
  | f + 1, j, x :: l => match Pg.cellIn (kAt ks j) (x :: l) with
    | none => none
    | some (c, r) => (turnIn ks f (j + 1) r).map (c :: ·)
def tAll (ks : List Nat) (j : Nat) (l : List Int) : Option (List Pg.Cell) := turnIn ks l.length j l
theorem cl_pos (c : Pg.Cell) : 1 ≤ (Pg.cellList c).length := by
  cases c with
  | none => exact Nat.le_refl _
  | some v => show 1 ≤ (Pg.written v).length + 1; omega
theorem kAt_le {ks : List Nat} (h : ∀ k ∈ ks, k ≤ 1) (j : Nat) : kAt ks j ≤ 1 := by
  unfold kAt
  rw [List.getD_eq_getElem?_getD]
  cases e : ks[j % ks.length]? with
  | none => exact Nat.zero_le _
  | some k => exact h k (List.mem_of_getElem? e)
theorem cellIn_short {k : Nat} (hk : k ≤ 1) {x : Int} {l r : List Int} {c : Pg.Cell} (h : Pg.cellIn k (x :: l) = some (c, r)) : r.length ≤ l.length := by
  obtain ⟨e1, e2, _⟩ := cellIn_rest hk h
  have := cl_pos c
  rw [e1, List.length_drop, List.length_cons]
  omega
theorem turn_fuel {ks : List Nat} (h : ∀ k ∈ ks, k ≤ 1) : ∀ (f g j : Nat) (l : List Int), l.length ≤ f → l.length ≤ g → turnIn ks f j l = turnIn ks g j l
  | f, g, j, [], _, _ => by cases f <;> cases g <;> rfl
  | 0, g, j, x :: l, hf, _ => by simp at hf
  | f + 1, 0, j, x :: l, _, hg => by simp at hg
  | f + 1, g + 1, j, x :: l, hf, hg => by
    unfold turnIn
    cases e : Pg.cellIn (kAt ks j) (x :: l) with
    | none => rfl
    | some p =>
      obtain ⟨c, r⟩ := p
      have hl := cellIn_short (kAt_le h j) e
      rw [List.length_cons] at hf hg
      dsimp only
      rw [turn_fuel h f g (j + 1) r (by omega) (by omega)]
theorem tAll_nil (ks : List Nat) (j : Nat) : tAll ks j [] = some [] := rfl
theorem tAll_cons {ks : List Nat} (h : ∀ k ∈ ks, k ≤ 1) (j : Nat) (x : Int) (l : List Int) : tAll ks j (x :: l) = match Pg.cellIn (kAt ks j) (x :: l) with
    | none => none
    | some (c, r) => (tAll ks (j + 1) r).map (c :: ·) := by
  unfold tAll
  rw [List.length_cons]
  show (match Pg.cellIn (kAt ks j) (x :: l) with | none => none | some (c, r) => (turnIn ks l.length (j + 1) r).map (c :: ·)) = _
  cases e : Pg.cellIn (kAt ks j) (x :: l) with
  | none => rfl
  | some p =>
    obtain ⟨c, r⟩ := p
    have hl := cellIn_short (kAt_le h j) e
    dsimp only
    rw [turn_fuel h l.length r.length (j + 1) r hl (Nat.le_refl _)]
/-- what stands once cs has been read -/
def GotT (ks : List Nat) (ns : List Int) (i : Nat) (cs : List Pg.Cell) : Prop := tAll ks 0 ns = (tAll ks cs.length (ns.drop i)).map (cs ++ ·)
/-- as the program gives it -/
def cellsT (ks : List Nat) (most : Nat) (ns : List Int) : Option (List Pg.Cell) := match tAll ks 0 ns with
  | none => none
  | some c => if c.length ≤ most then some c else none
theorem GotT.zero (ks : List Nat) (ns : List Int) : GotT ks ns 0 [] := by
  unfold GotT
  rw [List.drop_zero]
  show tAll ks 0 ns = (tAll ks 0 ns).map ([] ++ ·)
  cases tAll ks 0 ns <;> rfl
theorem GotT.none {ks : List Nat} (hk : ∀ k ∈ ks, k ≤ 1) {most : Nat} {ns : List Int} {i : Nat} {cs : List Pg.Cell} {x : Int} (g : GotT ks ns i cs) (hx : ns[i]? = some x) (h : Pg.cellIn (kAt ks cs.length) (ns.drop i) = none) : cellsT ks most ns = none := by
  unfold GotT at g
  rw [drop_at hx] at g h
  rw [tAll_cons hk, h] at g
  unfold cellsT
  rw [g]
  rfl
theorem GotT.more {ks : List Nat} (hk : ∀ k ∈ ks, k ≤ 1) {ns : List Int} {i : Nat} {cs : List Pg.Cell} {x : Int} {c : Pg.Cell} {r : List Int} (g : GotT ks ns i cs) (hx : ns[i]? = some x) (h : Pg.cellIn (kAt ks cs.length) (ns.drop i) = some (c, r)) :
    GotT ks ns (i + (Pg.cellList c).length) (cs ++ [c]) := by
  have hr := (cellIn_rest (kAt_le hk _) h).1
  unfold GotT at g ⊢
  rw [List.drop_drop] at hr
  rw [← hr]
  rw [drop_at hx] at g h
  rw [tAll_cons hk, h] at g
  rw [g, List.length_append, List.length_singleton]
  show ((tAll ks (cs.length + 1) r).map (c :: ·)).map (cs ++ ·) = _
  cases tAll ks (cs.length + 1) r with
  | none => rfl
  | some t =>
    show some (cs ++ c :: t) = some ((cs ++ [c]) ++ t)
    rw [List.append_assoc]
    rfl
theorem GotT.many {ks : List Nat} {most : Nat} {ns : List Int} {i : Nat} {cs : List Pg.Cell} (g : GotT ks ns i cs) (h : most < cs.length) : cellsT ks most ns = .none := by
  unfold GotT at g
  unfold cellsT
  rw [g]
  cases tAll ks cs.length (ns.drop i) with
  | none => rfl
  | some t =>
    show (if (cs ++ t).length ≤ most then some (cs ++ t) else .none) = .none
    rw [if_neg (by rw [List.length_append]; omega)]
theorem GotT.all {ks : List Nat} {most : Nat} {ns : List Int} {i : Nat} {cs : List Pg.Cell} (g : GotT ks ns i cs) (hi : ns.length ≤ i) (h : cs.length ≤ most) : cellsT ks most ns = some cs := by
  unfold GotT at g
  rw [List.drop_of_length_le hi, tAll_nil] at g
  unfold cellsT
  rw [g]
  show (if (cs ++ []).length ≤ most then some (cs ++ []) else .none) = some cs
  rw [List.append_nil, if_pos h]
/-- one kind -/
theorem kAt_one (k j : Nat) : kAt [k] j = k := by
  unfold kAt
  rw [List.length_singleton, Nat.mod_one]
  rfl
theorem tAll_one {k : Nat} (hk : k ≤ 1) : ∀ (n j : Nat) (l : List Int), l.length ≤ n → tAll [k] j l = ca k l
  | _, j, [], _ => rfl
  | 0, j, x :: l, h => by simp at h
  | n + 1, j, x :: l, h => by
    have hks : ∀ k' ∈ [k], k' ≤ 1 := fun k' h' => by rw [List.mem_singleton.mp h']; exact hk
    rw [tAll_cons hks, ca_cons hk, kAt_one]
    cases e : Pg.cellIn k (x :: l) with
    | none => rfl
    | some p =>
      obtain ⟨c, r⟩ := p
      have hl := cellIn_short hk e
      rw [List.length_cons] at h
      dsimp only
      rw [tAll_one hk n (j + 1) r (by omega)]
theorem cellsT_one {k : Nat} (hk : k ≤ 1) (ns : List Int) : cellsT [k] 64 ns = Pg.cellsIn k ns := by
  unfold cellsT
  rw [tAll_one hk ns.length 0 ns (Nat.le_refl _), cellsIn_eq hk]
  all_goals (cases ca k ns <;> rfl)
/-! ## rows -/
theorem kAt_get {ks : List Nat} {p j : Nat} (hp : p < ks.length) (hj : j % ks.length = p) : ks.drop p = kAt ks j :: ks.drop (p + 1) := by
  unfold kAt
  rw [hj, List.drop_eq_getElem_cons hp, List.getD_eq_getElem?_getD, List.getElem?_eq_getElem hp]
  rfl
/-- one row, from the place p of the kinds on -/
theorem row_turn {ks : List Nat} (hk : ∀ k ∈ ks, k ≤ 1) : ∀ (n p j : Nat) (l : List Int), n = ks.length - p → p ≤ ks.length → (p < ks.length → j % ks.length = p) →
    (∀ x r, Pg.rowIn (ks.drop p) l = some (x, r) → tAll ks j l = (tAll ks (j + n) r).map (x ++ ·) ∧ x.length = n ∧ r.length + n ≤ l.length ∧ (x.zip (ks.drop p)).all (fun (y : Pg.Cell × Nat) => Pg.cellIs y.2 y.1) = true) ∧
    (Pg.rowIn (ks.drop p) l = none → tAll ks j l = none ∨ ∃ c, tAll ks j l = some c ∧ c.length < n)
  | 0, p, j, l, hn, hp, hj => by
    have e : ks.drop p = [] := List.drop_of_length_le (by omega)
    rw [e]
    refine ⟨fun x r h => ?_, fun h => by cases h⟩
    cases h
    refine ⟨?_, rfl, Nat.le_refl _, rfl⟩
    show tAll ks j l = (tAll ks j l).map ([] ++ ·)
    cases tAll ks j l <;> rfl
  | n + 1, p, j, l, hn, hp, hj => by
    have hlt : p < ks.length := by omega
    have hjp := hj hlt
    rw [kAt_get hlt hjp]
    have hk1 := kAt_le hk j
    cases l with
    | nil =>
      exact ⟨(fun x r h => by cases h), fun _ => .inr ⟨[], rfl, Nat.succ_pos _⟩⟩
    | cons y l =>
      have eR : Pg.rowIn (kAt ks j :: ks.drop (p + 1)) (y :: l) = match Pg.cellIn (kAt ks j) (y :: l) with
        | none => none
        | some (c, r) => match Pg.rowIn (ks.drop (p + 1)) r with
          | some (x, s) => some (c :: x, s)
          | none => none := rfl
      rw [eR, tAll_cons hk]
      cases e : Pg.cellIn (kAt ks j) (y :: l) with
      | none => exact ⟨(fun x r h => by cases h), fun _ => .inl rfl⟩
      | some q =>
        obtain ⟨c, r⟩ := q
        dsimp only
        have hl := cellIn_short hk1 e
        have hc := (cellIn_rest hk1 e).2.2
        have hj2 : p + 1 < ks.length → (j + 1) % ks.length = p + 1 := fun h => by
          rw [Nat.add_mod, hjp, Nat.mod_eq_of_lt (show 1 < ks.length by omega), Nat.mod_eq_of_lt h]
        obtain ⟨ih1, ih2⟩ := row_turn hk n (p + 1) (j + 1) r (by omega) (by omega) hj2
        refine ⟨fun x s h => ?_, fun h => ?_⟩
        · cases e2 : Pg.rowIn (ks.drop (p + 1)) r with
          | none => rw [e2] at h; cases h
          | some z =>
            obtain ⟨x2, s2⟩ := z
            rw [e2] at h
            cases h
            obtain ⟨i1, i2, i3, i4⟩ := ih1 _ _ e2
            refine ⟨?_, by rw [List.length_cons, i2], by rw [List.length_cons]; omega, ?_⟩
            · rw [i1, show j + 1 + n = j + (n + 1) by omega]
              cases tAll ks (j + (n + 1)) s <;> rfl
            · rw [List.zip_cons_cons, List.all_cons, i4, Bool.and_true]
              exact hc
        · have h2 : Pg.rowIn (ks.drop (p + 1)) r = none := by
            cases e2 : Pg.rowIn (ks.drop (p + 1)) r with
            | none => rfl
            | some z => rw [e2] at h; cases h
          rcases ih2 h2 with i | ⟨d, i, hd⟩
          · rw [i]
            exact .inl rfl
          · rw [i]
            exact .inr ⟨c :: d, rfl, by rw [List.length_cons]; omega⟩
/-- cells cut into rows of w -/
def chunks (w : Nat) : Nat → List Pg.Cell → List Pg.Row
  | 0, _ => []
  | n + 1, cs => cs.take w :: chunks w n (cs.drop w)
theorem rows_turn {ks : List Nat} (hk : ∀ k ∈ ks, k ≤ 1) (h0 : 0 < ks.length) : ∀ (f j : Nat) (l : List Int), l.length ≤ f → j % ks.length = 0 →
    Pg.rowsIn ks f l = match tAll ks j l with
      | none => none
      | some c => if c.length % ks.length = 0 then some (chunks ks.length (c.length / ks.length) c) else none
  | f, j, [], _, hj => by
    rw [tAll_nil]
    dsimp only
    rw [List.length_nil, Nat.zero_mod, if_pos rfl, Nat.zero_div]
    cases f <;> rfl
  | 0, j, x :: l, hf, hj => by simp at hf
  | f + 1, j, x :: l, hf, hj => by
    obtain ⟨r1, r2⟩ := row_turn hk ks.length 0 j (x :: l) (by omega) (Nat.zero_le _) (fun _ => hj)
    rw [List.drop_zero] at r1 r2
    show (match Pg.rowIn ks (x :: l) with | none => none | some (r, s) => match Pg.rowsIn ks f s with | some y => some (r :: y) | none => none) = _
    cases e : Pg.rowIn ks (x :: l) with
    | none =>
      rcases r2 e with h | ⟨c, h, hc⟩
      · rw [h]
      · rw [h]
        dsimp only
        have hne : c.length ≠ 0 := fun z => by
          rw [tAll_cons hk] at h
          cases e2 : Pg.cellIn (kAt ks j) (x :: l) with
          | none => rw [e2] at h; cases h
          | some q =>
            obtain ⟨d, r⟩ := q
            rw [e2] at h
            dsimp only at h
            cases e3 : tAll ks (j + 1) r with
            | none => rw [e3] at h; cases h
            | some t =>
              rw [e3] at h
              cases h
              simp at z
        rw [if_neg (by rw [Nat.mod_eq_of_lt hc]; exact hne)]
    | some q =>
      obtain ⟨row, r⟩ := q
      obtain ⟨i1, i2, i3, _⟩ := r1 _ _ e
      rw [List.length_cons] at hf i3
      have ih := rows_turn hk h0 f (j + ks.length) r (by omega) (by rw [Nat.add_mod_right]; exact hj)
      dsimp only
      rw [ih, i1]
      cases tAll ks (j + ks.length) r with
      | none => rfl
      | some c =>
        show (match (if c.length % ks.length = 0 then some (chunks ks.length (c.length / ks.length) c) else none) with | some y => some (row :: y) | none => none) = if (row ++ c).length % ks.length = 0 then some (chunks ks.length ((row ++ c).length / ks.length) (row ++ c)) else none
        rw [List.length_append, i2, Nat.add_mod_left, Nat.add_div_left _ h0]
        by_cases hm : c.length % ks.length = 0
        · rw [if_pos hm, if_pos hm]
          show some (row :: chunks ks.length (c.length / ks.length) c) = some ((row ++ c).take ks.length :: chunks ks.length (c.length / ks.length) ((row ++ c).drop ks.length))
          rw [← i2, List.take_left', List.drop_left'] <;> rfl
        · rw [if_neg hm, if_neg hm]
theorem chunks_len (w : Nat) : ∀ (n : Nat) (c : List Pg.Cell), (chunks w n c).length = n
  | 0, _ => rfl
  | n + 1, c => by
    show (chunks w n (c.drop w)).length + 1 = n + 1
    rw [chunks_len w n]
/-- rows that were read are right -/
theorem rowsIn_right {ks : List Nat} (hk : ∀ k ∈ ks, k ≤ 1) : ∀ (f : Nat) (l : List Int) (rs : List Pg.Row), Pg.rowsIn ks f l = some rs → rs.all (Pg.rowRight ks) = true
  | f, [], rs, h => by
    have : Pg.rowsIn ks f [] = some [] := by cases f <;> rfl
    rw [this] at h
    cases h
    rfl
  | 0, x :: l, rs, h => by cases h
  | f + 1, x :: l, rs, h => by
    have h' : (match Pg.rowIn ks (x :: l) with | none => none | some (r, s) => match Pg.rowsIn ks f s with | some y => some (r :: y) | none => none) = some rs := h
    cases e : Pg.rowIn ks (x :: l) with
    | none => rw [e] at h'; cases h'
    | some q =>
      obtain ⟨row, r⟩ := q
      rw [e] at h'
      dsimp only at h'
      obtain ⟨r1, _⟩ := row_turn hk ks.length 0 0 (x :: l) (by omega) (Nat.zero_le _) (fun _ => Nat.zero_mod _)
      rw [List.drop_zero] at r1
      obtain ⟨_, i2, _, i4⟩ := r1 _ _ e
      cases e2 : Pg.rowsIn ks f r with
      | none => rw [e2] at h'; cases h'
      | some y =>
        rw [e2] at h'
        cases h'
        rw [List.all_cons, rowsIn_right hk f r y e2, Bool.and_true]
        unfold Pg.rowRight
        rw [i2, i4]
        simp
end PfM
namespace PfM
/-! ## files, by columns -/
def colsOf (w : Nat) (grp : List Pg.Row) : List (List Pg.Cell) := (List.range w).map fun (c : Nat) => Pg.colOf grp c
def pagesC (ks : List Nat) (cols : List (List Pg.Cell)) : List (List Nat) := (ks.zip cols).map fun (x : Nat × List Pg.Cell) => Pg.page x.1 x.2
theorem cols_len (w : Nat) (g : List Pg.Row) : (colsOf w g).length = w := by
  unfold colsOf
  rw [List.length_map, List.length_range]
theorem cols_get {w : Nat} {g : List Pg.Row} {c : Nat} (h : c < w) : (colsOf w g)[c]? = some (Pg.colOf g c) := by
  unfold colsOf
  rw [List.getElem?_map, List.getElem?_range h]
  rfl
theorem pages_eq (ks : List Nat) (g : List Pg.Row) : Pg.pagesOf ks g = pagesC ks (colsOf ks.length g) := by
  unfold Pg.pagesOf pagesC
  apply List.ext_getElem
  · simp [colsOf]
  · intro i h1 h2
    simp [colsOf]
def entC (p : Nat) : List (Nat × List Pg.Cell) → List (List Nat)
  | [] => []
  | x :: r => [p, (Pg.page x.1 x.2).length, Pg.nullsOf x.2] :: entC (p + (Pg.page x.1 x.2).length) r
def entB (e : List Nat) : List Nat := e.flatMap (Pg.le 4)
theorem ent_eq (ks : List Nat) (g : List Pg.Row) : ∀ (n p : Nat), n ≤ ks.length →
    ((Pg.entriesFrom ks g n p).zipIdx (ks.length - n)).flatMap (fun (x : (Nat × Nat) × Nat) => Pg.le 4 x.1.1 ++ (Pg.le 4 x.1.2 ++ Pg.le 4 (Pg.nullsOf (Pg.colOf g x.2)))) = (entC p ((ks.zip (colsOf ks.length g)).drop (ks.length - n))).flatMap entB
  | 0, p, _ => by
    rw [List.drop_of_length_le (by rw [List.length_zip, cols_len]; omega)]
    rfl
  | n + 1, p, hn => by
    have hc : ks.length - (n + 1) < ks.length := by omega
    have hz : (ks.zip (colsOf ks.length g)).drop (ks.length - (n + 1)) = (ks[ks.length - (n + 1)], Pg.colOf g (ks.length - (n + 1))) :: (ks.zip (colsOf ks.length g)).drop (ks.length - n) := by
      rw [List.drop_eq_getElem_cons (by rw [List.length_zip, cols_len]; omega), show ks.length - (n + 1) + 1 = ks.length - n by omega]
      simp [colsOf]
    rw [hz]
    have eg : ks.getD (ks.length - (n + 1)) 0 = ks[ks.length - (n + 1)] := by
      rw [List.getD_eq_getElem?_getD, List.getElem?_eq_getElem hc]
      rfl
    have ih := ent_eq ks g n (p + (Pg.page ks[ks.length - (n + 1)] (Pg.colOf g (ks.length - (n + 1)))).length) (by omega)
    have eF : Pg.entriesFrom ks g (n + 1) p = (p, (Pg.page (ks.getD (ks.length - (n + 1)) 0) (Pg.colOf g (ks.length - (n + 1)))).length) :: Pg.entriesFrom ks g n (p + (Pg.page (ks.getD (ks.length - (n + 1)) 0) (Pg.colOf g (ks.length - (n + 1)))).length) := rfl
    rw [eF]
    rw [eg, List.zipIdx_cons, List.flatMap_cons, show ks.length - (n + 1) + 1 = ks.length - n by omega, ih]
    show _ = (([p, (Pg.page ks[ks.length - (n + 1)] (Pg.colOf g (ks.length - (n + 1)))).length, Pg.nullsOf (Pg.colOf g (ks.length - (n + 1)))] :: entC _ _).flatMap entB)
    rw [List.flatMap_cons]
    simp [entB]
theorem entry_eq (ks : List Nat) (g : List Pg.Row) (p : Nat) : Pg.entryBytes ks g p = (entC p (ks.zip (colsOf ks.length g))).flatMap entB := by
  have h := ent_eq ks g ks.length p (Nat.le_refl _)
  rw [Nat.sub_self, List.drop_zero] at h
  exact h
/-- how many rows a group has, by its columns -/
def rowsOf1 (cols : List (List Pg.Cell)) : Nat := (cols.getD 0 []).length
theorem rowsOf1_cols {w : Nat} (h : 0 < w) (g : List Pg.Row) : rowsOf1 (colsOf w g) = g.length := by
  unfold rowsOf1
  rw [List.getD_eq_getElem?_getD, cols_get h]
  show (Pg.colOf g 0).length = _
  unfold Pg.colOf
  rw [List.length_map]
def grpC (ks : List Nat) (cols : List (List Pg.Cell)) : List Nat := Pg.HERE ++ (Pg.le 4 (rowsOf1 cols) ++ (pagesC ks cols).flatten)
theorem grp_eq {ks : List Nat} (h : 0 < ks.length) (g : List Pg.Row) : Pg.groupBytes ks g = grpC ks (colsOf ks.length g) := by
  unfold Pg.groupBytes grpC
  rw [pages_eq, rowsOf1_cols h]
theorem grpC_len (ks : List Nat) (cols : List (List Pg.Cell)) : (grpC ks cols).length = 8 + (pagesC ks cols).flatten.length := by
  unfold grpC
  rw [List.length_append, List.length_append, le_len]
  show 4 + (4 + _) = _
  omega
def entG (ks : List Nat) : Nat → List (List (List Pg.Cell)) → List (List Nat)
  | _, [] => []
  | p, g :: r => entC (p + 8) (ks.zip g) ++ entG ks (p + (grpC ks g).length) r
theorem all_eq {ks : List Nat} (h : 0 < ks.length) : ∀ (gs : List (List Pg.Row)) (p : Nat), Pg.allEntries ks p gs = (entG ks p (gs.map (colsOf ks.length))).flatMap entB
  | [], p => rfl
  | g :: r, p => by
    show Pg.entryBytes ks g (p + 8) ++ Pg.allEntries ks (p + (Pg.groupBytes ks g).length) r = ((entC (p + 8) (ks.zip (colsOf ks.length g)) ++ entG ks (p + (grpC ks (colsOf ks.length g)).length) (r.map (colsOf ks.length))).flatMap entB)
    rw [entry_eq, all_eq h r, grp_eq h, List.flatMap_append]
def rowsC (gs : List (List (List Pg.Cell))) : Nat := (gs.map rowsOf1).foldr (fun (x y : Nat) => x + y) 0
theorem rowsC_eq {w : Nat} (h : 0 < w) : ∀ gs : List (List Pg.Row), rowsC (gs.map (colsOf w)) = gs.flatten.length
  | [] => rfl
  | g :: r => by
    show rowsOf1 (colsOf w g) + rowsC (r.map (colsOf w)) = (g ++ r.flatten).length
    rw [rowsOf1_cols h, rowsC_eq h r, List.length_append]
/-- the foot before its check -/
def footA (ks : List Nat) (p : Nat) (gs : List (List (List Pg.Cell))) : List Nat := Pg.FOOT ++ (Pg.le 4 gs.length ++ ((entG ks p gs).flatMap entB ++ Pg.le 4 (rowsC gs)))
def footC (ks : List Nat) (p : Nat) (gs : List (List (List Pg.Cell))) : List Nat := footA ks p gs ++ Pg.le 4 (Pg.check 0 (footA ks p gs))
theorem foot_eq {ks : List Nat} (h : 0 < ks.length) (p : Nat) (gs : List (List Pg.Row)) : Pg.footBody ks p gs = footC ks p (gs.map (colsOf ks.length)) := by
  unfold Pg.footBody footC footA
  dsimp only
  rw [all_eq h, rowsC_eq h, List.length_map]
/-- what stands behind the foot's check -/
def endC (ft : List Nat) : List Nat := Pg.le 4 ft.length ++ Pg.MARK
theorem endC_len (ft : List Nat) : (endC ft).length = 10 := by
  unfold endC
  rw [List.length_append, le_len]
  rfl
def fileC (g : Nat) (ks : List Nat) (gs : List (List (List Pg.Cell))) : List Nat := Pg.head ks g ++ (gs.flatMap (grpC ks) ++ (footC ks (Pg.head ks g).length gs ++ endC (footC ks (Pg.head ks g).length gs)))
theorem footAll_eq {ks : List Nat} (h : 0 < ks.length) (p : Nat) (gs : List (List Pg.Row)) : Pg.foot ks p gs = footC ks p (gs.map (colsOf ks.length)) ++ endC (footC ks p (gs.map (colsOf ks.length))) := by
  unfold Pg.foot endC
  rw [foot_eq h]
theorem groups_eq {ks : List Nat} (h : 0 < ks.length) : ∀ gs : List (List Pg.Row), gs.flatMap (Pg.groupBytes ks) = (gs.map (colsOf ks.length)).flatMap (grpC ks)
  | [] => rfl
  | g :: r => by
    rw [List.flatMap_cons, List.map_cons, List.flatMap_cons, groups_eq h r, grp_eq h]
theorem file_eq (t : Pg.Table) (h : 0 < t.kinds.length) : t.file = fileC t.g t.kinds (t.groups.map (colsOf t.kinds.length)) := by
  unfold Pg.Table.file fileC
  rw [footAll_eq h, groups_eq h]
/-! ## cells cut into groups and columns -/
def stride {α : Type} (w c : Nat) (l : List α) : List α := (List.range l.length).filterMap fun (k : Nat) => l[c + k * w]?
theorem stride_col (w c : Nat) (hw : c < w) : ∀ (m n : Nat) (l : List Pg.Cell), l.length = m * w → m ≤ n → (List.range n).filterMap (fun (k : Nat) => l[c + k * w]?) = Pg.colOf (chunks w m l) c
  | 0, n, l, hl, hn => by
    rw [Nat.zero_mul] at hl
    have e : l = [] := List.length_eq_zero_iff.mp hl
    subst e
    show _ = []
    rw [List.filterMap_eq_nil_iff]
    intro k _
    simp
  | m + 1, 0, l, hl, hn => by omega
  | m + 1, n + 1, l, hl, hn => by
    have hlw : l.length = m * w + w := by rw [hl, Nat.add_mul, Nat.one_mul]
    have hc : c < l.length := by omega
    rw [List.range_succ_eq_map, List.filterMap_cons]
    have h0 : l[c + 0 * w]? = some l[c] := by
      rw [Nat.zero_mul, Nat.add_zero]
      exact List.getElem?_eq_getElem hc
    rw [h0]
    dsimp only
    have ih := stride_col w c hw m n (l.drop w) (by rw [List.length_drop]; omega) (by omega)
    rw [List.filterMap_map]
    have e : ((fun (k : Nat) => l[c + k * w]?) ∘ Nat.succ) = fun (k : Nat) => (l.drop w)[c + k * w]? := by
      funext k
      show l[c + (k + 1) * w]? = _
      rw [List.getElem?_drop, Nat.add_mul, Nat.one_mul]
      congr 1
      omega
    rw [e, ih]
    show _ = (Pg.cellAt (l.take w) c) :: Pg.colOf (chunks w m (l.drop w)) c
    congr 1
    unfold Pg.cellAt
    rw [List.getD_eq_getElem?_getD, List.getElem?_take_of_lt hw, List.getElem?_eq_getElem hc]
    rfl
theorem chunks_drop (w : Nat) : ∀ (a n : Nat) (l : List Pg.Cell), (chunks w n l).drop a = chunks w (n - a) (l.drop (a * w))
  | 0, n, l => by rw [Nat.zero_mul, List.drop_zero, List.drop_zero, Nat.sub_zero]
  | a + 1, 0, l => by rw [Nat.zero_sub]; rfl
  | a + 1, n + 1, l => by
    show (chunks w n (l.drop w)).drop a = _
    rw [chunks_drop w a n, List.drop_drop, show n + 1 - (a + 1) = n - a by omega, Nat.add_mul, Nat.one_mul, Nat.add_comm w]
theorem chunks_take (w : Nat) : ∀ (a n : Nat) (l : List Pg.Cell), (chunks w n l).take a = chunks w (min a n) l
  | 0, n, l => by rw [Nat.zero_min]; rfl
  | a + 1, 0, l => by rw [Nat.min_zero]; rfl
  | a + 1, n + 1, l => by
    rw [show min (a + 1) (n + 1) = min a n + 1 by omega]
    show l.take w :: (chunks w n (l.drop w)).take a = l.take w :: chunks w (min a n) (l.drop w)
    rw [chunks_take w a n]
theorem chunks_cut (w : Nat) : ∀ (m a : Nat) (l : List Pg.Cell), m * w ≤ a → chunks w m (l.take a) = chunks w m l
  | 0, a, l, h => rfl
  | m + 1, a, l, h => by
    have h' : m * w + w ≤ a := by rw [Nat.add_mul, Nat.one_mul] at h; exact h
    show (l.take a).take w :: chunks w m ((l.take a).drop w) = l.take w :: chunks w m (l.drop w)
    rw [List.take_take, Nat.min_eq_left (by omega), List.drop_take, chunks_cut w m (a - w) (l.drop w) (by omega)]
theorem cutRows_get {g : Nat} (hg : 1 ≤ g) : ∀ (f : Nat) (l : List Pg.Row) (j : Nat), l.length ≤ f → (Pg.cutRows g f l)[j]? = if j * g < l.length then some ((l.drop (j * g)).take g) else none
  | 0, l, j, h => by
    rw [if_neg (by omega)]
    rfl
  | f + 1, l, j, h => by
    show (if l.isEmpty = true then [] else l.take g :: Pg.cutRows g f (l.drop g))[j]? = _
    cases l with
    | nil =>
      rw [if_pos (show ([] : List Pg.Row).isEmpty = true from rfl), if_neg (by simp)]
      rfl
    | cons x l =>
      rw [if_neg (by simp)]
      cases j with
      | zero =>
        rw [Nat.zero_mul, if_pos (by simp), List.drop_zero]
        rfl
      | succ j =>
        rw [List.getElem?_cons_succ, cutRows_get hg f _ j (by rw [List.length_drop]; omega), List.length_drop, List.drop_drop, Nat.add_mul, Nat.one_mul]
        by_cases q : j * g < (x :: l).length - g
        · rw [if_pos q, if_pos (by omega), Nat.add_comm g]
        · rw [if_neg q, if_neg (by omega)]
def grpAt (g w : Nat) (cs : List Pg.Cell) (j : Nat) : List (List Pg.Cell) := (List.range w).map fun (c : Nat) => stride w c ((cs.drop (j * (g * w))).take (g * w))
theorem groups_cut {g w n : Nat} (hg : 1 ≤ g) (hw : 1 ≤ w) {cs : List Pg.Cell} (hc : cs.length = n * w) {T : Nat} (h1 : ∀ j, j < T → j * (g * w) < cs.length) (h2 : cs.length ≤ T * (g * w)) :
    (Pg.cutRows g (chunks w n cs).length (chunks w n cs)).map (colsOf w) = (List.range T).map (grpAt g w cs) := by
  have key : ∀ j : Nat, j * g < n ↔ j * (g * w) < cs.length := fun j => by
    rw [hc, ← Nat.mul_assoc]
    exact (Nat.mul_lt_mul_right (by omega)).symm
  apply List.ext_getElem?
  intro j
  rw [List.getElem?_map, List.getElem?_map, cutRows_get hg _ _ _ (Nat.le_refl _), chunks_len]
  by_cases hj : j * g < n
  · have hT : j < T := by
      have h3 := (key j).mp hj
      by_cases q : j < T
      · exact q
      · have : T * (g * w) ≤ j * (g * w) := Nat.mul_le_mul_right _ (by omega)
        omega
    rw [if_pos hj, List.getElem?_range hT]
    show some (colsOf w (((chunks w n cs).drop (j * g)).take g)) = some (grpAt g w cs j)
    rw [chunks_drop, chunks_take]
    congr 1
    unfold colsOf grpAt
    apply List.map_congr_left
    intro c hc2
    have hcw := List.mem_range.mp hc2
    have hm : min g (n - j * g) * w ≤ g * w := Nat.mul_le_mul_right _ (Nat.min_le_left _ _)
    rw [← chunks_cut w _ (g * w) _ hm, Nat.mul_assoc]
    have hlen : ((cs.drop (j * (g * w))).take (g * w)).length = min g (n - j * g) * w := by
      rw [List.length_take, List.length_drop, hc, ← Nat.mul_assoc, ← Nat.sub_mul, Nat.mul_min_mul_right]
    rw [← stride_col w c hcw (min g (n - j * g)) ((cs.drop (j * (g * w))).take (g * w)).length _ hlen]
    · rfl
    · rw [hlen]
      exact Nat.le_mul_of_pos_right _ (by omega)
  · rw [if_neg hj, List.getElem?_eq_none (l := List.range T) (by
      rw [List.length_range]
      by_cases q : T ≤ j
      · exact q
      · exact absurd ((key j).mpr (h1 j (by omega))) hj)]
    rfl
end PfM
namespace PfM
/-! ## what is due: sizes, file -/
def oneCount (w : Option (List Nat)) : Int := match w with
  | some b => (b.length : Int)
  | none => -1
theorem due_sizes {k : Int} (h : 0 ≤ k) (ns : List Int) : PyWrpage.sizes k ns = match Pg.cellsIn k.toNat ns with
    | none => [-1]
    | some c => if (Pg.valuesOf c).isEmpty = true then [0, 0] else ((Pg.chosen k.toNat (Pg.valuesOf c)).1 : Int) :: (((Pg.ways k.toNat (Pg.valuesOf c)).map oneCount).length : Int) :: (Pg.ways k.toNat (Pg.valuesOf c)).map oneCount := by
  unfold PyWrpage.sizes PgNeutral.step
  have e : PgNeutral.callOf [[4, k], ns] = some (.sizes k.toNat ns) := by
    show (if PgNeutral.whole [k] = true then some (Pg.Call.sizes k.toNat ns) else none) = _
    rw [if_pos (whole1 h)]
  rw [e]
  show PgNeutral.shown (Pg.answer (.sizes k.toNat ns)) = _
  have ea : Pg.answer (.sizes k.toNat ns) = match Pg.cellsIn k.toNat ns with
    | none => Pg.says (-1)
    | some c => if (Pg.valuesOf c).isEmpty = true then ⟨0, [[]]⟩ else ⟨((Pg.chosen k.toNat (Pg.valuesOf c)).1 : Nat), [(Pg.ways k.toNat (Pg.valuesOf c)).map oneCount]⟩ := rfl
  rw [ea]
  cases Pg.cellsIn k.toNat ns with
  | none => rfl
  | some c =>
    dsimp only
    by_cases he : (Pg.valuesOf c).isEmpty = true
    · rw [if_pos he, if_pos he]
      rfl
    · rw [if_neg he, if_neg he]
      unfold PgNeutral.shown
      dsimp only
      rw [List.flatMap_cons, List.flatMap_nil, List.append_nil]
end PfM
namespace PfM
/-! ## a file part by part -/
def pg2 (x : Nat × List Pg.Cell) : List Nat := Pg.page x.1 x.2
theorem pagesC_flat (ks : List Nat) (cols : List (List Pg.Cell)) : (pagesC ks cols).flatten = (ks.zip cols).flatMap pg2 := by
  unfold pagesC
  rw [List.flatMap_def]
  rfl
theorem entC_snoc (x : Nat × List Pg.Cell) : ∀ (l : List (Nat × List Pg.Cell)) (p : Nat), entC p (l ++ [x]) = entC p l ++ [[p + (l.flatMap pg2).length, (Pg.page x.1 x.2).length, Pg.nullsOf x.2]]
  | [], p => rfl
  | y :: l, p => by
    show [p, (Pg.page y.1 y.2).length, Pg.nullsOf y.2] :: entC (p + (Pg.page y.1 y.2).length) (l ++ [x]) = [p, (Pg.page y.1 y.2).length, Pg.nullsOf y.2] :: (entC (p + (Pg.page y.1 y.2).length) l ++ _)
    rw [entC_snoc x l, List.flatMap_cons, List.length_append]
    show _ = _ :: (_ ++ [[p + ((Pg.page y.1 y.2).length + (l.flatMap pg2).length), _, _]])
    rw [Nat.add_assoc]
theorem entG_snoc (ks : List Nat) (g : List (List Pg.Cell)) : ∀ (gs : List (List (List Pg.Cell))) (p : Nat), entG ks p (gs ++ [g]) = entG ks p gs ++ entC (p + (gs.flatMap (grpC ks)).length + 8) (ks.zip g)
  | [], p => by
    show entC (p + 8) (ks.zip g) ++ [] = [] ++ _
    rw [List.append_nil, List.nil_append]
    rfl
  | h :: gs, p => by
    show entC (p + 8) (ks.zip h) ++ entG ks (p + (grpC ks h).length) (gs ++ [g]) = (entC (p + 8) (ks.zip h) ++ entG ks (p + (grpC ks h).length) gs) ++ _
    rw [entG_snoc ks g gs, List.append_assoc, List.flatMap_cons, List.length_append, Nat.add_assoc p]
theorem grpC_eq (ks : List Nat) (cols : List (List Pg.Cell)) : grpC ks cols = Pg.HERE ++ (Pg.le 4 (rowsOf1 cols) ++ (ks.zip cols).flatMap pg2) := by
  unfold grpC
  rw [pagesC_flat]
theorem page_short {k : Nat} {cs : List Pg.Cell} (R : Right k cs) : (Pg.page k cs).length ≤ 3100 := by
  obtain ⟨hl, hi⟩ := R
  have hv := vals_is hi
  have hvl := vals_len cs
  have pe := page_eq k cs (w := (Pg.chosen k (Pg.valuesOf cs)).1) (st := if Pg.nullsOf cs = 0 then 0 else if Pg.nullsOf cs = cs.length then 1 else 2) (bd := (if (if Pg.nullsOf cs = 0 then 0 else if Pg.nullsOf cs = cs.length then 1 else 2 : Nat) = 2 then Pg.bitBytes (cs.map Option.isSome) else []) ++ (Pg.chosen k (Pg.valuesOf cs)).2) rfl rfl rfl
  rw [pe, List.length_append, frame_len, le_len, List.length_append]
  have bl := bits_len cs hl
  have h0 : ∀ st : Nat, (if st = 2 then Pg.bitBytes (cs.map Option.isSome) else []).length ≤ 10 := fun st => by
    split
    · exact bl
    · exact Nat.zero_le _
  have h1 := h0 (if Pg.nullsOf cs = 0 then 0 else if Pg.nullsOf cs = cs.length then 1 else 2)
  have h2 : (Pg.chosen k (Pg.valuesOf cs)).2.length ≤ 3000 := by
    by_cases he : Pg.valuesOf cs = []
    · rw [he]
      exact Nat.zero_le _
    · rw [chosen_eq k he]
      have h1 := pick_le (Pg.ways k (Pg.valuesOf cs)) (Pg.plain k (Pg.valuesOf cs)) _ (Nat.le_refl _)
      rw [pickTo_all] at h1
      have h2 := plain_len (k := k) (l := Pg.valuesOf cs) (fun v hv' => raw_le (hv v hv')) (by omega)
      omega
  omega
/-- groups as the program holds them: each a column a kind, right, of as many cells -/
structure GOk (ks : List Nat) (cols : List (List Pg.Cell)) : Prop where
  len : cols.length = ks.length
  right : ∀ x ∈ ks.zip cols, Right x.1 x.2
theorem pages_len {l : List (Nat × List Pg.Cell)} (h : ∀ x ∈ l, Right x.1 x.2) : (l.flatMap pg2).length ≤ l.length * 3100 := flat_len fun x hx => page_short (h x hx)
theorem grpC_short {ks : List Nat} {cols : List (List Pg.Cell)} (h : GOk ks cols) (hk : ks.length ≤ 8) : (grpC ks cols).length ≤ 24808 := by
  rw [grpC_len, pagesC_flat]
  have := pages_len h.right
  rw [List.length_zip] at this
  omega
theorem grps_short {ks : List Nat} (hk : ks.length ≤ 8) : ∀ {gs : List (List (List Pg.Cell))}, (∀ g ∈ gs, GOk ks g) → (gs.flatMap (grpC ks)).length ≤ gs.length * 24808 := fun h => flat_len fun g hg => grpC_short (h g hg) hk
theorem entC_len : ∀ (l : List (Nat × List Pg.Cell)) (p : Nat), (entC p l).length = l.length
  | [], _ => rfl
  | x :: l, p => by
    show (entC _ l).length + 1 = l.length + 1
    rw [entC_len l]
theorem entC_three : ∀ (l : List (Nat × List Pg.Cell)) (p : Nat), ∀ e ∈ entC p l, e.length = 3
  | [], _, e, h => by cases h
  | x :: l, p, e, h => by
    rcases List.mem_cons.mp h with h | h
    · rw [h]
      rfl
    · exact entC_three l _ e h
theorem entG_three (ks : List Nat) : ∀ (gs : List (List (List Pg.Cell))) (p : Nat), ∀ e ∈ entG ks p gs, e.length = 3
  | [], _, e, h => by cases h
  | g :: gs, p, e, h => by
    rcases List.mem_append.mp h with h | h
    · exact entC_three _ _ e h
    · exact entG_three ks gs _ e h
theorem entG_len {ks : List Nat} (hk : ks.length ≤ 8) : ∀ (gs : List (List (List Pg.Cell))) (p : Nat), (entG ks p gs).length ≤ gs.length * 8
  | [], _ => Nat.zero_le _
  | g :: gs, p => by
    show (entC (p + 8) (ks.zip g) ++ entG ks _ gs).length ≤ (gs.length + 1) * 8
    have h1 := entG_len hk gs (p + (grpC ks g).length)
    rw [List.length_append, entC_len, List.length_zip, Nat.add_mul]
    omega
theorem rowsC_snoc (g : List (List Pg.Cell)) : ∀ gs : List (List (List Pg.Cell)), rowsC (gs ++ [g]) = rowsC gs + rowsOf1 g
  | [] => by
    show rowsOf1 g + 0 = 0 + rowsOf1 g
    omega
  | h :: gs => by
    show rowsOf1 h + rowsC (gs ++ [g]) = rowsOf1 h + rowsC gs + rowsOf1 g
    rw [rowsC_snoc g gs]
    omega
theorem head_eq (ks : List Nat) (g : Nat) : Pg.head ks g = Pg.MARK ++ (ks.length :: g :: ks) ++ Pg.le 4 (Pg.check 0 (Pg.MARK ++ (ks.length :: g :: ks))) := rfl
theorem head_len (ks : List Nat) (g : Nat) : (Pg.head ks g).length = 12 + ks.length := by
  rw [head_eq, List.length_append, le_len, List.length_append]
  show 6 + (ks.length + 1 + 1) + 4 = _
  omega
end PfM
namespace PfM
/-! ## a table that is handed over -/
def tabIn (g : Nat) (ks : List Nat) (ns : List Int) : Option Pg.Table := match Pg.rowsIn ks ns.length ns with
  | none => none
  | some r => if (⟨ks, g, r⟩ : Pg.Table).right = true then some ⟨ks, g, r⟩ else none
def kindsOk (ks : List Nat) : Bool := ks.all fun (k : Nat) => decide (k ≤ 1)
theorem right_eq (ks : List Nat) (g : Nat) (r : List Pg.Row) : (⟨ks, g, r⟩ : Pg.Table).right = true ↔ 1 ≤ ks.length ∧ ks.length ≤ 8 ∧ kindsOk ks = true ∧ 1 ≤ g ∧ g ≤ 64 ∧ r.length ≤ 256 ∧ r.all (Pg.rowRight ks) = true := by
  unfold Pg.Table.right
  simp only [Bool.and_eq_true, decide_eq_true_eq]
  exact Iff.rfl
theorem tab_bad {g : Nat} {ks : List Nat} (ns : List Int) (h : ¬ (1 ≤ ks.length ∧ ks.length ≤ 8 ∧ kindsOk ks = true ∧ 1 ≤ g ∧ g ≤ 64)) : tabIn g ks ns = none := by
  unfold tabIn
  cases Pg.rowsIn ks ns.length ns with
  | none => rfl
  | some r =>
    dsimp only
    rw [if_neg]
    intro q
    have q' := (right_eq ks g r).mp q
    exact h ⟨q'.1, q'.2.1, q'.2.2.1, q'.2.2.2.1, q'.2.2.2.2.1⟩
theorem kinds_le {ks : List Nat} (h : kindsOk ks = true) : ∀ k ∈ ks, k ≤ 1 := fun k hk => of_decide_eq_true (List.all_eq_true.mp h k hk)
theorem tab_good {g : Nat} {ks : List Nat} (ns : List Int) (h : 1 ≤ ks.length ∧ ks.length ≤ 8 ∧ kindsOk ks = true ∧ 1 ≤ g ∧ g ≤ 64) : tabIn g ks ns = match cellsT ks (256 * ks.length) ns with
    | none => none
    | some c => if c.length % ks.length = 0 then some ⟨ks, g, chunks ks.length (c.length / ks.length) c⟩ else none := by
  have hk := kinds_le h.2.2.1
  have h0 : 0 < ks.length := by omega
  have rt := rows_turn hk h0 ns.length 0 ns (Nat.le_refl _) (Nat.zero_mod _)
  unfold tabIn cellsT
  cases e : tAll ks 0 ns with
  | none =>
    rw [e] at rt
    rw [rt]
  | some c =>
    rw [e] at rt
    dsimp only at rt ⊢
    by_cases hm : c.length % ks.length = 0
    · rw [if_pos hm] at rt
      have rr := rowsIn_right hk _ _ _ rt
      rw [rt]
      dsimp only
      have hd : c.length = c.length / ks.length * ks.length := (Nat.div_mul_cancel (Nat.dvd_of_mod_eq_zero hm)).symm
      by_cases hl : c.length ≤ 256 * ks.length
      · rw [if_pos hl]
        dsimp only
        rw [if_pos hm, if_pos]
        refine (right_eq _ _ _).mpr ⟨h.1, h.2.1, h.2.2.1, h.2.2.2.1, h.2.2.2.2, ?_, rr⟩
        rw [chunks_len]
        exact Nat.div_le_of_le_mul (by rw [Nat.mul_comm]; exact hl)
      · rw [if_neg hl]
        dsimp only
        rw [if_neg]
        intro q
        have q' := ((right_eq _ _ _).mp q).2.2.2.2.2.1
        rw [chunks_len] at q'
        have : c.length / ks.length * ks.length ≤ 256 * ks.length := Nat.mul_le_mul_right _ q'
        omega
    · rw [if_neg hm] at rt
      rw [rt]
      by_cases hl : c.length ≤ 256 * ks.length
      · rw [if_pos hl]
        dsimp only
        rw [if_neg hm]
      · rw [if_neg hl]
theorem cutRows_mem {g : Nat} : ∀ (f : Nat) (l : List Pg.Row), ∀ x ∈ Pg.cutRows g f l, x.length ≤ g ∧ ∀ r ∈ x, r ∈ l
  | 0, l, x, h => by cases h
  | f + 1, l, x, h => by
    have h' : x ∈ (if l.isEmpty = true then [] else l.take g :: Pg.cutRows g f (l.drop g)) := h
    split at h'
    · cases h'
    · rcases List.mem_cons.mp h' with h' | h'
      · rw [h']
        refine ⟨?_, fun r hr => List.mem_of_mem_take hr⟩
        rw [List.length_take]
        exact Nat.min_le_left _ _
      · obtain ⟨a, b⟩ := cutRows_mem f (l.drop g) x h'
        exact ⟨a, fun r hr => List.mem_of_mem_drop (b r hr)⟩
theorem row_cell {ks : List Nat} {r : Pg.Row} (h : Pg.rowRight ks r = true) {c : Nat} {k : Nat} (hc : ks[c]? = some k) : Pg.cellIs k (Pg.cellAt r c) = true := by
  unfold Pg.rowRight at h
  rw [Bool.and_eq_true, beq_iff_eq] at h
  have hlt := (List.getElem?_eq_some_iff.mp hc).1
  have hr : r[c]? = some r[c] := List.getElem?_eq_getElem (by omega)
  have hz : (r.zip ks)[c]? = some (r[c], k) := by
    rw [List.getElem?_zip_eq_some]
    exact ⟨hr, hc⟩
  have := List.all_eq_true.mp h.2 _ (List.mem_of_getElem? hz)
  unfold Pg.cellAt
  rw [List.getD_eq_getElem?_getD, hr]
  exact this
theorem cols_ok {ks : List Nat} {grp : List Pg.Row} (hl : grp.length ≤ 64) (hr : ∀ r ∈ grp, Pg.rowRight ks r = true) : GOk ks (colsOf ks.length grp) := by
  refine ⟨cols_len _ _, fun x hx => ?_⟩
  obtain ⟨c, hc, e⟩ := List.mem_iff_getElem.mp hx
  have hz : (ks.zip (colsOf ks.length grp))[c]? = some x := by
    rw [← e]
    exact List.getElem?_eq_getElem hc
  rw [List.getElem?_zip_eq_some] at hz
  have hlt := (List.getElem?_eq_some_iff.mp hz.1).1
  have h2 := hz.2
  rw [cols_get hlt] at h2
  have e2 : Pg.colOf grp c = x.2 := Option.some.inj h2
  rw [← e2]
  refine ⟨?_, fun y hy => ?_⟩
  · unfold Pg.colOf
    rw [List.length_map]
    exact hl
  · unfold Pg.colOf at hy
    obtain ⟨r, hr', rfl⟩ := List.mem_map.mp hy
    exact row_cell (hr r hr') hz.1
theorem groups_len {g : Nat} (hg : 1 ≤ g) : ∀ (f : Nat) (l : List Pg.Row), (Pg.cutRows g f l).length ≤ l.length
  | 0, l => Nat.zero_le _
  | f + 1, l => by
    show (if l.isEmpty = true then [] else l.take g :: Pg.cutRows g f (l.drop g)).length ≤ _
    split
    · exact Nat.zero_le _
    · rename_i h
      have := groups_len hg f (l.drop g)
      rw [List.length_drop] at this
      have hp : 0 < l.length := List.length_pos_iff.mpr fun z => h (by rw [z]; rfl)
      rw [List.length_cons]
      omega
/-- the groups of a right table, as the program holds them -/
theorem tab_ok {t : Pg.Table} (h : t.right = true) : (∀ c ∈ t.groups.map (colsOf t.kinds.length), GOk t.kinds c) ∧ 0 < t.kinds.length ∧ t.kinds.length ≤ 8 ∧ (∀ k ∈ t.kinds, k ≤ 1) ∧ (t.groups.map (colsOf t.kinds.length)).length ≤ 256 := by
  obtain ⟨ks, g, r⟩ := t
  have h' := (right_eq ks g r).mp h
  refine ⟨fun c hc => ?_, h'.1, h'.2.1, kinds_le h'.2.2.1, ?_⟩
  · obtain ⟨grp, hgrp, rfl⟩ := List.mem_map.mp hc
    obtain ⟨m1, m2⟩ := cutRows_mem _ _ grp hgrp
    exact cols_ok (Nat.le_trans m1 h'.2.2.2.2.1) fun x hx => List.all_eq_true.mp h'.2.2.2.2.2.2 x (m2 x hx)
  · rw [List.length_map]
    exact Nat.le_trans (groups_len h'.2.2.2.1 _ _) h'.2.2.2.2.2.1
theorem tabIn_right {g : Nat} {ks : List Nat} {ns : List Int} {t : Pg.Table} (h : tabIn g ks ns = some t) : t.right = true ∧ t.kinds = ks ∧ t.g = g := by
  unfold tabIn at h
  cases e : Pg.rowsIn ks ns.length ns with
  | none => rw [e] at h; cases h
  | some r =>
    rw [e] at h
    dsimp only at h
    split at h
    · cases h
      exact ⟨by assumption, rfl, rfl⟩
    · cases h
/-! ## what is due: file -/
theorem whole_nat {ns : List Int} (h : ∀ c ∈ ns, 0 ≤ c) : PgNeutral.whole ns = true := by
  unfold PgNeutral.whole
  exact List.all_eq_true.mpr fun c hc => decide_eq_true (h c hc)
theorem due_file {g : Int} (hg : 0 ≤ g) {kinds : List Int} (hk : ∀ k ∈ kinds, 0 ≤ k) (rows : List Int) : PyWrpage.file g kinds rows = match tabIn g.toNat (kinds.map Int.toNat) rows with
    | none => [-1]
    | some t => if 16384 < t.file.length then [-6] else (t.file.length : Int) :: ((Pg.ints t.file).length : Int) :: Pg.ints t.file := by
  unfold PyWrpage.file PgNeutral.step
  have e : PgNeutral.callOf [[5, g], kinds, rows] = some (.file g.toNat (kinds.map Int.toNat) rows) := by
    show (if (PgNeutral.whole [g] && PgNeutral.whole kinds) = true then some (Pg.Call.file g.toNat (PgNeutral.nats kinds) rows) else none) = _
    rw [whole1 hg, whole_nat hk]
    rfl
  rw [e]
  show PgNeutral.shown (Pg.answer (.file g.toNat (kinds.map Int.toNat) rows)) = _
  have ea : Pg.answer (.file g.toNat (kinds.map Int.toNat) rows) = match Pg.rowsIn (kinds.map Int.toNat) rows.length rows with
    | none => Pg.says (-1)
    | some r => if (⟨kinds.map Int.toNat, g.toNat, r⟩ : Pg.Table).right = false then Pg.says (-1) else if 16384 < (⟨kinds.map Int.toNat, g.toNat, r⟩ : Pg.Table).file.length then Pg.says (-6) else Pg.gives (⟨kinds.map Int.toNat, g.toNat, r⟩ : Pg.Table).file := rfl
  rw [ea]
  unfold tabIn
  cases Pg.rowsIn (kinds.map Int.toNat) rows.length rows with
  | none => rfl
  | some r =>
    dsimp only
    cases (⟨kinds.map Int.toNat, g.toNat, r⟩ : Pg.Table).right with
    | false => rfl
    | true =>
      rw [if_neg (by decide), if_pos rfl]
      dsimp only
      by_cases hl : 16384 < (⟨kinds.map Int.toNat, g.toNat, r⟩ : Pg.Table).file.length
      · rw [if_pos hl, if_pos hl]
        rfl
      · rw [if_neg hl, if_neg hl]
        unfold PgNeutral.shown Pg.gives
        dsimp only
        rw [List.flatMap_cons, List.flatMap_nil, List.append_nil]
end PfM
namespace PfM
/-! ## a file read: pages, rows by columns -/
theorem le_cons (w n : Nat) : Pg.le (w + 1) n = n % 256 :: Pg.le w (n / 256) := by
  unfold Pg.le
  rw [List.range_succ_eq_map, List.map_cons, List.map_map]
  congr 1
  · rw [Nat.pow_zero, Nat.div_one]
  · apply List.map_congr_left
    intro i _
    show n / 256 ^ (i + 1) % 256 = n / 256 / 256 ^ i % 256
    rw [Nat.div_div_eq_div_mul, Nat.pow_succ, Nat.mul_comm (256 ^ i)]
theorem le_num : ∀ {x : List Nat}, (∀ c ∈ x, c < 256) → Pg.le x.length (Pg.num x) = x
  | [], _ => rfl
  | c :: x, h => by
    have hc := h c List.mem_cons_self
    rw [List.length_cons, le_cons, num_cons, Nat.add_mul_mod_self_left, Nat.mod_eq_of_lt hc, Nat.add_mul_div_left _ _ (by decide), Nat.div_eq_of_lt hc, Nat.zero_add, le_num fun y hy => h y (List.mem_cons_of_mem _ hy)]
theorem start8 {b : List Nat} (hb : ∀ c ∈ b, c < 256) (p : Nat) : ((b.drop p).take 8 = Pg.HERE ++ Pg.le 4 (numAt b (p + 4) 4)) ↔ ((b.drop p).take 4 = Pg.HERE ∧ 8 ≤ (b.drop p).length) := by
  have hd : ∀ c ∈ b.drop p, c < 256 := fun c hc => hb c (List.mem_of_mem_drop hc)
  have en : numAt b (p + 4) 4 = Pg.num (((b.drop p).drop 4).take 4) := by
    unfold numAt
    rw [List.drop_drop]
  rw [en]
  generalize b.drop p = d at hd
  constructor
  · intro h
    have h1 := congrArg (List.take 4) h
    rw [List.take_take, Nat.min_eq_left (by decide)] at h1
    refine ⟨h1, ?_⟩
    have h2 := congrArg List.length h
    rw [List.length_take, List.length_append, le_len] at h2
    have h3 : Pg.HERE.length = 4 := rfl
    omega
  · rintro ⟨h1, h2⟩
    have e : d.take 8 = d.take 4 ++ (d.drop 4).take 4 := by
      rw [show 8 = 4 + 4 from rfl, List.take_add]
    have hx : ((d.drop 4).take 4).length = 4 := by
      rw [List.length_take, List.length_drop]
      omega
    have := le_num (x := (d.drop 4).take 4) fun c hc => hd c (List.mem_of_mem_drop (List.mem_of_mem_take hc))
    rw [hx] at this
    rw [e, h1, this]
theorem pageIn_all {k : Nat} (hk : k ≤ 1) {d : List Nat} {c : List Pg.Cell} {z : Nat} (h : Pg.pageIn k d = some (c, z)) : Right k c ∧ Pg.page k c = d.take z ∧ (Pg.page k c).length = z := by
  obtain ⟨R, hp⟩ := pageIn_some h
  refine ⟨R, hp, ?_⟩
  have h1 := page_long hk R (d.drop z)
  rw [h1, hp, List.take_append_drop]
  exact (pageIn_long h).symm
/-- pages so far, the rest still to be read -/
def GotP (b : List Nat) (n : Nat) (ks : List Nat) (p0 i p : Nat) (cols : List (List Pg.Cell)) : Prop := Pg.pagesIn b n ks p0 = match Pg.pagesIn b n (ks.drop i) p with
  | .error e => .error e
  | .ok (l, q) => .ok (cols ++ l, q)
theorem GotP.zero (b : List Nat) (n : Nat) (ks : List Nat) (p : Nat) : GotP b n ks p 0 p [] := by
  unfold GotP
  rw [List.drop_zero]
  cases Pg.pagesIn b n ks p with
  | error e => rfl
  | ok x => rfl
theorem pagesIn_cons (b : List Nat) (n k : Nat) (r : List Nat) (p : Nat) : Pg.pagesIn b n (k :: r) p = match Pg.pageIn k (b.drop p) with
    | none => .error p
    | some (c, z) => if c.length ≠ n then .error p else match Pg.pagesIn b n r (p + z) with
      | .error e => .error e
      | .ok (l, q) => .ok (c :: l, q) := rfl
theorem drop_nat {ks : List Nat} {i k : Nat} (h : ks[i]? = some k) : ks.drop i = k :: ks.drop (i + 1) := by
  have hi := (List.getElem?_eq_some_iff.mp h).1
  have e := (List.getElem?_eq_some_iff.mp h).2
  rw [List.drop_eq_getElem_cons hi, e]
theorem GotP.bad {b : List Nat} {n : Nat} {ks : List Nat} {p0 i p k : Nat} {cols : List (List Pg.Cell)} (g : GotP b n ks p0 i p cols) (hk : ks[i]? = some k) (h : ∀ c z, Pg.pageIn k (b.drop p) = some (c, z) → c.length ≠ n) : Pg.pagesIn b n ks p0 = .error p := by
  unfold GotP at g
  rw [g, drop_nat hk, pagesIn_cons]
  cases e : Pg.pageIn k (b.drop p) with
  | none => rfl
  | some x =>
    obtain ⟨c, z⟩ := x
    dsimp only
    rw [if_pos (h c z e)]
theorem GotP.more {b : List Nat} {n : Nat} {ks : List Nat} {p0 i p k z : Nat} {c : List Pg.Cell} {cols : List (List Pg.Cell)} (g : GotP b n ks p0 i p cols) (hk : ks[i]? = some k) (h : Pg.pageIn k (b.drop p) = some (c, z)) (hc : c.length = n) : GotP b n ks p0 (i + 1) (p + z) (cols ++ [c]) := by
  unfold GotP at g ⊢
  rw [g, drop_nat hk, pagesIn_cons, h]
  dsimp only
  rw [if_neg (by omega)]
  cases Pg.pagesIn b n (ks.drop (i + 1)) (p + z) with
  | error e => rfl
  | ok x =>
    obtain ⟨l, q⟩ := x
    dsimp only
    rw [List.append_assoc]
    rfl
theorem GotP.all {b : List Nat} {n : Nat} {ks : List Nat} {p0 i p : Nat} {cols : List (List Pg.Cell)} (g : GotP b n ks p0 i p cols) (h : ks.length ≤ i) : Pg.pagesIn b n ks p0 = .ok (cols, p) := by
  unfold GotP at g
  rw [g, List.drop_of_length_le h]
  show Except.ok (cols ++ [], p) = _
  rw [List.append_nil]
theorem pagesIn_ok {b : List Nat} {n : Nat} : ∀ {ks : List Nat} (_ : ∀ k ∈ ks, k ≤ 1) {p q : Nat} {cols : List (List Pg.Cell)}, Pg.pagesIn b n ks p = .ok (cols, q) → cols.length = ks.length ∧ (∀ c ∈ cols, c.length = n) ∧ (∀ x ∈ ks.zip cols, Right x.1 x.2) ∧ q = p + (pagesC ks cols).flatten.length
  | [], _, p, q, cols, h => by
    cases h
    exact ⟨rfl, (fun c hc => by cases hc), (fun x hx => by cases hx), rfl⟩
  | k :: ks, hk, p, q, cols, h => by
    rw [pagesIn_cons] at h
    cases e : Pg.pageIn k (b.drop p) with
    | none => rw [e] at h; cases h
    | some y =>
      obtain ⟨c, z⟩ := y
      rw [e] at h
      dsimp only at h
      split at h
      · cases h
      · rename_i hc
        cases e2 : Pg.pagesIn b n ks (p + z) with
        | error _ => rw [e2] at h; cases h
        | ok y =>
          obtain ⟨l, q2⟩ := y
          rw [e2] at h
          cases h
          obtain ⟨i1, i2, i3, i4⟩ := pagesIn_ok (fun x hx => hk x (List.mem_cons_of_mem _ hx)) e2
          obtain ⟨R, hp, hz⟩ := pageIn_all (hk k List.mem_cons_self) e
          refine ⟨by rw [List.length_cons, List.length_cons, i1], fun x hx => ?_, fun x hx => ?_, ?_⟩
          · rcases List.mem_cons.mp hx with hx | hx
            · rw [hx]
              omega
            · exact i2 x hx
          · rcases List.mem_cons.mp hx with hx | hx
            · rw [hx]
              exact R
            · exact i3 x hx
          · rw [i4]
            show p + z + _ = p + (Pg.page k c ++ (pagesC ks l).flatten).length
            rw [List.length_append, hz]
            omega
theorem cols_rows {w n : Nat} {cols : List (List Pg.Cell)} (hw : cols.length = w) (hn : ∀ c ∈ cols, c.length = n) : colsOf w (Pg.rowsOf n cols) = cols := by
  apply List.ext_getElem?
  intro c
  by_cases hc : c < w
  · rw [cols_get hc]
    have hcl : c < cols.length := by omega
    rw [List.getElem?_eq_getElem hcl]
    congr 1
    have hlen : cols[c].length = n := hn _ (List.getElem_mem hcl)
    apply List.ext_getElem?
    intro i
    unfold Pg.colOf Pg.rowsOf
    rw [List.getElem?_map, List.getElem?_map]
    by_cases hi : i < n
    · rw [List.getElem?_range hi]
      show some (Pg.cellAt (cols.map fun (c : List Pg.Cell) => c.getD i none) c) = _
      unfold Pg.cellAt
      rw [List.getD_eq_getElem?_getD, List.getElem?_map, List.getElem?_eq_getElem hcl]
      show some (cols[c].getD i none) = _
      rw [List.getD_eq_getElem?_getD, List.getElem?_eq_getElem (by omega)]
      rfl
    · rw [List.getElem?_eq_none (l := List.range n) (by rw [List.length_range]; omega), List.getElem?_eq_none (l := cols[c]) (by omega)]
      rfl
  · rw [List.getElem?_eq_none (by rw [cols_len]; omega), List.getElem?_eq_none (by omega)]
theorem rowsOf_len (n : Nat) (cols : List (List Pg.Cell)) : (Pg.rowsOf n cols).length = n := by
  unfold Pg.rowsOf
  rw [List.length_map, List.length_range]
/-! ## groups as they were read: all but the last have g rows -/
structure Lok (g : Nat) (l : List (List Pg.Row)) : Prop where
  ini : ∀ x ∈ l.dropLast, x.length = g
  all : ∀ x ∈ l, 1 ≤ x.length ∧ x.length ≤ g
theorem flat_all {g : Nat} : ∀ {l : List (List Pg.Row)}, (∀ x ∈ l, x.length = g) → l.flatten.length = g * l.length
  | [], _ => by simp
  | x :: l, h => by
    rw [List.flatten_cons, List.length_append, h x List.mem_cons_self, flat_all fun y hy => h y (List.mem_cons_of_mem _ hy), List.length_cons, Nat.mul_add, Nat.mul_one, Nat.add_comm]
def fullB (g : Nat) (l : List (List Pg.Row)) : Bool := match l.getLast? with
  | some x => x.length == g
  | none => true
theorem Lok.full {g : Nat} {l : List (List Pg.Row)} (h : Lok g l) : fullB g l = true ↔ l.flatten.length = g * l.length := by
  rcases List.eq_nil_or_concat l with e | ⟨l0, x, e⟩
  · subst e
    simp [fullB]
  · rw [List.concat_eq_append] at e
    subst e
    have hi : ∀ y ∈ l0, y.length = g := fun y hy => h.ini y (by rw [List.dropLast_concat]; exact hy)
    have hf : fullB g (l0 ++ [x]) = (x.length == g) := by
      unfold fullB
      rw [List.getLast?_append]
      rfl
    rw [hf, beq_iff_eq, List.flatten_append, List.length_append, flat_all hi, List.length_append, List.length_singleton, Nat.mul_add, Nat.mul_one]
    show x.length = g ↔ g * l0.length + ([x].flatten).length = _
    have : [x].flatten = x := by simp
    rw [this]
    omega
theorem Lok.snoc {g : Nat} {l : List (List Pg.Row)} {x : List Pg.Row} (h : Lok g l) (hf : fullB g l = true) (h1 : 1 ≤ x.length) (h2 : x.length ≤ g) : Lok g (l ++ [x]) := by
  refine ⟨fun y hy => ?_, fun y hy => ?_⟩
  · rw [List.dropLast_concat] at hy
    rcases List.eq_nil_or_concat l with e | ⟨l0, z, e⟩
    · subst e
      cases hy
    · rw [List.concat_eq_append] at e
      subst e
      rcases List.mem_append.mp hy with hy | hy
      · exact h.ini y (by rw [List.dropLast_concat]; exact hy)
      · rw [List.mem_singleton.mp hy]
        unfold fullB at hf
        rw [List.getLast?_append] at hf
        exact beq_iff_eq.mp hf
  · rcases List.mem_append.mp hy with hy | hy
    · exact h.all y hy
    · rw [List.mem_singleton.mp hy]
      exact ⟨h1, h2⟩
theorem Lok.rows {g : Nat} {l : List (List Pg.Row)} (h : Lok g l) : l.length ≤ l.flatten.length := by
  have go : ∀ m : List (List Pg.Row), (∀ x ∈ m, 1 ≤ x.length) → m.length ≤ m.flatten.length := fun m => by
    induction m with
    | nil => intro _; exact Nat.le_refl _
    | cons x m ih =>
      intro hm
      have h1 := hm x List.mem_cons_self
      have h2 := ih fun y hy => hm y (List.mem_cons_of_mem _ hy)
      rw [List.flatten_cons, List.length_append, List.length_cons]
      omega
  exact go l fun x hx => (h.all x hx).1
theorem cut_flat {g : Nat} (hg : 1 ≤ g) : ∀ (l : List (List Pg.Row)) (f : Nat), Lok g l → l.flatten.length ≤ f → Pg.cutRows g f l.flatten = l
  | [], f, _, _ => by
    cases f with
    | zero => rfl
    | succ f => rfl
  | x :: l, f, h, hf => by
    have hx := h.all x List.mem_cons_self
    rw [List.flatten_cons, List.length_append] at hf
    cases f with
    | zero => omega
    | succ f =>
      have hne : ¬ (x ++ l.flatten).isEmpty = true := fun z => by
        have := List.isEmpty_iff.mp z
        rw [List.append_eq_nil_iff] at this
        rw [this.1] at hx
        simp at hx
      show (if (x ++ l.flatten).isEmpty = true then [] else (x ++ l.flatten).take g :: Pg.cutRows g f ((x ++ l.flatten).drop g)) = _
      rw [if_neg hne]
      cases l with
      | nil =>
        show (x ++ []).take g :: Pg.cutRows g f ((x ++ []).drop g) = [x]
        rw [List.append_nil, List.take_of_length_le hx.2, List.drop_of_length_le hx.2]
        cases f <;> rfl
      | cons y l =>
        have hxg : x.length = g := h.ini x (by rw [List.dropLast_cons₂]; exact List.mem_cons_self)
        have hl : Lok g (y :: l) := ⟨fun z hz => h.ini z (by rw [List.dropLast_cons₂]; exact List.mem_cons_of_mem _ hz), fun z hz => h.all z (List.mem_cons_of_mem _ hz)⟩
        have ih := cut_flat hg (y :: l) f hl (by omega)
        rw [← hxg, List.take_left', List.drop_left'] <;> try rfl
        rw [hxg, ih]
/-! ## groups and the foot -/
theorem groups_foot {b : List Nat} {ks : List Nat} {g h f p : Nat} {l : List (List Pg.Row)} (hF : (b.drop p).take 4 = Pg.FOOT) : Pg.groupsIn b ks g h (f + 1) p l =
    if (b.drop p).take (Pg.footBody ks h l).length ≠ Pg.footBody ks h l then .error p else if (b.drop p).take (Pg.foot ks h l).length ≠ Pg.foot ks h l then .error (p + (Pg.footBody ks h l).length) else if (b.drop p).length ≠ (Pg.foot ks h l).length then .error (p + (Pg.foot ks h l).length) else .ok l := by
  show (if (b.drop p).take 4 = Pg.FOOT then _ else _) = _
  rw [if_pos hF]
theorem groups_bad {b : List Nat} {ks : List Nat} {g h f p : Nat} {l : List (List Pg.Row)} (hF : (b.drop p).take 4 ≠ Pg.FOOT)
    (hb : (b.drop p).take 4 ≠ Pg.HERE ∨ (b.drop p).length < 8 ∨ numAt b (p + 4) 4 = 0 ∨ g < numAt b (p + 4) 4 ∨ fullB g l = false ∨ 256 < l.flatten.length + numAt b (p + 4) 4) : Pg.groupsIn b ks g h (f + 1) p l = .error p := by
  show (if (b.drop p).take 4 = Pg.FOOT then _ else if (b.drop p).take 4 ≠ Pg.HERE ∨ (b.drop p).length < 8 ∨ numAt b (p + 4) 4 = 0 ∨ g < numAt b (p + 4) 4 ∨ fullB g l = false ∨ 256 < l.flatten.length + numAt b (p + 4) 4 then Except.error p else _) = _
  rw [if_neg hF, if_pos hb]
theorem groups_more {b : List Nat} {ks : List Nat} {g h f p : Nat} {l : List (List Pg.Row)} (hF : (b.drop p).take 4 ≠ Pg.FOOT)
    (hb : ¬ ((b.drop p).take 4 ≠ Pg.HERE ∨ (b.drop p).length < 8 ∨ numAt b (p + 4) 4 = 0 ∨ g < numAt b (p + 4) 4 ∨ fullB g l = false ∨ 256 < l.flatten.length + numAt b (p + 4) 4)) :
    Pg.groupsIn b ks g h (f + 1) p l = match Pg.pagesIn b (numAt b (p + 4) 4) ks (p + 8) with
      | .error e => .error e
      | .ok (c, q) => Pg.groupsIn b ks g h f q (l ++ [Pg.rowsOf (numAt b (p + 4) 4) c]) := by
  show (if (b.drop p).take 4 = Pg.FOOT then _ else if (b.drop p).take 4 ≠ Pg.HERE ∨ (b.drop p).length < 8 ∨ numAt b (p + 4) 4 = 0 ∨ g < numAt b (p + 4) 4 ∨ fullB g l = false ∨ 256 < l.flatten.length + numAt b (p + 4) 4 then Except.error p else _) = _
  rw [if_neg hF, if_neg hb]
  rfl
/-- what the program asks of a group's first eight bytes -/
def startOk (b : List Nat) (g p : Nat) (gs : List (List (List Pg.Cell))) : Prop := 1 ≤ numAt b (p + 4) 4 ∧ numAt b (p + 4) 4 ≤ g ∧ rowsC gs + numAt b (p + 4) 4 ≤ 256 ∧ rowsC gs = g * gs.length ∧ (b.drop p).take 8 = Pg.HERE ++ Pg.le 4 (numAt b (p + 4) 4)
theorem start_iff {b : List Nat} (hb : ∀ c ∈ b, c < 256) {g p w : Nat} (hw : 0 < w) {l : List (List Pg.Row)} (hl : Lok g l) : startOk b g p (l.map (colsOf w)) ↔ ¬ ((b.drop p).take 4 ≠ Pg.HERE ∨ (b.drop p).length < 8 ∨ numAt b (p + 4) 4 = 0 ∨ g < numAt b (p + 4) 4 ∨ fullB g l = false ∨ 256 < l.flatten.length + numAt b (p + 4) 4) := by
  unfold startOk
  rw [rowsC_eq hw, List.length_map, start8 hb, ← hl.full]
  constructor
  · rintro ⟨h1, h2, h3, h4, h5, h6⟩ (h | h | h | h | h | h)
    · exact h h5
    · omega
    · omega
    · omega
    · rw [h4] at h
      cases h
    · omega
  · intro h
    have h' := not_or.mp h
    have h2' := not_or.mp h'.2
    have h3' := not_or.mp h2'.2
    have h4' := not_or.mp h3'.2
    have h5' := not_or.mp h4'.2
    refine ⟨by omega, by omega, by omega, ?_, Decidable.not_not.mp h'.1, by omega⟩
    cases e : fullB g l with
    | true => rfl
    | false => exact absurd e h5'.1
end PfM
namespace PfM
/-! ## the head, step by step -/
section
variable {b : List Nat}
theorem head0 (h : b.take 6 ≠ Pg.MARK) : Pg.headIn b = .error 0 := by
  unfold Pg.headIn
  dsimp only
  rw [if_pos h]
theorem head6 (h0 : b.take 6 = Pg.MARK) (h : ¬ (1 ≤ b.getD 6 0 ∧ b.getD 6 0 ≤ 8)) : Pg.headIn b = .error 6 := by
  have h' : b.getD 6 0 = 0 ∨ Pg.COLS < b.getD 6 0 := by
    have : Pg.COLS = 8 := rfl
    omega
  unfold Pg.headIn
  dsimp only
  rw [if_neg (fun z => z h0), if_pos h']
theorem head7 (h0 : b.take 6 = Pg.MARK) (h1 : 1 ≤ b.getD 6 0 ∧ b.getD 6 0 ≤ 8) (h : ¬ (1 ≤ b.getD 7 0 ∧ b.getD 7 0 ≤ 64)) : Pg.headIn b = .error 7 := by
  have c8 : Pg.COLS = 8 := rfl
  have c64 : Pg.ROWS = 64 := rfl
  unfold Pg.headIn
  dsimp only
  rw [if_neg (fun z => z h0), if_neg (by omega), if_pos (by omega)]
theorem any_kinds {ks : List Nat} : ks.any (fun (k : Nat) => decide (1 < k)) = true ↔ ¬ kindsOk ks = true := by
  unfold kindsOk
  rw [List.any_eq_true, List.all_eq_true]
  constructor
  · rintro ⟨k, hk, h⟩ q
    have := of_decide_eq_true (q k hk)
    have := of_decide_eq_true h
    omega
  · intro h
    exact Classical.byContradiction fun n => h fun k hk => decide_eq_true (by
      by_cases q : 1 < k
      · exact absurd ⟨k, hk, decide_eq_true q⟩ n
      · omega)
theorem head8 (h0 : b.take 6 = Pg.MARK) (h1 : 1 ≤ b.getD 6 0 ∧ b.getD 6 0 ≤ 8) (h2 : 1 ≤ b.getD 7 0 ∧ b.getD 7 0 ≤ 64) (h : ¬ (((b.drop 8).take (b.getD 6 0)).length = b.getD 6 0 ∧ kindsOk ((b.drop 8).take (b.getD 6 0)) = true)) : Pg.headIn b = .error 8 := by
  have c8 : Pg.COLS = 8 := rfl
  have c64 : Pg.ROWS = 64 := rfl
  have hl : ((b.drop 8).take (b.getD 6 0)).length ≤ b.getD 6 0 := by
    rw [List.length_take]
    exact Nat.min_le_left _ _
  unfold Pg.headIn
  dsimp only
  rw [if_neg (fun z => z h0), if_neg (by omega), if_neg (by omega), if_pos]
  by_cases e : ((b.drop 8).take (b.getD 6 0)).length = b.getD 6 0
  · exact .inr (any_kinds.mpr fun z => h ⟨e, z⟩)
  · exact .inl (by omega)
theorem head_rest (h0 : b.take 6 = Pg.MARK) (h1 : 1 ≤ b.getD 6 0 ∧ b.getD 6 0 ≤ 8) (h2 : 1 ≤ b.getD 7 0 ∧ b.getD 7 0 ≤ 64) (h3 : ((b.drop 8).take (b.getD 6 0)).length = b.getD 6 0) (h4 : kindsOk ((b.drop 8).take (b.getD 6 0)) = true) :
    Pg.headIn b = if (b.drop (8 + b.getD 6 0)).take 4 ≠ Pg.le 4 (Pg.check 0 (b.take (8 + b.getD 6 0))) then .error (8 + b.getD 6 0) else .ok ((b.drop 8).take (b.getD 6 0), b.getD 7 0, 12 + b.getD 6 0) := by
  have c8 : Pg.COLS = 8 := rfl
  have c64 : Pg.ROWS = 64 := rfl
  unfold Pg.headIn
  dsimp only
  rw [if_neg (fun z => z h0), if_neg (by omega), if_neg (by omega), if_neg]
  rintro (z | z)
  · omega
  · exact any_kinds.mp z h4
theorem headIn_facts {ks : List Nat} {g h : Nat} (e : Pg.headIn b = .ok (ks, g, h)) : 1 ≤ ks.length ∧ ks.length ≤ 8 ∧ kindsOk ks = true ∧ 1 ≤ g ∧ g ≤ 64 ∧ h = 12 + ks.length := by
  by_cases h0 : b.take 6 = Pg.MARK
  · by_cases h1 : 1 ≤ b.getD 6 0 ∧ b.getD 6 0 ≤ 8
    · by_cases h2 : 1 ≤ b.getD 7 0 ∧ b.getD 7 0 ≤ 64
      · by_cases h3 : ((b.drop 8).take (b.getD 6 0)).length = b.getD 6 0 ∧ kindsOk ((b.drop 8).take (b.getD 6 0)) = true
        · rw [head_rest h0 h1 h2 h3.1 h3.2] at e
          split at e
          · cases e
          · cases e
            exact ⟨by omega, by omega, h3.2, h2.1, h2.2, by omega⟩
        · rw [head8 h0 h1 h2 h3] at e
          cases e
      · rw [head7 h0 h1 h2] at e
        cases e
    · rw [head6 h0 h1] at e
      cases e
  · rw [head0 h0] at e
    cases e
end
theorem file_err {b : List Nat} {e : Nat} (h : Pg.headIn b = .error e) : Pg.fileIn b = .error e := by
  unfold Pg.fileIn
  rw [h]
theorem file_go {b : List Nat} {ks : List Nat} {g h : Nat} (e : Pg.headIn b = .ok (ks, g, h)) : Pg.fileIn b = match Pg.groupsIn b ks g h 258 h [] with
    | .error e => .error e
    | .ok l => .ok ⟨ks, g, l.flatten⟩ := by
  unfold Pg.fileIn
  rw [e]
  rfl
theorem rows_right {ks : List Nat} {cols : List (List Pg.Cell)} {n : Nat} (ok : GOk ks cols) (hn : ∀ c ∈ cols, c.length = n) : ∀ r ∈ Pg.rowsOf n cols, Pg.rowRight ks r = true := fun r hr => by
  unfold Pg.rowsOf at hr
  obtain ⟨i, hi, rfl⟩ := List.mem_map.mp hr
  have hi' := List.mem_range.mp hi
  unfold Pg.rowRight
  rw [Bool.and_eq_true, beq_iff_eq, List.length_map]
  refine ⟨ok.len, List.all_eq_true.mpr fun x hx => ?_⟩
  obtain ⟨j, hj, e⟩ := List.mem_iff_getElem.mp hx
  have hz : ((cols.map fun (c : List Pg.Cell) => c.getD i none).zip ks)[j]? = some x := by
    rw [← e]
    exact List.getElem?_eq_getElem hj
  rw [List.getElem?_zip_eq_some] at hz
  have hz1 := hz.1
  rw [List.getElem?_map] at hz1
  cases e2 : cols[j]? with
  | none => rw [e2] at hz1; cases hz1
  | some c =>
    rw [e2] at hz1
    have e3 : c.getD i none = x.1 := Option.some.inj hz1
    have hm : (x.2, c) ∈ ks.zip cols := List.mem_of_getElem? (i := j) (by rw [List.getElem?_zip_eq_some]; exact ⟨hz.2, e2⟩)
    have R := ok.right _ hm
    rw [← e3]
    have hc := hn c (List.mem_of_getElem? e2)
    rw [List.getD_eq_getElem?_getD, List.getElem?_eq_getElem (by omega)]
    exact R.2 _ (List.getElem_mem _)
/-! ## what is due: open, rows -/
theorem due_onFile {b : List Nat} {f : Pg.Table → Pg.Answer} : Pg.onFile b f = if 16384 < b.length then Pg.says (-6) else match Pg.fileIn b with
    | .error p => ⟨-2, [[(p : Int)]]⟩
    | .ok t => f t := rfl
theorem due_open {ns : List Int} (hn : ∀ c ∈ ns, 0 ≤ c ∧ c ≤ 255) : PyWrpage.open_of ns = if 16384 < ns.length then [-6] else match Pg.fileIn (ns.map Int.toNat) with
    | .error p => [-2, 1, (p : Int)]
    | .ok t => (t.groups.length : Int) :: 3 :: (t.kinds.length : Int) :: (t.rows.length : Int) :: (t.g : Int) :: ((Pg.ints t.kinds).length : Int) :: Pg.ints t.kinds := by
  unfold PyWrpage.open_of PgNeutral.step
  have e : PgNeutral.callOf [[6], ns] = some (.open_ (ns.map Int.toNat)) := by
    show (if PgNeutral.whole ns = true then some (Pg.Call.open_ (PgNeutral.nats ns)) else none) = _
    rw [if_pos (whole_of hn)]
    rfl
  rw [e]
  show PgNeutral.shown (Pg.answer (.open_ (ns.map Int.toNat))) = _
  have ea : Pg.answer (.open_ (ns.map Int.toNat)) = Pg.onFile (ns.map Int.toNat) fun t => ⟨(t.groups.length : Nat), [Pg.ints [t.kinds.length, t.rows.length, t.g], Pg.ints t.kinds]⟩ := rfl
  rw [ea, due_onFile, List.length_map]
  by_cases hl : 16384 < ns.length
  · rw [if_pos hl, if_pos hl]
    rfl
  · rw [if_neg hl, if_neg hl]
    cases Pg.fileIn (ns.map Int.toNat) with
    | error p => rfl
    | ok t =>
      unfold PgNeutral.shown
      dsimp only
      rw [List.flatMap_cons, List.flatMap_cons, List.flatMap_nil, List.append_nil]
      rfl
theorem due_rows {s n : Int} (hs : 0 ≤ s) (hn0 : 0 ≤ n) {ns : List Int} (hn : ∀ c ∈ ns, 0 ≤ c ∧ c ≤ 255) : PyWrpage.rows s n ns = if 16384 < ns.length then [-6] else match Pg.fileIn (ns.map Int.toNat) with
    | .error p => [-2, 1, (p : Int)]
    | .ok t => if t.rows.length < s.toNat + n.toNat then [-4] else n :: ((((t.rows.drop s.toNat).take n.toNat).flatMap fun (r : Pg.Row) => r.flatMap Pg.cellList).length : Int) :: ((t.rows.drop s.toNat).take n.toNat).flatMap fun (r : Pg.Row) => r.flatMap Pg.cellList := by
  unfold PyWrpage.rows PgNeutral.step
  have e : PgNeutral.callOf [[7, s, n], ns] = some (.rows s.toNat n.toNat (ns.map Int.toNat)) := by
    show (if (PgNeutral.whole [s, n] && PgNeutral.whole ns) = true then some (Pg.Call.rows s.toNat n.toNat (PgNeutral.nats ns)) else none) = _
    have hw : PgNeutral.whole [s, n] = true := whole_nat fun c hc => by
      rcases List.mem_cons.mp hc with h | h
      · rw [h]
        exact hs
      · rw [List.mem_singleton.mp h]
        exact hn0
    rw [hw, whole_of hn]
    rfl
  rw [e]
  show PgNeutral.shown (Pg.answer (.rows s.toNat n.toNat (ns.map Int.toNat))) = _
  have ea : Pg.answer (.rows s.toNat n.toNat (ns.map Int.toNat)) = Pg.onFile (ns.map Int.toNat) fun t => if t.rows.length < s.toNat + n.toNat then Pg.says (-4) else ⟨(n.toNat : Nat), [((t.rows.drop s.toNat).take n.toNat).flatMap fun (r : Pg.Row) => r.flatMap Pg.cellList]⟩ := rfl
  rw [ea, due_onFile, List.length_map]
  by_cases hl : 16384 < ns.length
  · rw [if_pos hl, if_pos hl]
    rfl
  · rw [if_neg hl, if_neg hl]
    cases Pg.fileIn (ns.map Int.toNat) with
    | error p => rfl
    | ok t =>
      dsimp only
      by_cases h4 : t.rows.length < s.toNat + n.toNat
      · rw [if_pos h4, if_pos h4]
        rfl
      · rw [if_neg h4, if_neg h4]
        unfold PgNeutral.shown
        dsimp only
        rw [List.flatMap_cons, List.flatMap_nil, List.append_nil, Int.toNat_of_nonneg hn0]
/-! ## a row found in its group -/
theorem row_at {t : Pg.Table} (hg : 1 ≤ t.g) {i : Nat} {row : Pg.Row} (h : t.rows[i]? = some row) : ∃ grp, t.groups[i / t.g]? = some grp ∧ grp[i % t.g]? = some row := by
  have hi := (List.getElem?_eq_some_iff.mp h).1
  have hd := Nat.div_add_mod i t.g
  have hm := Nat.mod_lt i (show 0 < t.g by omega)
  have hlt : i / t.g * t.g < t.rows.length := by
    have : i / t.g * t.g ≤ i := Nat.div_mul_le_self _ _
    omega
  refine ⟨(t.rows.drop (i / t.g * t.g)).take t.g, ?_, ?_⟩
  · unfold Pg.Table.groups
    rw [cutRows_get hg _ _ _ (Nat.le_refl _), if_pos hlt]
  · rw [List.getElem?_take_of_lt hm, List.getElem?_drop]
    have e : i / t.g * t.g + i % t.g = i := by
      rw [Nat.mul_comm]
      exact hd
    rw [e]
    exact h
theorem row_cells {w : Nat} {row : Pg.Row} (h : row.length = w) : (List.range w).map (fun (c : Nat) => Pg.cellAt row c) = row := by
  apply List.ext_getElem?
  intro i
  rw [List.getElem?_map]
  by_cases hi : i < w
  · rw [List.getElem?_range hi, List.getElem?_eq_getElem (by omega)]
    show some (Pg.cellAt row i) = _
    unfold Pg.cellAt
    rw [List.getD_eq_getElem?_getD, List.getElem?_eq_getElem (by omega)]
    rfl
  · rw [List.getElem?_eq_none (l := List.range w) (by rw [List.length_range]; omega), List.getElem?_eq_none (by omega)]
    rfl
theorem told_row {ks : List Nat} {r : Pg.Row} (h : Pg.rowRight ks r = true) (hk : ks.length ≤ 8) : (r.flatMap Pg.cellList).length ≤ 336 := by
  have hl : r.length = ks.length := by
    unfold Pg.rowRight at h
    rw [Bool.and_eq_true, beq_iff_eq] at h
    exact h.1
  have hc : ∀ c ∈ r, (Pg.cellList c).length ≤ 42 := fun c hc => by
    obtain ⟨j, hj, e⟩ := List.mem_iff_getElem.mp hc
    have hk' : ks[j]? = some ks[j] := List.getElem?_eq_getElem (by omega)
    have := row_cell h hk'
    unfold Pg.cellAt at this
    rw [List.getD_eq_getElem?_getD, List.getElem?_eq_getElem hj] at this
    rw [← e]
    exact cell_len this
  have go : ∀ l : List Pg.Cell, (∀ c ∈ l, (Pg.cellList c).length ≤ 42) → (l.flatMap Pg.cellList).length ≤ l.length * 42 := fun l => by
    induction l with
    | nil => intro _; exact Nat.zero_le _
    | cons c l ih =>
      intro hm
      have h1 := hm c List.mem_cons_self
      have h2 := ih fun y hy => hm y (List.mem_cons_of_mem _ hy)
      rw [List.flatMap_cons, List.length_append, List.length_cons, Nat.add_mul]
      omega
  have := go r hc
  omega
theorem told_rows {ks : List Nat} (hk : ks.length ≤ 8) : ∀ {l : List Pg.Row}, (∀ r ∈ l, Pg.rowRight ks r = true) → (l.flatMap fun (r : Pg.Row) => r.flatMap Pg.cellList).length ≤ l.length * 336
  | [], _ => Nat.zero_le _
  | r :: l, h => by
    have h1 := told_row (h r List.mem_cons_self) hk
    have h2 := told_rows hk (l := l) fun y hy => h y (List.mem_cons_of_mem _ hy)
    rw [List.flatMap_cons, List.length_append, List.length_cons, Nat.add_mul]
    omega
end PfM
namespace PfM
theorem cut_back {g : Nat} (hg : 1 ≤ g) : ∀ (f : Nat) (l : List Pg.Row), l.length ≤ f → (Pg.cutRows g f l).flatten = l
  | 0, l, h => by
    have : l = [] := List.length_eq_zero_iff.mp (by omega)
    rw [this]
    rfl
  | f + 1, l, h => by
    show (if l.isEmpty = true then [] else l.take g :: Pg.cutRows g f (l.drop g)).flatten = l
    by_cases he : l.isEmpty = true
    · rw [if_pos he, List.isEmpty_iff.mp he]
      rfl
    · rw [if_neg he, List.flatten_cons, cut_back hg f _ (by rw [List.length_drop]; omega), List.take_append_drop]
theorem groups_flat {t : Pg.Table} (hg : 1 ≤ t.g) : t.groups.flatten.length = t.rows.length := by
  unfold Pg.Table.groups
  rw [cut_back hg _ _ (Nat.le_refl _)]
end PfM
namespace PfM
/-! ## what is due: entry, check, pack, unpack -/
theorem whole2 {a b : Int} (ha : 0 ≤ a) (hb : 0 ≤ b) : PgNeutral.whole [a, b] = true := whole_nat fun c hc => by
  rcases List.mem_cons.mp hc with h | h
  · rw [h]
    exact ha
  · rw [List.mem_singleton.mp h]
    exact hb
theorem due_entry {i j : Int} (hi : 0 ≤ i) (hj : 0 ≤ j) {ns : List Int} (hn : ∀ c ∈ ns, 0 ≤ c ∧ c ≤ 255) : PyWrpage.entry i j ns = if 16384 < ns.length then [-6] else match Pg.fileIn (ns.map Int.toNat) with
    | .error p => [-2, 1, (p : Int)]
    | .ok t => match Pg.entryOf t i.toNat j.toNat with
      | none => [-4]
      | some l => 0 :: ((Pg.ints l).length : Int) :: Pg.ints l := by
  unfold PyWrpage.entry PgNeutral.step
  have e : PgNeutral.callOf [[8, i, j], ns] = some (.entry i.toNat j.toNat (ns.map Int.toNat)) := by
    show (if (PgNeutral.whole [i, j] && PgNeutral.whole ns) = true then some (Pg.Call.entry i.toNat j.toNat (PgNeutral.nats ns)) else none) = _
    rw [whole2 hi hj, whole_of hn]
    rfl
  rw [e]
  show PgNeutral.shown (Pg.answer (.entry i.toNat j.toNat (ns.map Int.toNat))) = _
  have ea : Pg.answer (.entry i.toNat j.toNat (ns.map Int.toNat)) = Pg.onFile (ns.map Int.toNat) fun t => (match Pg.entryOf t i.toNat j.toNat with
    | none => Pg.says (-4)
    | some l => ⟨0, [Pg.ints l]⟩) := rfl
  rw [ea, due_onFile, List.length_map]
  by_cases hl : 16384 < ns.length
  · rw [if_pos hl, if_pos hl]
    rfl
  · rw [if_neg hl, if_neg hl]
    cases Pg.fileIn (ns.map Int.toNat) with
    | error p => rfl
    | ok t =>
      dsimp only
      cases Pg.entryOf t i.toNat j.toNat with
      | none => rfl
      | some l =>
        unfold PgNeutral.shown
        dsimp only
        rw [List.flatMap_cons, List.flatMap_nil, List.append_nil]
theorem due_check {c : Int} (hc : 0 ≤ c) {ns : List Int} (hn : ∀ c ∈ ns, 0 ≤ c ∧ c ≤ 255) : PyWrpage.check c ns = if 2 ^ 32 ≤ c.toNat then [-1] else [((Pg.check c.toNat (ns.map Int.toNat) : Nat) : Int)] := by
  unfold PyWrpage.check PgNeutral.step
  have e : PgNeutral.callOf [[9, c], ns] = some (.check c.toNat (ns.map Int.toNat)) := by
    show (if (PgNeutral.whole [c] && PgNeutral.whole ns) = true then some (Pg.Call.check c.toNat (PgNeutral.nats ns)) else none) = _
    rw [whole1 hc, whole_of hn]
    rfl
  rw [e]
  show PgNeutral.shown (Pg.answer (.check c.toNat (ns.map Int.toNat))) = _
  have ea : Pg.answer (.check c.toNat (ns.map Int.toNat)) = if 2 ^ 32 ≤ c.toNat then Pg.says (-1) else Pg.says (Pg.check c.toNat (ns.map Int.toNat) : Nat) := rfl
  rw [ea]
  by_cases h : 2 ^ 32 ≤ c.toNat
  · rw [if_pos h, if_pos h]
    rfl
  · rw [if_neg h, if_neg h]
    rfl
theorem due_pack {q : Int} (hq : 0 ≤ q) {ns : List Int} (hn : ∀ c ∈ ns, 0 ≤ c) : PyWrpage.pack q ns = if 64 < q.toNat ∨ 256 < ns.length ∨ (ns.map Int.toNat).any (fun (x : Nat) => decide (2 ^ q.toNat ≤ x)) = true then [-1] else
    ((Pg.packed q.toNat (ns.map Int.toNat)).length : Int) :: ((Pg.ints (Pg.packed q.toNat (ns.map Int.toNat))).length : Int) :: Pg.ints (Pg.packed q.toNat (ns.map Int.toNat)) := by
  unfold PyWrpage.pack PgNeutral.step
  have e : PgNeutral.callOf [[10, q], ns] = some (.pack q.toNat (ns.map Int.toNat)) := by
    show (if (PgNeutral.whole [q] && PgNeutral.whole ns) = true then some (Pg.Call.pack q.toNat (PgNeutral.nats ns)) else none) = _
    rw [whole1 hq, whole_nat hn]
    rfl
  rw [e]
  show PgNeutral.shown (Pg.answer (.pack q.toNat (ns.map Int.toNat))) = _
  have ea : Pg.answer (.pack q.toNat (ns.map Int.toNat)) = if 64 < q.toNat ∨ 256 < (ns.map Int.toNat).length ∨ (ns.map Int.toNat).any (fun (x : Nat) => decide (2 ^ q.toNat ≤ x)) = true then Pg.says (-1) else Pg.gives (Pg.packed q.toNat (ns.map Int.toNat)) := rfl
  rw [ea, List.length_map]
  by_cases h : 64 < q.toNat ∨ 256 < ns.length ∨ (ns.map Int.toNat).any (fun (x : Nat) => decide (2 ^ q.toNat ≤ x)) = true
  · rw [if_pos h, if_pos h]
    rfl
  · rw [if_neg h, if_neg h]
    unfold PgNeutral.shown Pg.gives
    dsimp only
    rw [List.flatMap_cons, List.flatMap_nil, List.append_nil]
theorem due_unpack {q k : Int} (hq : 0 ≤ q) (hk : 0 ≤ k) {ns : List Int} (hn : ∀ c ∈ ns, 0 ≤ c ∧ c ≤ 255) : PyWrpage.unpack q k ns = if 64 < q.toNat ∨ 256 < k.toNat then [-1] else if ns.length ≠ Pg.packedLong q.toNat k.toNat then [-2] else
    k :: ((Pg.ints (Pg.unpacked q.toNat k.toNat (ns.map Int.toNat))).length : Int) :: Pg.ints (Pg.unpacked q.toNat k.toNat (ns.map Int.toNat)) := by
  unfold PyWrpage.unpack PgNeutral.step
  have e : PgNeutral.callOf [[11, q, k], ns] = some (.unpack q.toNat k.toNat (ns.map Int.toNat)) := by
    show (if (PgNeutral.whole [q, k] && PgNeutral.whole ns) = true then some (Pg.Call.unpack q.toNat k.toNat (PgNeutral.nats ns)) else none) = _
    rw [whole2 hq hk, whole_of hn]
    rfl
  rw [e]
  show PgNeutral.shown (Pg.answer (.unpack q.toNat k.toNat (ns.map Int.toNat))) = _
  have ea : Pg.answer (.unpack q.toNat k.toNat (ns.map Int.toNat)) = if 64 < q.toNat ∨ 256 < k.toNat then Pg.says (-1) else if (ns.map Int.toNat).length ≠ Pg.packedLong q.toNat k.toNat then Pg.says (-2) else ⟨(k.toNat : Nat), [Pg.ints (Pg.unpacked q.toNat k.toNat (ns.map Int.toNat))]⟩ := rfl
  rw [ea, List.length_map]
  by_cases h : 64 < q.toNat ∨ 256 < k.toNat
  · rw [if_pos h, if_pos h]
    rfl
  · rw [if_neg h, if_neg h]
    by_cases h2 : ns.length ≠ Pg.packedLong q.toNat k.toNat
    · rw [if_pos h2, if_pos h2]
      rfl
    · rw [if_neg h2, if_neg h2]
      unfold PgNeutral.shown
      dsimp only
      rw [List.flatMap_cons, List.flatMap_nil, List.append_nil, Int.toNat_of_nonneg hk]
/-! ## the check from any start -/
theorem check_from (c : Nat) (s : List Nat) : Pg.check c s = crc (c ^^^ 0xFFFFFFFF) s ^^^ 0xFFFFFFFF := rfl
/-! ## an entry found -/
theorem take_flat {α : Type} (f : α → List Nat) (l : List α) (n : Nat) : ((l.map f).take n).flatten = (l.take n).flatMap f := by
  rw [← List.map_take, List.flatMap_def]
theorem entC_get : ∀ (l : List (Nat × List Pg.Cell)) (p j : Nat) (x : Nat × List Pg.Cell), l[j]? = some x → (entC p l)[j]? = some [p + ((l.take j).flatMap pg2).length, (Pg.page x.1 x.2).length, Pg.nullsOf x.2]
  | [], p, j, x, h => by simp at h
  | y :: l, p, 0, x, h => by
    have e : y = x := Option.some.inj h
    subst e
    rfl
  | y :: l, p, j + 1, x, h => by
    have ih := entC_get l (p + (Pg.page y.1 y.2).length) j x (by simpa using h)
    show (entC (p + (Pg.page y.1 y.2).length) l)[j]? = _
    rw [ih, List.take_succ_cons, List.flatMap_cons, List.length_append]
    show some [p + (pg2 y).length + _, _, _] = _
    rw [Nat.add_assoc]
theorem entryOf_eq {t : Pg.Table} (h0 : 0 < t.kinds.length) (i j : Nat) : Pg.entryOf t i j = match (t.groups.map (colsOf t.kinds.length))[i]? with
    | none => none
    | some cols => match (t.kinds.zip cols)[j]? with
      | none => none
      | some x => some [(Pg.head t.kinds t.g).length + (((t.groups.map (colsOf t.kinds.length)).take i).flatMap (grpC t.kinds)).length + 8 + (((t.kinds.zip cols).take j).flatMap pg2).length, (Pg.page x.1 x.2).length, Pg.nullsOf x.2] := by
  unfold Pg.entryOf
  rw [List.getElem?_map]
  cases e : t.groups[i]? with
  | none => rfl
  | some grp =>
    show (if t.kinds.length ≤ j then none else _) = match (t.kinds.zip (colsOf t.kinds.length grp))[j]? with | none => none | some x => _
    by_cases hj : t.kinds.length ≤ j
    · rw [if_pos hj, List.getElem?_eq_none (by rw [List.length_zip, cols_len]; omega)]
    · have hk : t.kinds[j]? = some t.kinds[j] := List.getElem?_eq_getElem (by omega)
      have hz : (t.kinds.zip (colsOf t.kinds.length grp))[j]? = some (t.kinds[j], Pg.colOf grp j) := by
        rw [List.getElem?_zip_eq_some]
        exact ⟨hk, cols_get (by omega)⟩
      rw [if_neg hj, hz]
      dsimp only
      rw [groups_eq h0, pages_eq, List.getD_eq_getElem?_getD, hk, ← List.map_take]
      unfold pagesC
      rw [take_flat]
      rfl
end PfM
namespace PfM
/-! ## a right file ends with its foot -/
theorem groups_end {b ks : List Nat} {g h : Nat} : ∀ (f p : Nat) (l l' : List (List Pg.Row)), Lok g l → Pg.groupsIn b ks g h f p l = .ok l' → Lok g l' ∧ ∃ p', b.drop p' = Pg.foot ks h l'
  | 0, p, l, l', _, e => by cases e
  | f + 1, p, l, l', hl, e => by
    by_cases hF : (b.drop p).take 4 = Pg.FOOT
    · rw [groups_foot hF] at e
      by_cases h1 : (b.drop p).take (Pg.footBody ks h l).length ≠ Pg.footBody ks h l
      · rw [if_pos h1] at e
        cases e
      · rw [if_neg h1] at e
        by_cases h2 : (b.drop p).take (Pg.foot ks h l).length ≠ Pg.foot ks h l
        · rw [if_pos h2] at e
          cases e
        · rw [if_neg h2] at e
          by_cases h3 : (b.drop p).length ≠ (Pg.foot ks h l).length
          · rw [if_pos h3] at e
            cases e
          · rw [if_neg h3] at e
            cases e
            refine ⟨hl, p, ?_⟩
            have h2' := Decidable.not_not.mp h2
            have h3' := Decidable.not_not.mp h3
            rw [← h3', List.take_of_length_le (Nat.le_refl _)] at h2'
            exact h2'
    · by_cases hb : (b.drop p).take 4 ≠ Pg.HERE ∨ (b.drop p).length < 8 ∨ numAt b (p + 4) 4 = 0 ∨ g < numAt b (p + 4) 4 ∨ fullB g l = false ∨ 256 < l.flatten.length + numAt b (p + 4) 4
      · rw [groups_bad hF hb] at e
        cases e
      · rw [groups_more hF hb] at e
        cases ep : Pg.pagesIn b (numAt b (p + 4) 4) ks (p + 8) with
        | error x =>
          rw [ep] at e
          cases e
        | ok y =>
          obtain ⟨c, q⟩ := y
          rw [ep] at e
          dsimp only at e
          have h' := not_or.mp hb
          have h2' := not_or.mp h'.2
          have h3' := not_or.mp h2'.2
          have h4' := not_or.mp h3'.2
          have h5' := not_or.mp h4'.2
          have hf : fullB g l = true := by
            cases e : fullB g l with
            | true => rfl
            | false => exact absurd e h5'.1
          have rl := rowsOf_len (numAt b (p + 4) 4) c
          exact groups_end f q _ l' (hl.snoc hf (by omega) (by omega)) e
theorem file_end {b : List Nat} {t : Pg.Table} (e : Pg.fileIn b = .ok t) : ∃ p, b.drop p = footC t.kinds (Pg.head t.kinds t.g).length (t.groups.map (colsOf t.kinds.length)) ++ endC (footC t.kinds (Pg.head t.kinds t.g).length (t.groups.map (colsOf t.kinds.length))) := by
  cases eh : Pg.headIn b with
  | error x =>
    rw [file_err eh] at e
    cases e
  | ok y =>
    obtain ⟨ks, g, h⟩ := y
    obtain ⟨k1, _, _, g1, _, rfl⟩ := headIn_facts eh
    rw [file_go eh] at e
    cases eg : Pg.groupsIn b ks g (12 + ks.length) 258 (12 + ks.length) [] with
    | error x =>
      rw [eg] at e
      cases e
    | ok l =>
      rw [eg] at e
      cases e
      obtain ⟨lo, p, hp⟩ := groups_end 258 _ [] l ⟨(fun y hy => by cases hy), (fun y hy => by cases hy)⟩ eg
      have gg : (⟨ks, g, l.flatten⟩ : Pg.Table).groups = l := cut_flat g1 l _ lo (Nat.le_refl _)
      refine ⟨p, ?_⟩
      rw [gg, hp, footAll_eq (by omega), head_len]
/-! ## numbers of four bytes, one behind another -/
theorem le_at : ∀ (N : List Nat) (m x : Nat) (r : List Nat), N[m]? = some x → ((N.flatMap (Pg.le 4) ++ r).drop (4 * m)).take 4 = Pg.le 4 x
  | [], m, x, r, h => by simp at h
  | y :: N, 0, x, r, h => by
    have e : y = x := Option.some.inj h
    subst e
    rw [List.flatMap_cons, Nat.mul_zero, List.drop_zero, List.append_assoc, List.take_left' (le_len 4 y)]
  | y :: N, m + 1, x, r, h => by
    rw [List.flatMap_cons, List.append_assoc, show 4 * (m + 1) = 4 + 4 * m by omega, ← List.drop_drop, List.drop_left' (le_len 4 y)]
    exact le_at N m x r (by simpa using h)
theorem flat3 : ∀ (E : List (List Nat)) (k t x : Nat) (e : List Nat), (∀ e ∈ E, e.length = 3) → E[k]? = some e → e[t]? = some x → E.flatten[3 * k + t]? = some x
  | [], k, t, x, e, _, h, _ => by simp at h
  | y :: E, 0, t, x, e, h3, h, ht => by
    have e1 : y = e := Option.some.inj h
    subst e1
    rw [List.flatten_cons, Nat.mul_zero, Nat.zero_add, List.getElem?_append_left (List.getElem?_eq_some_iff.mp ht).1]
    exact ht
  | y :: E, k + 1, t, x, e, h3, h, ht => by
    have hy := h3 y List.mem_cons_self
    rw [List.flatten_cons, List.getElem?_append_right (by omega), show 3 * (k + 1) + t - y.length = 3 * k + t by omega]
    exact flat3 E k t x e (fun z hz => h3 z (List.mem_cons_of_mem _ hz)) (by simpa using h) ht
theorem ents_flat : ∀ E : List (List Nat), E.flatMap entB = E.flatten.flatMap (Pg.le 4)
  | [] => rfl
  | e :: E => by
    rw [List.flatMap_cons, List.flatten_cons, List.flatMap_append, ents_flat E]
    rfl
theorem entG_get (ks : List Nat) : ∀ (gs : List (List (List Pg.Cell))) (p i j : Nat) (cols : List (List Pg.Cell)) (x : Nat × List Pg.Cell), (∀ c ∈ gs, c.length = ks.length) → gs[i]? = some cols → (ks.zip cols)[j]? = some x →
    (entG ks p gs)[i * ks.length + j]? = some [p + ((gs.take i).flatMap (grpC ks)).length + 8 + (((ks.zip cols).take j).flatMap pg2).length, (Pg.page x.1 x.2).length, Pg.nullsOf x.2]
  | [], p, i, j, cols, x, _, h, _ => by simp at h
  | c :: gs, p, 0, j, cols, x, hc, h, hj => by
    have e : c = cols := Option.some.inj h
    subst e
    show (entC (p + 8) (ks.zip c) ++ entG ks (p + (grpC ks c).length) gs)[0 * ks.length + j]? = _
    rw [Nat.zero_mul, Nat.zero_add, List.getElem?_append_left (by rw [entC_len]; exact (List.getElem?_eq_some_iff.mp hj).1), entC_get _ _ _ _ hj]
    rfl
  | c :: gs, p, i + 1, j, cols, x, hc, h, hj => by
    have hl := hc c List.mem_cons_self
    have ez : (entC (p + 8) (ks.zip c)).length = ks.length := by
      rw [entC_len, List.length_zip]
      omega
    show (entC (p + 8) (ks.zip c) ++ entG ks (p + (grpC ks c).length) gs)[(i + 1) * ks.length + j]? = _
    have em : (i + 1) * ks.length = i * ks.length + ks.length := by rw [Nat.add_mul, Nat.one_mul]
    rw [List.getElem?_append_right (by omega), show (i + 1) * ks.length + j - (entC (p + 8) (ks.zip c)).length = i * ks.length + j by omega]
    rw [entG_get ks gs _ i j cols x (fun z hz => hc z (List.mem_cons_of_mem _ hz)) (by simpa using h) hj, List.take_succ_cons, List.flatMap_cons, List.length_append]
    congr 2
    omega
/-- the numbers of an entry, where the foot has them -/
theorem num4 {n : Nat} (h : n < 2 ^ 32) : Pg.num (Pg.le 4 n) = n := num_le_lt h
theorem foot_at {b ks : List Nat} {p h : Nat} {gs : List (List (List Pg.Cell))} (hb : b.drop p = footC ks h gs ++ endC (footC ks h gs)) {k t x : Nat} {e : List Nat} (he : (entG ks h gs)[k]? = some e) (ht : e[t]? = some x) (hx : x < 2 ^ 32) :
    numAt b (p + 8 + 12 * k + 4 * t) 4 = x := by
  unfold numAt
  have e1 : p + 8 + 12 * k + 4 * t = p + (8 + 4 * (3 * k + t)) := by omega
  rw [e1, ← List.drop_drop, hb]
  unfold footC footA
  rw [ents_flat, ← List.drop_drop]
  have e2 : ∀ r s u : List Nat, Pg.FOOT ++ (Pg.le 4 gs.length ++ (r ++ s)) ++ u = (Pg.FOOT ++ Pg.le 4 gs.length) ++ (r ++ (s ++ u)) := fun r s u => by
    simp only [List.append_assoc]
  rw [List.append_assoc, e2, List.drop_left' (by rw [List.length_append, le_len]; rfl), le_at _ _ _ _ (flat3 _ _ _ _ _ (entG_three ks gs h) he ht), num4 hx]
theorem foot_len {b ft : List Nat} {p : Nat} (hb : b.drop p = ft ++ endC ft) : b.length = p + ft.length + 10 := by
  have h := congrArg List.length hb
  rw [List.length_append, endC_len, List.length_drop] at h
  omega
theorem foot_long {b ft : List Nat} {p : Nat} (hb : b.drop p = ft ++ endC ft) (hl : ft.length < 2 ^ 32) : numAt b (p + ft.length) 4 = ft.length := by
  unfold numAt
  rw [← List.drop_drop, hb, List.drop_left' rfl]
  unfold endC
  rw [List.take_left' (le_len 4 _), num4 hl]
theorem nulls_le (c : List Pg.Cell) : Pg.nullsOf c ≤ c.length := by
  unfold Pg.nullsOf
  omega
/-- what the foot says of a page -/
theorem entry_found {b : List Nat} {t : Pg.Table} (e : Pg.fileIn b = .ok t) (tr : t.right = true) (hbl : b.length ≤ 20000) : ∃ p L, b.length = p + L + 10 ∧ numAt b (p + L) 4 = L ∧
    ∀ i j, (¬ (i < t.groups.length ∧ j < t.kinds.length) → Pg.entryOf t i j = none) ∧ (i < t.groups.length → j < t.kinds.length → Pg.entryOf t i j = some ((List.range 3).map fun (u : Nat) => numAt b (p + 8 + 12 * (i * t.kinds.length + j) + 4 * u) 4)) := by
  obtain ⟨p, hp⟩ := file_end e
  obtain ⟨ok, k0, k8, _, gl⟩ := tab_ok tr
  have hl := foot_len hp
  have hn := foot_long hp (by omega)
  refine ⟨p, _, hl, hn, fun i j => ⟨fun h => ?_, fun hi hj => ?_⟩⟩
  · rw [entryOf_eq k0]
    by_cases hi : i < t.groups.length
    · have h2 : (t.groups.map (colsOf t.kinds.length))[i]? = some ((t.groups.map (colsOf t.kinds.length))[i]'(by rw [List.length_map]; exact hi)) := List.getElem?_eq_getElem _
      rw [h2]
      dsimp only
      have h3 : (t.kinds.zip ((t.groups.map (colsOf t.kinds.length))[i]'(by rw [List.length_map]; exact hi)))[j]? = none := List.getElem?_eq_none (by
        rw [List.length_zip]
        omega)
      rw [h3]
    · rw [List.getElem?_eq_none (by rw [List.length_map]; omega)]
  · have hgi : (t.groups.map (colsOf t.kinds.length))[i]? = some ((t.groups.map (colsOf t.kinds.length))[i]'(by rw [List.length_map]; exact hi)) := List.getElem?_eq_getElem _
    have hcm := List.mem_of_getElem? hgi
    generalize (t.groups.map (colsOf t.kinds.length))[i]'(by rw [List.length_map]; exact hi) = cols at hgi hcm
    have go := ok cols hcm
    have hz : j < (t.kinds.zip cols).length := by
      rw [List.length_zip, go.len]
      omega
    have hzj : (t.kinds.zip cols)[j]? = some (t.kinds.zip cols)[j] := List.getElem?_eq_getElem hz
    have hxm := List.mem_of_getElem? hzj
    generalize (t.kinds.zip cols)[j] = x at hzj hxm
    have eg := entG_get t.kinds _ (Pg.head t.kinds t.g).length i j cols x (fun c hc => (ok c hc).len) hgi hzj
    rw [entryOf_eq k0, hgi]
    dsimp only
    rw [hzj]
    dsimp only
    have R := go.right x hxm
    have b1 := page_short R
    have b2 := nulls_le x.2
    have b3 : x.2.length ≤ 64 := R.1
    have b4 := grps_short k8 (gs := (t.groups.map (colsOf t.kinds.length)).take i) fun c hc => ok c (List.mem_of_mem_take hc)
    have b5 := pages_len (l := (t.kinds.zip cols).take j) fun y hy => go.right y (List.mem_of_mem_take hy)
    have b6 := head_len t.kinds t.g
    rw [List.length_take] at b4 b5
    have b7 : min i (t.groups.map (colsOf t.kinds.length)).length * 24808 ≤ 256 * 24808 := Nat.mul_le_mul_right _ (by omega)
    have b8 : min j (t.kinds.zip cols).length * 3100 ≤ 8 * 3100 := Nat.mul_le_mul_right _ (by rw [List.length_zip]; omega)
    congr 1
    show _ = [numAt b (p + 8 + 12 * (i * t.kinds.length + j) + 4 * 0) 4, numAt b (p + 8 + 12 * (i * t.kinds.length + j) + 4 * 1) 4, numAt b (p + 8 + 12 * (i * t.kinds.length + j) + 4 * 2) 4]
    rw [foot_at hp (t := 0) eg rfl (by omega), foot_at hp (t := 1) eg rfl (by omega), foot_at hp (t := 2) eg rfl (by omega)]
end PfM
namespace Pf
open PySem PySem.Spec PyProof.Rows L2
/-! ### values as they lie -/
def nb (l : List Nat) : List V := l.map fun (c : Nat) => V.int (c : Int)
theorem nb_len (l : List Nat) : (nb l).length = l.length := List.length_map _
theorem nb_app (l m : List Nat) : nb (l ++ m) = nb l ++ nb m := List.map_append
theorem nb_get {l : List Nat} {i : Nat} {v : V} (h : (nb l)[i]? = some v) : ∃ c, l[i]? = some c ∧ v = .int (c : Int) := by
  unfold nb at h
  rw [List.getElem?_map] at h
  cases e : l[i]? with
  | none => rw [e] at h; cases h
  | some c => rw [e] at h; exact ⟨c, rfl, (Option.some.inj h).symm⟩
theorem ints_get {l : List Int} {i : Nat} {v : V} (h : (l.map V.int)[i]? = some v) : ∃ c, l[i]? = some c ∧ v = .int c := by
  rw [List.getElem?_map] at h
  cases e : l[i]? with
  | none => rw [e] at h; cases h
  | some c => rw [e] at h; exact ⟨c, rfl, (Option.some.inj h).symm⟩
theorem nb_ints (l : List Nat) : nb l = (l.map fun (c : Nat) => (c : Int)).map V.int := by
  unfold nb
  rw [List.map_map]
  rfl
/-! ### heaps -/
theorem nw {H : Hp} {p : Addr} {o : HO} (h : H p = none) : Same H (upd H p o) := fun b x e => by
  rw [upd_ne (ne_of_none e h)]
  exact e
theorem mt {H H' : Hp} {p : Addr} {o : HO} (e : Same H H') (h : H p = none) : Same H (upd H' p o) := fun b x q => by
  rw [upd_ne (ne_of_none q h)]
  exact e b x q
theorem ne_some {H : Hp} {a b : Addr} {o : HO} (h : H a = some o) (k : H b = none) : a ≠ b := ne_of_none h k
theorem sT {K : PySem.W.Frag} {H H' : Hp} {a : Addr} {xs : List V} (e : Same H H') (h : SqT K H a xs) : SqT K H' a xs := by
  rcases h with (h | ⟨o, h⟩) | h
  · exact .inl (.inl (e _ _ h))
  · exact .inl (.inr ⟨o, e _ _ h⟩)
  · exact .inr h
theorem sz {n : Nat} (h : n ≤ 1000000) : n ≤ sizeLine := Nat.le_trans h (by decide)
theorem szl {n : Nat} (h : n ≤ 1000000) : n < sizeLine := Nat.lt_of_le_of_lt h (by decide)
/-! ### a def by its promise; a constant -/
def Ok (P : Program) (w : World) (K : PySem.W.Frag) (mg : Str → Option Value) (base : Heap) (k : Nat) (x : Str) (ps : List Str) (sp : Sp) : Prop :=
  ∃ (f : Addr) (fd : FuncData), mg x = some (.ref f) ∧ PySem.W.keepIn K (.ref f) = true ∧ Binds K fd ps [] ∧ FnOk P w K mg base CX0 k f fd ps sp
theorem pe_fn {X : Cx} {k : Nat} {x : Str} {ps : List Str} {sp : Sp} {e : Expr} {es : List Expr} {t : TA} {p pos : Pos} (h : Ok X.prog X.w X.K X.mg X.base k x ps sp) (hr : Room k X.A) (hg : Gl X x)
    (ha : PA X (e :: es) t) (hdb : (x == ("__debug__" : Str)) = false := by decide) (he : starEach (e :: es) X.env = (false, eval e X.env) :: starEach es X.env := by rfl) (hpl : (backTo pos (starEach es X.env)).any (·.1) = false := by rfl) :
    PE X (.Call (.Name x p) (e :: es) [] pos) (tCall sp [] E0 t) := by
  obtain ⟨f, fd, h1, h2, h3, h4⟩ := h
  exact pe_call h4 hr hg h1 h2 h3 .nil pass0 ha hdb he hpl
def Kst (mg : Str → Option Value) (x : Str) (v : V) : Prop := ∃ u, mg x = some u ∧ RelV v u
theorem pe_k {X : Cx} {x : Str} {v : V} {pos : Pos} (h : Kst X.mg x v) (hg : Gl X x) (hd : (x == ("__debug__" : Str)) = false := by decide) : PE X (.Name x pos) (tC v) := by
  obtain ⟨u, h1, h2⟩ := h
  exact pe_glob hg h1 h2 hd
/-! ### values, cells, runs, ways as they lie -/
def VA (H : Hp) (x : V) : Pg.Val → Prop
  | .num z => x = .int z
  | .str b => ∃ a, x = .ref a ∧ H a = some (.tup (nb b))
def CA (H : Hp) (x : V) : Pg.Cell → Prop
  | none => x = .non
  | some v => VA H x v
def RA (H : Hp) (x : V) (r : Nat × Pg.Val) : Prop := ∃ t y, x = .ref t ∧ H t = some (.tup [y, .int (r.1 : Int)]) ∧ VA H y r.2
def OA (H : Hp) (x : V) : Option (List Nat) → Prop
  | none => x = .non
  | some b => ∃ p, x = .ref p ∧ H p = some (.lst (nb b))
theorem VA.mono {H H' : Hp} (s : Same H H') {x : V} {v : Pg.Val} (h : VA H x v) : VA H' x v := by
  cases v with
  | num z => exact h
  | str b =>
    obtain ⟨a, e, h⟩ := h
    exact ⟨a, e, s _ _ h⟩
theorem CA.mono {H H' : Hp} (s : Same H H') {x : V} {c : Pg.Cell} (h : CA H x c) : CA H' x c := by
  cases c with
  | none => exact h
  | some v => exact VA.mono s h
theorem RA.mono {H H' : Hp} (s : Same H H') {x : V} {c : Nat × Pg.Val} (h : RA H x c) : RA H' x c := by
  obtain ⟨t, y, e, h1, h2⟩ := h
  exact ⟨t, y, e, s _ _ h1, h2.mono s⟩
theorem OA.mono {H H' : Hp} (s : Same H H') {x : V} {c : Option (List Nat)} (h : OA H x c) : OA H' x c := by
  cases c with
  | none => exact h
  | some v =>
    obtain ⟨a, e, h⟩ := h
    exact ⟨a, e, s _ _ h⟩
theorem VA.ne_non {H : Hp} {x : V} {v : Pg.Val} (h : VA H x v) : x ≠ .non := by
  cases v with
  | num z => cases h; intro q; cases q
  | str b =>
    obtain ⟨a, rfl, h⟩ := h
    intro q
    cases q
abbrev VsA (H : Hp) : List V → List Pg.Val → Prop := Paired (VA H)
abbrev CsA (H : Hp) : List V → List Pg.Cell → Prop := Paired (CA H)
abbrev RsA (H : Hp) : List V → List (Nat × Pg.Val) → Prop := Paired (RA H)
abbrev OsA (H : Hp) : List V → List (Option (List Nat)) → Prop := Paired (OA H)
theorem vsm {H H' : Hp} (s : Same H H') {xs : List V} {vs : List Pg.Val} (h : VsA H xs vs) : VsA H' xs vs := L2.Paired.mapP h fun _ _ => VA.mono s
theorem csm {H H' : Hp} (s : Same H H') {xs : List V} {vs : List Pg.Cell} (h : CsA H xs vs) : CsA H' xs vs := L2.Paired.mapP h fun _ _ => CA.mono s
theorem rsm {H H' : Hp} (s : Same H H') {xs : List V} {vs : List (Nat × Pg.Val)} (h : RsA H xs vs) : RsA H' xs vs := L2.Paired.mapP h fun _ _ => RA.mono s
theorem osm {H H' : Hp} (s : Same H H') {xs : List V} {vs : List (Option (List Nat))} (h : OsA H xs vs) : OsA H' xs vs := L2.Paired.mapP h fun _ _ => OA.mono s
theorem pgl {α β : Type} {F : α → β → Prop} : ∀ {l : List α} {m : List β} {j : Nat} {x : α}, Paired F l m → l[j]? = some x → ∃ y, m[j]? = some y ∧ F x y
  | _, _, j, x, .nil, e => by simp at e
  | _, _, 0, x, .cons h _, e => ⟨_, rfl, by have := Option.some.inj e; subst this; exact h⟩
  | _ :: _, _ :: _, j + 1, x, .cons _ r, e => pgl (j := j) r (by simpa using e)
theorem pgr {α β : Type} {F : α → β → Prop} : ∀ {l : List α} {m : List β} {j : Nat} {y : β}, Paired F l m → m[j]? = some y → ∃ x, l[j]? = some x ∧ F x y
  | _, _, j, x, .nil, e => by simp at e
  | _, _, 0, x, .cons h _, e => ⟨_, rfl, by have := Option.some.inj e; subst this; exact h⟩
  | _ :: _, _ :: _, j + 1, x, .cons _ r, e => pgr (j := j) r (by simpa using e)
theorem ptake {α β : Type} {F : α → β → Prop} : ∀ {l : List α} {m : List β} (j : Nat), Paired F l m → Paired F (l.take j) (m.take j)
  | _, _, _, .nil => by rw [List.take_nil, List.take_nil]; exact .nil
  | _, _, 0, .cons _ _ => .nil
  | _, _, j + 1, .cons h r => .cons h (ptake j r)
theorem pdrop {α β : Type} {F : α → β → Prop} : ∀ {l : List α} {m : List β} (j : Nat), Paired F l m → Paired F (l.drop j) (m.drop j)
  | _, _, _, .nil => by rw [List.drop_nil, List.drop_nil]; exact .nil
  | _, _, 0, .cons h r => .cons h r
  | _, _, j + 1, .cons h r => pdrop j r
theorem take_more {α : Type} {l : List α} {i : Nat} {x : α} (h : l[i]? = some x) : l.take (i + 1) = l.take i ++ [x] := by
  rw [List.take_add_one, h]
  rfl
/-- what a value of a kind is -/
theorem is_num {k : Nat} {z : Int} (h : (Pg.Val.num z).is k = true) : k = 0 ∧ Pg.inRange z = true := by
  unfold Pg.Val.is at h
  rw [Bool.and_eq_true, beq_iff_eq] at h
  exact h
theorem is_str {k : Nat} {b : List Nat} (h : (Pg.Val.str b).is k = true) : k = 1 ∧ b.length ≤ 40 ∧ ∀ c ∈ b, c < 256 := by
  unfold Pg.Val.is at h
  rw [Bool.and_eq_true, beq_iff_eq, Bool.and_eq_true, decide_eq_true_eq] at h
  refine ⟨h.1, h.2.1, fun c hc => ?_⟩
  have := List.all_eq_true.mp h.2.2 c hc
  exact of_decide_eq_true this
theorem is_kind {k : Nat} {v : Pg.Val} (h : v.is k = true) : k ≤ 1 := by
  cases v with
  | num z => have := (is_num h).1; omega
  | str b => have := (is_str h).1; omega
theorem sqt_nb {K : PySem.W.Frag} {H : Hp} {a : Addr} {b : List Nat} (h : H a = some (.tup (nb b))) : SqT K H a (nb b) := SqT.of h
theorem cut_ints (ns : List Int) (i j : Nat) : cutV (ns.map V.int) (some (i : Int)) (some (j : Int)) = ((ns.drop i).take (j - i)).map V.int := by
  unfold cutV
  rw [HT.sIx_nat, HT.sIx_nat, List.length_map, List.map_take, List.map_drop]
  by_cases hi : i ≤ ns.length
  · rw [Nat.min_eq_left hi]
    by_cases hj : j ≤ ns.length
    · rw [Nat.min_eq_left hj]
    · rw [Nat.min_eq_right (by omega), List.take_of_length_le (by simp), List.take_of_length_le (by simp; omega)]
  · rw [Nat.min_eq_right (a := i) (by omega), List.drop_of_length_le (by simp), List.drop_of_length_le (by simp; omega), List.take_nil, List.take_nil]
/-! ### tests -/
theorem ifE {a b : Int} {A B : Prop} (h1 : a = b → A) (h2 : a ≠ b → B) : if decide (V.int a = V.int b) = true then A else B := by
  by_cases h : a = b
  · subst h
    rw [decide_eq_true rfl, if_pos rfl]
    exact h1 rfl
  · rw [decide_eq_false (fun e => h (V.int.inj e)), if_neg Bool.false_ne_true]
    exact h2 h
theorem ifN {a b : Int} {A B : Prop} (h1 : a ≠ b → A) (h2 : a = b → B) : if (!decide (V.int a = V.int b)) = true then A else B := by
  by_cases h : a = b
  · subst h
    rw [decide_eq_true rfl]
    exact iteF (h2 rfl)
  · rw [decide_eq_false (fun e => h (V.int.inj e))]
    exact iteT (h1 h)
theorem ifD {c A B : Prop} [Decidable c] (h1 : c → A) (h2 : ¬ c → B) : if decide c = true then A else B := by
  by_cases h : c
  · rw [decide_eq_true h]
    exact iteT (h1 h)
  · rw [decide_eq_false h]
    exact iteF (h2 h)
theorem ifB {c : Bool} {A B : Prop} (h1 : c = true → A) (h2 : c = false → B) : if c = true then A else B := by
  cases c with
  | true => exact iteT (h1 rfl)
  | false => exact iteF (h2 rfl)
theorem dV (a b : Int) : decide (V.int a = V.int b) = decide (a = b) := by
  by_cases h : a = b
  · subst h
    rw [decide_eq_true rfl, decide_eq_true rfl]
  · rw [decide_eq_false h, decide_eq_false (fun e => h (V.int.inj e))]
/-! ### operators on numbers that are not negative -/
section
variable {X : Cx}
theorem op_xorN : OpR X (binaryOp .BitXor) (fun x y H Q => ∃ n m : Nat, x = .int (n : Int) ∧ y = .int (m : Int) ∧ Q (.int ((n ^^^ m : Nat) : Int)) H) := by
  intro pins s σ H x y v u Q I rx ry h
  obtain ⟨n, m, e1, e2, q⟩ := h
  subst e1 e2
  have e : Builtin.bitXor (n : Int) (m : Int) = ((n ^^^ m : Nat) : Int) := by
    rw [Bits.bitXor_pp (Int.natCast_nonneg _) (Int.natCast_nonneg _), Int.toNat_natCast, Int.toNat_natCast]
  rw [← e] at q
  exact op_xor pins s σ H _ _ v u Q I rx ry ⟨_, _, rfl, rfl, q⟩
theorem op_shrNN : OpR X (binaryOp .RShift) (fun x y H Q => ∃ n k : Nat, x = .int (n : Int) ∧ y = .int (k : Int) ∧ Q (.int ((n / 2 ^ k : Nat) : Int)) H) := by
  intro pins s σ H x y v u Q I rx ry h
  obtain ⟨n, k, e1, e2, q⟩ := h
  subst e1 e2
  have e : (n : Int) / 2 ^ k = ((n / 2 ^ k : Nat) : Int) := by
    rw [Int.natCast_ediv, Int.natCast_pow]
    rfl
  rw [← e] at q
  exact op_shrN pins s σ H _ _ v u Q I rx ry ⟨_, _, rfl, rfl, q⟩
end
theorem cpow (k : Nat) : ((2 ^ k : Nat) : Int) = 2 ^ k := by rw [Int.natCast_pow]; rfl
/-! ### values as data -/
def dI (l : List Nat) : List PyData := l.map fun (c : Nat) => PyData.int (c : Int)
def dat : Pg.Val → PyData
  | .num z => .int z
  | .str b => .tuple (dI b)
theorem dpI {K : PySem.W.Frag} {H : Hp} : ∀ l : List Nat, DpAll K H (nb l) (dI l)
  | [] => .nil
  | c :: l => .cons (.int _) (dpI l)
theorem dp_of {K : PySem.W.Frag} {H : Hp} {x : V} {v : Pg.Val} (h : VA H x v) : Dp K H x (dat v) := by
  cases v with
  | num z => cases h; exact .int z
  | str b =>
    obtain ⟨a, rfl, h⟩ := h
    exact .tup (SqT.of h) (dpI b)
theorem can_dI : ∀ l : List Nat, PyData.canLayAll0 (dI l) = true
  | [] => rfl
  | c :: l => by
    show (PyData.canLay0 (.int (c : Int)) && PyData.canLayAll0 (dI l)) = true
    rw [can_dI l]
    rfl
theorem depth_dI : ∀ l : List Nat, PyData.depthAll (dI l) = 0
  | [] => rfl
  | c :: l => by
    show max (PyData.depth (.int (c : Int))) (PyData.depthAll (dI l)) = 0
    rw [depth_dI l]
    rfl
theorem sh_list (l : List Nat) : SeqAt.shaped (.list (dI l)) = true := by
  unfold SeqAt.shaped
  have e : PyData.canLay0 (.list (dI l)) = true := by
    show PyData.canLayAll0 (dI l) = true
    exact can_dI l
  have d : PyData.depth (.list (dI l)) ≤ 64 := by
    unfold PyData.depth
    rw [depth_dI]
    decide
  rw [e, decide_eq_true d]
  rfl
theorem sh_dat {k : Nat} {v : Pg.Val} (h : v.is k = true) : SeqAt.shaped (dat v) = true := by
  cases v with
  | num z => rfl
  | str b =>
    have hl := (is_str h).2.1
    unfold SeqAt.shaped dat
    have e : PyData.canLay0 (.tuple (dI b)) = true := by
      show PyData.canLayAll0 (dI b) = true
      exact can_dI b
    have d : PyData.depth (.tuple (dI b)) ≤ 64 := by
      unfold PyData.depth
      rw [depth_dI]
      decide
    rw [e, decide_eq_true d]
    rfl
theorem eqv_dI : ∀ l m : List Nat, PyData.eqvAll (dI l) (dI m) = decide (l = m)
  | [], [] => rfl
  | [], _ :: _ => rfl
  | _ :: _, [] => rfl
  | x :: l, y :: m => by
    show (((x : Int) == (y : Int)) && PyData.eqvAll (dI l) (dI m)) = _
    rw [eqv_dI l m]
    by_cases h : x = y
    · subst h
      by_cases k : l = m
      · subst k; simp
      · rw [decide_eq_false k, decide_eq_false (fun q => k (List.cons.inj q).2)]
        simp
    · rw [decide_eq_false (fun q => h (List.cons.inj q).1)]
      have : ((x : Int) == (y : Int)) = false := by
        rw [beq_eq_false_iff_ne]
        omega
      rw [this]
      rfl
theorem eqv_dat {k : Nat} {v w : Pg.Val} (hv : v.is k = true) (hw : w.is k = true) : PyData.eqv (dat v) (dat w) = Pg.same v w := by
  have key : (PyData.eqv (dat v) (dat w) = true ↔ v = w) → PyData.eqv (dat v) (dat w) = Pg.same v w := fun h => by
    cases e : Pg.same v w with
    | true => exact h.mpr (PfM.same_iff.mp e)
    | false =>
      cases e2 : PyData.eqv (dat v) (dat w) with
      | false => rfl
      | true =>
        rw [PfM.same_iff.mpr (h.mp e2)] at e
        cases e
  refine key ?_
  cases v with
  | num z =>
    cases w with
    | num y =>
      show ((z == y) = true) ↔ _
      rw [beq_iff_eq]
      exact ⟨fun e => by rw [e], fun e => by cases e; rfl⟩
    | str b => have := (is_num hv).1; have := (is_str hw).1; omega
  | str b =>
    cases w with
    | num y => have := (is_num hw).1; have := (is_str hv).1; omega
    | str c =>
      show PyData.eqvAll (dI b) (dI c) = true ↔ _
      rw [eqv_dI, decide_eq_true_eq]
      exact ⟨fun e => by rw [e], fun e => by cases e; rfl⟩
/-! ### numbers alone -/
theorem vs_num {H : Hp} : ∀ {xs : List V} {l : List Pg.Val}, VsA H xs l → (∀ v ∈ l, v.is 0 = true) → xs = (l.map Pg.zOf).map V.int
  | _, _, .nil, _ => rfl
  | _, v :: l, .cons h r, hi => by
    have iv := hi v List.mem_cons_self
    cases v with
    | num z =>
      cases h
      rw [vs_num r fun x hx => hi x (List.mem_cons_of_mem _ hx)]
      rfl
    | str b => have := (is_str iv).1; omega
theorem num_range {l : List Pg.Val} (hi : ∀ v ∈ l, v.is 0 = true) : ∀ z ∈ l.map Pg.zOf, -(2 ^ 63) ≤ z ∧ z < 2 ^ 63 := fun z hz => by
  obtain ⟨v, hv, rfl⟩ := List.mem_map.mp hz
  have iv := hi v hv
  cases v with
  | num z =>
    have h := (is_num iv).2
    unfold Pg.inRange at h
    rw [Bool.and_eq_true, decide_eq_true_eq, decide_eq_true_eq] at h
    exact h
  | str b => have := (is_str iv).1; omega
theorem bits_nat (n : Nat) : Builtin.Int.intBits (n : Int) = Pg.bitsFor n := by
  unfold Builtin.Int.intBits Pg.bitsFor
  by_cases h : n = 0
  · subst h; rfl
  · rw [if_neg h, if_neg (by rw [beq_iff_eq]; omega), Int.natAbs_natCast]
theorem cut_nb (l : List Nat) (i : Nat) (hi : i ≤ l.length) : cutV (nb l) (some (i : Int)) none = nb (l.drop i) := by
  unfold cutV
  rw [HT.sIx_nat, HT.sIx_none, nb_len, Nat.min_eq_left hi]
  unfold nb
  rw [← List.map_drop, List.take_of_length_le (by simp)]
/-! ### within a comprehension: the written part by its name -/
theorem ixL (K : PySem.W.Frag) {X : Cx} (h : X.K = K) : IxR X (rIxL K) := by
  subst h
  exact ix_list
theorem ixT (K : PySem.W.Frag) {X : Cx} (h : X.K = K) : IxR X (rIxT K) := by
  subst h
  exact ix_tup
theorem lenK (K : PySem.W.Frag) {X : Cx} (h : X.K = K) : CallR X (.builtin "len") (fun xs H Q => ∃ p ys, xs = [.ref p] ∧ (SqL K H p ys ∨ SqT K H p ys) ∧ Q (.int ys.length) H) := by
  subst h
  exact call_len_seq
/-! ### what follows is shown once -/
theorem cut {t u : TS} {D : Ends} {σ : L2.St} {H : Hp} (M : L2.St → Hp → Prop) (h2 : ∀ σ' H', M σ' H' → u D σ' H') (h1 : (∀ σ' H', M σ' H' → u D σ' H') → t { D with nx := u D } σ H) : tSeq t u D σ H := h1 h2
/-! ### a display whose items are ways -/
def Gv (t : TE) (σ : L2.St) (H : Hp) (w : Option (List Nat)) : Prop := ∀ H1, Same H H1 → ∀ R : VK, (∀ x H2, Same H1 H2 → OA H2 x w → R x H2) → t σ H1 R
def GvA (t : TA) (σ : L2.St) (H : Hp) (ws : List (Option (List Nat))) : Prop := ∀ H1, Same H H1 → ∀ R : List V → Hp → Prop, (∀ xs H2, Same H1 H2 → OsA H2 xs ws → R xs H2) → t σ H1 R
theorem gv_nil {σ : L2.St} {H : Hp} : GvA tNil σ H [] := fun H1 _ R h => h [] H1 (Same.refl _) .nil
theorem gv_cons {ta : TE} {tr : TA} {σ : L2.St} {H : Hp} {w : Option (List Nat)} {ws : List (Option (List Nat))} (ha : Gv ta σ H w) (hr : GvA tr σ H ws) : GvA (tCons ta tr) σ H (w :: ws) := fun H1 s R h =>
  ha H1 s _ fun x H2 s2 hx => hr H2 (s.trans s2) _ fun xs H3 s3 hxs => h (x :: xs) H3 (s2.trans s3) (.cons (hx.mono s3) hxs)
theorem gv_lst {t : TA} {σ : L2.St} {H : Hp} {ws : List (Option (List Nat))} {Q : VK} (h : GvA t σ H ws) (hn : ws.length ≤ 1000) (q : ∀ H' p xs, Same H H' → H p = none → H' p = some (.lst xs) → OsA H' xs ws → Q (.ref p) H') : tLst t σ H Q :=
  h H (Same.refl _) _ fun xs H2 s2 hx => ⟨sz (by rw [hx.length]; omega), fun p np => q _ p xs (s2.trans (nw np)) (s2.free np) upd_same (osm (nw np) hx)⟩
theorem raw_len {k : Nat} {v : Pg.Val} (h : v.is k = true) : (Pg.raw v).length ≤ 40 := by
  cases v with
  | num z =>
    show (Pg.wide 8 z).length ≤ 40
    rw [PfM.wide_len]
    decide
  | str b => exact (is_str h).2.1
theorem stepC {v : V} {i : Nat} {u : TS} {D : Ends} {σ : L2.St} {H : Hp} (h : u D (σ.set i (some v)) H) : tSeq (tAsg (tC v) (gName i)) u D σ H := h
/-! ### a written tuple -/
def TupOf (o : Obj) (xs : List V) : Prop := o.cls = .type "tuple" ∧ ∃ (its : Array Value) (n : Nat), o.data = .seq its n ∧ its.size ≤ sizeLine ∧ Vals xs its.toList
theorem TupOf.sq {K : PySem.W.Frag} {H : Hp} {a : Addr} {o : Obj} {xs : List V} (h : TupOf o xs) (l : K.lookup a = some o) : SqT K H a xs := by
  obtain ⟨h1, its, n, h2, h3, h4⟩ := h
  exact .inr ⟨o, its, n, l, h1, h2, h3, h4⟩
/-! ### values that bytes may stand for -/
theorem sz16 {n : Nat} (h : n ≤ 16000000) : n ≤ sizeLine := Nat.le_trans h (by decide)
theorem szl16 {n : Nat} (h : n ≤ 16000000) : n < sizeLine := Nat.lt_of_le_of_lt h (by decide)
def Kd (k : Nat) : Pg.Val → Prop
  | .num _ => k = 0
  | .str b => k = 1 ∧ b.length ≤ 30000
theorem kd_of {k : Nat} {v : Pg.Val} (h : v.is k = true) : Kd k v := by
  cases v with
  | num z => exact (is_num h).1
  | str b =>
    have := is_str h
    exact ⟨this.1, by omega⟩
theorem kd_raw {k : Nat} {v : Pg.Val} (h : Kd k v) : (Pg.raw v).length ≤ 30000 := by
  cases v with
  | num z =>
    show (Pg.wide 8 z).length ≤ 30000
    rw [PfM.wide_len]
    decide
  | str b => exact h.2
theorem kd_alone {k : Nat} {v : Pg.Val} (h : Kd k v) : (Pg.alone v).length ≤ 30004 := by
  cases v with
  | num z =>
    show (Pg.wide 8 z).length ≤ 30004
    rw [PfM.wide_len]
    decide
  | str b =>
    have := h.2
    show (Pg.le 4 b.length ++ b).length ≤ 30004
    rw [List.length_append, PfM.le_len]
    omega
end Pf
namespace Pf
open PySem PySem.SeqAt PySem.W PyProof.Rows
/-! ### tuples of ints, an empty one among them: how the sort compares them -/
def tupD (k : List Int) : PyData := .tuple (k.map .int)
theorem alike_tupD (k m : List Int) : alike (tupD k) (tupD m) = true := by
  show alikeAll (k.map .int) (m.map .int) = true
  exact alike_ints k m
theorem depth_tupD (k : List Int) : (tupD k).depth = 1 := by
  show PyData.depthAll (k.map .int) + 1 = 1
  rw [depth_ints k]
section
variable {prog : Program} {w : World} {A : Around} {E : Value → Shared → Prop} {s : Shared}
theorem oneLt_tup {xs ys : List PyData} {a b : Value} {as bs : List Addr} {Q : Bool → Shared → Prop} (ra : Reads s.heap a (.tuple xs) as) (rb : Reads s.heap b (.tuple ys) bs) (hal : alikeAll xs ys = true)
    (hu : A.units + min (PyData.depth (.tuple xs)) (PyData.depth (.tuple ys)) < cLine) (hq : Q (dataLt (.tuple xs) (.tuple ys)) s) : wpAny (model prog w) A (oneLt' true a b) Q E s := by
  cases ra with
  | @tuple l o vs n _ as1 h1 h2 h3 h4 =>
    cases rb with
    | @tuple l2 o2 vs2 n2 _ bs1 k1 k2 k3 k4 =>
      obtain ⟨cls, dd, data, sl⟩ := o
      obtain ⟨cls2, dd2, data2, sl2⟩ := o2
      simp only at h2 h3 k2 k3
      subst h2 h3 k2 k3
      have n1 : vs.size = xs.length := by simpa using ReadsAll.length _ _ _ h4
      have n2' : vs2.size = ys.length := by simpa using ReadsAll.length _ _ _ k4
      rw [dataLt_tuple, ← firstLt_toks xs ys hal, ← n1, ← n2'] at hq
      rw [oneLt'_eq, if_pos rfl]
      refine wpAny_bind (wpAny_cRoomFor (room_here hu) (wpAny_bind ?_))
      refine wpAny_callSpecialIfBound?_slot (T := "tuple") ⟨_, h1, rfl⟩ F.slot_tuple_lt ?_
      refine call_meets F.slot_tuple_lt ⟨_, h1, rfl⟩ F.entry_tuple_lt (F.args_tuple_lt_2 _ _) (tuple_ltAt l l2 vs vs2 n n2 dd dd2 sl sl2 (pairEq xs ys) (fun j => dataLt (xs.getD j .none) (ys.getD j .none))) ⟨h1, k1, fun j j1 j2 => ?_, fun j j1 j2 hj => ?_, ?_⟩
      · exact eqAt_alikeAll xs ys A.in1 s vs.toList vs2.toList _ _ h4 k4 hal (room_in hu) j (by simpa using j1) (by simpa using j2)
      · exact rcLt_alikeAll xs ys A.in1 s vs.toList vs2.toList _ _ h4 k4 hal (room_in hu) j (by simpa using j1) (by simpa using j2) hj
      · exact wpAny_truthy_bool hq
/-- the first items, where there are some -/
theorem firsts_of {M : Model} : ∀ (vs : List Value) (ks : List (List Int)) {Q : List (Option Value) → Shared → Prop}, EachIs (fun v k => ∃ as, Reads s.heap v (tupD k) as) vs ks →
    (∀ fs : List (Option Value), EachIs (fun (f : Option Value) (k : List Int) => f.isSome = !k.isEmpty) fs ks → Q fs s) → wpAny M A (vs.mapM firstOfTuple') Q E s
  | _, _, Q, .nil, h => by
    rw [List.mapM_nil]
    exact wpAny_pure (h [] .nil)
  | v :: vs, k :: ks, Q, .cons ⟨as, r⟩ t, h => by
    rw [List.mapM_cons]
    have r' : Reads s.heap v (.tuple (k.map .int)) as := r
    cases r' with
    | @tuple l o its n _ as1 h1 h2 h3 h4 =>
      refine wpAny_bind ?_
      rw [kas_first_eq]
      refine wpAny_bind (Looks.here (show Looks M s.heap (typeOf (.ref l)) o.cls from (Looks.ld h1).andThen .now) ?_)
      rw [h2, if_neg (by decide)]
      refine wpAny_bind (listItems_at h1 h3 (wpAny_pure ?_))
      have hz : its.size = k.length := by
        have := ReadsAll.length _ _ _ h4
        simpa using this
      have hs : (its[0]?).isSome = !k.isEmpty := by
        cases k with
        | nil =>
          have : its.size = 0 := hz
          rw [Array.getElem?_eq_none (by omega)]
          rfl
        | cons c k =>
          have : 0 < its.size := by rw [hz]; exact Nat.succ_pos _
          rw [Array.getElem?_eq_getElem this]
          rfl
      exact wpAny_bind (firsts_of vs ks t fun fs hf => wpAny_pure (h (its[0]? :: fs) (.cons hs hf)))
theorem sorts_tups {vs : List Value} {ks : List (List Int)} (e : EachIs (fun v k => ∃ as, Reads s.heap v (tupD k) as) vs ks) (hu : A.units + 1 < cLine) : SortsAt prog w A s (dataKind s.heap (ks.map tupD)) vs := by
  have hal : AllAlike (ks.map tupD) := AllAlike.of fun a b => alike_tupD a b
  have e' : EachIs (fun v d => ∃ as, Reads s.heap v d as) vs (ks.map tupD) := each_map (R := fun v d => ∃ as, Reads s.heap v d as) tupD e
  have hd : ∀ d, d ∈ ks.map tupD → A.units + d.depth < cLine := fun d hd => by
    obtain ⟨k, _, rfl⟩ := List.mem_map.mp hd
    rw [depth_tupD]
    exact hu
  by_cases hne : ∀ k ∈ ks, k ≠ []
  · refine SortsAt.data e' hal (.inl fun d hd => ?_) hd
    obtain ⟨k, hk, rfl⟩ := List.mem_map.mp hd
    cases k with
    | nil => exact absurd rfl (hne _ hk)
    | cons c k => exact ⟨.int c, k.map .int, rfl⟩
  · have room : ∀ {d d' : PyData}, d ∈ ks.map tupD → A.units + min d.depth d'.depth < cLine := fun {d d'} h => Nat.lt_of_le_of_lt (Nat.add_le_add_left (Nat.min_le_left _ _) _) (hd d h)
    refine ⟨fun v hv => ?_, ?_⟩
    · obtain ⟨d, hd, as, r⟩ := e'.left v hv
      exact ⟨_, dataKind_some hal hd r⟩
    · have gen : H.LtAt prog w A s (dataKind s.heap (ks.map tupD)) general' := by
        intro E x y a b Q ha hb hq
        obtain ⟨d, as, hd1, ra, rfl⟩ := dataKind_inv ha
        obtain ⟨d', as', hd2, rb, rfl⟩ := dataKind_inv hb
        show wpAny (model prog w) A (oneLt' false x y) Q E s
        refine oneLt_alike (f := false) (fun h => nomatch h) ra rb (hal d hd1 d' hd2) (fun z => ?_) (room hd1) hq
        obtain ⟨k, _, rfl⟩ := List.mem_map.mp hd1
        cases z
      have one : H.LtAt prog w A s (dataKind s.heap (ks.map tupD)) oneType' := by
        intro E x y a b Q ha hb hq
        obtain ⟨d, as, hd1, ra, rfl⟩ := dataKind_inv ha
        obtain ⟨d', as', hd2, rb, rfl⟩ := dataKind_inv hb
        have hr := room (d' := d') hd1
        obtain ⟨k, _, rfl⟩ := List.mem_map.mp hd1
        obtain ⟨k', _, rfl⟩ := List.mem_map.mp hd2
        rw [keyLt'_oneType]
        exact oneLt_tup (xs := k.map .int) (ys := k'.map .int) ra rb (alike_ints k k') hr hq
      have ex : ∃ k, k ∈ ks ∧ k = [] := by
        by_cases h : ∃ k, k ∈ ks ∧ k = []
        · exact h
        · exact absurd (fun k hk z => h ⟨k, hk, z⟩) hne
      obtain ⟨k0, hk0, rfl⟩ := ex
      cases e with
      | nil => cases hk0
      | @cons v k vs ks hv t =>
        have notall : ∀ fs : List (Option Value), EachIs (fun (f : Option Value) (k : List Int) => f.isSome = !k.isEmpty) fs (k :: ks) → ¬ (fs.toArray.all (·.isSome)) = true := by
          intro fs hf h
          rw [List.all_toArray, List.all_eq_true] at h
          have key : ∀ (fs : List (Option Value)) (ms : List (List Int)), EachIs (fun (f : Option Value) (k : List Int) => f.isSome = !k.isEmpty) fs ms → (∀ f ∈ fs, f.isSome = true) → ∀ m ∈ ms, m ≠ [] := by
            intro fs ms hE
            induction hE with
            | nil => intro _ m hm; cases hm
            | cons h1 _ ih =>
              intro ha m hm
              rcases List.mem_cons.mp hm with rfl | hm
              · rintro rfl
                rw [ha _ List.mem_cons_self] at h1
                cases h1
              · exact ih (fun f hf => ha f (List.mem_cons_of_mem _ hf)) m hm
          exact key fs _ hf h [] hk0 rfl
        cases k with
        | cons c k =>
          refine ⟨general', gen, fun h2 E Q hq => ?_⟩
          rw [keyKind'_eq, List.mapM_toArray, map_eq_pure_bind]
          refine wpAny_bind (wpAny_bind (firsts_of _ _ (.cons hv t) fun fs hf => wpAny_pure ?_))
          rw [if_neg (notall fs hf)]
          cases hf with
          | @cons f _ fs _ h1 h3 =>
            have h1' : f.isSome = true := h1
            rw [if_pos (by simpa using h1')]
            exact wpAny_pure hq
        | nil =>
          refine ⟨oneType', one, fun h2 E Q hq => ?_⟩
          rw [keyKind'_eq, List.mapM_toArray, map_eq_pure_bind]
          refine wpAny_bind (wpAny_bind (firsts_of _ _ (.cons hv t) fun fs hf => wpAny_pure ?_))
          rw [if_neg (notall fs hf)]
          have hT : ∀ u ∈ v :: vs, Looks (model prog w) s.heap (typeOf u) (.type "tuple") := fun u hu' => by
            obtain ⟨d, hd, as, r⟩ := e'.left u hu'
            obtain ⟨k, _, rfl⟩ := List.mem_map.mp hd
            exact looks_reads r
          cases hf with
          | @cons f _ fs _ h1 h3 =>
            have h1' : f = none := by
              cases f with
              | none => rfl
              | some z => cases h1
            subst h1'
            rw [if_neg (by simp), oneTypeOnly'_eq, List.mapM_toArray, map_eq_pure_bind]
            refine wpAny_bind (wpAny_bind (wpAny_bind (kas_mapM (r := Value.type "tuple") _ (fun u hu' Q' hq' => (hT u hu').here hq') (wpAny_pure ?_))))
            have hall : (((v :: vs).map fun _ => Value.type "tuple").toArray.all fun x => x == Value.type "tuple") = true := by
              simp only [List.all_toArray, List.all_map, List.all_eq_true]
              intro _ _
              rfl
            have h0 : ((v :: vs).map fun _ => Value.type "tuple").toArray[0]? = some (Value.type "tuple") := by simp
            rw [h0]
            simp only [hall, if_true]
            exact wpAny_pure (wpAny_pure hq)
end
end Pf
namespace Pf
open PySem PySem.Spec PyProof.Rows L2
/-! ### a set as it stands when it is made: what its walk meets -/
def SetU (w : World) (h : Heap) (a : Addr) (us : List Value) : Prop :=
  ∃ (o : Obj) (es : Array (Int × Value)) (ep : Nat) (t : SetTable), h.get? a = some o ∧ o.cls = .type "set" ∧ o.data = .set es ep t ∧ t.fits es.size = true ∧ es.size < scanBound ∧ Ris t.place.toList ∧
    (w.params.followText "set-order" = true ∨ t.led = true) ∧ es.toList.map (·.2) = us
theorem SetU.at {w : World} {h h' : Heap} {a : Addr} {us : List Value} (R : SetU w h a us) (k : ∀ o, h.get? a = some o → h'.get? a = some o) : SetU w h' a us := by
  obtain ⟨o, es, ep, t, ho, r⟩ := R
  exact ⟨o, es, ep, t, k o ho, r⟩
def refsOf (L : List (Addr × List Int)) : List Value := L.map fun q => Value.ref q.1
theorem setU_tup {P : Program} {w : World} {s : Shared} {a : Addr} {L : List (Addr × List Int)} {es : Array (Int × Value)} {ep : Nat} {t : SetTable} (R : SetTR P w s.heap a L es ep t) : SetU w s.heap a (refsOf L) := by
  obtain ⟨o, ho, hex, hd⟩ := R.ob
  refine ⟨o, es, ep, t, ho, hex.1, hd, R.fits, ?_, R.tab.ris, R.led, ?_⟩
  · have h1 := R.size
    have h2 := R.few
    unfold scanBound
    omega
  · rw [R.rows]
    unfold rowsOf refsOf
    rw [List.map_map]
    rfl
theorem setU_int {w : World} {h : Heap} {a : Addr} {S : Int → Bool} {n : Nat} (R : SetR w h a S n) : ∃ (ks : List Int) (us : List Value), SetU w h a us ∧ Vals (ks.map V.int) us ∧ ks.Nodup ∧ ∀ k, k ∈ ks ↔ S k = true := by
  obtain ⟨o, es, ep, t, ho, hex, hd, g, nd, hm, hb, hf, hn, hr, hl⟩ := R
  refine ⟨es.toList.map keyOf, es.toList.map (·.2), ⟨o, es, ep, t, ho, hex.1, hd, hf, hb, hr, hl, rfl⟩, ?_, nd, fun k => (hm k).symm⟩
  have key : ∀ l : List (Int × Value), (∀ e ∈ l, GoodE e) → Vals ((l.map keyOf).map V.int) (l.map (·.2)) := by
    intro l
    induction l with
    | nil => intro _; exact .nil
    | cons e l ih =>
      intro h
      obtain ⟨k, tk, e1, _⟩ := h e List.mem_cons_self
      refine .cons ⟨tk, ?_⟩ (ih fun x hx => h x (List.mem_cons_of_mem _ hx))
      show e.2 = Value.int (keyOf e) tk
      unfold keyOf
      rw [e1]
  exact key _ g
section
variable {P : Program} {w : World} {A : Around} {E : Value → Shared → Prop} {s : Shared}
/-- the sixty-fourth -/
theorem add_last {a : Addr} {L : List (Addr × List Int)} {es : Array (Int × Value)} {ep : Nat} {t : SetTable} (R : SetTR P w s.heap a L es ep t) {x : Addr} {k : List Int} (hx : IsT P w s.heap k x) (hu : A.units < cLine) (h63 : L.length = 63) {Q : Bool → Shared → Prop}
    (hin : k ∈ L.map (·.2) → Q false s) (hout : k ∉ L.map (·.2) → ∀ h' L', Heap.SameBut a s.heap h' → SetU w h' a (refsOf L') → L'.Perm ((x, k) :: L) → Q true { s with heap := h' }) :
    wpAny (model P w) A (setAddHashed a (.ref x) (thash P w k)) Q E s := by
  obtain ⟨o, ho, hex, hd⟩ := R.ob
  have room := R.room
  have m127 : t.mask = 127 := by
    rcases R.tab.mok with e | e | e
    · rw [e] at room; omega
    · rw [e] at room; omega
    · exact e
  unfold setAddHashed
  refine wpAny_holding ?_
  rw [show (100000 : Nat) = 99999 + 1 from rfl, setAddHashedIn_succ]
  refine wpAny_bind (wpAny_setState_of ho hd R.fits ?_)
  dsimp only
  refine wp_if_neg (by simp [byScan, Value.scannable]) (wpAny_bind (search_at R hx hu (fun hm => wpAny_pure (hin hm)) fun K hm hK hb => ?_))
  dsimp only
  refine wpAny_bind (wpAny_setState_of ho hd R.fits ?_)
  dsimp only
  obtain ⟨q1, q2, q3, q4, q5, q6, q7, q8, q9⟩ := R.tab.put hK hb
  have pl : (t.put (way t.mask (thash P w k) K)).1.plain = true := by rw [q6]; exact R.plain
  generalize hp : t.put (way t.mask (thash P w k) K) = pt at q1 q3 q4 q5 q6 q7 q8 q9 pl ⊢
  obtain ⟨t1, j⟩ := pt
  dsimp only at q1 q3 q4 q5 q6 q7 q8 q9 pl ⊢
  subst q1
  refine wp_if_pos pl (wpAny_bind (hashBy_tup hx ?_))
  simp only [if_true]
  generalize SetTable.below t.place (way t.mask (thash P w k) K) = j at q2 q3 ⊢
  have pm := put_perm L j (x, k)
  have rows : (SetTable.insertAt es j (thash P w k, Value.ref x)).toList = rowsOf P w (L.take j ++ (x, k) :: L.drop j) := by
    rw [SetTable.toList_insertAt, rows_put, R.rows]
  have len : (SetTable.insertAt es j (thash P w k, Value.ref x)).size = 64 := by
    have h := congrArg List.length rows
    unfold rowsOf at h
    rw [Array.length_toList, List.length_map, pm.length_eq, List.length_cons, h63] at h
    exact h
  have ts : t1.place.size = 64 := by
    have h := q3.sz
    rw [← List.map_take, ← List.map_drop, List.length_append, List.length_cons, List.length_map, List.length_map] at h
    have h2 := pm.length_eq
    rw [List.length_append, List.length_cons, List.length_cons, h63] at h2
    omega
  refine wpAny_bind (wpAny_storeSet_of ho hd ?_ (by rw [len, sizeLine_eq]; omega))
  refine wp_if_neg ?_ ?_
  · unfold SetTable.tooFull
    rw [q4, q9, m127, List.length_map, h63]
    decide
  · refine wpAny_pure (hout hm _ _ (Heap.SameBut.update ..) ⟨_, _, _, t1, store_at ho hd, hex.1, rfl, ?_, by rw [len]; decide, q3.ris, by rw [q5]; exact R.led, ?_⟩ pm)
    · unfold SetTable.fits SetTable.fill
      rw [q3.dm, Bool.and_eq_true, beq_iff_eq, decide_eq_true_eq, len, ts, q4, m127]
      decide
    · rw [rows]
      unfold rowsOf refsOf
      rw [List.map_map]
      rfl
end
end Pf
namespace Pf
open PySem PySem.Spec PyProof.Rows L2
/-- a new set -/
abbrev freshO (w : World) : Obj := { cls := .type "set", dict := none, data := .set #[] 0 (.fresh 0 0 (!w.params.followText "set-order")) }
/-- what is left of h0 stands in h -/
abbrev Stands (h0 h : Heap) : Prop := ∀ b o, h0.get? b = some o → h.get? b = some o
/-- what the loop of set(xs) must do, from a new set at S on -/
def LoopOk (P : Program) (w : World) (A : Around) (S : Addr) (items : Array Value) (h0 : Heap) (Post : Heap → Prop) : Prop :=
  ∀ {I : Addr} {fp wr : List Addr} {G : Array GenState → Array GenState → Prop} {n : Nat} {Pv : Nat → Value → Prop} {St : Nat → Shared → Prop} {R : Result → Shared → Prop},
    WalksS P w A.in1 I fp wr G n Pv St → S ∉ fp → n = items.size → (∀ i v, Pv i v → items[i]? = some v) → (∀ b ∈ wr, h0.get? b = none) → ∀ s : Shared, St 0 s → Stands h0 s.heap → s.heap.get? S = some (freshO w) →
      (∀ s', Moved (S :: wr) G s s' → Post s'.heap → R (.ok (.ret .none)) s') → codeAny (model P w) A (.builtin "set.update.loop" ⟨[.ref S, .ref I], []⟩) R s
section
variable {P : Program} {w : World} {A : Around} {E : Value → Shared → Prop} {s : Shared}
theorem loop_ints {S : Addr} {items : Array Value} {h0 : Heap} {ns : List Int} (hi : IntsAre items.toList ns) (hb : ns.length + 1 < scanBound) : LoopOk P w A S items h0 fun h => ∃ c, SetR w h S (fun j => decide (j ∈ ns)) c := by
  intro I fp wr G n Pv St R W hSf hn hval hw0 s hst hk hS hR
  have hz : items.size = ns.length := by
    have q := IntsAre.length hi
    rwa [Array.length_toList] at q
  refine set_update_ints W S hSf ns (hn.trans hz) hb (fun i v hv => ?_) (n - 0) 0 s rfl (Nat.zero_le _) hst ⟨0, Nat.le_refl _, setR_new_at hS⟩ fun s' c hm _ hS' => hR s' hm ⟨c, hS'⟩
  have hv' := hval i v hv
  have hlt : i < ns.length := by rw [← hz]; exact (Array.getElem?_eq_some_iff.mp hv').1
  obtain ⟨t, e⟩ := IntsAre.int_at hi i v (by rw [Array.getElem?_toList]; exact hv')
  exact ⟨ns[i], t, List.getElem?_eq_getElem hlt, by rw [e, List.getD_eq_getElem?_getD, List.getElem?_eq_getElem hlt]; rfl⟩
/-- the tuples' keys that the set has got -/
structure GotU (w : World) (ks : List (Addr × List Int)) (S : Addr) (h : Heap) : Prop where
  ex : ∃ L, SetU w h S (refsOf L) ∧ (L.map (·.2)).Nodup ∧ (∀ p ∈ L, p ∈ ks) ∧ ∀ p ∈ ks, p.2 ∈ L.map (·.2)
theorem loop_tups {S : Addr} {items : Array Value} {h0 : Heap} {ks : List (Addr × List Int)} (hit : items.toList = refsOf ks) (hfew : ks.length ≤ 64) (hk : ∀ p ∈ ks, IsT P w h0 p.2 p.1) (hS0 : h0.get? S = none) (hu : A.in1.units < cLine) :
    LoopOk P w A S items h0 (GotU w ks S) := by
  intro I fp wr G n Pv St R W hSf hn hval hw0 s0 hst0 hk0 hS1 hR0
  have hz : items.size = ks.length := by
    have q := congrArg List.length hit
    unfold refsOf at q
    rwa [Array.length_toList, List.length_map] at q
  have hSw : S ∉ wr := fun h => hSf (W.sub _ h)
  have sub : ∀ b ∈ wr, b ∈ S :: wr := fun b hb => List.mem_cons_of_mem _ hb
  have at' : ∀ i v, Pv i v → ∃ p, ks[i]? = some p ∧ v = .ref p.1 := fun i v hv => by
    have q : items.toList[i]? = some v := by rw [Array.getElem?_toList]; exact hval i v hv
    unfold refsOf at hit
    rw [hit, List.getElem?_map] at q
    cases e : ks[i]? with
    | none => rw [e] at q; cases q
    | some p => rw [e] at q; exact ⟨p, rfl, (Option.some.inj q).symm⟩
  have kept : ∀ {s s' : Shared}, Moved wr G s s' → Stands h0 s.heap → Stands h0 s'.heap := fun hm hs b o e => hm.heap b o (fun hb => by rw [hw0 b hb] at e; cases e) (hs b o e)
  -- the end, from a set that has got all
  have stop : ∀ (s : Shared) (R : Result → Shared → Prop), St n s → GotU w ks S s.heap → (∀ s', Moved (S :: wr) G s s' → GotU w ks S s'.heap → R (.ok (.ret .none)) s') → codeAny (model P w) A (.builtin "set.update.loop" ⟨[.ref S, .ref I], []⟩) R s := by
    intro s R hst hg hR
    refine codeAny_builtin F.entry_set_update_loop (by
      rw [Around.under_plainId F.plain_set_update_loop _]
      refine wpAny_bind (W.done s _ _ hst fun s' hm => wpAny_pure (hR s' (hm.mono sub) ?_))
      obtain ⟨L, h1, h2⟩ := hg.ex
      exact ⟨L, h1.at fun o e => hm.heap S o hSw e, h2⟩)
  have go : ∀ (d i : Nat) (s : Shared) (R : Result → Shared → Prop), n - i = d → i ≤ n → St i s → Stands h0 s.heap → (∃ L es ep t, SetTR P w s.heap S L es ep t ∧ Got ks i L) →
      (∀ s', Moved (S :: wr) G s s' → GotU w ks S s'.heap → R (.ok (.ret .none)) s') → codeAny (model P w) A (.builtin "set.update.loop" ⟨[.ref S, .ref I], []⟩) R s := by
    intro d
    induction d with
    | zero =>
      intro i s R hd hi hst hs ⟨L, es, ep, t, hS, g⟩ hR
      have hin : i = n := by omega
      subst hin
      refine stop s R hst ⟨L, setU_tup hS, hS.nd, fun p hp => List.mem_of_mem_take (g.sub p hp), fun p hp => g.all p ?_⟩ hR
      rw [hn, hz, List.take_length]
      exact hp
    | succ d ih =>
      intro i s R hd hi hst hs ⟨L, es, ep, t, hS, g⟩ hR
      have hlt : i < n := by omega
      refine codeAny_builtin F.entry_set_update_loop (by
        rw [Around.under_plainId F.plain_set_update_loop _]
        refine wpAny_bind (W.item i s _ _ hlt hst fun v s1 hP hst1 hm => ?_)
        obtain ⟨p, hp, rfl⟩ := at' i v hP
        have hs1 := kept hm hs
        have inks : ∀ q ∈ L, q ∈ ks := fun q hq => List.mem_of_mem_take (g.sub q hq)
        have hS' : SetTR P w s1.heap S L es ep t := hS.keep (fun o e => hm.heap S o hSw e) fun q hq => isT_keep (hk q (inks q hq)) hs1
        have hx : IsT P w s1.heap p.2 p.1 := isT_keep (hk p (List.mem_of_getElem? hp)) hs1
        -- one turn behind: the set's object alone is another
        have turn : ∀ h' : Heap, Heap.SameBut S s1.heap h' → St (i + 1) { s1 with heap := h', toks := s1.toks + (p.2.length + 1) } ∧ Stands h0 h' ∧ ∀ s2, Moved (S :: wr) G { s1 with heap := h', toks := s1.toks + (p.2.length + 1) } s2 → Moved (S :: wr) G s s2 := fun h' sb =>
          ⟨W.frame _ s1 _ _ hst1 (Nat.le_add_right _ _) fun b hb o e => by rw [sb.2 b (fun z => hSf (z ▸ hb))]; exact e,
            fun b o e => by rw [sb.2 b (fun z => by rw [z, hS0] at e; cases e)]; exact hs1 b o e,
            fun s2 hm2 => Moved.trans W.gtrans ((hm.mono sub).then_heap (Nat.le_add_right _ _) fun b o hb e => by rw [sb.2 b (fun z => hb (by rw [z]; exact List.mem_cons_self))]; exact e) hm2⟩
        refine wpAny_bind (wpAny_holding ?_)
        unfold setAdd
        refine wpAny_holding (wpAny_bind (wpAny_pyHash_tuple hu hx ?_))
        by_cases hl : L.length + 1 < 64
        · refine add_at (s := { s1 with toks := s1.toks + (p.2.length + 1) }) hS' hx hu hl fun b h' L' es' ep' t' sb hS2 c1 c2 => ?_
          obtain ⟨t1, t2, t3⟩ := turn h' sb
          have g' : Got ks (i + 1) L' := by
            rcases Classical.em (p.2 ∈ L.map (·.2)) with c | c
            · rw [c1 c]; exact g.same hp c
            · exact g.more hp (c2 c)
          exact wpAny_pure ⟨plainId_quiet F.plain_set_update_loop _, ih (i + 1) _ R (by omega) hlt t1 t2 ⟨L', es', ep', t', hS2, g'⟩ fun s2 hm2 hg2 => hR s2 (t3 s2 hm2) hg2⟩
        · have gl := g.len
          have i63 : i = 63 := by omega
          have hin : i + 1 = n := by omega
          refine add_last (s := { s1 with toks := s1.toks + (p.2.length + 1) }) hS' hx hu (by omega) (fun c => ?_) fun c h' L' sb hU pm => ?_
          · obtain ⟨t1, t2, t3⟩ := turn s1.heap (Heap.SameBut.refl S s1.heap)
            exact wpAny_pure ⟨plainId_quiet F.plain_set_update_loop _, ih (i + 1) _ R (by omega) hlt t1 t2 ⟨L, es, ep, t, hS', g.same hp c⟩ fun s2 hm2 hg2 => hR s2 (t3 s2 hm2) hg2⟩
          · obtain ⟨t1, t2, t3⟩ := turn h' sb
            have g' := g.more hp pm
            rw [hin] at t1 g'
            have nd' : (L'.map (·.2)).Nodup := by
              refine (pm.map (·.2)).nodup_iff.mpr ?_
              rw [List.map_cons]
              exact List.nodup_cons.mpr ⟨c, hS.nd⟩
            refine wpAny_pure ⟨plainId_quiet F.plain_set_update_loop _, stop _ R t1 ⟨L', hU, nd', fun q hq => List.mem_of_mem_take (g'.sub q hq), fun q hq => g'.all q ?_⟩ fun s2 hm2 hg2 => hR s2 (t3 s2 hm2) hg2⟩
            rw [hn, hz, List.take_length]
            exact hq)
  exact go (n - 0) 0 s0 R rfl (Nat.zero_le _) hst0 hk0 ⟨[], #[], 0, _, setTR_fresh hS1, Got.zero ks⟩ hR0
end
end Pf
namespace Pf
open PySem PySem.Spec PyProof.Rows L2
section
variable {P : Program} {w : World} {A : Around} {E : Value → Shared → Prop} {s : Shared}
/-- set(xs), by what its loop does -/
theorem call_set_by {l : Addr} {items : Array Value} {Post : Heap → Prop} {Q : Value → Shared → Prop} (hh : A.handled = none) (hl : s.heap.IsList l items) (loop : LoopOk P w A.in1.in1 s.heap.objs.size items s.heap Post)
    (h : ∀ (h' : Heap) (tk : Nat), Post h' → Stands s.heap h' → Q (.ref s.heap.objs.size) { s with heap := h', toks := tk }) : wpAny (model P w) A (call (.type "set") [.ref l]) Q E s := by
  obtain ⟨c, tl, hmro⟩ := F.called_set.mro
  have hmade := F.called_set.made
  have hsub := F.called_set.sub
  have h1 := F.called_set.notType
  have h2 := F.called_set.canCreate
  have hct := F.typeCall_set_1 (.ref l)
  have hli := F.called_set.init.lookup
  refine wpAny_call (codeAny_of_tree (show wpAny _ _ (callAny (.type "set") _) _ _ _ from wpAny_pure ⟨Code.quiet_builtin _ (by decide +kernel), codeAny_builtin F.entry_type_call (by
    rw [Around.under_plain (weight_type_call_type "set" [.ref l] []) rfl]
    repeat (any_goals (first | assumption | wp_step))
    refine codeAny_mono (code_set_led1 (.ref l) (E := E) (Q₁ := fun o s1 => o = .ref s.heap.objs.size ∧ s1 = { s with heap := s.heap.push (freshO w) }) ⟨rfl, rfl⟩) fun r s1 hr => ?_
    cases r with
    | error e => exact hr
    | ok fl =>
      cases fl with
      | ret o =>
        obtain ⟨rfl, rfl⟩ := hr
        have hS : (s.heap.push (freshO w)).get? s.heap.objs.size = some (freshO w) := Heap.get?_push_size _ rfl
        have hT : Shared.TypeIs { s with heap := s.heap.push (freshO w) } (.ref s.heap.objs.size) "set" := ⟨_, hS, rfl⟩
        have hbi := F.called_set.init.bind (.ref s.heap.objs.size)
        repeat (any_goals (first | assumption | wp_step))
        refine codeAny_mono (codeAny_call_builtin (R := wants (fun r s2 => r = .none ∧ ∃ h' tk, s2 = { s with heap := h', toks := tk } ∧ Post h' ∧ Stands s.heap h') E) F.called_set.init.plain F.entry_set_init (check_set_init_1 hT ?_)) fun r2 s2 hr2 => ?_
        · obtain ⟨ol, hol, hcl, nl, hdl⟩ := hl
          obtain ⟨ocls, odict, odata, oslots⟩ := ol
          simp only at hcl hdl
          subst hcl hdl
          have hlS : l < s.heap.objs.size := Heap.lt_size hol
          have hol1 : (s.heap.push (freshO w)).get? l = some { cls := .type "list", dict := odict, data := .seq items nl, slots := oslots } := Heap.get?_push_of_some _ hol
          have hl1 : (s.heap.push (freshO w)).IsList l items := ⟨_, hol1, rfl, nl, rfl⟩
          have hsls := F.sub_list_set
          have hslf := F.sub_list_frozenset
          have hne : (Value.type "list" == Value.type "dict") = false := by decide
          unfold Builtin.«set.__init__» noKeywords Builtin.Frozenset.updateFrom
          generalize hPI : pyIter = PI
          wp_walk
          subst hPI
          refine wpAny_pyIter_list hl1 (wpAny_bind (wpAny_runValue ?_))
          have z1 : (s.heap.push (freshO w)).objs.size = s.heap.objs.size + 1 := Heap.size_push ..
          have dead : ∀ b, s.heap.objs.size ≤ b → s.heap.get? b = none := fun b hb => by
            cases q : s.heap.get? b with
            | none => rfl
            | some o => exact absurd (Nat.lt_of_lt_of_le (Heap.lt_size q) hb) (Nat.lt_irrefl _)
          have hneI : l ≠ (s.heap.push (freshO w)).objs.size := by rw [z1]; exact Nat.ne_of_lt (Nat.lt_succ_of_lt hlS)
          have hSf : s.heap.objs.size ∉ [(s.heap.push (freshO w)).objs.size, l] := by
            rw [z1]
            simp only [List.mem_cons, List.not_mem_nil, or_false, not_or]
            exact ⟨Nat.ne_of_lt (Nat.lt_succ_self _), Nat.ne_of_gt hlS⟩
          refine loop ((Walks.list (show A.in1.in1.in1.handled = none by simp [hh]) _ l hneI items).toS) hSf rfl (fun i v hv => hv) (fun b hb => dead b (by rw [List.mem_singleton.mp hb, z1]; omega)) _
            ⟨⟨_, Heap.get?_push_size _ rfl, rfl, rfl⟩, hl1.push _⟩ (fun b o e => Heap.get?_push_of_some _ (Heap.get?_push_of_some _ e)) (Heap.get?_push_of_some _ hS) fun s3 hm hP => ?_
          obtain ⟨h', g2, d', tk', os'⟩ := s3
          have eg : g2 = s.gens := hm.gens
          have ed : d' = s.drawn := hm.drawn
          have eo : os' = s.os := hm.os
          subst eg ed eo
          refine wpAny_pure (wpAny_pure ⟨rfl, h', tk', rfl, hP, fun b o e => ?_⟩)
          have hb0 : b < s.heap.objs.size := Heap.lt_size e
          refine hm.heap b o ?_ (Heap.get?_push_of_some _ (Heap.get?_push_of_some _ e))
          simp only [List.mem_cons, List.not_mem_nil, or_false, not_or]
          exact ⟨Nat.ne_of_lt hb0, by rw [z1]; exact Nat.ne_of_lt (Nat.lt_succ_of_lt hb0)⟩
        · cases r2 with
          | error e => exact hr2
          | ok fl2 =>
            cases fl2 with
            | ret r =>
              obtain ⟨rfl, h', tk, rfl, hP, hk⟩ := hr2
              repeat (any_goals (first | assumption | wp_step))
              exact h _ _ hP hk
            | _ => exact hr2.elim
      | _ => exact hr.elim)⟩))
end
end Pf
namespace Pf
open PySem PySem.Spec PyProof.Rows L2
open PySem.W (EachIs SortsAt dataKind AllAlike dataLe sortVals sortVals_data list_sort_vals sortingHeap sortingHeap_old)
theorem each_perm {α β : Type} {R : α → β → Prop} {as as' : List α} (p : as'.Perm as) : ∀ {bs : List β}, EachIs R as bs → ∃ bs', bs'.Perm bs ∧ EachIs R as' bs' := by
  induction p with
  | nil => intro bs e; exact ⟨bs, List.Perm.refl _, e⟩
  | cons x _ ih =>
    intro bs e
    cases e with
    | cons h t =>
      obtain ⟨bs', p', e'⟩ := ih t
      exact ⟨_ :: bs', p'.cons _, .cons h e'⟩
  | swap x y l =>
    intro bs e
    cases e with
    | cons h t =>
      cases t with
      | cons h2 t2 => exact ⟨_ :: _ :: _, List.Perm.swap _ _ _, .cons h2 (.cons h t2)⟩
  | trans _ _ ih1 ih2 =>
    intro bs e
    obtain ⟨b1, p1, e1⟩ := ih2 e
    obtain ⟨b2, p2, e2⟩ := ih1 e1
    exact ⟨b2, p2.trans p1, e2⟩
theorem each_both {α β : Type} {R S : α → β → Prop} {as : List α} {bs : List β} (h : EachIs R as bs) : EachIs S as bs → EachIs (fun a b => R a b ∧ S a b) as bs := by
  induction h with
  | nil => intro _; exact .nil
  | cons h1 _ ih =>
    intro e
    cases e with
    | cons h2 t => exact .cons ⟨h1, h2⟩ (ih t)
section
variable {P : Program} {w : World} {A : Around} {E : Value → Shared → Prop} {s : Shared}
theorem sorted_setU {β : Type} {R : Value → β → Prop} {enc : β → PyData} {a : Addr} {us : List Value} {bs : List β} {Q : Value → Shared → Prop} (hU : SetU w s.heap a us) (hh : A.handled = none) (e : EachIs R us bs)
    (er : EachIs (fun v b => ∃ as, Reads s.heap v (enc b) as) us bs) (hal : ∀ cs : List β, AllAlike (cs.map enc))
    (srt : ∀ (s' : Shared) (vs : List Value) (cs : List β), EachIs (fun v b => ∃ as, Reads s'.heap v (enc b) as) vs cs → SortsAt P w A.in1.in1 s' (dataKind s'.heap (cs.map enc)) vs)
    (hQ : ∀ s' p (out : Array Value) (c : Nat) (cs : List β), Stands s.heap s'.heap → s'.gens = s.gens → s'.os = s.os → s.heap.objs.size ≤ p → s'.heap.get? p = some (seqObj "list" out c) → EachIs R out.toList cs → cs.Perm bs → cs.Pairwise (fun a b => dataLe false enc a b = true) → Q (.ref p) s') :
    wpAny (model P w) A (call (.builtin "sorted") [.ref a]) Q E s := by
  obtain ⟨o, es, ep, t, ho, hc, hd, hf, hb, hr, hl, eu⟩ := hU
  refine Calls.call_function_entry kind_sorted plain_sorted entry_sorted (args_sorted1 _) (by
    unfold Builtin.«sorted»
    refine wpAny_bind (m := checkCount "sorted" 1 1 _) (wpAny_pure (wpAny_bind (collect_set (A := A.in1) hh ⟨o, ho, hc, hd⟩ hf hb hr hl fun s1 vs k1 hz g1 o1 pm => ?_)))
    rw [eu] at pm
    have ul : us.length < scanBound := by rw [← eu, List.length_map, Array.length_toList]; exact hb
    have vl : vs.length ≤ sizeLine := by
      rw [pm.length_eq]
      unfold scanBound at ul
      exact sz (by omega)
    have er1 : EachIs (fun v b => ∃ as, Reads s1.heap v (enc b) as) us bs := er.mono fun _ _ ⟨as, r⟩ => ⟨as, PyProof.Rows.Reads.keeps k1 r⟩
    obtain ⟨cs, pc, ec⟩ := each_perm pm (each_both e er1)
    have e1 : EachIs R vs cs := ec.mono fun _ _ h => h.1
    have e2 : EachIs (fun v b => ∃ as, Reads s1.heap v (enc b) as) vs cs := ec.mono fun _ _ h => h.2
    refine wpAny_bind (wpAny_newList ?_ vl)
    have hoL : (s1.heap.push (seqObj "list" vs.toArray 0)).get? s1.heap.objs.size = some (seqObj "list" vs.toArray 0) := Heap.get?_push_size _ rfl
    have kp : Stands s1.heap (sortingHeap (s1.heap.push (seqObj "list" vs.toArray 0)) s1.heap.objs.size vs) := fun b o e => sortingHeap_old (Nat.ne_of_lt (Heap.lt_size e)) (Heap.get?_push_of_some _ e)
    have e3 : EachIs (fun v b => ∃ as, Reads (sortingHeap (s1.heap.push (seqObj "list" vs.toArray 0)) s1.heap.objs.size vs) v (enc b) as) vs cs := e2.mono fun _ _ ⟨as, r⟩ => ⟨as, PyProof.Rows.Reads.keeps kp r⟩
    refine wpAny_bind (wpAny_holding (wpAny_call_entry slot_list_sort ⟨_, hoL, rfl⟩ entry_list_sort (list_sort_vals (κ := dataKind (sortingHeap (s1.heap.push (seqObj "list" vs.toArray 0)) s1.heap.objs.size vs) (cs.map enc)) hoL
      (srt { s1 with heap := sortingHeap (s1.heap.push (seqObj "list" vs.toArray 0)) s1.heap.objs.size vs } vs cs e3) vl ⟨_, rfl, ?_⟩) (args_list_sort _)))
    have so := sortVals_data (R := R) (enc := enc) false e1 e3 (hal cs)
    obtain ⟨c, hcc⟩ := sortedHeap_at (vs := vs) (out := (sortVals (dataKind (sortingHeap (s1.heap.push (seqObj "list" vs.toArray 0)) s1.heap.objs.size vs) (cs.map enc)) false vs vs).toArray) hoL
    refine wpAny_pure ⟨_, rfl, hQ _ s1.heap.objs.size _ c _ (fun b u e => ?_) g1 o1 hz hcc (by simpa using so) ((List.mergeSort_perm _ _).trans pc) ?_⟩
    · have q := k1 b u e
      have lt := Heap.lt_size q
      show (sortedHeap (s1.heap.push (seqObj "list" vs.toArray 0)) s1.heap.objs.size vs _).get? b = some u
      rw [sortedHeap_old (Nat.ne_of_lt lt) (by rw [size_push']; exact Nat.lt_succ_of_lt lt)]
      exact Heap.get?_push_of_some _ q
    · exact PySem.W.sort_pairwise (PySem.W.sortLe_total _ _ _) cs)
end
end Pf
namespace Pf
open PySem PySem.Spec PyProof.Rows L2
open PySem.W (EachIs SortsAt dataKind AllAlike Sortable dataLe dataLt)
/-! ### set(xs), sorted(set) as rules -/
def SetUO (w : World) (a : Addr) (us : List Value) : HO := .ext fun h => SetU w h a us
theorem setUO_new {P : Program} {w : World} {H : Hp} {h : Heap} {a : Addr} {us : List Value} (R : SetU w h a us) : ObjOk P w H h a (SetUO w a us) := by
  obtain ⟨o, es, ep, t, ho, r⟩ := id R
  exact ⟨R, ⟨o, ho⟩, fun h1 h2 p k => SetU.at p k⟩
def castI (b : List Nat) : List Int := b.map fun (c : Nat) => (c : Int)
theorem castI_inj {a b : List Nat} (h : castI a = castI b) : a = b := by
  have e : ∀ l : List Nat, (castI l).map Int.toNat = l := fun l => by
    unfold castI
    rw [List.map_map]
    have : (Int.toNat ∘ fun (c : Nat) => (c : Int)) = id := by funext c; rfl
    rw [this, List.map_id]
  rw [← e a, ← e b, h]
theorem nb_cast (b : List Nat) : nb b = (castI b).map V.int := nb_ints b
theorem dI_cast (b : List Nat) : dI b = (castI b).map .int := by
  unfold dI castI
  rw [List.map_map]
  rfl
def rSetI (K : PySem.W.Frag) (w : World) : List V → Hp → VK → Prop := fun vs H Q => ∃ (l : Addr) (ns : List Int), vs = [V.ref l] ∧ SqL K H l (ns.map V.int) ∧ ns.length ≤ 4000 ∧
  ∀ (a : Addr) (us : List Value) (ks : List Int) (w0 : World), w0 = w → H a = none → Vals (ks.map V.int) us → ks.Nodup → (∀ k, k ∈ ks ↔ k ∈ ns) → Q (.ref a) (upd H a (SetUO w0 a us))
def rSetB (K : PySem.W.Frag) (w : World) : List V → Hp → VK → Prop := fun vs H Q => ∃ (l : Addr) (ks : List (Addr × List Nat)), vs = [V.ref l] ∧ SqL K H l (ks.map fun p => V.ref p.1) ∧ (∀ p ∈ ks, H p.1 = some (.tup (nb p.2))) ∧ ks.length ≤ 64 ∧
  ∀ (a : Addr) (L : List (Addr × List Nat)) (w0 : World), w0 = w → H a = none → (L.map (·.2)).Nodup → (∀ p ∈ L, p ∈ ks) → (∀ p ∈ ks, p.2 ∈ L.map (·.2)) → Q (.ref a) (upd H a (SetUO w0 a (L.map fun q => Value.ref q.1)))
def rSortI (w : World) : List V → Hp → VK → Prop := fun vs H Q => ∃ (a : Addr) (us : List Value) (ks : List Int) (w0 : World), w0 = w ∧ vs = [V.ref a] ∧ H a = some (SetUO w0 a us) ∧ Vals (ks.map V.int) us ∧
  ∀ (p : Addr) (ks' : List Int), H p = none → ks'.Perm ks → ks'.Pairwise (· ≤ ·) → Q (.ref p) (upd H p (.lst (ks'.map V.int)))
def rSortB (w : World) : List V → Hp → VK → Prop := fun vs H Q => ∃ (a : Addr) (L : List (Addr × List Nat)) (w0 : World), w0 = w ∧ vs = [V.ref a] ∧ H a = some (SetUO w0 a (L.map fun q => Value.ref q.1)) ∧ (∀ p ∈ L, H p.1 = some (.tup (nb p.2))) ∧
  ∀ (p : Addr) (L' : List (Addr × List Nat)), H p = none → L'.Perm L → (L'.map (·.2)).Pairwise (fun a b => ¬ PfM.LtV (.str b) (.str a)) → Q (.ref p) (upd H p (.lst (L'.map fun q => V.ref q.1)))
section
variable {X : Cx}
theorem cr_setI (hc : X.calm = true) : CallR X (.type "set") (rSetI X.K X.w) := by
  intro pins s σ H xs us Q I r h
  obtain ⟨l, ns, rfl, hl, hf, q⟩ := h
  rw [Vals.ref1 r]
  obtain ⟨its, rv, pl, hz⟩ := I.list hl
  have hn : H s.heap.objs.size = none := I.hok.fresh (Nat.le_refl _)
  have lp : LoopOk X.prog X.w X.A.in1.in1 s.heap.objs.size its.toArray s.heap (fun h => ∃ c, SetR X.w h s.heap.objs.size (fun j => decide (j ∈ ns)) c) := @loop_ints _ _ _ _ _ _ ns (by simpa using Vals.ints rv) (by unfold scanBound; omega)
  refine call_set_by (P := X.prog) (w := X.w) (I.ok.hd hc) pl.isList @lp fun h' tk hP k => ?_
  obtain ⟨c, R⟩ := hP
  obtain ⟨ks, us', hU, hv, nd, hm⟩ := setU_int R
  exact ⟨.ref s.heap.objs.size, upd H s.heap.objs.size (SetUO X.w s.heap.objs.size us'), I.laid (t' := tk) k (Nat.le_refl _) (setUO_new hU), rfl, q _ us' ks _ rfl hn hv nd fun z => by rw [hm z, decide_eq_true_eq]⟩
theorem cr_setB (hc : X.calm = true) (hu : X.A.units + 64 < cLine) : CallR X (.type "set") (rSetB X.K X.w) := by
  intro pins s σ H xs us Q I r h
  obtain ⟨l, ks, rfl, hl, hk, hf, q⟩ := h
  rw [Vals.ref1 r]
  obtain ⟨its, rv, pl, hz⟩ := I.list hl
  have hn : H s.heap.objs.size = none := I.hok.fresh (Nat.le_refl _)
  have dead : s.heap.get? s.heap.objs.size = none := by
    cases q : s.heap.get? s.heap.objs.size with
    | none => rfl
    | some o => exact absurd (Heap.lt_size q) (Nat.lt_irrefl _)
  have e1 : its = (ks.map fun p => (p.1, castI p.2)).map fun p => Value.ref p.1 := refs_of_vals (ks := ks.map fun p => (p.1, castI p.2)) (by rw [List.map_map]; exact rv)
  have hT : ∀ p ∈ ks.map (fun p => (p.1, castI p.2)), IsT X.prog X.w s.heap p.2 p.1 := fun p hp => by
    obtain ⟨p0, hp0, rfl⟩ := List.mem_map.mp hp
    refine Inv.isT I (SqT.of (a := p0.1) ?_)
    rw [← nb_cast]
    exact hk p0 hp0
  have lp : LoopOk X.prog X.w X.A.in1.in1 s.heap.objs.size its.toArray s.heap (GotU X.w (ks.map fun p => (p.1, castI p.2)) s.heap.objs.size) := @loop_tups _ _ _ _ _ _ (ks.map fun p => (p.1, castI p.2)) (by simpa [refsOf] using e1) (by rw [List.length_map]; exact hf) hT dead (by show X.A.units + 1 + 1 + 1 < cLine; omega)
  refine call_set_by (P := X.prog) (w := X.w) (I.ok.hd hc) pl.isList @lp fun h' tk g k => ?_
  obtain ⟨L0, hU, nd, hs, hall⟩ := g.ex
  -- the tuples' bytes again
  have back : ∀ L0 : List (Addr × List Int), (∀ p ∈ L0, p ∈ ks.map (fun p => (p.1, castI p.2))) → ∃ L : List (Addr × List Nat), L0 = L.map (fun p => (p.1, castI p.2)) ∧ ∀ p ∈ L, p ∈ ks := by
    intro L0
    induction L0 with
    | nil => intro _; exact ⟨[], rfl, fun p hp => by cases hp⟩
    | cons p L0 ih =>
      intro h
      obtain ⟨p0, hp0, rfl⟩ := List.mem_map.mp (h p List.mem_cons_self)
      obtain ⟨L, e, hL⟩ := ih fun q hq => h q (List.mem_cons_of_mem _ hq)
      refine ⟨p0 :: L, by rw [e]; rfl, fun q hq => ?_⟩
      rcases List.mem_cons.mp hq with rfl | hq
      · exact hp0
      · exact hL q hq
  obtain ⟨L, rfl, hL⟩ := back L0 hs
  have er : refsOf (L.map fun p => (p.1, castI p.2)) = L.map fun q => Value.ref q.1 := by
    unfold refsOf
    rw [List.map_map]
    rfl
  rw [er] at hU
  have es : (L.map fun p => (p.1, castI p.2)).map (·.2) = (L.map (·.2)).map castI := by
    rw [List.map_map, List.map_map]
    rfl
  rw [es] at nd
  refine ⟨.ref s.heap.objs.size, upd H s.heap.objs.size (SetUO X.w s.heap.objs.size (L.map fun q => Value.ref q.1)), I.laid (t' := tk) k (Nat.le_refl _) (setUO_new hU), rfl, q _ L _ rfl hn (nodup_of_map nd) hL fun p hp => ?_⟩
  have h1 := hall (p.1, castI p.2) (List.mem_map.mpr ⟨p, hp, rfl⟩)
  rw [es] at h1
  obtain ⟨b, hb, e⟩ := List.mem_map.mp h1
  rw [← castI_inj e]
  exact hb
/-- what a call that only makes a list leaves -/
theorem made_list {pins : List (Addr × Obj)} {σ : L2.St} {H : Hp} {s s' : Shared} {p : Addr} {out : Array Value} {c : Nat} {ys : List V} (I : Inv X pins σ H s) (k : Stands s.heap s'.heap) (g : s'.gens = s.gens) (o : s'.os = s.os) (hp : s.heap.objs.size ≤ p)
    (hg : s'.heap.get? p = some (seqObj "list" out c)) (hv : Vals ys out.toList) (hl : ys.length ≤ sizeLine) : Inv X pins σ (upd H p (.lst ys)) s' :=
  I.call' (ch := []) o (Un.laid k hp (I.hok.fresh hp)) (I.hok.laid k hp ⟨hl, out.toList, c, hv, hg⟩) (by rw [g]; exact I.bare) (fun _ z => nomatch z)
theorem each_vals_int : ∀ {us : List Value} {ks : List Int}, EachIs (fun u k => ∃ t, u = Value.int k t) us ks → Vals (ks.map V.int) us
  | _, _, .nil => .nil
  | _, _, .cons h t => .cons h (each_vals_int t)
theorem vals_each_int : ∀ {us : List Value} {ks : List Int}, Vals (ks.map V.int) us → EachIs (fun u k => ∃ t, u = Value.int k t) us ks
  | _, [], .nil => .nil
  | _, k :: ks, .cons h t => .cons h (vals_each_int t)
theorem cr_sortI (hc : X.calm = true) (hu : X.A.units + 64 < cLine) : CallR X (.builtin "sorted") (rSortI X.w) := by
  intro pins s σ H vs us0 Q I r h
  obtain ⟨a, us, ks, w0, rfl, rfl, ha, hv, q⟩ := h
  rw [Vals.ref1 r]
  have hU : SetU X.w s.heap a us := (I.hok a _ ha).1
  have e := vals_each_int hv
  refine sorted_setU (P := X.prog) (enc := fun z : Int => PyData.int z) hU (I.ok.hd hc) e (e.mono fun u k ⟨t, hu⟩ => ⟨[], by rw [hu]; exact .int k t⟩) (fun cs => AllAlike.of fun _ _ => rfl)
    (fun s' vs cs e' => SortsAt.data (PySem.W.each_map (R := fun v d => ∃ as, Reads s'.heap v d as) _ e') (AllAlike.of fun _ _ => rfl) (Sortable.others fun _ => ⟨fun z => (by cases z), fun _ z => (by cases z)⟩) fun d hd => ?_)
    fun s' p out c cs k g o hp hg eo pm pw => ?_
  · obtain ⟨z, _, rfl⟩ := List.mem_map.mp hd
    show X.A.units + 1 + 1 + 0 < cLine
    omega
  · have hl : us.length < scanBound := by
      obtain ⟨_, es, _, _, _, _, _, _, hb, _, _, rfl⟩ := hU
      rw [List.length_map, Array.length_toList]
      exact hb
    have hcl : cs.length ≤ 4096 := by
      rw [pm.length_eq, ← e.length]
      unfold scanBound at hl
      omega
    refine ⟨.ref p, _, made_list I k g o hp hg (each_vals_int eo) (by rw [List.length_map]; exact sz (by omega)), rfl, q p cs (I.hok.fresh hp) pm (pw.imp fun {a b} h => ?_)⟩
    rw [PySem.W.dataLe_int] at h
    exact of_decide_eq_true h
theorem bo_lt : ∀ a b : List Nat, Pg.bytesOrder a b = .lt ↔ castI a < castI b
  | [], [] => by simp [Pg.bytesOrder, castI]
  | [], _ :: _ => by simp [Pg.bytesOrder, castI]
  | _ :: _, [] => by simp [Pg.bytesOrder, castI]
  | x :: a, y :: b => by
    show (if x < y then Ordering.lt else if y < x then .gt else Pg.bytesOrder a b) = .lt ↔ ((x : Int) :: castI a) < ((y : Int) :: castI b)
    rw [List.cons_lt_cons_iff, ← bo_lt a b]
    by_cases h1 : x < y
    · rw [if_pos h1]
      simp
      omega
    · rw [if_neg h1]
      by_cases h2 : y < x
      · rw [if_pos h2]
        simp
        omega
      · rw [if_neg h2]
        have e : x = y := by omega
        subst e
        simp
theorem dataLt_bytes (a b : List Nat) : dataLt (.tuple (dI a)) (.tuple (dI b)) = decide (Pg.bytesOrder a b = .lt) := by
  rw [PySem.W.dataLt_tuple, dI_cast, dI_cast]
  have h := PySem.W.dataLt_ints (castI a) (castI b)
  unfold PySem.W.rowLt at h
  rw [h]
  exact decide_eq_decide.mpr (bo_lt a b).symm
theorem each_vals_ref {H : Hp} : ∀ {us : List Value} {L : List (Addr × List Nat)}, EachIs (fun u (p : Addr × List Nat) => u = Value.ref p.1) us L → Vals (L.map fun q => V.ref q.1) us
  | _, _, .nil => .nil
  | _, _, .cons h t => .cons h (each_vals_ref (H := H) t)
theorem each_ref : ∀ L : List (Addr × List Nat), EachIs (fun u (p : Addr × List Nat) => u = Value.ref p.1) (L.map fun q => Value.ref q.1) L
  | [] => .nil
  | p :: L => .cons rfl (each_ref L)
theorem each_in {α β : Type} {R : α → β → Prop} {S : α → β → Prop} (h : ∀ a b, R a b → S a b) {as : List α} {bs : List β} : EachIs (fun a b => R a b) as bs → EachIs S as bs := EachIs.mono h
theorem each_mapL {α β γ : Type} {S : α → γ → Prop} (f : β → γ) : ∀ {as : List α} {bs : List β}, EachIs (fun a b => S a (f b)) as bs → EachIs S as (bs.map f)
  | _, _, .nil => .nil
  | _, _, .cons h t => .cons h (each_mapL f t)
theorem cr_sortB (hc : X.calm = true) (hu : X.A.units + 64 < cLine) : CallR X (.builtin "sorted") (rSortB X.w) := by
  intro pins s σ H vs us0 Q I r h
  obtain ⟨a, L, w0, rfl, rfl, ha, hk, q⟩ := h
  rw [Vals.ref1 r]
  have hU : SetU X.w s.heap a (L.map fun q => Value.ref q.1) := (I.hok a _ ha).1
  have e := each_ref L
  have rd : ∀ p ∈ L, ∃ as, Reads s.heap (.ref p.1) (.tuple (dI p.2)) as := fun p hp => Dp.reads I (.tuple (dI p.2)) (.ref p.1) (.ref p.1) (.tup (SqT.of (hk p hp)) (dpI p.2)) rfl
  refine sorted_setU (P := X.prog) (enc := fun p : Addr × List Nat => PyData.tuple (dI p.2)) hU (I.ok.hd hc) e ((PySem.W.each_mem e).mono fun u p ⟨hu', hp⟩ => by rw [hu']; exact rd p hp) (fun cs => AllAlike.of fun p p' => ?_) (fun s' vs cs e' => ?_)
    fun s' p out c cs k g o hp hg eo pm pw => ?_
  · show PySem.W.alikeAll (dI p.2) (dI p'.2) = true
    rw [dI_cast, dI_cast]
    exact PySem.W.alike_ints _ _
  · have e2 : EachIs (fun v k => ∃ as, Reads s'.heap v (tupD k) as) vs (cs.map fun p => castI p.2) := by
      refine each_mapL (S := fun v k => ∃ as, Reads s'.heap v (tupD k) as) _ (e'.mono fun v p ⟨as, r⟩ => ⟨as, ?_⟩)
      unfold tupD
      rw [← dI_cast]
      exact r
    have := sorts_tups (prog := X.prog) (w := X.w) (A := X.A.in1.in1) e2 (by show X.A.units + 1 + 1 + 1 < cLine; omega)
    rw [List.map_map] at this
    have e3 : (tupD ∘ fun p : Addr × List Nat => castI p.2) = fun p => PyData.tuple (dI p.2) := by
      funext p
      show PyData.tuple ((castI p.2).map .int) = _
      rw [dI_cast]
    rw [e3] at this
    exact this
  · have hl : (L.map fun q => Value.ref q.1).length < scanBound := by
      obtain ⟨_, es, _, _, _, _, _, _, hb, _, _, e⟩ := hU
      rw [← e, List.length_map, Array.length_toList]
      exact hb
    have hcl : cs.length ≤ 4096 := by
      rw [List.length_map] at hl
      rw [pm.length_eq]
      unfold scanBound at hl
      omega
    refine ⟨.ref p, _, made_list I k g o hp hg (each_vals_ref (H := H) eo) (by rw [List.length_map]; exact sz (by omega)), rfl, q p cs (I.hok.fresh hp) pm (List.pairwise_map.mpr (pw.imp fun {a b} h z => ?_))⟩
    have h' : (!dataLt (.tuple (dI b.2)) (.tuple (dI a.2))) = true := h
    rw [dataLt_bytes] at h'
    have z' : Pg.bytesOrder b.2 a.2 = .lt := z
    rw [decide_eq_true z'] at h'
    cases h'
end
end Pf
namespace Pf
open PySem PySem.Spec PyProof.Rows L2
theorem cut_nb2 (b : List Nat) (i j : Nat) : cutV (nb b) (some (i : Int)) (some (j : Int)) = nb ((b.drop i).take (j - i)) := by
  rw [nb_ints, cut_ints, nb_ints, ← List.map_drop, ← List.map_take]
theorem cut_nbD (b : List Nat) (i : Nat) : cutV (nb b) (some (i : Int)) none = nb (b.drop i) := by
  by_cases h : i ≤ b.length
  · exact cut_nb b i h
  · unfold cutV
    rw [HT.sIx_nat, HT.sIx_none, nb_len, Nat.min_eq_right (by omega), Nat.sub_self, List.take_zero, List.drop_of_length_le (l := b) (by omega)]
    rfl
theorem aloneV_kd {k i : Nat} {b : List Nat} (hk : k ≤ 1) (hb : b.length ≤ 20000) : Kd k (PfM.aloneV k b i) := by
  unfold PfM.aloneV
  rcases (show k = 0 ∨ k = 1 by omega) with rfl | rfl
  · rw [if_pos rfl]
    rfl
  · rw [if_neg (by decide)]
    refine ⟨rfl, ?_⟩
    rw [List.length_take, List.length_drop]
    omega
theorem stepG {v : V} {i : Nat} {u : TS} {D : Ends} {σ : L2.St} {H : Hp} (h : u D (σ.set i (some v)) H) : gName i v σ H ({ D with nx := u D } : Ends).nx := h
end Pf
namespace Pf
open PySem PySem.Spec PyProof.Rows L2
/-! ### xs[c::w] -/
theorem pstride {α β : Type} {F : α → β → Prop} {l : List α} {m : List β} (w c : Nat) (h : Paired F l m) : Paired F (PfM.stride w c l) (PfM.stride w c m) := by
  unfold PfM.stride
  rw [h.length]
  generalize List.range m.length = ix
  induction ix with
  | nil => exact .nil
  | cons k r ih =>
    rw [List.filterMap_cons, List.filterMap_cons]
    cases e : l[c + k * w]? with
    | none =>
      have e2 : m[c + k * w]? = none := by
        rw [List.getElem?_eq_none_iff] at e ⊢
        rw [← h.length]
        exact e
      rw [e2]
      exact ih
    | some x =>
      obtain ⟨y, hy, hxy⟩ := pgl h e
      rw [hy]
      exact .cons hxy ih
theorem stride_len {α : Type} (w c : Nat) (l : List α) : (PfM.stride w c l).length ≤ l.length := by
  unfold PfM.stride
  refine Nat.le_trans (List.length_filterMap_le _ _) ?_
  rw [List.length_range]
  exact Nat.le_refl _
theorem fm_cut {α : Type} {f : Nat → Option α} {a n : Nat} (ha : a ≤ n) (h : ∀ k, a ≤ k → f k = none) : (List.range n).filterMap f = (List.range a).filterMap f := by
  obtain ⟨d, rfl⟩ : ∃ d, n = a + d := ⟨n - a, by omega⟩
  rw [List.range_add, List.filterMap_append]
  have : (List.map (fun x => a + x) (List.range d)).filterMap f = [] := by
    rw [List.filterMap_eq_nil_iff]
    intro k hk
    obtain ⟨j, _, rfl⟩ := List.mem_map.mp hk
    exact h _ (by omega)
  rw [this, List.append_nil]
theorem pick_stride (its : List Value) (w c : Nat) (hw : 0 < w) : slicePick its.toArray (some (c : Int)) none (some (w : Int)) = (PfM.stride w c its).toArray := by
  unfold slicePick
  have hb : sliceBounds (some (c : Int)) none (some (w : Int)) its.toArray.size = (((min c its.length : Nat) : Int), (its.length : Int), (w : Int)) := by
    unfold sliceBounds
    have hp : (w : Int) > 0 := by omega
    simp only [Option.getD_some, hp, if_true, List.size_toArray]
    rw [if_neg (by omega)]
    congr 1
    omega
  rw [hb]
  congr 1
  show (sliceRange ((min c its.length : Nat) : Int) (its.length : Int) (w : Int)).filterMap (its.toArray[·]?) = PfM.stride w c its
  unfold sliceRange PfM.stride
  have hp : (w : Int) > 0 := by omega
  simp only [hp, if_true]
  rw [List.filterMap_map]
  by_cases hc : c < its.length
  · rw [Nat.min_eq_left (by omega), if_pos (by omega)]
    have hcount : (((its.length : Int) - (c : Int) + (w : Int) - 1) / (w : Int)).toNat = (its.length - c + w - 1) / w := by
      have e : ((its.length : Int) - (c : Int) + (w : Int) - 1) = ((its.length - c + w - 1 : Nat) : Int) := by omega
      rw [e, ← Int.natCast_ediv, Int.toNat_natCast]
    rw [hcount]
    have ef : ((fun x => its.toArray[x]?) ∘ fun (k : Nat) => ((c : Int) + (w : Int) * (k : Int)).toNat) = fun (k : Nat) => its[c + k * w]? := by
      funext k
      have e : ((c : Int) + (w : Int) * (k : Int)).toNat = c + k * w := by
        have : (c : Int) + (w : Int) * (k : Int) = ((c + k * w : Nat) : Int) := by
          rw [Int.natCast_add, Int.natCast_mul, Int.mul_comm]
        rw [this, Int.toNat_natCast]
      show its.toArray[((c : Int) + (w : Int) * (k : Int)).toNat]? = _
      rw [e]
      simp
    rw [ef]
    have hle : (its.length - c + w - 1) / w ≤ its.length := by
      refine Nat.le_trans (Nat.div_le_of_le_mul (m := its.length - c + w - 1) (k := w) (n := its.length - c) ?_) (Nat.sub_le _ _)
      have h1 : 1 ≤ its.length - c := by omega
      obtain ⟨d, hd⟩ : ∃ d, its.length - c = d + 1 := ⟨its.length - c - 1, by omega⟩
      obtain ⟨v, hv⟩ : ∃ v, w = v + 1 := ⟨w - 1, by omega⟩
      rw [hd, hv]
      have : (v + 1) * (d + 1) = v * d + v + d + 1 := by
        rw [Nat.add_mul, Nat.mul_add, Nat.one_mul, Nat.mul_one]
        omega
      omega
    rw [fm_cut (f := fun (k : Nat) => its[c + k * w]?) hle]
    intro k hk
    rw [List.getElem?_eq_none_iff]
    have h1 : its.length - c + w - 1 < ((its.length - c + w - 1) / w + 1) * w := by
      have := Nat.div_add_mod (its.length - c + w - 1) w
      have h2 := Nat.mod_lt (its.length - c + w - 1) hw
      rw [Nat.add_mul, Nat.one_mul, Nat.mul_comm]
      omega
    have h3 : (its.length - c + w - 1) / w * w ≤ k * w := Nat.mul_le_mul_right _ hk
    rw [Nat.add_mul, Nat.one_mul] at h1
    omega
  · rw [Nat.min_eq_right (by omega), if_neg (by omega)]
    show [] = _
    symm
    rw [List.filterMap_eq_nil_iff]
    intro k hk
    rw [List.getElem?_eq_none_iff]
    omega
def tStepL (K : PySem.W.Frag) (te : TE) (tl ts : TO) : TE := fun σ H Q => te σ H fun x H1 => tl σ H1 fun lo H2 => ts σ H2 fun st H3 => ∃ (a : Addr) (xs : List V) (c w : Nat), x = .ref a ∧ lo = some (c : Int) ∧ st = some (w : Int) ∧ 0 < w ∧ SqL K H3 a xs ∧ ∀ p, H3 p = none → Q (.ref p) (upd H3 p (.lst (PfM.stride w c xs)))
theorem pe_stepL {X : Cx} {e a b : Expr} {te : TE} {tl ts : TO} {p3 pos : Pos} (he : PE X e te) (hl : PO X (some a) tl) (hst : PO X (some b) ts) : PE X (.Subscript e (.Slice (some a) none (some b) p3) pos) (tStepL X.K te tl ts) := by
  refine ⟨fun pins s σ H Q I h => ?_⟩
  refine Subscript_ (thn (he.run pins s σ H _ I h) fun v s1 ⟨x, H1, I1, r1, q1⟩ => ?_)
  refine wpAny_Slice (thn (hl.run pins s1 σ H1 _ I1 q1) fun vl s2 ⟨l, H2, I2, pl, q2⟩ => ?_)
  refine thn (po_none.run pins s2 σ H2 (fun o H3 => o = none ∧ H3 = H2) I2 ⟨rfl, rfl⟩) fun vu s3 ⟨u, H3, I3, pu, eu, e3⟩ => ?_
  subst eu e3
  refine thn (hst.run pins s3 σ H3 _ I3 q2) fun vs s4 ⟨o, H4, I4, ps, q4⟩ => ?_
  obtain ⟨ad, xs, c, w, ex, el, eo, hw, hx, q⟩ := q4
  subst ex el eo
  cases r1
  have I5 : Inv X pins σ H4 { s4 with heap := s4.heap.push { cls := .type "slice", data := .fields #[vl, vu, vs] } } := I4.kept (t' := s4.toks) fun b ob q => Heap.get?_push_of_some _ q
  obtain ⟨its, r, ht, hz⟩ := I5.list hx
  have hlen := r.length
  show wpAny (model X.prog X.w) X.A (subscriptTail e (.Slice (some a) none (some b) p3) (.ref ad) (.ref s4.heap.objs.size)) (EP X pins σ Q) X.xe { s4 with heap := s4.heap.push { cls := .type "slice", data := .fields #[vl, vu, vs] } }
  refine tail_any (ops := [.ref ad, .ref s4.heap.objs.size]) ht.isList.typeIs (PySem.slot_list_getitem.lookup) ?_ (by with_unfolding_all rfl)
  refine wpAny_getItem_list_slice ht.isList (Heap.IsSliceOf.new _ vl vu vs) pl pu ps (by intro z; have := Option.some.inj z; omega) ?_ (by rw [List.size_toArray]; omega)
  rw [pick_stride _ _ _ hw]
  refine ⟨.ref _, _, I5.laid (t' := s4.toks) (o := .lst (PfM.stride w c xs)) (fun b ob q => Heap.get?_push_of_some _ q) (Nat.le_refl _) ?_, rfl, q _ (I5.hok.fresh (Nat.le_refl _))⟩
  exact ⟨Nat.le_trans (stride_len w c xs) hz, _, 0, pstride w c r, Heap.get?_push_size _ rfl⟩
/-! ### cells.count(None) -/
def datC : Pg.Cell → PyData
  | none => .none
  | some v => dat v
theorem dpC {K : PySem.W.Frag} {H : Hp} : ∀ {xs : List V} {cs : List Pg.Cell}, CsA H xs cs → DpAll K H xs (cs.map datC)
  | _, _, .nil => .nil
  | _, none :: _, .cons h r => by
    cases h
    exact .cons .non (dpC r)
  | _, some v :: _, .cons h r => .cons (dp_of h) (dpC r)
theorem can_datC : ∀ cs : List Pg.Cell, PyData.canLayAll0 (cs.map datC) = true
  | [] => rfl
  | c :: cs => by
    show (PyData.canLay0 (datC c) && PyData.canLayAll0 (cs.map datC)) = true
    rw [can_datC cs, Bool.and_true]
    cases c with
    | none => rfl
    | some v =>
      cases v with
      | num z => rfl
      | str b => exact can_dI b
theorem count_null : ∀ cs : List Pg.Cell, (cs.map datC).countP (fun d => PyData.eqv d .none) = Pg.nullsOf cs
  | [] => rfl
  | c :: cs => by
    have ih := count_null cs
    unfold Pg.nullsOf at ih ⊢
    have hv : (Pg.valuesOf cs).length ≤ cs.length := PfM.vals_len cs
    rw [List.map_cons, List.countP_cons, ih, PfM.vals_cons, List.length_append, List.length_cons]
    cases c with
    | none =>
      have e : PyData.eqv (datC none) .none = true := rfl
      rw [if_pos e]
      show _ = cs.length + 1 - (0 + _)
      omega
    | some v =>
      have e : ¬ PyData.eqv (datC (some v)) .none = true := by
        cases v <;> exact Bool.false_ne_true
      rw [if_neg e]
      show _ = cs.length + 1 - (1 + _)
      omega
def rCntN (K : PySem.W.Frag) : V → List V → Hp → VK → Prop := fun x xs H Q => ∃ (p : Addr) (ys : List V) (cs : List Pg.Cell), x = .ref p ∧ xs = [.non] ∧ SqL K H p ys ∧ CsA H ys cs ∧ Q (.int (Pg.nullsOf cs : Nat)) H
theorem mt_countN {X : Cx} (hu : X.A.units + 65 < cLine) : MtR X "list.count" (rCntN X.K) := by
  intro pins s σ H x xs v us Q I rx rxs h
  obtain ⟨p, ys, cs, rfl, rfl, hs, hc, q⟩ := h
  cases rx
  obtain ⟨u, rfl, ru⟩ := rxs.one
  cases ru
  obtain ⟨its, rv, ⟨⟨cls, dd, data, sls⟩, n, ho, hcl, hdn, hdt⟩, hlen⟩ := I.list hs
  simp only at hcl hdt
  subst hcl hdt
  obtain ⟨as, h4⟩ := Dp.readsAll I (cs.map datC) _ its (dpC hc) rv
  have hxs := can_datC cs
  have hmap : its.map (SeqAt.readOf s.heap) = cs.map datC := SeqAt.readsAll_map (cs.map datC) its as hxs h4
  have hroom : X.A.units + 1 + min (PyData.depthAll (cs.map datC)) (PyData.depth .none) < cLine := by
    have : min (PyData.depthAll (cs.map datC)) (PyData.depth .none) = 0 := Nat.min_zero _
    omega
  refine call_meets PySem.F.slot_list_count ⟨_, ho, rfl⟩ PySem.F.entry_list_count (PySem.F.args_list_count_2 _ _)
    (SeqAt.list_countAt p its.toArray n dd sls .none (fun u => PyData.eqv (SeqAt.readOf s.heap u) .none)) ⟨ho, SeqAt.items_eqAt (vs := its.toArray) (show ReadsAll s.heap its.toArray.toList (cs.map datC) as from h4) Reads.none hxs rfl hroom, ?_⟩
  have ec : its.toArray.toList.countP (fun u => PyData.eqv (SeqAt.readOf s.heap u) .none) = Pg.nullsOf cs := by
    have e1 : (its.map (SeqAt.readOf s.heap)).countP (fun d => PyData.eqv d .none) = its.countP (fun u => PyData.eqv (SeqAt.readOf s.heap u) .none) := List.countP_map
    rw [← count_null cs, ← hmap, e1]
  refine ⟨.int (Pg.nullsOf cs : Nat), H, I.tok _, ⟨s.toks, ?_⟩, q⟩
  show Value.int ((its.toArray.toList.countP (fun u => PyData.eqv (SeqAt.readOf s.heap u) .none) : Nat) : Int) s.toks = Value.int ((Pg.nullsOf cs : Nat) : Int) s.toks
  rw [ec]
end Pf
namespace Pf
open PySem PySem.Spec PyProof.Rows L2
/-! ### an own class by its __init__ -/
def OkI (P : Program) (w : World) (K : PySem.W.Frag) (mg : Str → Option Value) (base : Heap) (k : Nat) (x : Str) (ps : List Str) (C : Addr) (sp : Sp) : Prop :=
  ∃ (f : Addr) (fd : FuncData), mg x = some (.ref C) ∧ Mk K C f ∧ Binds K fd ps [] ∧ FnOk P w K mg base CX0 k f fd ps sp
theorem pe_mkI {X : Cx} {k : Nat} {x : Str} {ps : List Str} {C : Addr} {sp : Sp} {e : Expr} {es : List Expr} {t : TA} {p pos : Pos} (h : OkI X.prog X.w X.K X.mg X.base k x ps C sp) (hr : Room (k + 1) X.A) (hg : Gl X x) (ha : PA X (e :: es) t)
    (hdb : (x == ("__debug__" : Str)) = false := by decide) (he : starEach (e :: es) X.env = (false, eval e X.env) :: starEach es X.env := by rfl) (hpl : (backTo pos (starEach es X.env)).any (·.1) = false := by rfl) :
    PE X (.Call (.Name x p) (e :: es) [] pos) (tMake C sp [] E0 t) := by
  obtain ⟨f, fd, h1, h2, h3, h4⟩ := h
  exact pe_make h2 h4 hr hg h1 h3 .nil pass0 ha hdb he hpl
theorem hu65 {A : Around} {k : Nat} (hr : Room k A) : A.units + 65 < cLine := by
  have := hr.un
  omega
theorem stepLK (K : PySem.W.Frag) {X : Cx} {e a b : Expr} {te : TE} {tl ts : TO} {p3 pos : Pos} (h : X.K = K) (he : PE X e te) (hl : PO X (some a) tl) (hst : PO X (some b) ts) : PE X (.Subscript e (.Slice (some a) none (some b) p3) pos) (tStepL K te tl ts) := by
  subst h
  exact pe_stepL he hl hst
/-! ### xs + ys, either as it was handed in -/
def rCatS (K : PySem.W.Frag) : R2 := fun x y H Q => ∃ l b xs zs, x = .ref l ∧ y = .ref b ∧ SqL K H l xs ∧ SqL K H b zs ∧ xs.length + zs.length ≤ sizeLine ∧ ∀ p, H p = none → Q (.ref p) (upd H p (.lst (xs ++ zs)))
theorem op_catS (K : PySem.W.Frag) {X : Cx} (hK : X.K = K) : OpR X (binaryOp .Add) (rCatS K) := by
  subst hK
  intro pins s σ H x y v u Q I rx ry h
  obtain ⟨l, b, xs, zs, ex, ey, hx, hy, hz, q⟩ := h
  subst ex ey
  cases rx
  cases ry
  obtain ⟨its, r, ⟨⟨c1, d1, dt1, sl1⟩, n1, e1, hc1, _, hd1⟩, z1⟩ := I.list hx
  obtain ⟨its2, r2, ⟨⟨c2, d2, dt2, sl2⟩, n2, e2, hc2, _, hd2⟩, z2⟩ := I.list hy
  simp only at hc1 hd1 hc2 hd2
  subst hc1 hd1 hc2 hd2
  have l1 : xs.length = its.length := r.length
  have l2 : zs.length = its2.length := r2.length
  refine concat_meets ⟨_, e1, rfl⟩ ⟨_, e2, rfl⟩ noFill_list_add seq_list_add PySem.F.slot_list_add PySem.F.entry_list_add (PySem.F.args_list_add_2 _ _) (list_addW l b its.toArray its2.toArray n1 n2 d1 d2 sl1 sl2 (by rw [List.size_toArray, List.size_toArray]; omega)) ⟨e1, e2, ?_⟩
  have ea : its.toArray ++ its2.toArray = (its ++ its2).toArray := by simp
  rw [ea]
  exact ⟨.ref _, _, I.lnew (t' := s.toks) (r.append r2) (by rw [List.length_append]; omega), rfl, q _ I.fresh⟩
/-! ### a def that may raise -/
def OkX (P : Program) (w : World) (K : PySem.W.Frag) (mg : Str → Option Value) (base : Heap) (k : Nat) (x : Str) (ps : List Str) (sp : Sp) : Prop :=
  ∃ (f : Addr) (fd : FuncData), mg x = some (.ref f) ∧ PySem.W.keepIn K (.ref f) = true ∧ Binds K fd ps [] ∧ FnOk P w K mg base (L2N.CX P w) k f fd ps sp
theorem okN {P : Program} {w : World} {K : PySem.W.Frag} {mg : Str → Option Value} {base : Heap} {x qual : Str} {st : Stmt} {f : Addr} {fd : FuncData} {N ps : List Str} {k : Nat} {sp : Sp} (F : Fun K x qual st f fd) (S : FnScope N ps (defScope st)) (len : ∀ vs H Q E, sp vs H Q E → vs.length = ps.length)
    (hb : ∀ (cdv : Value) (A : Around) (outer : List Env) (s : Shared) (H : Hp) (vs : List V) (Q : VK) (E : XK), Room k (A.deeper (envOfC qual (defScope st) s.heap.objs.size f cdv)) → sp vs H Q E →
      ∃ t, PSs (cxOf (L2N.CX P w) P w K mg base N qual (defScope st) f cdv A outer s H E) (defBody st) t ∧ t { nx := fun _ H' => Q .non H', rt := Q } (start N vs) H) : FnOk P w K mg base (L2N.CX P w) (k + 1) f fd ps sp := by
  obtain ⟨oc, od, kV, doc, pm, an, cdv, ct, osl, hfd, lk, hcd⟩ := F.ex
  subst hfd
  exact fn_of lk hcd S len fun A outer s H vs Q E => hb cdv A outer s H vs Q E
/-- a call that may raise, in a def that lets it out -/
theorem pe_fnX {X : Cx} {k : Nat} {x : Str} {ps : List Str} {sp : Sp} {E : XK} {e : Expr} {es : List Expr} {t : TA} {p pos : Pos} (h : OkX X.prog X.w X.K X.mg X.base k x ps sp) (hr : Room k X.A) (hg : Gl X x) (hx : Passes (L2N.CX X.prog X.w) X E) (ha : PA X (e :: es) t)
    (hdb : (x == ("__debug__" : Str)) = false := by decide) (he : starEach (e :: es) X.env = (false, eval e X.env) :: starEach es X.env := by rfl) (hpl : (backTo pos (starEach es X.env)).any (·.1) = false := by rfl) :
    PE X (.Call (.Name x p) (e :: es) [] pos) (tCall sp [] E t) := by
  obtain ⟨f, fd, h1, h2, h3, h4⟩ := h
  exact pe_call h4 hr hg h1 h2 h3 .nil hx ha hdb he hpl
/-! ### columns, groups, tables as they lie -/
def ColA (H : Hp) (x : V) (c : List Pg.Cell) : Prop := ∃ a xs, x = .ref a ∧ H a = some (.lst xs) ∧ CsA H xs c
def GrA (H : Hp) (x : V) (cols : List (List Pg.Cell)) : Prop := ∃ a xs, x = .ref a ∧ H a = some (.lst xs) ∧ Paired (ColA H) xs cols
def EnA (H : Hp) (x : V) (e : List Nat) : Prop := ∃ t, x = .ref t ∧ H t = some (.tup (nb e))
theorem ColA.mono {H H' : Hp} (s : Same H H') {x : V} {c : List Pg.Cell} (h : ColA H x c) : ColA H' x c := by
  obtain ⟨a, xs, e, ha, hc⟩ := h
  exact ⟨a, xs, e, s _ _ ha, csm s hc⟩
theorem GrA.mono {H H' : Hp} (s : Same H H') {x : V} {c : List (List Pg.Cell)} (h : GrA H x c) : GrA H' x c := by
  obtain ⟨a, xs, e, ha, hc⟩ := h
  exact ⟨a, xs, e, s _ _ ha, L2.Paired.mapP hc fun _ _ => ColA.mono s⟩
theorem EnA.mono {H H' : Hp} (s : Same H H') {x : V} {c : List Nat} (h : EnA H x c) : EnA H' x c := by
  obtain ⟨a, e, ha⟩ := h
  exact ⟨a, e, s _ _ ha⟩
abbrev ColsA (H : Hp) : List V → List (List Pg.Cell) → Prop := Paired (ColA H)
abbrev GrsA (H : Hp) : List V → List (List (List Pg.Cell)) → Prop := Paired (GrA H)
abbrev EnsA (H : Hp) : List V → List (List Nat) → Prop := Paired (EnA H)
theorem colm {H H' : Hp} (s : Same H H') {xs : List V} {vs : List (List Pg.Cell)} (h : ColsA H xs vs) : ColsA H' xs vs := L2.Paired.mapP h fun _ _ => ColA.mono s
theorem grm {H H' : Hp} (s : Same H H') {xs : List V} {vs : List (List (List Pg.Cell))} (h : GrsA H xs vs) : GrsA H' xs vs := L2.Paired.mapP h fun _ _ => GrA.mono s
theorem enm {H H' : Hp} (s : Same H H') {xs : List V} {vs : List (List Nat)} (h : EnsA H xs vs) : EnsA H' xs vs := L2.Paired.mapP h fun _ _ => EnA.mono s
/-- an own class that is no list, for isinstance -/
theorem no_list {K : PySem.W.Frag} {C : Addr} (h : PySem.W.subIn K (.ref C) (.type "list") = some false) : PySem.W.kitOne K (.ref C) (.type "list") = some false := by
  have e1 : ¬ (Value.ref C == Value.type "list") = true := fun z => by
    have := beq_iff_eq.mp z
    cases this
  have e2 : PySem.W.kitMeta "list" = true := by decide +kernel
  show (if (Value.ref C == Value.type "list") = true then some true else if PySem.W.kitMeta "list" = true then PySem.W.subIn K (.ref C) (.type "list") else none) = some false
  rw [if_neg e1, if_pos e2]
  exact h
theorem me_own {K : PySem.W.Frag} {C : Addr} : PySem.W.kitOne K (.ref C) (.ref C) = some true := if_pos (beq_self_eq_true _)
/-- what is known of Table's class -/
structure TabC (K : PySem.W.Frag) (C : Addr) : Prop where
  cl : Cls K C
  nG : NoAttr K C "g"
  nK : NoAttr K C "kinds"
  nR : NoAttr K C "groups"
  isa : C8.InsC K C
  nol : PySem.W.kitOne K (.ref C) (.type "list") = some false
def tabF (g k r : V) : List (Str × V) := [("g", g), ("kinds", k), ("groups", r)]
theorem tabF_new (g k r : V) : putF "groups" r (putF "kinds" k (putF "g" g [])) = tabF g k r := by
  have e1 : putF "g" g [] = [(("g" : Str), g)] := rfl
  have e2 : putF "kinds" k [(("g" : Str), g)] = [(("g" : Str), g), (("kinds" : Str), k)] := if_neg (by decide)
  have e3 : putF "groups" r [(("g" : Str), g), (("kinds" : Str), k)] = tabF g k r := by
    show (if ("g" : Str) = "groups" then _ else (("g" : Str), g) :: (if ("kinds" : Str) = "groups" then _ else (("kinds" : Str), k) :: [(("groups" : Str), r)])) = _
    rw [if_neg (by decide), if_neg (by decide)]
    rfl
  rw [e1, e2, e3]
theorem tabF_g (g k r : V) : (tabF g k r).lookup ("g" : Str) = some g := rfl
theorem tabF_k (g k r : V) : (tabF g k r).lookup ("kinds" : Str) = some k := rfl
theorem tabF_r (g k r : V) : (tabF g k r).lookup ("groups" : Str) = some r := rfl
/-- a table at x: its class, its own dict, where its kinds and groups lie -/
def TabAt (K : PySem.W.Frag) (H : Hp) (x kA gA : Addr) (g : Nat) : Prop := ∃ C dx, TabC K C ∧ H x = some (.ins C dx (tabF (.int (g : Int)) (.ref kA) (.ref gA)))
theorem TabAt.mono {K : PySem.W.Frag} {H H' : Hp} (s : Same H H') {x kA gA : Addr} {g : Nat} (h : TabAt K H x kA gA g) : TabAt K H' x kA gA g := by
  obtain ⟨C, dx, hC, hx⟩ := h
  exact ⟨C, dx, hC, s _ _ hx⟩
end Pf
namespace Pf
open PySem PySem.Spec PyProof.Rows L2
/-! ### a heap without one of its objects -/
def del (H : Hp) (D : Addr) : Hp := fun b => if b = D then none else H b
theorem del_ne {H : Hp} {D b : Addr} (h : b ≠ D) : del H D b = H b := if_neg h
theorem del_at {H : Hp} {D : Addr} : del H D D = none := if_pos rfl
theorem del_sub {H : Hp} {D : Addr} : Same (del H D) H := fun b o h => by
  unfold del at h
  split at h
  · cases h
  · exact h
theorem sdel {H H' : Hp} {D : Addr} (s : Same H H') (n : H D = none) : Same H (del H' D) := fun b o h => by
  rw [del_ne (ne_of_none h n)]
  exact s b o h
theorem sdel2 {H H' : Hp} {D : Addr} (s : Same H H') : Same (del H D) (del H' D) := fun b o h => by
  have e : b ≠ D := fun z => by
    rw [z, del_at] at h
    cases h
  rw [del_ne e] at h ⊢
  exact s b o h
theorem del_upd {H : Hp} {D : Addr} {o : HO} : del (upd H D o) D = del H D := by
  funext b
  by_cases h : b = D
  · rw [h, del_at, del_at]
  · rw [del_ne h, del_ne h, upd_ne h]
theorem del_comm {H : Hp} {D E : Addr} : del (del H D) E = del (del H E) D := by
  funext b
  unfold del
  by_cases h : b = D
  · rw [if_pos h, if_pos h]
    split <;> rfl
  · rw [if_neg h, if_neg h]
theorem del_upd2 {H : Hp} {D E : Addr} {o : HO} : del (del (upd H E o) D) E = del (del H D) E := by
  rw [del_comm, del_upd, del_comm]
theorem ne_live {H : Hp} {p D : Addr} {o : HO} (h : H D = some o) (n : H p = none) : p ≠ D := fun z => by
  rw [z, h] at n
  cases n
theorem cut_any (xs : List V) (i j : Nat) : cutV xs (some (i : Int)) (some (j : Int)) = (xs.drop i).take (j - i) := by
  unfold cutV
  rw [HT.sIx_nat, HT.sIx_nat]
  by_cases hi : i ≤ xs.length
  · rw [Nat.min_eq_left hi]
    by_cases hj : j ≤ xs.length
    · rw [Nat.min_eq_left hj]
    · rw [Nat.min_eq_right (by omega), List.take_of_length_le (by simp), List.take_of_length_le (by simp; omega)]
  · rw [Nat.min_eq_right (a := i) (by omega), List.drop_of_length_le (by simp), List.drop_of_length_le (by omega), List.take_nil, List.take_nil]
theorem fmodN (a b : Nat) : (a : Int).fmod (b : Int) = ((a % b : Nat) : Int) := by
  rw [Int.fmod_eq_emod_of_nonneg _ (Int.natCast_nonneg _)]
  rfl
end Pf
namespace Pf
open PySem PySem.Spec PyProof.Rows L2
/-! ### a comprehension whose element may raise -/
/-- the block's context: what is raised in it is noted by the def's own frame, the block is let go, the exception goes on -/
abbrev blkE (X : Cx) (s : Shared) (H : Hp) (scope : Scope) (ce : Env) (fp : List Addr) : Cx :=
  { X.blk s H scope ce fp with xe := notedBy (model X.prog X.w) X.A ce (CompFails (model X.prog X.w) X.A X.xe ce) }
theorem blkE_inv {X : Cx} {s0 s : Shared} {H0 H : Hp} {scope : Scope} {ce : Env} {fp : List Addr} {pins : List (Addr × Obj)} {σ : L2.St} (I : Inv (X.blk s0 H0 scope ce fp) pins σ H s) : Inv (blkE X s0 H0 scope ce fp) pins σ H s := by
  obtain ⟨ok, i1, i2, i3, i4, i5, i6, i7, i8, i9, i10⟩ := I
  obtain ⟨o1, o2, o3, o4, o5, o6, o7, o8, o9, o10, o11, o12, o13, o14, o15, o16, o17, o18⟩ := ok
  exact ⟨⟨o1, o2, o3, o4, o5, o6, o7, o8, o9, o10, o11, o12, o13, o14, o15, o16, o17, o18⟩, i1, i2, i3, i4, i5, i6, i7, i8, i9, i10⟩
/-- what the iterator's objects owe to the def's own context -/
def FarOff (X : Cx) (pins : List (Addr × Obj)) (fp : List Addr) : Prop :=
  ∀ b ∈ fp, (b ∈ X.ex ∨ X.s_0.heap.objs.size ≤ b) ∧ b ≠ X.env.locals ∧ (∀ x c, X.env.cells.lookup x = some c → c ≠ b) ∧ ∀ p ∈ X.pn ++ pins, p.1 ≠ b
theorem heldZ_less {B B' h : Heap} {l : List Env} {a : Addr} {Z : Obj → Prop} {L : Addr} (sub : ∀ b o, B'.get? b = some o → B.get? b = some o) (hh : HandSPX.HeldZ B l a Z L h) : HandSPX.HeldZ B' l a Z L h := by
  have none_of : ∀ b, B.get? b = none → B'.get? b = none := fun b hb => by
    cases e : B'.get? b with
    | none => rfl
    | some o =>
      rw [sub b o e] at hb
      cases hb
  obtain ⟨h1, h2, h3, oe, vs, T, oT, ts, t1, t2, t3, t4, t5, t6, t7, t8, t9⟩ := hh
  exact ⟨fun b o e => h1 b o (sub b o e), none_of _ h2, funFrames_none h3 fun L hL => none_of _ (h3.mem hL).1, oe, vs, T, oT, ts, t1, t2, t3, t4, none_of _ t5, t6, t7, t8, t9⟩
theorem held_let {B h h' : Heap} {l : List Env} {a C : Addr} {Z : Obj → Prop} {L : Addr} {m m' : Str → Option Value} (hC : B.get? C = none) (hn : h.Ns C m) (hn' : h'.Ns C m') (sb : Heap.SameBut C h h') (hh : HandSPX.HeldZ B l a Z L h) : HandSPX.HeldZ B l a Z L h' := by
  obtain ⟨h1, h2, h3, oe, vs, T, oT, ts, t1, t2, t3, t4, t5, t6, t7, t8, t9⟩ := hh
  obtain ⟨oC, es, ep, hoC, hdC, _⟩ := hn
  have off : ∀ {b : Addr} {o : Obj} {us : Array Value}, h.get? b = some o → o.data = .fields us → h'.get? b = some o := fun {b o us} e d => by
    have hb : b ≠ C := fun z => by
      rw [z, hoC] at e
      cases e
      rw [hdC] at d
      cases d
    rw [sb.2 b hb]
    exact e
  refine ⟨fun b o e => ?_, h2, Heap.FunFrames.sameBut sb hn' h3, oe, vs, T, oT, ts, off t1 t3, t2, t3, t4, t5, t6, off t7 t8, t8, t9⟩
  have hb : b ≠ C := fun z => by
    rw [z, hC] at e
    cases e
  rw [sb.2 b hb]
  exact h1 b o e
theorem out_of_block {X : Cx} {pins pins' : List (Addr × Obj)} {σ σ' : L2.St} {H3 H5 : Hp} {s3 s5 s' : Shared} {W : WX} {E : XK} {scope : Scope} {ce : Env} {fp : List Addr} {u : Value} (hs : X.stack = X.env :: X.outer) (hf : X.env.frame = some X.env.locals) (tk : L2N.Takes X W) (hW : ∀ cls d H, E cls d H → W cls d σ H)
    (I3 : Inv X pins σ H3 s3) (hcf : ce.frame = X.env.frame) (hC : s3.heap.objs.size ≤ ce.locals) (far : FarOff X pins fp)
    (I5 : Inv (blkE X s3 H3 scope ce fp) pins' σ' H5 s5) (c : L2N.CX X.prog X.w X.stack H5 s5 E u s') :
    notedBy (model X.prog X.w) X.A ce (CompFails (model X.prog X.w) X.A X.xe ce) u s' := by
  obtain ⟨a, B, H', cls, d, eu, fl, hok, ub, na, eos, ag, hE⟩ := c
  subst eu
  have st : B.StaysIn s'.heap := fl.1
  have un : Un (frs X.stack) fp H3 H5 s3.heap s5.heap := I5.base
  have old : ∀ b o, s3.heap.get? b = some o → b ≠ ce.locals := fun b o e z => by
    have := Heap.lt_size e
    rw [z] at this
    exact absurd (Nat.lt_of_lt_of_le this hC) (Nat.lt_irrefl _)
  obtain ⟨m, ⟨oC, es, ep, hoC, hnC⟩, _⟩ := I5.loc
  have H5C : H5 ce.locals = none := I5.free
  have noFr : ∀ {b : Addr}, b ∈ frs X.stack → B.get? b = none := fun {b} hb => (fl.2.2.1.mem hb).1
  -- the block's names stand in the ground
  have hCf : ce.locals ∉ frs X.stack := fun hm => by
    obtain ⟨_, o, ho, _⟩ := I3.stack.mem hm
    exact old _ _ ho rfl
  have hBC : B.get? ce.locals = some oC := ub.keep _ _ hoC H5C hCf
  have H'C : H' ce.locals = none := ub.free _ _ hoC H5C
  -- the ground without them
  obtain ⟨B', k1, k2⟩ := restrict B fun b => decide (b ≠ ce.locals)
  have sub : ∀ b o, B'.get? b = some o → b ≠ ce.locals ∧ B.get? b = some o := fun b o e => by
    by_cases hb : b = ce.locals
    · rw [hb, k2 _ (by simp)] at e
      cases e
    · refine ⟨hb, ?_⟩
      rw [← k1 b (decide_eq_true hb)]
      exact e
  -- the state without the exception, in the def's own context
  obtain ⟨G, g1, g2⟩ := restrict s'.heap fun b => (B'.get? b).isSome || decide (b ∈ frs X.stack)
  have gB : ∀ b o, B'.get? b = some o → G.get? b = some o := fun b o e => by
    rw [g1 b (by rw [e]; rfl)]
    exact st b o (sub b o e).2
  have gF : ∀ b, b ∈ frs X.stack → G.get? b = s'.heap.get? b := fun b hb => g1 b (by rw [decide_eq_true hb, Bool.or_true])
  have gO : ∀ b o, G.get? b = some o → s'.heap.get? b = some o ∧ ((∃ o', B'.get? b = some o') ∨ b ∈ frs X.stack) := fun b o e => by
    cases q : ((B'.get? b).isSome || decide (b ∈ frs X.stack)) with
    | false =>
      rw [g2 b q] at e
      cases e
    | true =>
      rw [g1 b q] at e
      rw [Bool.or_eq_true, decide_eq_true_eq] at q
      exact ⟨e, q.imp (fun z => Option.isSome_iff_exists.mp z) id⟩
  have b'B : ∀ b o, b ≠ ce.locals → B.get? b = some o → B'.get? b = some o := fun b o hb e => by
    rw [k1 b (decide_eq_true hb)]
    exact e
  have IX : Inv X pins σ H' { s' with heap := G } := by
    refine I3.call' (s' := { s' with heap := G }) (ch := fp) (eos.trans I5.os) ⟨fun b o e n hb hx => ?_, fun b o e n hb hx => ?_, fun b o e n hx => ?_, fun b o e hx => ?_, fun b xs e => ?_, fun b o xs e => ?_, fun b ps e => ?_⟩ (fun b o q => ?_) ag far
    · exact gB b o (b'B b o (old b o e) (ub.keep b o (un.keep b o e n hb hx) (un.free b o e n hx) hb))
    · obtain ⟨sl, e1⟩ := un.slot b o e n hb hx
      obtain ⟨sl2, e2⟩ := ub.slot b _ e1 hb
      exact ⟨sl2, by rw [gF b hb]; exact e2⟩
    · obtain ⟨o', e1⟩ := un.there b o e hx
      exact ub.free b o' e1 (un.free b o e n hx)
    · obtain ⟨o', e1⟩ := un.there b o e hx
      by_cases hb : b ∈ frs X.stack
      · obtain ⟨sl, e2⟩ := ub.slot b o' e1 hb
        exact ⟨_, by rw [gF b hb]; exact e2⟩
      · obtain ⟨o2, e2⟩ := ub.there b o' e1 hb
        exact ⟨o2, gB b o2 (b'B b o2 (old b o e) e2)⟩
    · exact ub.tups b xs (un.tups b xs e)
    · exact ub.frzs b o xs (un.frzs b o xs e)
    · obtain ⟨m1, e1⟩ := un.tbls b ps e
      obtain ⟨m2, e2⟩ := ub.tbls b _ e1
      exact ⟨m1 ++ m2, by rw [e2, Array.append_assoc]⟩
    · refine (hok b o q).stay (fun c v hc r => gB c v (b'B c v (fun z => ?_) r)) (fun _ r => r) fun _ _ r => r
      rcases hc with hc | hc
      · rw [← hc, z, H'C] at q
        cases q
      · rw [z, H'C] at hc
        cases hc
  have hfr : X.A.frames = some (X.env :: X.outer) := by rw [I3.ok.frames, hs]
  rw [hs] at fl
  show wpAny _ _ (noteFrame (.ref a) ce) _ _ s'
  rw [noteFrame_env _ hcf]
  refine PXN.looks_onZ L2N.Zn.steady hfr hf fl fun h1 hh1 up1 => ?_
  have hC1 : h1.Ns ce.locals m := ⟨oC, es, ep, hh1.1 _ _ hBC, hnC⟩
  refine ⟨m, hC1, fun h2 m2 hn2 sb2 => ?_⟩
  have hh1' : HandSPX.HeldZ B' (X.env :: X.outer) a (L2N.Zn cls d) X.env.locals h1 := heldZ_less (fun b o e => (sub b o e).2) hh1
  have hh2 := held_let (k2 _ (by simp)) hC1 hn2 sb2 hh1'
  obtain ⟨_, _, _, oe, vs, T, oT, ts, t1, t2, t3, t4, _⟩ := id hh2
  have go : wpAny (model X.prog X.w) X.A (setFlight (.ref a) ce.frame) (fun _ s4 => wpAny (model X.prog X.w) X.A (throw (.ref a) : Sem Value) (fun _ _ => False) X.xe s4) X.xe { s' with heap := h2 } := by
    rw [hcf, hf]
    refine HandSPX.setFlight_onZ (s := { s' with heap := h2 }) hh2 fun h3 hh3 up3 => wpAny_throw (tk _ _ ?_)
    refine ⟨a, B', { s' with heap := G }, pins, σ, H', cls, d, rfl, IX, fun b o e hb => ?_, fun b o e hd => ?_, .inr (.inr (by rw [hs]; exact hh3)), na, rfl, ag, hW _ _ _ hE⟩
    · obtain ⟨e1, e2⟩ := gO b o e
      rcases e2 with ⟨o', e2⟩ | e2
      · have e3 := st b o' (sub b o' e2).2
        rw [e1] at e3
        cases e3
        exact e2
      · exact absurd e2 hb
    · obtain ⟨e1, e2⟩ := gO b o e
      have hb : b ≠ ce.locals := fun z => by
        rcases e2 with ⟨o', e2⟩ | e2
        · exact (sub b o' e2).1 z
        · exact hCf (z ▸ e2)
      obtain ⟨sl, e3⟩ := up1 b o e1 hd
      exact up3 b { o with slots := sl } ((sb2.2 b hb).trans e3) hd
  unfold PySem.passOn
  refine wpAny_bind (wpAny_field t1 t3 t4 ?_)
  rw [if_neg (show ¬ ((Value.ref T == Value.none) = true) from by simp)]
  first
    | exact wpAny_bind go
    | exact wpAny_bind (wpAny_pure (wpAny_bind go))

section
variable {X : Cx} {E : XK} {elt tg iter : Expr} {ifs : List Expr} {scope : Scope} {own : List (Str × Nat)} {wi : TI} {g : TG} {tt : TT} {te : TE}
/-- what a turn of the block is to reach -/
def TurnW (J : It) (g : TG) (tt : TT) (te : TE) (σ0 : L2.St) (vs : List Nat) (D : Addr) (W : Nat → Nat → Hp → Prop) (Q : VK) : Prop :=
  ∀ i m H, W i m H → (J.stop i H ∧ Q (.ref D) H) ∨ (J.go i H ∧ ∃ Nx : Hp → Prop, (∀ H', Nx H' → ∃ m', m' < m ∧ W (i + 1) m' H') ∧ ∀ x H', J.yld i H x H' → g x σ0 H' fun σ2 H2 => wipe σ2 vs = σ0 ∧ tt σ2 H2 fun b H3 =>
    if b = true then te σ2 H3 fun y H4 => ∃ acc, H4 D = some (.lst acc) ∧ acc.length < sizeLine ∧ Nx (upd H4 D (.lst (acc ++ [y]))) else Nx H3)
theorem lcX_loop {pins : List (Addr × Obj)} {σ : L2.St} {H3 : Hp} {s3 s4 : Shared} {ce : Env} {fp : List Addr} {it D : Addr} {tn : Nat → Heap → Prop} {J : It} {W : Nat → Nat → Hp → Prop} {Q : VK} {m0 : Nat} {pos : Pos}
    (hcal : X.calm = true) (I3 : Inv X pins σ H3 s3) (far : FarOff X pins fp) (cL : ce.locals = s3.heap.objs.size) (nfp : ∀ b ∈ fp, H3 b = none)
    (I4 : Inv (blkE X s3 H3 scope ce fp) [] (wipe σ (own.map (·.2))) H3 s4) (T : Turn X.prog X.w X.K tg J fp it tn) (st4 : tn 0 s4.heap)
    (pg : PG (blkE X s3 H3 scope ce fp) tg g) (pt : PTs (blkE X s3 H3 scope ce fp) ifs tt) (pe : PE (blkE X s3 H3 scope ce fp) elt te)
    (w0 : W 0 m0 H3) (turn : TurnW J g tt te (wipe σ (own.map (·.2))) (own.map (·.2)) D W Q) :
    codeAny (model X.prog X.w) X.A (.compLoop (.ListComp elt [⟨tg, iter, ifs, 0⟩] scope pos) 0 (.ref it) (.ref D) ce) (compEnds (model X.prog X.w) X.A X.xe none (EP X pins σ Q) (.ref D) ce) s4 := by
  have quiet : ∀ {σ1 : L2.St} {H1 : Hp} {s1 : Shared}, Inv (blkE X s3 H3 scope ce fp) [] σ1 H1 s1 → (∀ b ∈ fp, H1 b = none) → ∀ b ∈ fp, FpOk (blkE X s3 H3 scope ce fp) [] H1 b := fun {σ1 H1 s1} J1 hn b hb => by
    have z := J1.ok.exf b hb
    exact ⟨hn b hb, z.1, J1.ok.exfs b hb, .inl hb, fun x c e => z.2 x c e, fun p hp => nomatch (show p ∈ ([] : List (Addr × Obj)) from hp)⟩
  refine compLoop_any (fun n s1 => ∃ i H1, Inv (blkE X s3 H3 scope ce fp) [] (wipe σ (own.map (·.2))) H1 s1 ∧ tn i s1.heap ∧ (∀ b ∈ fp, H1 b = none) ∧ W i n H1) (fun n s1 h1 => ?_) m0 ⟨0, H3, I4, st4, nfp, w0⟩
  obtain ⟨i, H1, J1, t1, z1, w1⟩ := h1
  obtain ⟨stop, qd⟩ | ⟨go, Nx, more, step⟩ := turn i n H1 w1
  · -- no item is left: back in the def's own context
    refine thnF (T.done (blkE X s3 H3 scope ce fp) rfl rfl rfl hcal i [] s1 _ H1 (fun _ _ => False) J1 (quiet J1 z1) t1 stop) fun r s2 hr => ?_
    obtain ⟨er, J2⟩ := hr
    subst er
    have back : Inv X pins σ H1 s2 := I3.call' (ch := fp) J2.os J2.base J2.hok J2.bare far
    have cfree : H1 ce.locals = none := J2.free
    obtain ⟨m, hm, _⟩ := J2.loc
    refine ⟨m, hm, fun h' sb => ?_⟩
    rw [cL] at sb cfree
    obtain ⟨p0, p1, p2, p3, p4, p5⟩ := I3.fpOk (Nat.le_refl _) cfree
    exact ⟨.ref D, H1, back.turned (t' := s2.toks) (fun b o hb e => (sb.2 b hb).trans e) p0 p1 p3 p4 p5, rfl, qd⟩
  · refine thnF (T.item (blkE X s3 H3 scope ce fp) rfl rfl rfl hcal i [] s1 _ H1 (fun _ _ => False) J1 (quiet J1 z1) t1 go) fun r s2 hr => ?_
    obtain ⟨u, er, h2⟩ := hr
    subst er
    refine thnF h2 fun _ s5 h5 => ?_
    obtain ⟨x, H5, J5, rx, y5, t5, z5⟩ := h5
    have P5 := J5.pinned (quiet J5 z5) (T.obj _ _ t5)
    refine wpAny_mono (pg.run _ s5 _ H5 x u _ P5 rx (step x H5 y5)) (fun _ s6 h6 => ?_) fun _ _ z => z
    obtain ⟨σ6, H6, J6, e6, q6⟩ := h6
    -- one turn more
    have next : ∀ {s9 : Shared} {H9 : Hp}, Inv (blkE X s3 H3 scope ce fp) ([] ++ pinsAt fp s5.heap) σ6 H9 s9 → Nx H9 → ∃ k, k < n ∧ ∃ i H1, Inv (blkE X s3 H3 scope ce fp) [] (wipe σ (own.map (·.2))) H1 s9 ∧ tn i s9.heap ∧ (∀ b ∈ fp, H1 b = none) ∧ W i k H1 := fun {s9 H9} J9 n9 => by
      obtain ⟨k, hk, w9⟩ := more H9 n9
      have pinned : ∀ b ∈ fp, ∀ o, s5.heap.get? b = some o → s9.heap.get? b = some o ∧ H9 b = none := fun b hb o e => by
        have z := J9.pin (b, o) (List.mem_append_right _ (List.mem_append_right _ (mem_pinsAt hb e)))
        exact ⟨z.1, z.2.1⟩
      refine ⟨k, hk, i + 1, H9, (J9.unpinned (pins := [])).weak (by rw [← e6, wipe_length]) (fun j v e => ?_), T.keep _ _ _ t5 fun b hb o e => (pinned b hb o e).1, fun b hb => ?_, w9⟩
      · rw [← e6] at e
        exact (wipe_some e).1
      · obtain ⟨o, e, _⟩ := T.obj _ _ t5 b hb
        exact (pinned b hb o e).2
    refine wpAny_mono (pt.run _ s6 σ6 H6 _ J6 q6) (fun b s7 h7 => ?_) fun _ _ z => z
    obtain ⟨H7, J7, q7⟩ := h7
    cases b with
    | false =>
      rw [if_neg Bool.false_ne_true] at q7 ⊢
      exact next J7 q7
    | true =>
      rw [if_pos rfl] at q7 ⊢
      refine wpAny_mono (pe.run _ s7 σ6 H7 _ J7 q7) (fun z s8 h8 => ?_) fun _ _ z => z
      obtain ⟨yv, H8, J8, r8, acc, a8, l8, n8⟩ := h8
      exact app_ok (X := blkE X s3 H3 scope ce fp) J8 a8 l8 r8 fun s9 J9 => next J9 n8
/-- [elt for target in iter if ..], the element one that may raise -/
theorem pe_lcX {pos : Pos} (hcal : X.calm = true) (hs : X.stack = X.env :: X.outer) (hf : X.env.frame = some X.env.locals) (hN : X.N.Nodup) (tk : L2N.Takes X (fun cls d _ H => E cls d H)) (hi : PI X tg iter wi) (ok : BlkOk X.N X.env.scope scope own)
    (hg : ∀ (s : Shared) (H : Hp) (C : Addr) (cl : List (Str × Addr)) (fp : List Addr), PG (blkE X s H scope (compEnvC scope cl C X.env) fp) tg g)
    (ht : ∀ (s : Shared) (H : Hp) (C : Addr) (cl : List (Str × Addr)) (fp : List Addr), PTs (blkE X s H scope (compEnvC scope cl C X.env) fp) ifs tt)
    (he : ∀ (s : Shared) (H : Hp) (C : Addr) (cl : List (Str × Addr)) (fp : List Addr), Passes (L2N.CX X.prog X.w) (blkE X s H scope (compEnvC scope cl C X.env) fp) E → PE (blkE X s H scope (compEnvC scope cl C X.env) fp) elt te)
    (hfold : ∀ x, foldedSetIterable iter X.env x = pure x := by intro _; rfl) : PE X (.ListComp elt [⟨tg, iter, ifs, 0⟩] scope pos) (tLc wi g tt te (own.map (·.2))) := by
  refine ⟨fun pins s σ H Q I h => ?_⟩
  rw [eval_ListComp]
  have held : ∀ y ∈ scope.names, y.2 = .free → ∃ c, X.env.cells.lookup y.1 = some c := fun y hy e => (ok.free y hy e).elim (fun k => I.ok.has _ (.inl k)) (fun k => I.ok.has _ (.inr k))
  refine comprehension_at (use := none) rfl hfold (closure_ok held) ok.kind (fun y hy e => by rw [ok.uniq y hy, e]) (thn (hi.run pins s σ H _ I h) fun xv s1 h1 => thn h1 fun itv s2 h2 => ?_)
  obtain ⟨it, fp, tn, J, H2, eit, I2, T, t2, f2, q⟩ := h2
  subst eit
  refine wpAny_newObj_type (newEnv_comp ?_) (by show 0 ≤ sizeLine; decide)
  have fresh : H2 s2.heap.objs.size = none := I2.hok.fresh (Nat.le_refl _)
  obtain ⟨W, ⟨m0, w0⟩, turn⟩ := q s2.heap.objs.size fresh
  have laid : Inv X pins σ (upd H2 s2.heap.objs.size (.lst [])) { s2 with heap := s2.heap.push { cls := .type "list", data := .seq ([] : List Value).toArray } } :=
    I2.laid (t' := s2.toks) (fun b o e => Heap.get?_push_of_some _ e) (Nat.le_refl _) ⟨Nat.zero_le _, [], 0, .nil, Heap.get?_push_size _ rfl⟩
  have older : ∀ b ∈ fp, b < s2.heap.objs.size := fun b hb => by
    obtain ⟨o, e, _⟩ := T.obj _ _ t2 b hb
    exact Heap.lt_size e
  have t3 : tn 0 (s2.heap.push { cls := .type "list", data := .seq ([] : List Value).toArray }) := T.keep _ _ _ t2 fun b _ o e => Heap.get?_push_of_some _ e
  have f3 : ∀ b ∈ fp, FpOk X pins (upd H2 s2.heap.objs.size (.lst [])) b ∧ b < (s2.heap.push { cls := .type "list", data := .seq ([] : List Value).toArray }).objs.size := fun b hb => by
    refine ⟨⟨?_, (f2 b hb).2⟩, by rw [Heap.size_push]; exact Nat.lt_succ_of_lt (older b hb)⟩
    rw [upd_ne (Nat.ne_of_lt (older b hb))]
    exact (f2 b hb).1
  generalize s2.heap.objs.size = D at fresh w0 turn laid f3
  generalize hs3 : ({ s2 with heap := s2.heap.push { cls := .type "list", data := .seq ([] : List Value).toArray } } : Shared) = s3 at laid
  have e3 : s2.heap.push { cls := .type "list", data := .seq ([] : List Value).toArray } = s3.heap := by rw [← hs3]
  rw [e3] at t3 f3
  generalize upd H2 D (.lst []) = H3 at laid f3 w0
  have I4 := block_start laid ok hN f3
  show codeAny _ _ (.compStart (.ListComp elt [⟨tg, iter, ifs, 0⟩] scope pos) 0 (.ref it) (.ref D) (compEnvC scope (cellsFrom (s3.heap.objs.size + 1) scope.names (cloFrom X.env.cells scope.names [])) s3.heap.objs.size X.env)) (compEnds (model X.prog X.w) X.A X.xe none (EP X pins σ Q) (.ref D) (compEnvC scope (cellsFrom (s3.heap.objs.size + 1) scope.names (cloFrom X.env.cells scope.names [])) s3.heap.objs.size X.env)) { s3 with heap := pushCells (s3.heap.push { cls := .type "dict", data := .dict #[] }) scope.names }
  have pg := hg s3 H3 s3.heap.objs.size (cellsFrom (s3.heap.objs.size + 1) scope.names (cloFrom X.env.cells scope.names [])) fp
  have pt := ht s3 H3 s3.heap.objs.size (cellsFrom (s3.heap.objs.size + 1) scope.names (cloFrom X.env.cells scope.names [])) fp
  have pe := he s3 H3 s3.heap.objs.size (cellsFrom (s3.heap.objs.size + 1) scope.names (cloFrom X.env.cells scope.names [])) fp
  have cf : (compEnvC scope (cellsFrom (s3.heap.objs.size + 1) scope.names (cloFrom X.env.cells scope.names [])) s3.heap.objs.size X.env).frame = X.env.frame := rfl
  have cL : (compEnvC scope (cellsFrom (s3.heap.objs.size + 1) scope.names (cloFrom X.env.cells scope.names [])) s3.heap.objs.size X.env).locals = s3.heap.objs.size := rfl
  generalize compEnvC scope (cellsFrom (s3.heap.objs.size + 1) scope.names (cloFrom X.env.cells scope.names [])) s3.heap.objs.size X.env = ce at I4 pg pt pe cf cL ⊢
  have far : FarOff X pins fp := fun b hb => ⟨(f3 b hb).1.2.2.2.1, (f3 b hb).1.2.1, (f3 b hb).1.2.2.2.2.1, (f3 b hb).1.2.2.2.2.2⟩
  have pe' := pe fun pins' σ' H5 s5 e s' I5 c => out_of_block hs hf tk (fun _ _ _ z => z) laid cf (Nat.le_of_eq cL.symm) far I5 c
  have t4 : tn 0 (pushCells (s3.heap.push { cls := .type "dict", data := .dict #[] }) scope.names) := T.keep _ _ _ t3 fun b _ o e => pushCells_keeps _ _ _ _ (Heap.get?_push_of_some _ e)
  have loop := lcX_loop (iter := iter) (pos := pos) hcal laid far cL (fun b hb => (f3 b hb).1.1) (blkE_inv I4) T t4 pg pt pe' w0 turn
  exact codeAny_compStart_list loop (T.self X.A 0 _ _ _ t4 loop)
end
end Pf
/-! The block of an own error with a field (after the guide's skel/42_own_error_by_import), for GoesWrong over Exception, its context kept None (L2N). -/
namespace PySem
namespace GwX
open PySem.W PySem.Calls PyProof.Rows PySem.HandSPX
/-! ### the text of __init__ -/
def iA (p1 p2 : Pos) : Arguments := { posonlyargs := [], args := [{ arg := "self", annotation := none, pos := p1 }, { arg := "place", annotation := none, pos := p2 }], vararg := none, kwonlyargs := [], kw_defaults := [], kwarg := none, defaults := [] }
def iB (q1 q2 q3 q4 : Pos) : List Stmt := [.Assign [.Attribute (.Name "self" q1) "place" q2] (.Name "place" q3) q4]
def iS : Scope := { kind := .function, names := [(PySem.Str.ofString "self", .local), (PySem.Str.ofString "place", .local)], isGenerator := false, isCoroutine := false, more := [] }
/-- what the written part says of GoesWrong, at C, and of its __init__, at fI -/
structure GwTxt (K : Frag) (mg : Str → Option Value) (C fI : Addr) : Prop where
  gC : mg "GoesWrong" = some (.ref C)
  nC : nsIn K mainGlobals "GoesWrong" = some (some (.ref C))
  cls : ∃ nm q N bs bm sn sub ab col dd k0 k1 k2 k3 k5, K.lookup C = some (excClassObj nm q C N bs bm true sn sub ab col dd k0 k1 k2 k3 k5 "Exception.__new__") ∧ bm = PySem.ESX.exTail
  sa : findIn K (.ref C) "__setattr__" = some (some (.builtin "object.__setattr__"))
  ga : findIn K (.ref C) "__getattribute__" = some (some (.builtin "BaseException.__getattribute__"))
  gg : findIn K (.ref C) "__getattr__" = some none
  noN : findIn K (.ref C) "place" = some none
  iC : findIn K (.ref C) "__init__" = some (some (.ref fI))
  tC : typeIn K (.ref fI) = some (.type "function")
  kC : keepIn K (.ref C) = true
  exC : subIn K (.ref C) (.type "BaseException") = some true
  tyC : typeIn K (.ref C) = some (.type "type")
  hdC : hasDictIn K C = true
  te : exmOne K (.ref C) (.ref C) = some true
  fn : ∃ (oc : Value) (od : Option Addr) (doc pm : Value) (an : Option Addr) (cdv ct : Value) (osl : Array (Option Value)) (p1 p2 q1 q2 q3 q4 : Pos),
    K.lookup fI = some ⟨oc, od, .func (fnOf "__init__" "GoesWrong.__init__" (iA p1 p2) (iB q1 q2 q3 q4) iS .none .none doc pm an cdv ct), osl⟩ ∧ codeIn K cdv "GoesWrong.__init__" = true
theorem one_size (v : Value) : [v].length ≤ sizeLine := by
  rw [sizeLine_eq]
  exact (by decide : 1 ≤ 16777216)
theorem kept_but {K : Frag} {h h' : Heap} {x : Addr} (X : K.In h) (hx : K.lookup x = none) (k : ∀ b o, b ≠ x → h.get? b = some o → h'.get? b = some o) : K.In h' := fun a o e =>
  k a o (fun z => by rw [z, hx] at e; cases e) (X a o e)
theorem ldC {M : Model} {s : Shared} {name : Str} {scope : Scope} {L a : Addr} {cd : Value} {m : Str → Option Value} {x : Str} {pos : Pos} {v : Value} {Q : Value → Shared → Prop} {A : Around} {E : Value → Shared → Prop} (hn : s.heap.Ns L m) (hv : m x = some v) (h : Q v s)
    (hk : scope.kind = .function := by rfl) (hl : (envOfC name scope L a cd).kindOf x = some .local := by rfl) (hd : (x == ("__debug__" : Str)) = false := by decide) :
    wpAny M A (eval (.Name x pos) (envOfC name scope L a cd)) Q E s := wpAny_Name (wpAny_loadName_local hk hl hn hv h) hd
/-- what __init__ leaves of a fresh exception at x -/
structure InitEnd (h h' : Heap) (x C dx t1 : Addr) (v : Value) : Prop where
  keep : ∀ b o, b ≠ x → h.get? b = some o → h'.get? b = some o
  obj : h'.get? x = some { cls := .ref C, dict := some dx, data := .fields #[.ref t1, .none, .none, .none, .bool false, .none] }
  dbig : h.objs.size ≤ dx
  dne : dx ≠ x
  ns : h'.Ns1 dx (fun y => if y = "place" then some v else none)
/-- a made GoesWrong -/
structure OwnMade (h h' : Heap) (e C d : Addr) (v : Value) : Prop where
  keep : ∀ b o, h.get? b = some o → h'.get? b = some o
  new : h.objs.size ≤ e
  obj : ∃ oe vs, h'.get? e = some oe ∧ oe.cls = .ref C ∧ oe.dict = some d ∧ oe.data = .fields vs ∧ vs[1]? = some .none ∧ vs[2]? = some .none
  dbig : h.objs.size ≤ d
  dne : d ≠ e
  ns : h'.Ns1 d (fun y => if y = "place" then some v else none)
section
variable {prog : Program} {w : World} {A : Around} {E : Value → Shared → Prop} {R : Result → Shared → Prop} {s : Shared} {K : Frag} {mg : Str → Option Value} {C fI : Addr}
theorem gw_init (T : GwTxt K mg C fI) {x t0 : Addr} {v : Value} (X : K.In s.heap) (hlim : s.heap.NoLimit) (hx : s.heap.get? x = some (excO C t0)) (hnx : K.lookup x = none) (hroom : A.depth < recursionLimit)
    (hq : ∀ h' tk dx, InitEnd s.heap h' x C dx t0 v → R (.ok (.ret .none)) { s with heap := h', toks := tk }) :
    codeAny (model prog w) A (.call (.ref fI) ⟨[.ref x, v], []⟩) R s := by
  obtain ⟨oc, od, doc, pm, an, cdv, ct, osl, p1, p2, q1, q2, q3, q4, ho, hcd⟩ := T.fn
  obtain ⟨nm, q, N, bs, bm, sn, sub, ab, col, dd, k0, k1, k2, k3, k5, hC, hbm⟩ := T.cls
  have hcl : clsIn K C = some { name := nm, bases := bs, mro := .ref C :: bm, ns := N, qualname := q, hasDict := true, slotNames := sn, subclasses := sub, abstract := ab, collection := col, hasDel := false } := by unfold clsIn; rw [hC] <;> rfl
  refine Att.call_fn (binds := [("self", .ref x), ("place", v)]) X hlim ho hcd hroom (BindsTo.of_eq (by first | rfl | with_unfolding_all rfl)) (by first | rfl | decide | with_unfolding_all rfl) (fun s₁ IC => ?_) rfl rfl rfl
  obtain ⟨h₁, tk₁, rfl⟩ := IC.toInCall.same
  have k : ∀ b o, s.heap.get? b = some o → h₁.get? b = some o := IC.toInCall.keep
  have hn := IC.toInCall.ns
  have hxL : s.heap.objs.size ≠ x := Nat.ne_of_gt (Heap.lt_size hx)
  have X₁ : K.In h₁ := X.keeps k
  have hx₁ := k _ _ hx
  -- self.by = by
  show wpAny _ _ (execs _ _) _ _ _
  refine wpAny_execs_cons (plainObj_wpAny_Assign_Attribute ?_)
  refine ldC (v := v) hn (by first | rfl | with_unfolding_all rfl | kernel_rfl) (ldC (v := .ref x) hn (by first | rfl | with_unfolding_all rfl | kernel_rfl) ?_)
  refine set_plain X₁ (ox := excO C t0) (od := none) ⟨hx₁, rfl, rfl, trivial⟩ T.sa ?_
  refine PySem.ESX.osa_new X₁ hx₁ hcl (show Value.ref C :: bm = Value.ref C :: PySem.ESX.exTail by rw [hbm]) rfl T.noN (fun h₃ tk₃ dx k₃ dn dne hx₃ hn₃ => ?_)
  show wpAny _ _ (execs _ _) _ _ _
  have z : s.heap.objs.size < h₁.objs.size := hn.lt
  exact wpAny_execs_nil (hq h₃ tk₃ dx ⟨fun b o hb e => k₃ b o hb (k b o e), hx₃, Nat.le_of_lt (Nat.lt_of_lt_of_le z dn), dne, hn₃⟩)
theorem gw_made (T : GwTxt K mg C fI) {v : Value} (X : K.In s.heap) (hlim : s.heap.NoLimit) (hroom : A.depth + 1 < recursionLimit)
    (hq : ∀ h' tk e d, OwnMade s.heap h' e C d v → R (.ok (.ret (.ref e))) { s with heap := h', toks := tk }) :
    codeAny (model prog w) A (.call (.ref C) ⟨[v], []⟩) R s := by
  obtain ⟨nm, q, N, bs, bm, sn, sub, ab, col, dd, k0, k1, k2, k3, k5, hC, hbm⟩ := T.cls
  obtain ⟨hp, g, dr, tk, os⟩ := s
  have k : ∀ b o, hp.get? b = some o → ((hp.push (kdv_tup [v])).push (excO C hp.objs.size)).get? b = some o := fun b o e => Heap.get?_push_of_some _ (Heap.get?_push_of_some _ e)
  have hget : ((hp.push (kdv_tup [v])).push (excO C hp.objs.size)).get? (hp.objs.size + 1) = some (excO C hp.objs.size) := by heap_get
  have hnx : K.lookup (hp.objs.size + 1) = none := by
    cases e : K.lookup (hp.objs.size + 1) with
    | none => rfl
    | some o =>
      have z : hp.get? (hp.objs.size + 1) = some o := X _ _ e
      exact absurd (Nat.lt_of_succ_lt (Heap.lt_size z)) (Nat.lt_irrefl _)
  refine call_own F.excBase_Exception (fun X => by rw [hbm]) (X _ _ hC) (looks_findIn X T.iC) (fun self => bind_fn X self T.tC) (one_size v) ?_
  refine gw_init (s := ⟨(hp.push (kdv_tup [v])).push (excO C hp.objs.size), g, dr, tk, os⟩) T (X.keeps k) (hlim.keeps k) hget hnx ?_ fun h' tk' dx ⟨k', hx, dn, dne, hns⟩ => ?_
  · show A.depth + 1 < recursionLimit
    exact hroom
  · have old : ∀ b o, hp.get? b = some o → h'.get? b = some o := fun b o e => k' b o (Nat.ne_of_lt (Nat.lt_succ_of_lt (Heap.lt_size e))) (k b o e)
    have z : hp.objs.size + 1 + 1 ≤ dx := by
      first
        | (simpa only [Heap.size_push] using dn)
        | exact dn
        | (have q := dn; rw [Heap.size_push, Heap.size_push] at q; exact q)
    exact ⟨rfl, hq h' tk' (hp.objs.size + 1) dx ⟨old, Nat.le_succ _, ⟨_, _, hx, rfl, rfl, rfl, rfl, rfl⟩, Nat.le_trans (Nat.le_trans (Nat.le_succ _) (Nat.le_succ _)) z, dne, hns⟩⟩
end
end GwX
end PySem
namespace L2
open PySem PySem.Spec PyProof.Rows
theorem relO_gw {v : V} {v' : Value} (r : RelV v v') (f : Str) : RelO (List.lookup f [(("place" : Str), v)]) (if f = "place" then some v' else none) := by
  by_cases hw : f = "place"
  · subst hw
    rw [if_pos rfl]
    have q : List.lookup ("place" : Str) [(("place" : Str), v)] = some v := by simp [List.lookup]
    rw [q]
    exact r
  · rw [if_neg hw]
    have qw : (f == ("place" : Str)) = false := by simpa using hw
    have q2 : List.lookup f [(("place" : Str), v)] = none := by simp [List.lookup, qw]
    rw [q2]
    trivial
section
variable {X : Cx} {C fI : Addr}
/-- GoesWrong(e) -/
def tMkGW (C : Addr) (ta : TA) : St → Hp → XK → Prop := fun σ H Q => ta σ H fun vs H1 => ∃ v, vs = [v] ∧ ∀ d, H1 d = none → Q (.ref C) (some d) (upd H1 d (.xd [(("place" : Str), v)]))
theorem pmk_gw {a : Expr} {ta : TA} {p pos : Pos} {k : Nat} (T : PySem.GwX.GwTxt X.K X.mg C fI) (hr : Room k X.A) (ha : PA X [a] ta) (hg : Gl X "GoesWrong" := by rfl)
    (he : starEach (a :: []) X.env = (false, eval a X.env) :: starEach [] X.env := by rfl) (hpl : (backTo pos (starEach [] X.env)).any (·.1) = false := by rfl) :
    L2N.PMk X (.Call (.Name "GoesWrong" p) [a] [] pos) (tMkGW C ta) := by
  intro pins s σ H Q I h
  refine wpAny_Call_Name_kw (ld_glob I hg T.gC ?_)
  refine PySem.W.callWith_K (h₀ := X.base) I.ok.mod.kin T.kC (thn (ha.run pos pins s σ H _ I h) fun us s1 hh => ?_) he hpl
  obtain ⟨vs, H1, I1, r1, v, ev, q1⟩ := hh
  subst ev
  refine ⟨I1.kIn, ?_⟩
  cases r1 with
  | cons rv rn =>
    rename_i v' us'
    cases rn
    show wpAny _ _ (call (.ref C) [v']) _ _ _
    have hlim := I1.nolimit
    obtain ⟨hp, g, dr, tk, os⟩ := s1
    refine wpAny_call (PySem.GwX.gw_made T I1.kIn hlim (by have := hr.dp; omega) fun h' tk' e d M => ?_)
    show L2N.MkP X pins σ Q (.ref e) ⟨h', g, dr, tk', os⟩
    obtain ⟨oe, fv, hoe, hc, hd, hdat, h1, h2c⟩ := M.obj
    have hns := M.ns
    obtain ⟨G', g1, g2⟩ := restrict h' fun b => decide (b ≠ e)
    have gk : ∀ b, b ≠ e → G'.get? b = h'.get? b := fun b hb => g1 b (decide_eq_true hb)
    have ge : G'.get? e = none := g2 e (by simp)
    have old : ∀ b o, hp.get? b = some o → G'.get? b = some o := fun b o q => (gk b (Nat.ne_of_lt (Nat.lt_of_lt_of_le (Heap.lt_size q) M.new))).trans (M.keep b o q)
    have ob : ObjOk X.prog X.w (upd H1 d (.xd [(("place" : Str), v)])) G' d (.xd [(("place" : Str), v)]) :=
      ⟨_, hns.at (fun o q => (gk d M.dne).trans q), fun f => relO_gw rv f⟩
    have J : Inv X pins σ (upd H1 d (.xd [(("place" : Str), v)])) ⟨G', g, dr, tk', os⟩ := I1.laid (t' := tk') old M.dbig ob
    refine ⟨e, oe, fv, ⟨G', g, dr, tk', os⟩, _, .ref C, some d, rfl, J, fun b o q => ?_, ge, hoe, ⟨hc, hd, fun us eu => by rw [hdat] at eu; cases eu; exact h2c⟩, hdat, h1, ?_, rfl, I1.bare, raises_own T.exC T.tyC, q1 d (I1.hok.fresh M.dbig)⟩
    · by_cases hb : b = e
      · have q' : G'.get? b = some o := q
        rw [hb, ge] at q'; cases q'
      · exact (gk b hb).symm.trans q
    · rw [upd_ne (Ne.symm M.dne)]
      exact I1.hok.fresh M.new
/-- raise GoesWrong(e) -/
def tRaiseGW (C : Addr) (W : WX) (ta : TA) : TS := fun _ σ H => tMkGW C ta σ H fun cls d H' => W cls d σ H'
theorem ps_raiseGW {a : Expr} {ta : TA} {W : WX} {p pos pos2 : Pos} {k : Nat} (hc : X.calm = true) (T : PySem.GwX.GwTxt X.K X.mg C fI) (hr : Room k X.A) (tk : L2N.Takes X W) (ha : PA X [a] ta) (hg : Gl X "GoesWrong" := by rfl)
    (he : starEach (a :: []) X.env = (false, eval a X.env) :: starEach [] X.env := by rfl) (hpl : (backTo pos (starEach [] X.env)).any (·.1) = false := by rfl) :
    PS X (.Raise (some (.Call (.Name "GoesWrong" p) [a] [] pos)) none pos2) (tRaiseGW C W ta) := L2N.ps_raise hc tk (pmk_gw T hr ha hg he hpl)
/-- wrong.place, wrong the exception that the suite holds (at a; its class cls, its dict d) -/
def tGwF (C : Addr) (a : Addr) (cls : Value) (d : Option Addr) (te : TE) : TE := fun σ H Q => te σ H fun x H1 => x = .ref a ∧ cls = .ref C ∧ ∃ (dd : Addr) (v : V), d = some dd ∧ H1 dd = some (.xd [(("place" : Str), v)]) ∧ Q v H1
theorem pe_gwF {a : Addr} {oe : Obj} {cls : Value} {d : Option Addr} {pn : List (Addr × Obj)} {e : Expr} {te : TE} {pos : Pos} (T : PySem.GwX.GwTxt X.K X.mg C fI) (hz : L2N.Zn cls d oe) (hf : ∃ vs, oe.data = .fields vs) (he : PE (X.suite a ((a, oe) :: pn)) e te)
    (hb : attributeBase e "place" X.env (eval e X.env) = eval e X.env := by rfl) :
    PE (X.suite a ((a, oe) :: pn)) (.Attribute e "place" pos) (tGwF C a cls d te) := by
  refine ⟨fun pins s σ H Q I h => ?_⟩
  refine attr_of hb (thn (he.run pins s σ H _ I h) fun u s1 hh => ?_)
  obtain ⟨x, H1, I1, rx, ex, ec, dd, v, ed, ea, q⟩ := hh
  subst ex
  obtain rfl : u = Value.ref a := rx
  subst ec
  subst ed
  obtain ⟨ha, _⟩ := I1.pin (a, oe) (List.mem_append_left _ List.mem_cons_self)
  obtain ⟨vs, hd⟩ := hf
  have hx : ObjOk X.prog X.w H1 s1.heap dd (.xd [(("place" : Str), v)]) := I1.hok dd _ ea
  obtain ⟨mA, hns, hr⟩ := hx
  obtain ⟨od, ho, hl⟩ := lookIn_ns hns
  have l : List.lookup ("place" : Str) [(("place" : Str), v)] = some v := by simp [List.lookup]
  obtain ⟨u, hu, ru⟩ := RelO.some_of (v := v) (o := mA "place") (by rw [← l]; exact hr "place")
  have J : PySem.W.InstAt s1.heap a oe C (some od) := ⟨ha, hz.1, by unfold PySem.W.notCls; rw [hd] <;> rfl, by rw [hz.2.1]; exact ho⟩
  exact HandSPX.exc_get I1.kIn J T.ga T.gg T.exC (PySem.W.findObj_own T.hdC T.noN rfl (by rw [hl, hu])) (handed_of ru) ⟨v, H1, I1.tok _, ru, q⟩
end
end L2
namespace Pf
open PySem PySem.Spec PyProof.Rows L2
/-! ### where bytes first go wrong: the error that tells it -/
def Wrong (K : PySem.W.Frag) (E : XK) (p : Nat) : Prop := ∀ (C d : Addr) (H : Hp), PySem.W.nsIn K mainGlobals "GoesWrong" = some (some (.ref C)) → H d = some (.xd [(("place" : Str), .int (p : Int))]) → E (.ref C) (some d) H
/-! ### a reading -/
structure RdC (K : PySem.W.Frag) (C : Addr) : Prop where
  cl : Cls K C
  nB : NoAttr K C "the_bytes"
  nP : NoAttr K C "place"
def rdF (b p : V) : List (Str × V) := [("the_bytes", b), ("place", p)]
theorem rdF_b (b p : V) : (rdF b p).lookup ("the_bytes" : Str) = some b := rfl
theorem rdF_p (b p : V) : (rdF b p).lookup ("place" : Str) = some p := rfl
theorem rdF_put (b p q : V) : putF "place" q (rdF b p) = rdF b q := by
  show (if ("the_bytes" : Str) = "place" then _ else (("the_bytes" : Str), b) :: (if ("place" : Str) = "place" then (("place" : Str), q) :: [] else _)) = _
  rw [if_neg (by decide), if_pos rfl]
  rfl
theorem rdF_new (b p : V) : putF "place" p (putF "the_bytes" b []) = rdF b p := by
  show (if ("the_bytes" : Str) = "place" then _ else (("the_bytes" : Str), b) :: putF "place" p []) = _
  rw [if_neg (by decide)]
  rfl
/-- the reading at r of the bytes that lie at bA, at the place p -/
def RdAt (K : PySem.W.Frag) (H : Hp) (r bA : Addr) (p : Nat) : Prop := ∃ C dx, RdC K C ∧ H r = some (.ins C dx (rdF (.ref bA) (.int (p : Int))))
theorem RdAt.mono {K : PySem.W.Frag} {H H' : Hp} (s : Same H H') {r bA : Addr} {p : Nat} (h : RdAt K H r bA p) : RdAt K H' r bA p := by
  obtain ⟨C, dx, hC, hr⟩ := h
  exact ⟨C, dx, hC, s _ _ hr⟩
/-- all but the reading itself is as it was -/
def Mv (r : Addr) (H H' : Hp) : Prop := Same (del H r) (del H' r)
theorem Mv.of {r : Addr} {H H' : Hp} (s : Same H H') : Mv r H H' := sdel2 s
theorem Mv.trans {r : Addr} {H H1 H2 : Hp} (a : Mv r H H1) (b : Mv r H1 H2) : Mv r H H2 := Same.trans a b
theorem Mv.at {r : Addr} {H H' : Hp} (m : Mv r H H') {b : Addr} {o : HO} (hb : b ≠ r) (h : H b = some o) : H' b = some o := by
  have := m b o (by rw [del_ne hb]; exact h)
  rw [del_ne hb] at this
  exact this
theorem Mv.free {r : Addr} {H H' : Hp} (m : Mv r H H') {b : Addr} (hb : b ≠ r) (h : H' b = none) : H b = none := by
  cases e : H b with
  | none => rfl
  | some o =>
    rw [m.at hb e] at h
    cases h
/-- a list is no reading -/
theorem sq_del {K : PySem.W.Frag} {H : Hp} {a r : Addr} {xs : List V} {C dx : Addr} {fs : List (Str × V)} (hr : H r = some (.ins C dx fs)) (h : SqL K H a xs) : SqL K (del H r) a xs := by
  have ne : ∀ o, H a = some o → (∀ C dx fs, o ≠ .ins C dx fs) → del H r a = some o := fun o e n => by
    rw [del_ne (fun z => by rw [z, hr] at e; cases e; exact n _ _ _ rfl)]
    exact e
  rcases h with (h | ⟨o, h⟩) | h
  · exact .inl (.inl (ne _ h fun _ _ _ z => by cases z))
  · exact .inl (.inr ⟨o, ne _ h fun _ _ _ z => by cases z⟩)
  · exact .inr h
theorem RdAt.sq {K : PySem.W.Frag} {H H' : Hp} {r bA a : Addr} {p : Nat} {xs : List V} (R : RdAt K H r bA p) (m : Mv r H H') (h : SqL K H a xs) : SqL K H' a xs := by
  obtain ⟨C, dx, _, hr⟩ := R
  exact del_sub.seq (m.seq (sq_del hr h))
theorem RdAt.live {K : PySem.W.Frag} {H : Hp} {r bA : Addr} {p : Nat} (R : RdAt K H r bA p) : ∃ o, H r = some o := by
  obtain ⟨C, dx, _, hr⟩ := R
  exact ⟨_, hr⟩
theorem RdAt.ne {K : PySem.W.Frag} {H : Hp} {r bA t : Addr} {p : Nat} (R : RdAt K H r bA p) (n : H t = none) : t ≠ r := by
  obtain ⟨o, hr⟩ := R.live
  exact ne_live hr n
/-! ### defs called within an except suite -/
def OkH (P : Program) (w : World) (K : PySem.W.Frag) (mg : Str → Option Value) (base : Heap) (k : Nat) (x : Str) (ps : List Str) (sp : Sp) : Prop :=
  ∃ (f : Addr) (fd : FuncData), mg x = some (.ref f) ∧ PySem.W.keepIn K (.ref f) = true ∧ Binds K fd ps [] ∧ L2H.FnH P w K mg base CX0 k f fd ps sp
theorem okH {P : Program} {w : World} {K : PySem.W.Frag} {mg : Str → Option Value} {base : Heap} {x qual : Str} {st : Stmt} {f : Addr} {fd : FuncData} {N ps : List Str} {k : Nat} {sp : Sp} (F : Fun K x qual st f fd) (S : FnScope N ps (defScope st)) (len : ∀ vs H Q E, sp vs H Q E → vs.length = ps.length)
    (hb : ∀ (cdv : Value) (A : Around) (outer : List Env) (s : Shared) (H : Hp) (vs : List V) (Q : VK) (E : XK) (p : Addr × Obj), L2H.Hot1 A p → L2H.RoomH k (A.deeper (envOfC qual (defScope st) s.heap.objs.size f cdv)) → sp vs H Q E →
      ∃ t, PSs (L2H.cxH CX0 P w K mg base N qual (defScope st) f cdv A outer s H E p) (defBody st) t ∧ t { nx := fun _ H' => Q .non H', rt := Q } (start N vs) H) : L2H.FnH P w K mg base CX0 (k + 1) f fd ps sp := by
  obtain ⟨oc, od, kV, doc, pm, an, cdv, ct, osl, hfd, lk, hcd⟩ := F.ex
  subst hfd
  exact L2H.fn_ofH lk hcd S len fun A outer s H vs Q E p => hb cdv A outer s H vs Q E p
theorem pe_fnH {X : Cx} {k : Nat} {x : Str} {ps : List Str} {sp : Sp} {e : Expr} {es : List Expr} {t : TA} {p pos : Pos} (h : OkH X.prog X.w X.K X.mg X.base k x ps sp) (hr : L2H.RoomH k X.A) (hot : L2H.HotC X) (hg : Gl X x) (ha : PA X (e :: es) t)
    (hdb : (x == ("__debug__" : Str)) = false := by decide) (he : starEach (e :: es) X.env = (false, eval e X.env) :: starEach es X.env := by rfl) (hpl : (backTo pos (starEach es X.env)).any (·.1) = false := by rfl) :
    PE X (.Call (.Name x p) (e :: es) [] pos) (tCallS sp (fun _ => E0) t) := by
  obtain ⟨f, fd, h1, h2, h3, h4⟩ := h
  exact L2H.pe_callH h4 hr hot hg h1 h2 h3 (fun _ _ _ _ _ _ _ z => z.elim) ha hdb he hpl
theorem hot_of {CX : CXT} {P : Program} {w : World} {K : PySem.W.Frag} {mg : Str → Option Value} {base : Heap} {N : List Str} {qual : Str} {scope : Scope} {f : Addr} {cd : Value} {A : Around} {outer : List Env} {s : Shared} {H : Hp} {E : XK} {p : Addr × Obj} (h : L2H.Hot1 A p) :
    L2H.HotC (L2H.cxH CX P w K mg base N qual scope f cd A outer s H E p) := ⟨p, h, List.mem_singleton.mpr rfl⟩
/-- in an except suite the exception is the one that is handled, and its context is None -/
theorem hot_suite {X : Cx} {a : Addr} {oe : Obj} {cls : Value} {d : Option Addr} {pn : List (Addr × Obj)} (hz : L2N.Zn cls d oe) (hf : ∃ vs, oe.data = .fields vs) : L2H.HotC (X.suite a ((a, oe) :: pn)) := by
  obtain ⟨vs, hd⟩ := hf
  exact ⟨(a, oe), ⟨rfl, vs, hd, hz.2.2 vs hd⟩, List.mem_cons_self⟩
theorem takes0N {X : Cx} : L2N.Takes X (fun _ _ _ _ => False) := fun _ _ x => by
  obtain ⟨_, _, _, _, _, _, _, _, _, _, _, _, _, _, _, _, z⟩ := x
  exact z.elim
/-- a call that may raise, in a try's body -/
theorem pe_fnT {X : Cx} {W : WX} {k : Nat} {x : Str} {ps : List Str} {sp : Sp} {e : Expr} {es : List Expr} {t : TA} {p pos : Pos} (h : OkX X.prog X.w X.K X.mg X.base k x ps sp) (hr : Room k X.A) (hg : Gl X x) (tk : L2N.Takes X W) (ha : PA X (e :: es) t)
    (hdb : (x == ("__debug__" : Str)) = false := by decide) (he : starEach (e :: es) X.env = (false, eval e X.env) :: starEach es X.env := by rfl) (hpl : (backTo pos (starEach es X.env)).any (·.1) = false := by rfl) :
    PE X (.Call (.Name x p) (e :: es) [] pos) (tCallS sp (WE W) t) := by
  obtain ⟨f, fd, h1, h2, h3, h4⟩ := h
  exact pe_callS h4 hr hg h1 h2 h3 (fun σ => L2N.passAt tk σ) ha hdb he hpl
theorem roomS {j k : Nat} {A : Around} {v : Option Value} (hr : Room k A) (h : j ≤ k) : L2H.RoomH j (A.mark v) := by
  have r := hr.mono h
  exact ⟨r.dp, r.un⟩
theorem exm_self {K : PySem.W.Frag} {S : Addr} (h1 : PySem.W.subIn K (.ref S) (.type "BaseException") = some true) (h2 : PySem.W.isClsIn K S = true) (h3 : PySem.W.typeIn K (.ref S) = some (.type "type")) (h4 : PySem.W.subIn K (.ref S) (.ref S) = some true) :
    PySem.W.exmOne K (.ref S) (.ref S) = some true := by
  have e1 : (PySem.W.subIn K (.ref S) (.type "BaseException") == some true) = true := by rw [h1] <;> rfl
  have e2 : ((PySem.W.clsIn K S).isSome && PySem.W.typeIn K (.ref S) == some (.type "type")) = true := by
    have h2' : (PySem.W.clsIn K S).isSome = true := h2
    rw [h2', h3] <;> rfl
  show (if (PySem.W.subIn K (.ref S) (.type "BaseException") == some true) = true then (if ((PySem.W.clsIn K S).isSome && PySem.W.typeIn K (.ref S) == some (.type "type")) = true then PySem.W.subIn K (.ref S) (.ref S) else none) else none) = some true
  rw [if_pos e1, if_pos e2]
  exact h4
end Pf
namespace Pf
open PySem PySem.Spec PyProof.Rows L2
theorem cut_nbT (b : List Nat) (i : Nat) : cutV (nb b) none (some (i : Int)) = nb (b.take i) := by
  unfold cutV
  rw [HT.sIx_nat, HT.sIx_none, nb_len, List.drop_zero, Nat.sub_zero]
  unfold nb
  rw [← List.map_take]
  by_cases h : i ≤ b.length
  · rw [Nat.min_eq_left h]
  · rw [Nat.min_eq_right (by omega), List.take_of_length_le (Nat.le_refl _), List.take_of_length_le (by omega)]
theorem sIx_10 {n d : Nat} : HT.sIx n d (some (-10)) = n - 10 := by
  show (if (-10 : Int) < 0 then ((-10 : Int) + (n : Int)).toNat else min (-10 : Int).toNat n) = _
  rw [if_pos (by decide)]
  omega
theorem cut_to10 (b : List Nat) (i : Nat) (h : i + 10 ≤ b.length) : cutV (nb b) (some (i : Int)) (some (-10)) = nb ((b.drop i).take (b.length - 10 - i)) := by
  unfold cutV
  rw [HT.sIx_nat, nb_len, sIx_10, Nat.min_eq_left (by omega)]
  unfold nb
  rw [← List.map_drop, ← List.map_take]
theorem cut_last10 (b : List Nat) : cutV (nb b) (some (-10)) none = nb (b.drop (b.length - 10)) := by
  unfold cutV
  rw [HT.sIx_none, nb_len, sIx_10]
  unfold nb
  rw [← List.map_drop, List.take_of_length_le (by rw [List.length_map, List.length_drop]; exact Nat.le_refl _)]
/-! ### cells lie apart from readings and lists -/
theorem ca_del {H : Hp} {r : Addr} {o : HO} (hr : H r = some o) (no : ∀ xs, o ≠ .tup xs) {x : V} {c : Pg.Cell} (h : CA H x c) : CA (del H r) x c := by
  cases c with
  | none => exact h
  | some v =>
    cases v with
    | num z => exact h
    | str b =>
      obtain ⟨a, e, ha⟩ := h
      refine ⟨a, e, ?_⟩
      rw [del_ne (fun z => by rw [z, hr] at ha; cases ha; exact no _ rfl)]
      exact ha
theorem cs_delI {H : Hp} {r C dx : Addr} {fs : List (Str × V)} (hr : H r = some (.ins C dx fs)) {xs : List V} {cs : List Pg.Cell} (h : CsA H xs cs) : CsA (del H r) xs cs := L2.Paired.mapP h fun _ _ => ca_del hr fun _ z => by cases z
theorem cs_delL {H : Hp} {r : Addr} {l : List V} (hr : H r = some (.lst l)) {xs : List V} {cs : List Pg.Cell} (h : CsA H xs cs) : CsA (del H r) xs cs := L2.Paired.mapP h fun _ _ => ca_del hr fun _ z => by cases z
def lenAt (H : Hp) (a : Addr) : Nat := match H a with
  | some (.lst xs) => xs.length
  | _ => 0
theorem lenAt_of {H : Hp} {a : Addr} {xs : List V} (h : H a = some (.lst xs)) : lenAt H a = xs.length := by
  unfold lenAt
  rw [h]
theorem TabAt.ne {K : PySem.W.Frag} {H : Hp} {x kA gA t : Addr} {g : Nat} (h : TabAt K H x kA gA g) (n : H t = none) : t ≠ x := by
  obtain ⟨C, dx, _, hx⟩ := h
  exact ne_live hx n
theorem TabAt.mv {K : PySem.W.Frag} {H H' : Hp} {x kA gA r : Addr} {g : Nat} (h : TabAt K H x kA gA g) (m : Mv r H H') (hx : x ≠ r) : TabAt K H' x kA gA g := by
  obtain ⟨C, dx, hC, e⟩ := h
  exact ⟨C, dx, hC, m.at hx e⟩
theorem mvU {r D : Addr} {H H' : Hp} {o : HO} (m : Mv r H H') (n : H D = none) : Mv r H (upd H' D o) := fun b v h => by
  have hr : b ≠ r := fun z => by
    rw [z, del_at] at h
    cases h
  have hD : b ≠ D := ne_of_none (del_sub _ _ h) n
  have := m b v h
  rw [del_ne hr] at this ⊢
  rw [upd_ne hD]
  exact this
theorem RdAt.upd {K : PySem.W.Frag} {H : Hp} {r bA D : Addr} {p : Nat} {o : HO} (R : RdAt K H r bA p) (h : D ≠ r) : RdAt K (L2.upd H D o) r bA p := by
  obtain ⟨C, dx, RC, hr⟩ := R
  refine ⟨C, dx, RC, ?_⟩
  rw [upd_ne (Ne.symm h)]
  exact hr
/-- objects that were not there -/
def NewIn (H : Hp) (xs : List V) : Prop := ∀ y ∈ xs, ∃ a, y = V.ref a ∧ H a = none
theorem cols_off {H : Hp} {t G : Addr} {l : List V} (hG : H G = some (.lst l)) : ∀ {cxs : List V} {cols : List (List Pg.Cell)}, (∀ y ∈ cxs, ∃ a, y = V.ref a ∧ a ≠ G) → ColsA (del H t) cxs cols → ColsA (del H G) cxs cols
  | _, _, _, .nil => .nil
  | y :: cxs, c :: cols, hn, .cons h r => by
    refine .cons ?_ (cols_off hG (fun z hz => hn z (List.mem_cons_of_mem _ hz)) r)
    obtain ⟨a, zs, e, ha, hcs⟩ := h
    obtain ⟨a', e', hne⟩ := hn y List.mem_cons_self
    rw [e] at e'
    cases e'
    refine ⟨a, zs, e, ?_, cs_delL hG (csm del_sub hcs)⟩
    rw [del_ne hne]
    exact del_sub _ _ ha
end Pf
namespace Pf
open PySem PySem.Spec PyProof.Rows L2
def topS (i : Nat) : Stmt := PySem.Challenge.pw_pagefiles_s04_read.main.body.getD i (.Pass ⟨0, 0, 0, 0⟩)
/-! ## number_bytes -/
abbrev s_number_bytes : Stmt := topS 16
abbrev N_number_bytes : List Str := ["number", "width", "out", "rest", "place"]
theorem sc_number_bytes : FnScope N_number_bytes ["number", "width"] (defScope s_number_bytes) := ⟨rfl, rfl, rfl, by decide +kernel, rfl, by decide +kernel, by decide +kernel⟩
/-- the w bytes of z, a new list -/
def sp_number_bytes (K : PySem.W.Frag) : Sp := fun vs H Q _ => ∃ (z : Int) (n : Nat), vs = [.int z, .int (n : Int)] ∧ n ≤ 100000 ∧
  ∀ H' p, Same H H' → H p = none → H' p = some (.lst (nb (Pg.wide n z))) → Q (.ref p) H'
theorem ok_number_bytes {P : Program} {w : World} {K : PySem.W.Frag} {mg : Str → Option Value} {base : Heap} {f : Addr} {fd : FuncData} (F : Fun K "number_bytes" "number_bytes" s_number_bytes f fd) (b_range : mg "range" = none) : FnOk P w K mg base CX0 1 f fd ["number", "width"] (sp_number_bytes K) := by
  refine F.ok sc_number_bytes (fun vs H Q E h => ?_) (fun cdv A outer s H vs Q E hr h => ?_)
  · obtain ⟨z, n, rfl, hn, q⟩ := h
    rfl
  · have hu := hu_of hr
    obtain ⟨z, n, rfl, hn, q⟩ := h
    refine ⟨_, (pss_cons (ps_set (i := 2) sc_number_bytes.nd rfl (Or.inl rfl) (pe_lst pa_nil))
              (pss_cons (ps_set (i := 3) sc_number_bytes.nd rfl (Or.inl rfl) (pv 0))
              (pss_cons (ps_for PassesOwn.never rfl (pi_range1 (by rfl) b_range (pa_cons (pv 1) pa_nil)) (pg_name (i := 4) sc_number_bytes.nd rfl (.inl rfl))
              (pss_cons (ps_expr (pe_bm PySem.F.plainAttrs_list PySem.F.slot_list_append PySem.F.type_list_append mt_append (pv 2) (pa_cons (pe_op op_mod (pv 3) pe_int) pa_nil)))
              (pss_one (ps_set (i := 3) sc_number_bytes.nd rfl (Or.inl rfl) (pe_op op_fdiv (pv 3) pe_int)))))
              (pss_one (ps_ret (pv 2)))))), ?_⟩
    refine ⟨Nat.zero_le _, fun o no => ?_⟩
    refine ⟨_, rfl, ?_⟩
    refine ⟨_, rfl, (n : Int), rfl, by omega, by omega, for_range (fun i σ H' => ∃ v, σ = [some (.int z), some (.int (n : Int)), some (.ref o), some (.int (z / 256 ^ i)), v] ∧ Same H H' ∧ H' o = some (.lst (nb (Pg.wide i z)))) ⟨none, ?_, nw no, ?_⟩ ?_ ?_⟩
    · rw [show z / 256 ^ 0 = z by rw [Int.pow_zero, Int.ediv_one]]
      rfl
    · exact upd_same
    · rintro i σ H' hi ⟨v, rfl, sm, ho⟩
      have hi' : i < n := by omega
      refine ⟨_, rfl, .inl ⟨rfl, _, SqL.of ho⟩, _, rfl, _, _, rfl, rfl, (by show (0 : Int) < 256; decide), o, _, _, rfl, rfl, ho, ?_, ?_⟩
      · rw [nb_len, PfM.wide_len]
        exact szl (by omega)
      refine ⟨_, rfl, _, _, rfl, rfl, ⟨by decide, by decide⟩, some (.int (0 + (i : Int))), ?_, mt sm no, ?_⟩
      · rw [← PfM.div_more]
        rfl
      · rw [upd_same, PfM.wide_succ, nb_app]
        have e : (((z / 256 ^ i % 256).toNat : Nat) : Int) = z / 256 ^ i % 256 := Int.toNat_of_nonneg (Int.emod_nonneg _ (by decide))
        show some (HO.lst (nb (Pg.wide i z) ++ [.int (z / 256 ^ i % 256)])) = some (HO.lst (nb (Pg.wide i z) ++ [.int (((z / 256 ^ i % 256).toNat : Nat) : Int)]))
        rw [e]
    · rintro σ H' ⟨v, rfl, sm, ho⟩
      exact ⟨_, rfl, q H' o sm no (by rw [ho, Int.toNat_natCast])⟩
/-! ## packed_width -/
abbrev s_packed_width : Stmt := topS 19
abbrev N_packed_width : List Str := ["q", "k"]
theorem sc_packed_width : FnScope N_packed_width ["q", "k"] (defScope s_packed_width) := ⟨rfl, rfl, rfl, by decide +kernel, rfl, by decide +kernel, by decide +kernel⟩
def sp_packed_width (K : PySem.W.Frag) : Sp := fun vs H Q _ => ∃ (a k : Nat), vs = [.int (a : Int), .int (k : Int)] ∧ k < 2 ^ 32 ∧ Q (.int (Pg.packedLong a k : Nat)) H
theorem ok_packed_width {P : Program} {w : World} {K : PySem.W.Frag} {mg : Str → Option Value} {base : Heap} {f : Addr} {fd : FuncData} (F : Fun K "packed_width" "packed_width" s_packed_width f fd)  : FnOk P w K mg base CX0 1 f fd ["q", "k"] (sp_packed_width K) := by
  refine F.ok sc_packed_width (fun vs H Q E h => ?_) (fun cdv A outer s H vs Q E hr h => ?_)
  · obtain ⟨a, k, rfl, hk, q⟩ := h
    rfl
  · have hu := hu_of hr
    obtain ⟨a, k, rfl, hk, q⟩ := h
    refine ⟨_, (pss_one (ps_ret (pe_op op_fdiv (pe_op op_add (pe_op op_mul (pv 1) (pv 0)) pe_int) pe_int))), ?_⟩
    refine ⟨_, rfl, _, rfl, _, _, rfl, rfl, .inl ⟨by omega, by omega⟩, _, _, rfl, rfl, _, _, rfl, rfl, ⟨by decide, by decide⟩, ?_⟩
    have e : (((Pg.packedLong a k : Nat) : Int)) = ((k : Int) * (a : Int) + 7) / 8 := by
      unfold Pg.packedLong
      rw [Int.natCast_ediv, Int.natCast_add, Int.natCast_mul]
      rfl
    rw [e] at q
    exact q
/-! ## is_kind -/
abbrev s_is_kind : Stmt := topS 7
abbrev N_is_kind : List Str := ["kind"]
theorem sc_is_kind : FnScope N_is_kind ["kind"] (defScope s_is_kind) := ⟨rfl, rfl, rfl, by decide +kernel, rfl, by decide +kernel, by decide +kernel⟩
def sp_is_kind (K : PySem.W.Frag) : Sp := fun vs H Q _ => ∃ k : Int, vs = [.int k] ∧ Q (.bl (decide (k = 0 ∨ k = 1))) H
theorem ok_is_kind {P : Program} {w : World} {K : PySem.W.Frag} {mg : Str → Option Value} {base : Heap} {f : Addr} {fd : FuncData} (F : Fun K "is_kind" "is_kind" s_is_kind f fd) (c_NUMBERS : Kst mg "NUMBERS" (.int 0)) (c_ROWS_OF_BYTES : Kst mg "ROWS_OF_BYTES" (.int 1)) : FnOk P w K mg base CX0 1 f fd ["kind"] (sp_is_kind K) := by
  refine F.ok sc_is_kind (fun vs H Q E h => ?_) (fun cdv A outer s H vs Q E hr h => ?_)
  · obtain ⟨k, rfl, q⟩ := h
    rfl
  · have hu := hu_of hr
    obtain ⟨k, rfl, q⟩ := h
    refine ⟨_, (pss_one (ps_ret (pe_or (pe_cmpR op_eq (pv 0) (pe_k c_NUMBERS rfl) (nomark _)) (pe_one (pe_cmpR op_eq (pv 0) (pe_k c_ROWS_OF_BYTES rfl) (nomark _)))))), ?_⟩
    refine ⟨_, rfl, rfl, _, rfl, ifE (fun e => ?_) (fun e => ?_)⟩
    · subst e
      exact q
    · refine ⟨_, rfl, rfl, ?_⟩
      have z : decide (V.int k = V.int 1) = decide (k = 0 ∨ k = 1) := by
        rw [dV]
        by_cases h : k = 1
        · rw [decide_eq_true h, decide_eq_true (.inr h)]
        · rw [decide_eq_false h, decide_eq_false (fun c => c.elim e h)]
      show Q (.bl (decide (V.int k = V.int 1))) H
      rw [z]
      exact q
/-! ## is_value -/
abbrev s_is_value : Stmt := topS 8
abbrev N_is_value : List Str := ["kind", "value", "byte"]
theorem sc_is_value : FnScope N_is_value ["kind", "value"] (defScope s_is_value) := ⟨rfl, rfl, rfl, by decide +kernel, rfl, by decide +kernel, by decide +kernel⟩
def sp_is_value (K : PySem.W.Frag) : Sp := fun vs H Q _ => ∃ (k : Int) (x : V), vs = [.int k, x] ∧
  ((k = 0 ∧ ∃ z, x = .int z ∧ Q (.bl (Pg.inRange z)) H) ∨ (k ≠ 0 ∧ ∃ (a : Addr) (ns : List Int), x = .ref a ∧ SqT K H a (ns.map V.int) ∧ ns.length ≤ 10000000 ∧
    ∀ H', Same H H' → Q (.bl (decide (ns.length ≤ 40) && ns.all PfM.byteOk)) H'))
theorem ok_is_value {P : Program} {w : World} {K : PySem.W.Frag} {mg : Str → Option Value} {base : Heap} {f : Addr} {fd : FuncData} (F : Fun K "is_value" "is_value" s_is_value f fd) (b_len : mg "len" = none) (b_all : mg "all" = none) (c_MOST_BYTES : Kst mg "MOST_BYTES" (.int 40)) (c_NUMBERS : Kst mg "NUMBERS" (.int 0)) (c_LEAST_NUMBER : Kst mg "LEAST_NUMBER" (.int (-9223372036854775808))) (c_GREATEST_NUMBER : Kst mg "GREATEST_NUMBER" (.int 9223372036854775807)) : FnOk P w K mg base CX0 1 f fd ["kind", "value"] (sp_is_value K) := by
  refine F.ok sc_is_value (fun vs H Q E h => ?_) (fun cdv A outer s H vs Q E hr h => ?_)
  · obtain ⟨k, x, rfl, q⟩ := h
    rfl
  · have hu := hu_of hr
    obtain ⟨k, x, rfl, q⟩ := h
    refine ⟨_, (pss_cons (ps_if (pt_cmpR op_eq (pv 0) (pe_k c_NUMBERS rfl) (nomark _))
              (pss_one (ps_ret (pe_chain op_le op_le (pe_k c_LEAST_NUMBER rfl) (pv 1) (pe_k c_GREATEST_NUMBER rfl))))
              pss_nil)
              (pss_one (ps_ret (pe_and (pe_cmpR op_le (pe_callB call_len_seq (by rfl) b_len PySem.boot_len (pa_cons (pv 1) pa_nil)) (pe_k c_MOST_BYTES rfl) (nomark _)) (pe_one (pe_callB (cr_all rfl) (by rfl) b_all (by decide +kernel) (pa_cons (pe_lc (own := [("byte", 2)]) (g := gName 2) (tt := tYes) rfl sc_is_value.nd (pi_tup (pv 1)) (blkOk_by (own := [("byte", 2)]) (N := N_is_value) (sc := defScope s_is_value) (by decide +kernel)) (fun _ _ _ _ _ => pg_name (i := 2) sc_is_value.nd rfl (Or.inl rfl)) (fun _ _ _ _ _ => pts_nil) (fun _ _ _ _ _ => (pe_chain op_le op_le pe_int (pv 2) pe_int))) pa_nil))))))), ?_⟩
    refine ⟨_, rfl, rfl, _, rfl, ifE (fun e => ?_) (fun e => ?_)⟩
    · obtain ⟨_, z, rfl, q⟩ | ⟨n, _⟩ := q
      · refine ⟨_, rfl, _, _, rfl, rfl, _, rfl, ifD (fun h => ?_) (fun h => ?_)⟩
        · refine ⟨_, _, rfl, rfl, ?_⟩
          have e : Pg.inRange z = decide (z ≤ 9223372036854775807) := by
            unfold Pg.inRange
            rw [decide_eq_true (show -(2 ^ 63 : Int) ≤ z from h), Bool.true_and]
            exact decide_eq_decide.mpr ⟨fun h => by omega, fun h => by omega⟩
          rw [e] at q
          exact q
        · have e : Pg.inRange z = false := by
            unfold Pg.inRange
            rw [decide_eq_false (show ¬ -(2 ^ 63 : Int) ≤ z from h), Bool.false_and]
          rw [e] at q
          exact q
      · exact absurd e n
    · obtain ⟨n, _⟩ | ⟨_, a, ns, rfl, hS, hl, q⟩ := q
      · exact absurd n e
      · refine ⟨_, rfl, a, _, rfl, .inr hS, _, _, rfl, rfl, _, rfl, ifD (fun h => ?_) (fun h => ?_)⟩
        · rw [List.length_map] at h
          have h40 : ns.length ≤ 40 := by omega
          refine ⟨_, rfl, a, rfl, ⟨_, hS⟩, fun D nD => ?_⟩
          refine lc_tup (K := K) (a := a) (xs := ns.map V.int) (fun i H' => Same H H' ∧ H' D = some (.lst (((ns.take i).map PfM.byteOk).map V.bl))) ⟨nw nD, upd_same⟩ (fun i H' _ p => sT p.1 hS) ?_ ?_
          · rintro i x H' hx ⟨sm, hD⟩
            obtain ⟨c, hc, rfl⟩ := ints_get hx
            refine ⟨rfl, ?_⟩
            have fin : ∀ b : Bool, b = PfM.byteOk c → ∃ acc, H' D = some (.lst acc) ∧ acc.length < sizeLine ∧ Same H (upd H' D (.lst (acc ++ [V.bl b]))) ∧ (upd H' D (.lst (acc ++ [V.bl b]))) D = some (.lst (((ns.take (i + 1)).map PfM.byteOk).map V.bl)) := by
              rintro b rfl
              refine ⟨_, hD, ?_, mt sm nD, ?_⟩
              · rw [List.length_map, List.length_map, List.length_take]
                exact szl (by omega)
              · rw [upd_same, take_more hc, List.map_append, List.map_append]
                rfl
            refine ⟨_, rfl, _, _, rfl, rfl, _, rfl, ifD (fun h0 => ?_) (fun h0 => ?_)⟩
            · refine ⟨_, _, rfl, rfl, fin _ ?_⟩
              have h0' : 0 ≤ c := h0
              unfold PfM.byteOk
              rw [decide_eq_true h0', Bool.true_and]
              exact decide_eq_decide.mpr ⟨fun h => by omega, fun h => by omega⟩
            · refine fin _ ?_
              have h0' : ¬ 0 ≤ c := h0
              unfold PfM.byteOk
              rw [decide_eq_false h0', Bool.false_and]
          · rintro H' ⟨sm, hD⟩
            rw [List.length_map, List.take_length] at hD
            refine ⟨D, _, rfl, SqL.of hD, ?_⟩
            have := q H' sm
            rw [decide_eq_true h40, Bool.true_and] at this
            have e : (ns.map PfM.byteOk).all id = ns.all PfM.byteOk := by rw [List.all_map]; rfl
            rw [e]
            exact this
        · rw [List.length_map] at h
          have := q H (Same.refl H)
          rw [decide_eq_false (show ¬ ns.length ≤ 40 by omega), Bool.false_and] at this
          exact this
/-! ## value_told -/
abbrev s_value_told : Stmt := topS 9
abbrev N_value_told : List Str := ["kind", "value"]
theorem sc_value_told : FnScope N_value_told ["kind", "value"] (defScope s_value_told) := ⟨rfl, rfl, rfl, by decide +kernel, rfl, by decide +kernel, by decide +kernel⟩
def sp_value_told (K : PySem.W.Frag) : Sp := fun vs H Q _ => ∃ (k : Nat) (x : V) (v : Pg.Val), vs = [.int (k : Int), x] ∧ VA H x v ∧ v.is k = true ∧
  ∀ H' p, Same H H' → H p = none → H' p = some (.lst ((Pg.written v).map V.int)) → Q (.ref p) H'
theorem ok_value_told {P : Program} {w : World} {K : PySem.W.Frag} {mg : Str → Option Value} {base : Heap} {f : Addr} {fd : FuncData} (F : Fun K "value_told" "value_told" s_value_told f fd) (b_len : mg "len" = none) (b_list : mg "list" = none) (c_NUMBERS : Kst mg "NUMBERS" (.int 0)) : FnOk P w K mg base CX0 1 f fd ["kind", "value"] (sp_value_told K) := by
  refine F.ok sc_value_told (fun vs H Q E h => ?_) (fun cdv A outer s H vs Q E hr h => ?_)
  · obtain ⟨k, x, v, rfl, hv, hi, q⟩ := h
    rfl
  · have hu := hu_of hr
    obtain ⟨k, x, v, rfl, hv, hi, q⟩ := h
    refine ⟨_, (pss_cons (ps_if (pt_cmpR op_eq (pv 0) (pe_k c_NUMBERS rfl) (nomark _))
              (pss_one (ps_ret (pe_lst (pa_cons (pv 1) pa_nil))))
              pss_nil)
              (pss_one (ps_ret (pe_op op_cat (pe_lst (pa_cons (pe_callB call_len_seq (by rfl) b_len PySem.boot_len (pa_cons (pv 1) pa_nil)) pa_nil)) (pe_callTy call_list_of (by rfl) b_list (by decide +kernel) (pa_cons (pv 1) pa_nil)))))), ?_⟩
    cases v with
    | num z =>
      obtain ⟨rfl, _⟩ := is_num hi
      cases hv
      refine ⟨_, rfl, rfl, _, rfl, ifE (fun _ => ?_) (fun z => absurd rfl z)⟩
      refine ⟨_, rfl, sz (by show 1 ≤ 1000000; decide), fun p np => ?_⟩
      exact q _ p (nw np) np upd_same
    | str b =>
      obtain ⟨rfl, hl, _⟩ := is_str hi
      obtain ⟨a, rfl, ha⟩ := hv
      refine ⟨_, rfl, rfl, _, rfl, ifE (fun z => absurd z (by decide)) (fun _ => ?_)⟩
      refine ⟨_, rfl, a, _, rfl, .inr (SqT.of ha), sz (by show 1 ≤ 1000000; decide), fun p np => ?_⟩
      refine ⟨_, rfl, a, _, rfl, .inr (SqT.of (nw np _ _ ha)), fun l nl => ?_⟩
      have hp : upd (upd H p (.lst [V.int ((nb b).length : Int)])) l (.lst (nb b)) p = some (.lst [V.int ((nb b).length : Int)]) := nw nl _ _ upd_same
      refine ⟨p, l, _, _, rfl, rfl, hp, upd_same, ?_, fun r nr => ?_⟩
      · rw [nb_len]
        exact sz (by show 1 + b.length ≤ 1000000; omega)
      refine q _ r (((nw np).trans (nw nl)).trans (nw nr)) (((nw np).trans (nw nl)).free nr) ?_
      rw [upd_same]
      show some (HO.lst ([V.int ((nb b).length : Int)] ++ nb b)) = some (HO.lst (V.int (b.length : Int) :: (Pg.ints b).map V.int))
      rw [nb_len, nb_ints]
      rfl
/-! ## cell_told -/
abbrev s_cell_told : Stmt := topS 11
abbrev N_cell_told : List Str := ["kind", "cell"]
theorem sc_cell_told : FnScope N_cell_told ["kind", "cell"] (defScope s_cell_told) := ⟨rfl, rfl, rfl, by decide +kernel, rfl, by decide +kernel, by decide +kernel⟩
def sp_cell_told (K : PySem.W.Frag) : Sp := fun vs H Q _ => ∃ (k : Nat) (x : V) (c : Pg.Cell), vs = [.int (k : Int), x] ∧ CA H x c ∧ Pg.cellIs k c = true ∧
  ∀ H' p, Same H H' → H p = none → H' p = some (.lst ((Pg.cellList c).map V.int)) → Q (.ref p) H'
theorem ok_cell_told {P : Program} {w : World} {K : PySem.W.Frag} {mg : Str → Option Value} {base : Heap} {f : Addr} {fd : FuncData} (F : Fun K "cell_told" "cell_told" s_cell_told f fd) (h_value_told : Ok P w K mg base 1 "value_told" ["kind", "value"] (sp_value_told K)) : FnOk P w K mg base CX0 2 f fd ["kind", "cell"] (sp_cell_told K) := by
  refine F.ok sc_cell_told (fun vs H Q E h => ?_) (fun cdv A outer s H vs Q E hr h => ?_)
  · obtain ⟨k, x, c, rfl, hv, hi, q⟩ := h
    rfl
  · have hu := hu_of hr
    obtain ⟨k, x, c, rfl, hv, hi, q⟩ := h
    refine ⟨_, (pss_cons (ps_if (pt_cmpR op_isN (pv 1) pe_non (nomark _))
              (pss_one (ps_ret (pe_lst (pa_cons pe_int pa_nil))))
              pss_nil)
              (pss_one (ps_ret (pe_op op_cat (pe_lst (pa_cons pe_int pa_nil)) (pe_fn h_value_told (hr.mono (by decide)) (by rfl) (pa_cons (pv 0) (pa_cons (pv 1) pa_nil))))))), ?_⟩
    cases c with
    | none =>
      cases hv
      refine ⟨_, rfl, rfl, _, rfl, iteT ?_⟩
      refine ⟨sz (by show 1 ≤ 1000000; decide), fun p np => ?_⟩
      exact q _ p (nw np) np upd_same
    | some v =>
      have hn : x ≠ .non := VA.ne_non hv
      refine ⟨_, rfl, rfl, _, rfl, ?_⟩
      rw [decide_eq_false hn]
      refine iteF ?_
      refine ⟨sz (by show 1 ≤ 1000000; decide), fun p np => ?_⟩
      refine ⟨_, rfl, _, rfl, k, x, v, rfl, VA.mono (nw np) hv, hi, fun H1 l s1 nl hl => ?_⟩
      have hp : H1 p = some (.lst [V.int 1]) := s1 _ _ upd_same
      have hw : (Pg.written v).length ≤ 41 := by
        rw [PfM.written_len]
        cases v with
        | num z => show 1 ≤ 41; decide
        | str b =>
          have := (is_str hi).2.1
          show b.length + 1 ≤ 41
          omega
      refine ⟨p, l, _, _, rfl, rfl, hp, hl, ?_, fun r nr => ?_⟩
      · rw [List.length_map]
        exact sz (by show 1 + (Pg.written v).length ≤ 1000000; omega)
      refine q _ r (((nw np).trans s1).trans (nw nr)) (((nw np).trans s1).free nr) ?_
      rw [upd_same]
      rfl
/-! ## values_among -/
abbrev s_values_among : Stmt := topS 10
abbrev N_values_among : List Str := ["cells", "cell"]
theorem sc_values_among : FnScope N_values_among ["cells"] (defScope s_values_among) := ⟨rfl, rfl, rfl, by decide +kernel, rfl, by decide +kernel, by decide +kernel⟩
def sp_values_among (K : PySem.W.Frag) : Sp := fun vs H Q _ => ∃ (a : Addr) (xs : List V) (cs : List Pg.Cell), vs = [.ref a] ∧ SqL K H a xs ∧ CsA H xs cs ∧ cs.length ≤ 3000 ∧
  ∀ H' D ys, Same H H' → H D = none → H' D = some (.lst ys) → VsA H' ys (Pg.valuesOf cs) → Q (.ref D) H'
theorem ok_values_among {P : Program} {w : World} {K : PySem.W.Frag} {mg : Str → Option Value} {base : Heap} {f : Addr} {fd : FuncData} (F : Fun K "values_among" "values_among" s_values_among f fd)  : FnOk P w K mg base CX0 1 f fd ["cells"] (sp_values_among K) := by
  refine F.ok sc_values_among (fun vs H Q E h => ?_) (fun cdv A outer s H vs Q E hr h => ?_)
  · obtain ⟨a, xs, cs, rfl, hS, hc, hl, q⟩ := h
    rfl
  · have hu := hu_of hr
    obtain ⟨a, xs, cs, rfl, hS, hc, hl, q⟩ := h
    refine ⟨_, (pss_one (ps_ret (pe_lc (own := [("cell", 1)]) (g := gName 1) rfl sc_values_among.nd (pi_list (pv 0)) (blkOk_by (own := [("cell", 1)]) (N := N_values_among) (sc := defScope s_values_among) (by decide +kernel)) (fun _ _ _ _ _ => pg_name (i := 1) sc_values_among.nd rfl (Or.inl rfl)) (fun _ _ _ _ _ => (pts_one (pt_cmpR op_notN (pv 1) pe_non (nomark _)))) (fun _ _ _ _ _ => (pv 1))))), ?_⟩
    have hxl : xs.length = cs.length := hc.length
    refine ⟨_, rfl, a, rfl, ⟨_, hS⟩, fun D nD => ?_⟩
    refine lc_list (K := K) (a := a) (xs := xs) (fun i H' => Same H H' ∧ ∃ ys, H' D = some (.lst ys) ∧ VsA H' ys (Pg.valuesOf (cs.take i))) ⟨nw nD, [], upd_same, .nil⟩ (fun i H' _ h => h.1.seq hS) ?_ ?_
    · rintro i x H1 hx ⟨s1, ys, hD, hy⟩
      obtain ⟨c, hci, hxc⟩ := pgl hc hx
      refine ⟨rfl, ?_⟩
      refine ⟨_, rfl, rfl, _, rfl, ?_⟩
      have vm := PfM.vals_more hci
      cases c with
      | none =>
        cases hxc
        refine iteF ⟨s1, ys, hD, ?_⟩
        rw [vm]
        show VsA H1 ys (Pg.valuesOf (cs.take i) ++ [])
        rw [List.append_nil]
        exact hy
      | some v =>
        rw [decide_eq_false (VA.ne_non hxc)]
        have hyl := hy.length
        have hle : (Pg.valuesOf (cs.take i)).length ≤ (cs.take i).length := PfM.vals_len _
        rw [List.length_take] at hle
        have kp : ∀ (z : V) (e : Pg.Val), VA H1 z e → VA (upd H1 D (.lst (ys ++ [x]))) z e := by
          intro z e h
          cases e with
          | num _ => exact h
          | str b =>
            obtain ⟨t, rfl, ht⟩ := h
            refine ⟨t, rfl, ?_⟩
            rw [upd_ne (fun e2 => by rw [e2, hD] at ht; cases ht)]
            exact ht
        refine iteT ⟨_, rfl, _, hD, szl (by omega), mt s1 nD, ys ++ [x], upd_same, ?_⟩
        rw [vm]
        exact (L2.Paired.mapP hy kp).snoc (kp x v (VA.mono s1 hxc))
    · rintro H1 ⟨s1, ys, hD, hy⟩
      rw [hxl, List.take_length] at hy
      exact q H1 D ys s1 nD hD hy
/-! ## packed_bytes -/
abbrev s_packed_bytes : Stmt := topS 20
abbrev N_packed_bytes : List Str := ["q", "numbers", "together", "number"]
theorem sc_packed_bytes : FnScope N_packed_bytes ["q", "numbers"] (defScope s_packed_bytes) := ⟨rfl, rfl, rfl, by decide +kernel, rfl, by decide +kernel, by decide +kernel⟩
def sp_packed_bytes (K : PySem.W.Frag) : Sp := fun vs H Q _ => ∃ (m : Nat) (a : Addr) (l : List Nat), vs = [.int (m : Int), .ref a] ∧ SqL K H a (nb l) ∧ m ≤ 300 ∧ l.length ≤ 1000 ∧ PfM.fits m l ∧
  ∀ H' p, Same H H' → H p = none → H' p = some (.lst (nb (Pg.packed m l))) → Q (.ref p) H'
theorem ok_packed_bytes {P : Program} {w : World} {K : PySem.W.Frag} {mg : Str → Option Value} {base : Heap} {f : Addr} {fd : FuncData} (F : Fun K "packed_bytes" "packed_bytes" s_packed_bytes f fd) (b_len : mg "len" = none) (b_reversed : mg "reversed" = none) (h_number_bytes : Ok P w K mg base 1 "number_bytes" ["number", "width"] (sp_number_bytes K)) (h_packed_width : Ok P w K mg base 1 "packed_width" ["q", "k"] (sp_packed_width K)) : FnOk P w K mg base CX0 2 f fd ["q", "numbers"] (sp_packed_bytes K) := by
  refine F.ok sc_packed_bytes (fun vs H Q E h => ?_) (fun cdv A outer s H vs Q E hr h => ?_)
  · obtain ⟨m, a, l, rfl, hS, hm, hl, hf, q⟩ := h
    rfl
  · have hu := hu_of hr
    obtain ⟨m, a, l, rfl, hS, hm, hl, hf, q⟩ := h
    refine ⟨_, (pss_cons (ps_set (i := 2) sc_packed_bytes.nd rfl (Or.inl rfl) pe_int)
              (pss_cons (ps_for PassesOwn.never rfl (pi_reversed (by rfl) b_reversed (pa_cons (pv 1) pa_nil)) (pg_name (i := 3) sc_packed_bytes.nd rfl (.inl rfl))
              (pss_one (ps_set (i := 2) sc_packed_bytes.nd rfl (Or.inl rfl) (pe_op op_add (pe_op op_shlN (pv 2) (pv 0)) (pv 3)))))
              (pss_one (ps_ret (pe_fn h_number_bytes (hr.mono (by decide)) (by rfl) (pa_cons (pv 2) (pa_cons (pe_fn h_packed_width (hr.mono (by decide)) (by rfl) (pa_cons (pv 0) (pa_cons (pe_callB call_len_seq (by rfl) b_len PySem.boot_len (pa_cons (pv 1) pa_nil)) pa_nil))) pa_nil))))))), ?_⟩
    refine ⟨_, rfl, a, _, rfl, hS, ?_⟩
    have hn : (nb l).length = l.length := nb_len l
    refine for_it walk_rev (fun i σ H' => ∃ v, σ = [some (.int (m : Int)), some (.ref a), some (.int ((Pg.together m (l.drop (l.length - i)) : Nat) : Int)), v] ∧ H' = H) ⟨none, ?_, rfl⟩ ?_ ?_ ?_
    · rw [Nat.sub_zero, List.drop_length]
      rfl
    · rintro i σ H1 _ ⟨v, rfl, rfl⟩
      exact hS
    · rintro i x σ H1 H2 hi ⟨v, rfl, rfl⟩ ⟨rfl, hx⟩
      obtain ⟨c, hc, rfl⟩ := nb_get hx
      rw [hn] at hi hc
      have hcl : c < 2 ^ m := hf c (List.mem_of_getElem? hc)
      have hd : l.drop (l.length - (i + 1)) = c :: l.drop (l.length - i) := by
        have h1 : l.length - 1 - i < l.length := by omega
        have e := (List.getElem?_eq_some_iff.mp hc).2
        rw [show l.length - (i + 1) = l.length - 1 - i by omega, List.drop_eq_getElem_cons h1, e]
        rw [show l.length - 1 - i + 1 = l.length - i by omega]
      have hlt : Pg.together m (l.drop (l.length - i)) < 2 ^ (m * (l.drop (l.length - i)).length) := PfM.together_lt
      have hle : m * (l.drop (l.length - i)).length ≤ 300 * 1000 := Nat.mul_le_mul hm (by rw [List.length_drop]; omega)
      refine ⟨_, rfl, _, rfl, _, m, rfl, rfl, shl_ok (n := 300000) (Nat.lt_of_lt_of_le hlt (Nat.pow_le_pow_right (by decide) hle)) (by omega), _, rfl, _, _, rfl, rfl, ?_⟩
      refine ⟨some (.int (c : Int)), ?_, rfl⟩
      rw [hd, PfM.together_cons hcl, Int.natCast_add, Int.natCast_mul, cpow]
      rfl
    · rintro σ H1 ⟨v, rfl, rfl⟩
      rw [hn, Nat.sub_self, List.drop_zero]
      refine ⟨_, rfl, _, rfl, _, rfl, a, _, rfl, .inl hS, m, l.length, ?_, by omega, ?_⟩
      · rw [hn]
        rfl
      refine ⟨_, Pg.packedLong m l.length, rfl, ?_, fun H' p s np hp => q H' p s np ?_⟩
      · unfold Pg.packedLong
        have : l.length * m ≤ 1000 * 300 := Nat.mul_le_mul hl hm
        omega
      · rw [hp, PfM.wide_nat]
        rfl
/-! ## check_number -/
abbrev s_check_number : Stmt := topS 22
abbrev N_check_number : List Str := ["c", "the_bytes", "state", "byte"]
theorem sc_check_number : FnScope N_check_number ["c", "the_bytes"] (defScope s_check_number) := ⟨rfl, rfl, rfl, by decide +kernel, rfl, by decide +kernel, by decide +kernel⟩
def sp_check_number (K : PySem.W.Frag) : Sp := fun vs H Q _ => ∃ (c : Nat) (a : Addr) (l : List Nat), vs = [.int (c : Int), .ref a] ∧ SqL K H a (nb l) ∧ Q (.int (Pg.check c l : Nat)) H
theorem ok_check_number {P : Program} {w : World} {K : PySem.W.Frag} {mg : Str → Option Value} {base : Heap} {f : Addr} {fd : FuncData} (F : Fun K "check_number" "check_number" s_check_number f fd) (c_ALL_ONES : Kst mg "ALL_ONES" (.int 4294967295)) {a_CHECK_STEPS : Addr} (c_CHECK_STEPS : Kst mg "CHECK_STEPS" (.ref a_CHECK_STEPS)) (w_CHECK_STEPS : ∀ H, SqT K H a_CHECK_STEPS (nb [0, 274646895, 549293790, 820201905, 1098587580, 1361435347, 1640403810, 1905808397, 2197175160, 2460548119, 2722870694, 2987750089, 3280807620, 3553878443, 3811616794, 4084100981])) : FnOk P w K mg base CX0 1 f fd ["c", "the_bytes"] (sp_check_number K) := by
  refine F.ok sc_check_number (fun vs H Q E h => ?_) (fun cdv A outer s H vs Q E hr h => ?_)
  · obtain ⟨c0, a, l, rfl, hS, q⟩ := h
    rfl
  · have hu := hu_of hr
    obtain ⟨c0, a, l, rfl, hS, q⟩ := h
    refine ⟨_, (pss_cons (ps_set (i := 2) sc_check_number.nd rfl (Or.inl rfl) (pe_op op_xorN (pv 0) (pe_k c_ALL_ONES rfl)))
              (pss_cons (ps_for PassesOwn.never rfl (pi_list (pv 1)) (pg_name (i := 3) sc_check_number.nd rfl (.inl rfl))
              (pss_cons (ps_set (i := 2) sc_check_number.nd rfl (Or.inl rfl) (pe_op op_xorN (pv 2) (pv 3)))
              (pss_cons (ps_set (i := 2) sc_check_number.nd rfl (Or.inl rfl) (pe_op op_xorN (pe_op op_shrNN (pv 2) pe_int) (pe_ix ix_tup (pe_k c_CHECK_STEPS rfl) (pe_op op_mod (pv 2) pe_int) (fun _ _ => rfl))))
              (pss_one (ps_set (i := 2) sc_check_number.nd rfl (Or.inl rfl) (pe_op op_xorN (pe_op op_shrNN (pv 2) pe_int) (pe_ix ix_tup (pe_k c_CHECK_STEPS rfl) (pe_op op_mod (pv 2) pe_int) (fun _ _ => rfl))))))))
              (pss_one (ps_ret (pe_op op_xorN (pv 2) (pe_k c_ALL_ONES rfl)))))), ?_⟩
    have hn : (nb l).length = l.length := nb_len l
    have item : ∀ x : Nat, atI (nb PfM.steps) ((x : Int) % 16) = some (.int ((PfM.steps.getD (x % 16) 0 : Nat) : Int)) := by
      intro x
      have e : (x : Int) % 16 = ((x % 16 : Nat) : Int) := rfl
      have h : x % 16 < PfM.steps.length := Nat.mod_lt _ (by decide)
      rw [e]
      refine atI_nat ?_
      unfold nb
      rw [List.getElem?_map, List.getElem?_eq_getElem h, List.getD_eq_getElem?_getD, List.getElem?_eq_getElem h]
      rfl
    refine ⟨_, rfl, c0, 0xFFFFFFFF, rfl, rfl, _, rfl, a, rfl, ⟨_, hS⟩, for_list (K := K) (a := a) (xs := nb l) (fun i σ H' => ∃ v, σ = [some (.int (c0 : Int)), some (.ref a), some (.int ((PfM.crc (c0 ^^^ 0xFFFFFFFF) (l.take i) : Nat) : Int)), v] ∧ H' = H) ⟨none, rfl, rfl⟩ (fun i σ H' _ ⟨_, _, e⟩ => by rw [e]; exact hS) ?_ ?_⟩
    · rintro i x σ H' hx ⟨v, rfl, rfl⟩
      obtain ⟨c, hc, rfl⟩ := nb_get hx
      refine ⟨_, rfl, _, rfl, _, _, rfl, rfl, ?_⟩
      refine ⟨_, rfl, _, 4, rfl, rfl, _, rfl, _, _, rfl, rfl, (by show (0 : Int) < 16; decide), _, _, _, _, rfl, rfl, w_CHECK_STEPS _, item _, _, _, rfl, rfl, ?_⟩
      refine ⟨_, rfl, _, 4, rfl, rfl, _, rfl, _, _, rfl, rfl, (by show (0 : Int) < 16; decide), _, _, _, _, rfl, rfl, w_CHECK_STEPS _, item _, _, _, rfl, rfl, ?_⟩
      refine ⟨some (.int (c : Int)), ?_, rfl⟩
      rw [take_more hc, PfM.crc_more, PfM.byteOn_eq, PfM.nib_eq (PfM.nib _), PfM.nib_eq]
      rfl
    · rintro σ H' ⟨v, rfl, rfl⟩
      rw [hn, List.take_length]
      refine ⟨_, rfl, _, 0xFFFFFFFF, rfl, rfl, ?_⟩
      exact q
/-! ## check_bytes -/
abbrev s_check_bytes : Stmt := topS 23
abbrev N_check_bytes : List Str := ["the_bytes"]
theorem sc_check_bytes : FnScope N_check_bytes ["the_bytes"] (defScope s_check_bytes) := ⟨rfl, rfl, rfl, by decide +kernel, rfl, by decide +kernel, by decide +kernel⟩
def sp_check_bytes (K : PySem.W.Frag) : Sp := fun vs H Q _ => ∃ (a : Addr) (l : List Nat), vs = [.ref a] ∧ SqL K H a (nb l) ∧ ∀ H' p, Same H H' → H p = none → H' p = some (.lst (nb (Pg.le 4 (Pg.check 0 l)))) → Q (.ref p) H'
theorem ok_check_bytes {P : Program} {w : World} {K : PySem.W.Frag} {mg : Str → Option Value} {base : Heap} {f : Addr} {fd : FuncData} (F : Fun K "check_bytes" "check_bytes" s_check_bytes f fd) (h_number_bytes : Ok P w K mg base 1 "number_bytes" ["number", "width"] (sp_number_bytes K)) (h_check_number : Ok P w K mg base 1 "check_number" ["c", "the_bytes"] (sp_check_number K)) : FnOk P w K mg base CX0 2 f fd ["the_bytes"] (sp_check_bytes K) := by
  refine F.ok sc_check_bytes (fun vs H Q E h => ?_) (fun cdv A outer s H vs Q E hr h => ?_)
  · obtain ⟨a, l, rfl, hS, q⟩ := h
    rfl
  · have hu := hu_of hr
    obtain ⟨a, l, rfl, hS, q⟩ := h
    refine ⟨_, (pss_one (ps_ret (pe_fn h_number_bytes (hr.mono (by decide)) (by rfl) (pa_cons (pe_fn h_check_number (hr.mono (by decide)) (by rfl) (pa_cons pe_int (pa_cons (pv 0) pa_nil))) (pa_cons pe_int pa_nil))))), ?_⟩
    refine ⟨_, rfl, 0, a, l, rfl, hS, _, 4, rfl, by decide, fun H' p s np hp => q H' p s np ?_⟩
    rw [hp, PfM.wide_nat]
/-! ## value_bytes -/
abbrev s_value_bytes : Stmt := topS 25
abbrev N_value_bytes : List Str := ["kind", "value"]
theorem sc_value_bytes : FnScope N_value_bytes ["kind", "value"] (defScope s_value_bytes) := ⟨rfl, rfl, rfl, by decide +kernel, rfl, by decide +kernel, by decide +kernel⟩
def sp_value_bytes (K : PySem.W.Frag) : Sp := fun vs H Q _ => ∃ (k : Nat) (x : V) (v : Pg.Val), vs = [.int (k : Int), x] ∧ VA H x v ∧ Kd k v ∧
  ∀ H' p, Same H H' → H p = none → H' p = some (.lst (nb (Pg.raw v))) → Q (.ref p) H'
theorem ok_value_bytes {P : Program} {w : World} {K : PySem.W.Frag} {mg : Str → Option Value} {base : Heap} {f : Addr} {fd : FuncData} (F : Fun K "value_bytes" "value_bytes" s_value_bytes f fd) (b_list : mg "list" = none) (c_NUMBERS : Kst mg "NUMBERS" (.int 0)) (h_number_bytes : Ok P w K mg base 1 "number_bytes" ["number", "width"] (sp_number_bytes K)) : FnOk P w K mg base CX0 2 f fd ["kind", "value"] (sp_value_bytes K) := by
  refine F.ok sc_value_bytes (fun vs H Q E h => ?_) (fun cdv A outer s H vs Q E hr h => ?_)
  · obtain ⟨k, x, v, rfl, hv, hi, q⟩ := h
    rfl
  · have hu := hu_of hr
    obtain ⟨k, x, v, rfl, hv, hi, q⟩ := h
    refine ⟨_, (pss_cons (ps_if (pt_cmpR op_eq (pv 0) (pe_k c_NUMBERS rfl) (nomark _))
              (pss_one (ps_ret (pe_fn h_number_bytes (hr.mono (by decide)) (by rfl) (pa_cons (pv 1) (pa_cons pe_int pa_nil)))))
              pss_nil)
              (pss_one (ps_ret (pe_callTy call_list_of (by rfl) b_list (by decide +kernel) (pa_cons (pv 1) pa_nil))))), ?_⟩
    cases v with
    | num z =>
      have hk : k = 0 := hi
      subst hk
      cases hv
      refine ⟨_, rfl, rfl, _, rfl, ifE (fun _ => ?_) (fun z => absurd rfl z)⟩
      exact ⟨_, rfl, z, 8, rfl, by decide, q⟩
    | str b =>
      obtain ⟨hk, hl⟩ := hi
      subst hk
      obtain ⟨a, rfl, ha⟩ := hv
      refine ⟨_, rfl, rfl, _, rfl, ifE (fun z => absurd z (by decide)) (fun _ => ?_)⟩
      exact ⟨_, rfl, a, _, rfl, .inr (SqT.of ha), fun l nl => q _ l (nw nl) nl upd_same⟩
/-! ## alone_bytes -/
abbrev s_alone_bytes : Stmt := topS 26
abbrev N_alone_bytes : List Str := ["kind", "value"]
theorem sc_alone_bytes : FnScope N_alone_bytes ["kind", "value"] (defScope s_alone_bytes) := ⟨rfl, rfl, rfl, by decide +kernel, rfl, by decide +kernel, by decide +kernel⟩
def sp_alone_bytes (K : PySem.W.Frag) : Sp := fun vs H Q _ => ∃ (k : Nat) (x : V) (v : Pg.Val), vs = [.int (k : Int), x] ∧ VA H x v ∧ Kd k v ∧
  ∀ H' p, Same H H' → H p = none → H' p = some (.lst (nb (Pg.alone v))) → Q (.ref p) H'
theorem ok_alone_bytes {P : Program} {w : World} {K : PySem.W.Frag} {mg : Str → Option Value} {base : Heap} {f : Addr} {fd : FuncData} (F : Fun K "alone_bytes" "alone_bytes" s_alone_bytes f fd) (b_len : mg "len" = none) (c_NUMBERS : Kst mg "NUMBERS" (.int 0)) (h_number_bytes : Ok P w K mg base 1 "number_bytes" ["number", "width"] (sp_number_bytes K)) (h_value_bytes : Ok P w K mg base 2 "value_bytes" ["kind", "value"] (sp_value_bytes K)) : FnOk P w K mg base CX0 3 f fd ["kind", "value"] (sp_alone_bytes K) := by
  refine F.ok sc_alone_bytes (fun vs H Q E h => ?_) (fun cdv A outer s H vs Q E hr h => ?_)
  · obtain ⟨k, x, v, rfl, hv, hi, q⟩ := h
    rfl
  · have hu := hu_of hr
    obtain ⟨k, x, v, rfl, hv, hi, q⟩ := h
    refine ⟨_, (pss_cons (ps_if (pt_cmpR op_eq (pv 0) (pe_k c_NUMBERS rfl) (nomark _))
              (pss_one (ps_ret (pe_fn h_value_bytes (hr.mono (by decide)) (by rfl) (pa_cons (pv 0) (pa_cons (pv 1) pa_nil)))))
              pss_nil)
              (pss_one (ps_ret (pe_op op_cat (pe_fn h_number_bytes (hr.mono (by decide)) (by rfl) (pa_cons (pe_callB call_len_seq (by rfl) b_len PySem.boot_len (pa_cons (pv 1) pa_nil)) (pa_cons pe_int pa_nil))) (pe_fn h_value_bytes (hr.mono (by decide)) (by rfl) (pa_cons (pv 0) (pa_cons (pv 1) pa_nil))))))), ?_⟩
    cases v with
    | num z =>
      have hk : k = 0 := hi
      subst hk
      cases hv
      refine ⟨_, rfl, rfl, _, rfl, ifE (fun _ => ?_) (fun z => absurd rfl z)⟩
      exact ⟨_, rfl, _, rfl, 0, _, .num z, rfl, rfl, rfl, q⟩
    | str b =>
      obtain ⟨hk, hl⟩ := hi
      subst hk
      obtain ⟨a, rfl, ha⟩ := hv
      refine ⟨_, rfl, rfl, _, rfl, ifE (fun z => absurd z (by decide)) (fun _ => ?_)⟩
      refine ⟨_, rfl, a, _, rfl, .inr (SqT.of ha), _, 4, rfl, by decide, fun H1 p s1 np hp => ?_⟩
      refine ⟨_, rfl, _, rfl, 1, _, .str b, rfl, ⟨a, rfl, s1 _ _ ha⟩, ⟨rfl, hl⟩, fun H2 r s2 nr hr2 => ?_⟩
      refine ⟨p, r, _, _, rfl, rfl, s2 _ _ hp, hr2, ?_, fun t nt => ?_⟩
      · rw [nb_len, nb_len (Pg.raw _), PfM.wide_len]
        exact sz (by show 4 + b.length ≤ 1000000; omega)
      refine q _ t ((s1.trans s2).trans (nw nt)) ((s1.trans s2).free nt) ?_
      rw [upd_same, ← nb_app, nb_len, PfM.wide_nat]
      rfl
/-! ## plain_bytes -/
abbrev s_plain_bytes : Stmt := topS 27
abbrev N_plain_bytes : List Str := ["kind", "values", "out", "value"]
theorem sc_plain_bytes : FnScope N_plain_bytes ["kind", "values"] (defScope s_plain_bytes) := ⟨rfl, rfl, rfl, by decide +kernel, rfl, by decide +kernel, by decide +kernel⟩
def sp_plain_bytes (K : PySem.W.Frag) : Sp := fun vs H Q _ => ∃ (k : Nat) (a : Addr) (xs : List V) (l : List Pg.Val), vs = [.int (k : Int), .ref a] ∧ SqL K H a xs ∧ VsA H xs l ∧ (∀ v ∈ l, Kd k v) ∧ k ≤ 1 ∧ l.length ≤ 100 ∧
  ∀ H' p, Same H H' → H p = none → H' p = some (.lst (nb (Pg.plain k l))) → Q (.ref p) H'
theorem ok_plain_bytes {P : Program} {w : World} {K : PySem.W.Frag} {mg : Str → Option Value} {base : Heap} {f : Addr} {fd : FuncData} (F : Fun K "plain_bytes" "plain_bytes" s_plain_bytes f fd) (b_len : mg "len" = none) (c_NUMBERS : Kst mg "NUMBERS" (.int 0)) (h_value_bytes : Ok P w K mg base 2 "value_bytes" ["kind", "value"] (sp_value_bytes K)) (h_number_bytes : Ok P w K mg base 1 "number_bytes" ["number", "width"] (sp_number_bytes K)) : FnOk P w K mg base CX0 3 f fd ["kind", "values"] (sp_plain_bytes K) := by
  refine F.ok sc_plain_bytes (fun vs H Q E h => ?_) (fun cdv A outer s H vs Q E hr h => ?_)
  · obtain ⟨k, a, xs, l, rfl, hS, hv, hi, hk, hl, q⟩ := h
    rfl
  · have hu := hu_of hr
    obtain ⟨k, a, xs, l, rfl, hS, hv, hi, hk, hl, q⟩ := h
    refine ⟨_, (pss_cons (ps_set (i := 2) sc_plain_bytes.nd rfl (Or.inl rfl) (pe_lst pa_nil))
              (pss_cons (ps_if (pt_cmpR op_ne (pv 0) (pe_k c_NUMBERS rfl) (nomark _))
              (pss_one (ps_for PassesOwn.never rfl (pi_list (pv 1)) (pg_name (i := 3) sc_plain_bytes.nd rfl (.inl rfl))
              (pss_one (ps_expr (pe_bm PySem.F.plainAttrs_list PySem.F.slot_list_extend PySem.F.type_list_extend mt_extend (pv 2) (pa_cons (pe_fn h_number_bytes (hr.mono (by decide)) (by rfl) (pa_cons (pe_callB call_len_seq (by rfl) b_len PySem.boot_len (pa_cons (pv 3) pa_nil)) (pa_cons pe_int pa_nil))) pa_nil))))))
              pss_nil)
              (pss_cons (ps_for PassesOwn.never rfl (pi_list (pv 1)) (pg_name (i := 3) sc_plain_bytes.nd rfl (.inl rfl))
              (pss_one (ps_expr (pe_bm PySem.F.plainAttrs_list PySem.F.slot_list_extend PySem.F.type_list_extend mt_extend (pv 2) (pa_cons (pe_fn h_value_bytes (hr.mono (by decide)) (by rfl) (pa_cons (pv 0) (pa_cons (pv 3) pa_nil))) pa_nil)))))
              (pss_one (ps_ret (pv 2)))))), ?_⟩
    have hxl : xs.length = l.length := hv.length
    have rl : ∀ i, ((l.take i).flatMap Pg.raw).length ≤ 3000000 := fun i => by
      have := PfM.flat_len (f := Pg.raw) (B := 30000) (l := l.take i) fun v h => kd_raw (hi v (List.mem_of_mem_take h))
      have h2 : (l.take i).length ≤ 100 := by rw [List.length_take]; omega
      omega
    have ll : ∀ i, ((l.take i).flatMap fun (v : Pg.Val) => Pg.le 4 (Pg.raw v).length).length ≤ 4000 := fun i => by
      have := PfM.flat_len (f := fun (v : Pg.Val) => Pg.le 4 (Pg.raw v).length) (B := 4) (l := l.take i) fun v h => by rw [PfM.le_len]; exact Nat.le_refl _
      have h2 : (l.take i).length ≤ 100 := by rw [List.length_take]; omega
      omega
    refine ⟨Nat.zero_le _, fun o no => ?_⟩
    -- the second loop
    have second : ∀ (pre : List Nat) (H1 : Hp) (y : Option V), pre.length ≤ 4000 → Same H H1 → H1 o = some (.lst (nb pre)) → Pg.plain k l = pre ++ l.flatMap Pg.raw →
        tSeq (tFor (iList K (tVar 1)) (gName 3) (tDrop (tBM K "list" rExtend (tVar 2) (tCons (tCall (sp_value_bytes K) [] E0 (tCons (tVar 0) (tCons (tVar 3) tNil))) tNil)))) (tRet (tVar 2)) { nx := fun _ H' => Q .non H', rt := Q } [some (.int (k : Int)), some (.ref a), some (.ref o), y] H1 := by
      intro pre H1 y hp s1 ho ep
      refine ⟨_, rfl, a, rfl, ⟨_, s1.seq hS⟩, for_list (K := K) (a := a) (xs := xs) (fun i σ H' => ∃ y, σ = [some (.int (k : Int)), some (.ref a), some (.ref o), y] ∧ Same H H' ∧ H' o = some (.lst (nb (pre ++ (l.take i).flatMap Pg.raw)))) ⟨y, rfl, s1, by rw [ho]; simp⟩ (fun i σ H' _ ⟨_, _, s2, _⟩ => s2.seq hS) ?_ ?_⟩
      · rintro i x σ H2 hx ⟨y2, rfl, s2, ho2⟩
        obtain ⟨v, hvi, hxv⟩ := pgl hv hx
        refine ⟨_, rfl, .inl ⟨rfl, _, SqL.of ho2⟩, _, rfl, _, rfl, k, x, v, rfl, hxv.mono s2, hi v (List.mem_of_getElem? hvi), fun H3 p s3 np hp3 => ?_⟩
        refine ⟨o, p, _, _, rfl, rfl, s3 _ _ ho2, hp3, ?_, ?_⟩
        · rw [nb_len, nb_len, List.length_append]
          have := rl i
          have := kd_raw (hi v (List.mem_of_getElem? hvi))
          exact sz16 (by omega)
        · refine ⟨some x, rfl, mt (s2.trans s3) no, ?_⟩
          rw [upd_same, PfM.flat_more hvi, ← nb_app, List.append_assoc]
      · rintro σ H2 ⟨y2, rfl, s2, ho2⟩
        refine ⟨_, rfl, q H2 o s2 no ?_⟩
        rw [ho2, ep, hxl, List.take_length]
    rcases (show k = 0 ∨ k = 1 by omega) with rfl | rfl
    · refine ⟨_, rfl, rfl, _, rfl, ifN (fun z => absurd rfl z) (fun _ => ?_)⟩
      exact second [] _ none (by decide) (nw no) upd_same rfl
    · refine ⟨_, rfl, rfl, _, rfl, ifN (fun _ => ?_) (fun z => absurd z (by decide))⟩
      refine ⟨_, rfl, a, rfl, ⟨_, (nw no).seq hS⟩, for_list (K := K) (a := a) (xs := xs) (fun i σ H' => ∃ y, σ = [some (.int ((1 : Nat) : Int)), some (.ref a), some (.ref o), y] ∧ Same H H' ∧ H' o = some (.lst (nb ((l.take i).flatMap fun (v : Pg.Val) => Pg.le 4 (Pg.raw v).length)))) ⟨none, rfl, nw no, upd_same⟩ (fun i σ H' _ ⟨_, _, s2, _⟩ => s2.seq hS) ?_ ?_⟩
      · rintro i x σ H2 hx ⟨y2, rfl, s2, ho2⟩
        obtain ⟨v, hvi, hxv⟩ := pgl hv hx
        have iv := hi v (List.mem_of_getElem? hvi)
        cases v with
        | num z => exact absurd (show 1 = 0 from iv) (by decide)
        | str b =>
          obtain ⟨t, rfl, ht⟩ := hxv
          refine ⟨_, rfl, .inl ⟨rfl, _, SqL.of ho2⟩, _, rfl, t, _, rfl, .inr (SqT.of (s2 _ _ ht)), _, 4, rfl, by decide, fun H3 p s3 np hp3 => ?_⟩
          refine ⟨o, p, _, _, rfl, rfl, s3 _ _ ho2, hp3, ?_, ?_⟩
          · rw [nb_len, nb_len, PfM.wide_len]
            have := ll i
            exact sz (by omega)
          · refine ⟨some (.ref t), rfl, mt (s2.trans s3) no, ?_⟩
            rw [upd_same, PfM.flat_more hvi, ← nb_app, nb_len, PfM.wide_nat]
            rfl
      · rintro σ H2 ⟨y2, rfl, s2, ho2⟩
        have e := ll l.length
        rw [hxl, List.take_length] at ho2
        rw [List.take_length] at e
        exact second _ H2 y2 e s2 ho2 rfl
/-! ## runs_in -/
abbrev s_runs_in : Stmt := topS 28
abbrev N_runs_in : List Str := ["values", "runs", "value"]
theorem sc_runs_in : FnScope N_runs_in ["values"] (defScope s_runs_in) := ⟨rfl, rfl, rfl, by decide +kernel, rfl, by decide +kernel, by decide +kernel⟩
def sp_runs_in (K : PySem.W.Frag) : Sp := fun vs H Q _ => ∃ (k : Nat) (a : Addr) (xs : List V) (l : List Pg.Val), vs = [.ref a] ∧ SqL K H a xs ∧ VsA H xs l ∧ (∀ v ∈ l, v.is k = true) ∧ l.length ≤ 1000 ∧
  ∀ H' p rs, Same H H' → H p = none → H' p = some (.lst rs) → RsA H' rs (Pg.runsOf l) → Q (.ref p) H'
theorem RA.keep {H : Hp} {D : Addr} {rs rs' : List V} (hD : H D = some (.lst rs)) {z : V} {e : Nat × Pg.Val} (h : RA H z e) : RA (upd H D (.lst rs')) z e := by
  obtain ⟨t, y, rfl, h1, h2⟩ := h
  refine ⟨t, y, rfl, ?_, ?_⟩
  · rw [upd_ne (fun e => by rw [e, hD] at h1; cases h1)]
    exact h1
  · obtain ⟨m, v⟩ := e
    cases v with
    | num _ => exact h2
    | str b =>
      obtain ⟨u, rfl, hu⟩ := h2
      refine ⟨u, rfl, ?_⟩
      rw [upd_ne (fun e => by rw [e, hD] at hu; cases hu)]
      exact hu
theorem p_snoc {α β : Type} {F : α → β → Prop} : ∀ {l : List α} {m : List β} {b : β}, Paired F l (m ++ [b]) → ∃ l' a, l = l' ++ [a] ∧ Paired F l' m ∧ F a b
  | _, [], _, .cons h .nil => ⟨[], _, rfl, .nil, h⟩
  | _, _ :: _, _, .cons h r => by
    obtain ⟨l', a, e, p, f⟩ := p_snoc r
    exact ⟨_ :: l', a, by rw [e]; rfl, .cons h p, f⟩
theorem ok_runs_in {P : Program} {w : World} {K : PySem.W.Frag} {mg : Str → Option Value} {base : Heap} {f : Addr} {fd : FuncData} (F : Fun K "runs_in" "runs_in" s_runs_in f fd) (b_len : mg "len" = none) : FnOk P w K mg base CX0 1 f fd ["values"] (sp_runs_in K) := by
  refine F.ok sc_runs_in (fun vs H Q E h => ?_) (fun cdv A outer s H vs Q E hr h => ?_)
  · obtain ⟨k, a, xs, l, rfl, hS, hv, hi, hl, q⟩ := h
    rfl
  · have hu := hu_of hr
    obtain ⟨k, a, xs, l, rfl, hS, hv, hi, hl, q⟩ := h
    refine ⟨_, (pss_cons (ps_set (i := 1) sc_runs_in.nd rfl (Or.inl rfl) (pe_lst pa_nil))
              (pss_cons (ps_for PassesOwn.never rfl (pi_list (pv 0)) (pg_name (i := 2) sc_runs_in.nd rfl (.inl rfl))
              (pss_one (ps_if (PW.pt (pw_and (pt_cmpR op_gt (pe_callB call_len_seq (by rfl) b_len PySem.boot_len (pa_cons (pv 1) pa_nil)) pe_int (nomark _)) (pw_and1 (pt_cmpR (op_eqD hr.units) (pe_ix ix_tup (pe_ix ix_list (pv 1) (pe_un un_neg pe_int) (fun _ _ => rfl)) pe_int (fun _ _ => rfl)) (pv 2) (nomark _)))))
              (pss_one (ps_asg (pe_tup (pa_cons (pv 2) (pa_cons (pe_op op_add (pe_ix ix_tup (pe_ix ix_list (pv 1) (pe_un un_neg pe_int) (fun _ _ => rfl)) pe_int (fun _ _ => rfl)) pe_int) pa_nil))) (pg_sub (pv 1) (pe_un un_neg pe_int) set_list)))
              (pss_one (ps_expr (pe_bm PySem.F.plainAttrs_list PySem.F.slot_list_append PySem.F.type_list_append mt_append (pv 1) (pa_cons (pe_tup (pa_cons (pv 2) (pa_cons pe_int pa_nil))) pa_nil)))))))
              (pss_one (ps_ret (pv 1))))), ?_⟩
    have hxl : xs.length = l.length := hv.length
    refine ⟨Nat.zero_le _, fun D nD => ?_⟩
    refine ⟨_, rfl, a, rfl, ⟨_, (nw nD).seq hS⟩, for_list (K := K) (a := a) (xs := xs) (fun i σ H' => ∃ y rs, σ = [some (.ref a), some (.ref D), y] ∧ Same H H' ∧ H' D = some (.lst rs) ∧ RsA H' rs (Pg.runsOf (l.take i))) ⟨none, [], rfl, nw nD, upd_same, .nil⟩ (fun i σ H' _ ⟨_, _, _, s2, _⟩ => s2.seq hS) ?_ ?_⟩
    · rintro i x σ H1 hx ⟨y, rs, rfl, s1, hD, hrs⟩
      obtain ⟨v, hvi, hxv⟩ := pgl hv hx
      have iv := hi v (List.mem_of_getElem? hvi)
      have hx1 := hxv.mono s1
      have hrl : rs.length = (Pg.runsOf (l.take i)).length := hrs.length
      have hrm : (Pg.runsOf (l.take i)).length ≤ 1000 := by
        have := PfM.runs_len (l.take i)
        have h2 : (l.take i).length ≤ 1000 := by rw [List.length_take]; omega
        omega
      have er : Pg.runsOf (l.take (i + 1)) = PfM.bump v (Pg.runsOf (l.take i)) := by
        rw [take_more hvi, PfM.runsOf_snoc]
      -- append (value, 1)
      have app : ∀ (H2 : Hp), Same H1 H2 → PfM.bump v (Pg.runsOf (l.take i)) = Pg.runsOf (l.take i) ++ [(1, v)] → ∀ Dn : Ends, (∀ σ' H', (∃ y rs, σ' = [some (.ref a), some (.ref D), y] ∧ Same H H' ∧ H' D = some (.lst rs) ∧ RsA H' rs (Pg.runsOf (l.take (i + 1)))) → Dn.nx σ' H') →
          tDrop (tBM K "list" rAppend (tVar 1) (tCons (tTup (tCons (tVar 2) (tCons (tC (.int 1)) tNil))) tNil)) Dn [some (.ref a), some (.ref D), some x] H2 := by
        intro H2 s2 eb Dn hDn
        have hD2 := s2 _ _ hD
        refine ⟨_, rfl, .inl ⟨rfl, _, SqL.of hD2⟩, _, rfl, sz (by show 2 ≤ 1000000; decide), fun t nt => ?_⟩
        have hD3 : upd H2 t (.tup [x, .int 1]) D = some (.lst rs) := nw nt _ _ hD2
        refine ⟨D, _, _, rfl, rfl, hD3, szl (by omega), hDn _ _ ⟨some x, rs ++ [.ref t], rfl, mt ((s1.trans s2).trans (nw nt)) nD, upd_same, ?_⟩⟩
        rw [er, eb]
        refine (L2.Paired.mapP hrs fun z e h => RA.keep hD3 ((h.mono s2).mono (nw nt))).snoc ?_
        exact RA.keep hD3 ⟨t, x, rfl, upd_same, (hx1.mono s2).mono (nw nt)⟩
      refine ⟨_, rfl, D, _, rfl, .inl (SqL.of hD), _, _, rfl, rfl, _, rfl, ifD (fun h => ?_) (fun h => ?_)⟩
      · -- there is a run
        have hne : Pg.runsOf (l.take i) ≠ [] := fun e => by
          rw [e, List.length_nil] at hrl
          rw [hrl] at h
          exact absurd h (by decide)
        obtain ⟨pre, ⟨m, w⟩, ep⟩ : ∃ pre p, Pg.runsOf (l.take i) = pre ++ [p] := ⟨_, _, (List.dropLast_concat_getLast hne).symm⟩
        have hrs' := hrs
        rw [ep] at hrs'
        obtain ⟨rp, z, rfl, hrp, ⟨t, u, rfl, ht, hu'⟩⟩ := p_snoc hrs'
        have hmem : (m, w) ∈ Pg.runsOf (l.take i) := by rw [ep]; simp
        have iw : w.is k = true := hi w (List.mem_of_mem_take (PfM.runs_vals _ _ hmem).1)
        have gl : atI (rp ++ [V.ref t]) (-1) = some (.ref t) := atI_last _ _
        refine ⟨_, rfl, _, rfl, D, _, _, _, rfl, rfl, SqL.of hD, gl, t, _, 0, u, rfl, rfl, SqT.of ht, atI_nat (j := 0) rfl, _, rfl, dat w, dat v, dp_of hu', dp_of hx1, sh_dat iw, sh_dat iv, _, rfl, ?_⟩
        rw [eqv_dat iw iv]
        refine ifB (fun e => ?_) (fun e => ?_)
        · have ewv := PfM.same_iff.mp e
          subst ewv
          refine ⟨_, rfl, _, rfl, _, rfl, D, _, _, _, rfl, rfl, SqL.of hD, gl, t, _, 1, _, rfl, rfl, SqT.of ht, atI_nat (j := 1) rfl, _, _, rfl, rfl, sz (by show 2 ≤ 1000000; decide), fun t2 nt2 => ?_⟩
          have hD3 : upd H1 t2 (.tup [x, .int ((m : Int) + 1)]) D = some (.lst (rp ++ [V.ref t])) := nw nt2 _ _ hD
          have hix : ixN (rp ++ [V.ref t]).length (-1) = some rp.length := by
            unfold ixN
            rw [List.length_append, List.length_singleton, if_neg (by decide), if_pos (by omega)]
            congr 1
            omega
          refine ⟨_, rfl, _, rfl, D, _, _, rp.length, rfl, rfl, hD3, hix, some x, rp ++ [.ref t2], rfl, mt (s1.trans (nw nt2)) nD, ?_, ?_⟩
          · rw [upd_same]
            simp
          · rw [er, ep, PfM.bump_app, if_pos e]
            have hset : (rp ++ [V.ref t]).set rp.length (V.ref t2) = rp ++ [V.ref t2] := by simp
            rw [hset]
            refine (L2.Paired.mapP hrp fun z e h => RA.keep hD3 (h.mono (nw nt2))).snoc ?_
            exact RA.keep hD3 ⟨t2, x, rfl, by rw [upd_same, Int.natCast_add]; rfl, hx1.mono (nw nt2)⟩
        · refine app H1 (Same.refl _) ?_ _ (fun _ _ h => h)
          rw [ep, PfM.bump_app, if_neg (by rw [e]; exact Bool.false_ne_true)]
          simp
      · -- none yet
        have h0 : Pg.runsOf (l.take i) = [] := by
          cases e : Pg.runsOf (l.take i) with
          | nil => rfl
          | cons p s =>
            rw [e, List.length_cons] at hrl
            rw [hrl] at h
            exact absurd (by omega) h
        refine app H1 (Same.refl _) ?_ _ (fun _ _ h => h)
        rw [h0]
        rfl
    · rintro σ H1 ⟨y, rs, rfl, s1, hD, hrs⟩
      rw [hxl, List.take_length] at hrs
      exact ⟨_, rfl, q H1 D rs s1 nD hD hrs⟩
/-! ## runs_bytes -/
abbrev s_runs_bytes : Stmt := topS 29
abbrev N_runs_bytes : List Str := ["kind", "runs", "out", "run"]
theorem sc_runs_bytes : FnScope N_runs_bytes ["kind", "runs"] (defScope s_runs_bytes) := ⟨rfl, rfl, rfl, by decide +kernel, rfl, by decide +kernel, by decide +kernel⟩
def sp_runs_bytes (K : PySem.W.Frag) : Sp := fun vs H Q _ => ∃ (k : Nat) (a : Addr) (xs : List V) (rs : List (Nat × Pg.Val)), vs = [.int (k : Int), .ref a] ∧ SqL K H a xs ∧ RsA H xs rs ∧ (∀ r ∈ rs, r.2.is k = true) ∧ rs.length ≤ 1000 ∧
  ∀ H' p, Same H H' → H p = none → H' p = some (.lst (nb (Pg.le 4 rs.length ++ rs.flatMap fun (x : Nat × Pg.Val) => Pg.le 4 x.1 ++ Pg.alone x.2))) → Q (.ref p) H'
theorem alone_len {k : Nat} {v : Pg.Val} (h : v.is k = true) : (Pg.alone v).length ≤ 44 := by
  cases v with
  | num z =>
    show (Pg.wide 8 z).length ≤ 44
    rw [PfM.wide_len]
    decide
  | str b =>
    have := (is_str h).2.1
    show (Pg.le 4 b.length ++ b).length ≤ 44
    rw [List.length_append, PfM.le_len]
    omega
theorem ok_runs_bytes {P : Program} {w : World} {K : PySem.W.Frag} {mg : Str → Option Value} {base : Heap} {f : Addr} {fd : FuncData} (F : Fun K "runs_bytes" "runs_bytes" s_runs_bytes f fd) (b_len : mg "len" = none) (h_alone_bytes : Ok P w K mg base 3 "alone_bytes" ["kind", "value"] (sp_alone_bytes K)) (h_number_bytes : Ok P w K mg base 1 "number_bytes" ["number", "width"] (sp_number_bytes K)) : FnOk P w K mg base CX0 4 f fd ["kind", "runs"] (sp_runs_bytes K) := by
  refine F.ok sc_runs_bytes (fun vs H Q E h => ?_) (fun cdv A outer s H vs Q E hr h => ?_)
  · obtain ⟨k, a, xs, rs, rfl, hS, hv, hi, hl, q⟩ := h
    rfl
  · have hu := hu_of hr
    obtain ⟨k, a, xs, rs, rfl, hS, hv, hi, hl, q⟩ := h
    refine ⟨_, (pss_cons (ps_set (i := 2) sc_runs_bytes.nd rfl (Or.inl rfl) (pe_fn h_number_bytes (hr.mono (by decide)) (by rfl) (pa_cons (pe_callB call_len_seq (by rfl) b_len PySem.boot_len (pa_cons (pv 1) pa_nil)) (pa_cons pe_int pa_nil))))
              (pss_cons (ps_for PassesOwn.never rfl (pi_list (pv 1)) (pg_name (i := 3) sc_runs_bytes.nd rfl (.inl rfl))
              (pss_cons (ps_expr (pe_bm PySem.F.plainAttrs_list PySem.F.slot_list_extend PySem.F.type_list_extend mt_extend (pv 2) (pa_cons (pe_fn h_number_bytes (hr.mono (by decide)) (by rfl) (pa_cons (pe_ix ix_tup (pv 3) pe_int (fun _ _ => rfl)) (pa_cons pe_int pa_nil))) pa_nil)))
              (pss_one (ps_expr (pe_bm PySem.F.plainAttrs_list PySem.F.slot_list_extend PySem.F.type_list_extend mt_extend (pv 2) (pa_cons (pe_fn h_alone_bytes (hr.mono (by decide)) (by rfl) (pa_cons (pv 0) (pa_cons (pe_ix ix_tup (pv 3) pe_int (fun _ _ => rfl)) pa_nil))) pa_nil))))))
              (pss_one (ps_ret (pv 2))))), ?_⟩
    have hxl : xs.length = rs.length := hv.length
    have ll : ∀ i, ((rs.take i).flatMap fun (x : Nat × Pg.Val) => Pg.le 4 x.1 ++ Pg.alone x.2).length ≤ 48000 := fun i => by
      have := PfM.flat_len (f := fun (x : Nat × Pg.Val) => Pg.le 4 x.1 ++ Pg.alone x.2) (B := 48) (l := rs.take i) fun v h => by
        have := alone_len (hi v (List.mem_of_mem_take h))
        rw [List.length_append, PfM.le_len]
        omega
      have h2 : (rs.take i).length ≤ 1000 := by rw [List.length_take]; omega
      omega
    refine ⟨_, rfl, a, _, rfl, .inl hS, _, 4, rfl, by decide, fun H0 o s0 no ho => ?_⟩
    refine ⟨_, rfl, a, rfl, ⟨_, s0.seq hS⟩, for_list (K := K) (a := a) (xs := xs) (fun i σ H' => ∃ y, σ = [some (.int (k : Int)), some (.ref a), some (.ref o), y] ∧ Same H H' ∧ H' o = some (.lst (nb (Pg.le 4 rs.length ++ (rs.take i).flatMap fun (x : Nat × Pg.Val) => Pg.le 4 x.1 ++ Pg.alone x.2)))) ⟨none, rfl, s0, ?_⟩ (fun i σ H' _ ⟨_, _, s2, _⟩ => s2.seq hS) ?_ ?_⟩
    · rw [ho, hxl, PfM.wide_nat]
      simp
    · rintro i x σ H1 hx ⟨y, rfl, s1, ho1⟩
      obtain ⟨⟨m, v⟩, hvi, ⟨t, u, rfl, ht, hu2⟩⟩ := pgl hv hx
      have iv : v.is k = true := hi _ (List.mem_of_getElem? hvi)
      have hl1 := ll i
      refine ⟨_, rfl, .inl ⟨rfl, _, SqL.of ho1⟩, _, rfl, t, _, 1, _, rfl, rfl, SqT.of (s1 _ _ ht), atI_nat (j := 1) rfl, _, 4, rfl, by decide, fun H2 p s2 np hp => ?_⟩
      refine ⟨o, p, _, _, rfl, rfl, s2 _ _ ho1, hp, ?_, ?_⟩
      · rw [nb_len, nb_len, PfM.wide_len, List.length_append, PfM.le_len]
        exact sz (by omega)
      have s3 : Same H (upd H2 o (.lst (nb (Pg.le 4 rs.length ++ (rs.take i).flatMap fun (x : Nat × Pg.Val) => Pg.le 4 x.1 ++ Pg.alone x.2) ++ nb (Pg.wide 4 (m : Int))))) := mt (s1.trans s2) no
      refine ⟨_, rfl, .inl ⟨rfl, _, SqL.of upd_same⟩, _, rfl, _, rfl, t, _, 0, u, rfl, rfl, SqT.of (s3 _ _ ht), atI_nat (j := 0) rfl, k, u, v, rfl, hu2.mono s3, kd_of iv, fun H4 p2 s4 np2 hp2 => ?_⟩
      refine ⟨o, p2, _, _, rfl, rfl, s4 _ _ upd_same, hp2, ?_, ?_⟩
      · rw [List.length_append, nb_len, nb_len, nb_len, PfM.wide_len, List.length_append, PfM.le_len]
        have := alone_len iv
        exact sz (by omega)
      · refine ⟨some (.ref t), rfl, mt (s3.trans s4) no, ?_⟩
        rw [upd_same, PfM.flat_more hvi, ← nb_app, ← nb_app, PfM.wide_nat, List.append_assoc, List.append_assoc]
    · rintro σ H1 ⟨y, rfl, s1, ho1⟩
      rw [hxl, List.take_length] at ho1
      exact ⟨_, rfl, q H1 o s1 no ho1⟩
/-! ## above_least_bytes -/
abbrev s_above_least_bytes : Stmt := topS 31
abbrev N_above_least_bytes : List Str := ["numbers", "least", "q", "number"]
theorem sc_above_least_bytes : FnScope N_above_least_bytes ["numbers"] (defScope s_above_least_bytes) := ⟨rfl, rfl, rfl, by decide +kernel, rfl, by decide +kernel, by decide +kernel⟩
def sp_above_least_bytes (K : PySem.W.Frag) : Sp := fun vs H Q _ => ∃ (a : Addr) (ns : List Int), vs = [.ref a] ∧ SqL K H a (ns.map V.int) ∧ ns ≠ [] ∧ ns.length ≤ 1000 ∧ (∀ z ∈ ns, -(2 ^ 65) ≤ z ∧ z ≤ 2 ^ 65) ∧
  ∀ H' p, Same H H' → H p = none → H' p = some (.lst (nb (PfM.aboveL ns))) → Q (.ref p) H'
theorem ok_above_least_bytes {P : Program} {w : World} {K : PySem.W.Frag} {mg : Str → Option Value} {base : Heap} {f : Addr} {fd : FuncData} (F : Fun K "above_least_bytes" "above_least_bytes" s_above_least_bytes f fd) (b_max : mg "max" = none) (b_min : mg "min" = none) (h_packed_bytes : Ok P w K mg base 2 "packed_bytes" ["q", "numbers"] (sp_packed_bytes K)) : FnOk P w K mg base CX0 3 f fd ["numbers"] (sp_above_least_bytes K) := by
  refine F.ok sc_above_least_bytes (fun vs H Q E h => ?_) (fun cdv A outer s H vs Q E hr h => ?_)
  · obtain ⟨a, ns, rfl, hS, hne, hl, hb, q⟩ := h
    rfl
  · have hu := hu_of hr
    obtain ⟨a, ns, rfl, hS, hne, hl, hb, q⟩ := h
    refine ⟨_, (pss_cons (ps_set (i := 1) sc_above_least_bytes.nd rfl (Or.inr rfl) (pe_callB (cr_min rfl) (by rfl) b_min (by decide +kernel) (pa_cons (pv 0) pa_nil)))
              (pss_cons (ps_set (i := 2) sc_above_least_bytes.nd rfl (Or.inl rfl) (pe_bits (pe_op op_sub (pe_callB (cr_max rfl) (by rfl) b_max (by decide +kernel) (pa_cons (pv 0) pa_nil)) (pv 1))))
              (pss_one (ps_ret (pe_op op_cat (pe_lst (pa_cons (pv 2) pa_nil)) (pe_fn h_packed_bytes (hr.mono (by decide)) (by rfl) (pa_cons (pv 2) (pa_cons (pe_lc (own := [("number", 3)]) (g := gName 3) (tt := tYes) rfl sc_above_least_bytes.nd (pi_list (pv 0)) (blkOk_by (own := [("number", 3)]) (N := N_above_least_bytes) (sc := defScope s_above_least_bytes) (by decide +kernel)) (fun _ _ _ _ _ => pg_name (i := 3) sc_above_least_bytes.nd rfl (Or.inl rfl)) (fun _ _ _ _ _ => pts_nil) (fun _ _ _ _ _ => (pe_op op_sub (pv 3) (pv 1)))) pa_nil)))))))), ?_⟩
    obtain ⟨z, r, rfl⟩ : ∃ z r, ns = z :: r := by
      cases ns with
      | nil => exact absurd rfl hne
      | cons z r => exact ⟨z, r, rfl⟩
    refine ⟨_, rfl, a, z :: r, rfl, hS, by simp, fun m hm hle => ?_⟩
    have em := PfM.fmin_is hm hle
    refine ⟨_, rfl, a, z :: r, rfl, hS, by simp, fun M hM hge => ?_⟩
    have eM := PfM.fmax_is hM hge
    refine ⟨_, rfl, _, _, rfl, rfl, _, rfl, ?_⟩
    have b1 := hb m hm
    have b2 := hb M hM
    have hmM : m ≤ M := hge m hm
    have eD : M - m = (((M - m).toNat : Nat) : Int) := by omega
    have eq : (Builtin.Int.intBits (M - m) : Int) = ((Pg.bitsFor (M - m).toNat : Nat) : Int) := by
      rw [eD, bits_nat, Int.toNat_natCast]
    have hq : Pg.bitsFor (M - m).toNat ≤ 67 := PfM.bits_le (by omega)
    refine ⟨_, rfl, sz (by show 1 ≤ 1000000; decide), fun p np => ?_⟩
    refine ⟨_, rfl, _, rfl, a, rfl, ⟨_, (nw np).seq hS⟩, fun D nD => ?_⟩
    refine lc_list (K := K) (a := a) (xs := (z :: r).map V.int) (fun i H' => Same H H' ∧ H' p = some (.lst [V.int (Builtin.Int.intBits (M - m) : Int)]) ∧ H' D = some (.lst (nb (((z :: r).take i).map fun x => (x - m).toNat)))) ⟨(nw np).trans (nw nD), nw nD _ _ upd_same, upd_same⟩ (fun i H' _ h => h.1.seq hS) ?_ ?_
    · rintro i x H1 hx ⟨s1, hp1, hD1⟩
      obtain ⟨c, hc, rfl⟩ := ints_get hx
      have hcm : m ≤ c := hle c (List.mem_of_getElem? hc)
      refine ⟨rfl, ?_⟩
      refine ⟨_, rfl, _, rfl, _, _, rfl, rfl, _, hD1, ?_, mt s1 ((nw np).free nD), ?_, ?_⟩
      · rw [nb_len, List.length_map, List.length_take]
        exact szl (by omega)
      · rw [upd_ne (fun e => by rw [e, hD1] at hp1; exact absurd (HO.lst.inj (Option.some.inj hp1)) (by
          intro e2
          subst e
          rw [upd_same] at nD
          cases nD))]
        exact hp1
      · rw [upd_same, take_more hc, List.map_append, nb_app]
        have e : (((c - m).toNat : Nat) : Int) = c - m := by omega
        show some (HO.lst (_ ++ [V.int (c - m)])) = some (HO.lst (_ ++ [V.int (((c - m).toNat : Nat) : Int)]))
        rw [e]
    · rintro H1 ⟨s1, hp1, hD1⟩
      rw [List.length_map, List.take_length] at hD1
      refine ⟨Pg.bitsFor (M - m).toNat, D, _, ?_, SqL.of hD1, by omega, ?_, ?_, fun H2 t s2 nt ht => ?_⟩
      · show [V.int (Builtin.Int.intBits (M - m) : Int), V.ref D] = _
        rw [eq]
      · rw [List.length_map]
        exact hl
      · intro x hx
        obtain ⟨c, hc, rfl⟩ := List.mem_map.mp hx
        have h1 := hge c hc
        have h2 := hle c hc
        exact Nat.lt_of_le_of_lt (by omega) (PfM.bits_lt (M - m).toNat)
      · refine ⟨p, t, _, _, rfl, rfl, s2 _ _ hp1, ht, ?_, fun u nu => ?_⟩
        · rw [nb_len]
          have : (Pg.packed (Pg.bitsFor (M - m).toNat) ((z :: r).map fun x => (x - m).toNat)).length ≤ 100000 := by
            unfold Pg.packed
            rw [PfM.le_len, List.length_map]
            unfold Pg.packedLong
            have : (z :: r).length * Pg.bitsFor (M - m).toNat ≤ 1000 * 67 := Nat.mul_le_mul hl hq
            omega
          exact sz (by show 1 + _ ≤ 1000000; omega)
        · refine q _ u ((s1.trans s2).trans (nw nu)) ((s1.trans s2).free nu) ?_
          rw [upd_same, eq, em, eM]
          rfl
/-! ## from_least_bytes -/
abbrev s_from_least_bytes : Stmt := topS 32
abbrev N_from_least_bytes : List Str := ["numbers"]
theorem sc_from_least_bytes : FnScope N_from_least_bytes ["numbers"] (defScope s_from_least_bytes) := ⟨rfl, rfl, rfl, by decide +kernel, rfl, by decide +kernel, by decide +kernel⟩
def sp_from_least_bytes (K : PySem.W.Frag) : Sp := fun vs H Q _ => ∃ (a : Addr) (ns : List Int), vs = [.ref a] ∧ SqL K H a (ns.map V.int) ∧ ns ≠ [] ∧ ns.length ≤ 1000 ∧ (∀ z ∈ ns, -(2 ^ 65) ≤ z ∧ z ≤ 2 ^ 65) ∧
  ∀ H' p, Same H H' → H p = none → H' p = some (.lst (nb (Pg.wide 8 (PfM.leastOf ns) ++ PfM.aboveL ns))) → Q (.ref p) H'
theorem ok_from_least_bytes {P : Program} {w : World} {K : PySem.W.Frag} {mg : Str → Option Value} {base : Heap} {f : Addr} {fd : FuncData} (F : Fun K "from_least_bytes" "from_least_bytes" s_from_least_bytes f fd) (b_min : mg "min" = none) (h_number_bytes : Ok P w K mg base 1 "number_bytes" ["number", "width"] (sp_number_bytes K)) (h_above_least_bytes : Ok P w K mg base 3 "above_least_bytes" ["numbers"] (sp_above_least_bytes K)) : FnOk P w K mg base CX0 4 f fd ["numbers"] (sp_from_least_bytes K) := by
  refine F.ok sc_from_least_bytes (fun vs H Q E h => ?_) (fun cdv A outer s H vs Q E hr h => ?_)
  · obtain ⟨a, ns, rfl, hS, hne, hl, hb, q⟩ := h
    rfl
  · have hu := hu_of hr
    obtain ⟨a, ns, rfl, hS, hne, hl, hb, q⟩ := h
    refine ⟨_, (pss_one (ps_ret (pe_op op_cat (pe_fn h_number_bytes (hr.mono (by decide)) (by rfl) (pa_cons (pe_callB (cr_min rfl) (by rfl) b_min (by decide +kernel) (pa_cons (pv 0) pa_nil)) (pa_cons pe_int pa_nil))) (pe_fn h_above_least_bytes (hr.mono (by decide)) (by rfl) (pa_cons (pv 0) pa_nil))))), ?_⟩
    refine ⟨_, rfl, a, ns, rfl, hS, List.length_pos_iff.mpr hne, fun m hm hle => ?_⟩
    have em := PfM.least_is hne hm hle
    refine ⟨m, 8, rfl, by decide, fun H1 p s1 np hp => ?_⟩
    refine ⟨_, rfl, a, ns, rfl, s1.seq hS, hne, hl, hb, fun H2 r s2 nr hr2 => ?_⟩
    refine ⟨p, r, _, _, rfl, rfl, s2 _ _ hp, hr2, ?_, fun t nt => ?_⟩
    · rw [nb_len, nb_len, PfM.wide_len]
      have := PfM.above_len hl hb
      exact sz (by omega)
    · refine q _ t ((s1.trans s2).trans (nw nt)) ((s1.trans s2).free nt) ?_
      rw [upd_same, ← nb_app, em]
/-! ## differences_bytes -/
abbrev s_differences_bytes : Stmt := topS 33
abbrev N_differences_bytes : List Str := ["numbers", "steps", "place"]
theorem sc_differences_bytes : FnScope N_differences_bytes ["numbers"] (defScope s_differences_bytes) := ⟨rfl, rfl, rfl, by decide +kernel, rfl, by decide +kernel, by decide +kernel⟩
def sp_differences_bytes (K : PySem.W.Frag) : Sp := fun vs H Q _ => ∃ (a : Addr) (ns : List Int), vs = [.ref a] ∧ SqL K H a (ns.map V.int) ∧ 2 ≤ ns.length ∧ ns.length ≤ 1000 ∧ (∀ z ∈ ns, -(2 ^ 63) ≤ z ∧ z < 2 ^ 63) ∧
  ∀ H' p, Same H H' → H p = none → H' p = some (.lst (nb (Pg.wide 8 (ns.getD 0 0) ++ (Pg.wide 9 (PfM.leastOf (Pg.stepsOf ns)) ++ PfM.aboveL (Pg.stepsOf ns))))) → Q (.ref p) H'
theorem ok_differences_bytes {P : Program} {w : World} {K : PySem.W.Frag} {mg : Str → Option Value} {base : Heap} {f : Addr} {fd : FuncData} (F : Fun K "differences_bytes" "differences_bytes" s_differences_bytes f fd) (b_min : mg "min" = none) (b_range : mg "range" = none) (b_len : mg "len" = none) (h_number_bytes : Ok P w K mg base 1 "number_bytes" ["number", "width"] (sp_number_bytes K)) (h_above_least_bytes : Ok P w K mg base 3 "above_least_bytes" ["numbers"] (sp_above_least_bytes K)) : FnOk P w K mg base CX0 4 f fd ["numbers"] (sp_differences_bytes K) := by
  refine F.ok sc_differences_bytes (fun vs H Q E h => ?_) (fun cdv A outer s H vs Q E hr h => ?_)
  · obtain ⟨a, ns, rfl, hS, h2, hl, hb, q⟩ := h
    rfl
  · have hu := hu_of hr
    obtain ⟨a, ns, rfl, hS, h2, hl, hb, q⟩ := h
    refine ⟨_, (pss_cons (ps_setLc (i := 1) (own := [("place", 2)]) (g := gName 2) (tt := tYes) rfl sc_differences_bytes.nd rfl rfl (sw_true rfl rfl rfl (by decide +kernel)) (pi_range2 (by rfl) b_range (pa_cons pe_int (pa_cons (pe_callB call_len_seq (by rfl) b_len PySem.boot_len (pa_cons (pv 0) pa_nil)) pa_nil))) (blkOk_by (own := [("place", 2)]) (N := N_differences_bytes) (sc := defScope s_differences_bytes) (by decide +kernel)) (fun _ _ _ _ _ => pg_name (i := 2) sc_differences_bytes.nd rfl (Or.inl rfl)) (fun _ _ _ _ _ => pts_nil) (fun _ _ _ _ _ => (pe_op op_sub (pe_ix (ixL K rfl) (pv 0) (pv 2) (fun _ _ => rfl)) (pe_ix (ixL K rfl) (pv 0) (pe_op op_sub (pv 2) pe_int) (fun _ _ => rfl)))))
              (pss_one (ps_ret (pe_op op_cat (pe_op op_cat (pe_fn h_number_bytes (hr.mono (by decide)) (by rfl) (pa_cons (pe_ix ix_list (pv 0) pe_int (fun _ _ => rfl)) (pa_cons pe_int pa_nil))) (pe_fn h_number_bytes (hr.mono (by decide)) (by rfl) (pa_cons (pe_callB (cr_min rfl) (by rfl) b_min (by decide +kernel) (pa_cons (pv 1) pa_nil)) (pa_cons pe_int pa_nil)))) (pe_fn h_above_least_bytes (hr.mono (by decide)) (by rfl) (pa_cons (pv 1) pa_nil)))))), ?_⟩
    have sl := PfM.steps_len ns
    refine ⟨_, rfl, a, _, rfl, .inl hS, 1, ((ns.map V.int).length : Int), rfl, ⟨by decide, by decide, by rw [List.length_map]; omega, by rw [List.length_map]; omega⟩, fun D nD => ?_⟩
    refine lc_range (lo := 1) (n := (((ns.map V.int).length : Int) - 1).toNat) (fun i H' => Same H H' ∧ H' D = some (.lst (((Pg.stepsOf ns).take i).map V.int))) ⟨nw nD, upd_same⟩ ?_ ?_
    · rintro i H1 hi ⟨s1, hD1⟩
      rw [List.length_map] at hi
      have h1 : i < ns.length := by omega
      have h3 : i + 1 < ns.length := by omega
      have g1 : ns[i]? = some ns[i] := List.getElem?_eq_getElem h1
      have g2 : ns[i + 1]? = some ns[i + 1] := List.getElem?_eq_getElem h3
      have gs := PfM.steps_get ns i _ _ g1 g2
      generalize ns[i] = x at g1 gs
      generalize ns[i + 1] = y at g2 gs
      have a2 : atI (ns.map V.int) (1 + (i : Int)) = some (.int y) := by
        rw [show (1 : Int) + (i : Int) = ((i + 1 : Nat) : Int) by omega]
        exact atI_nat (by rw [List.getElem?_map, g2]; rfl)
      have a1 : atI (ns.map V.int) (1 + (i : Int) - 1) = some (.int x) := by
        rw [show (1 : Int) + (i : Int) - 1 = (i : Int) by omega]
        exact atI_nat (by rw [List.getElem?_map, g1]; rfl)
      refine ⟨rfl, ?_⟩
      refine ⟨_, rfl, _, rfl, a, _, _, _, rfl, rfl, s1.seq hS, a2, _, rfl, _, rfl, _, _, rfl, rfl, a, _, _, _, rfl, rfl, s1.seq hS, a1, _, _, rfl, rfl, _, hD1, ?_, mt s1 nD, ?_⟩
      · rw [List.length_map, List.length_take]
        exact szl (by omega)
      · rw [upd_same, take_more gs, List.map_append]
        rfl
    · rintro H1 ⟨s1, hD1⟩
      rw [List.length_map, show ((ns.length : Int) - 1).toNat = (Pg.stepsOf ns).length by omega, List.take_length] at hD1
      obtain ⟨z, r, rfl⟩ : ∃ z r, ns = z :: r := by
        cases ns with
        | nil => simp at h2
        | cons z r => exact ⟨z, r, rfl⟩
      have hsne : Pg.stepsOf (z :: r) ≠ [] := fun e => by rw [e, List.length_nil] at sl; omega
      have hsb : ∀ y ∈ Pg.stepsOf (z :: r), -(2 ^ 65) ≤ y ∧ y ≤ 2 ^ 65 := by
        intro y hy
        obtain ⟨i, hi, e⟩ := List.mem_iff_getElem.mp hy
        have h1 : i < (z :: r).length := by omega
        have h3 : i + 1 < (z :: r).length := by omega
        have gs := PfM.steps_get (z :: r) i _ _ (List.getElem?_eq_getElem h1) (List.getElem?_eq_getElem h3)
        have e2 := Option.some.inj ((List.getElem?_eq_getElem hi).symm.trans gs)
        have b1 := hb _ (List.getElem_mem h1)
        have b2 := hb _ (List.getElem_mem h3)
        rw [← e, e2]
        omega
      refine ⟨_, rfl, a, _, 0, _, rfl, rfl, s1.seq hS, atI_nat (j := 0) rfl, z, 8, rfl, by decide, fun H2 p s2 np hp => ?_⟩
      refine ⟨_, rfl, D, _, rfl, SqL.of (s2 _ _ hD1), List.length_pos_iff.mpr hsne, fun m hm hle => ?_⟩
      have em := PfM.least_is hsne hm hle
      refine ⟨m, 9, rfl, by decide, fun H3 t s3 nt ht => ?_⟩
      refine ⟨p, t, _, _, rfl, rfl, s3 _ _ hp, ht, ?_, fun u nu => ?_⟩
      · rw [nb_len, nb_len, PfM.wide_len, PfM.wide_len]
        exact sz (by decide)
      have s4 : Same H3 (upd H3 u (.lst (nb (Pg.wide 8 z) ++ nb (Pg.wide 9 m)))) := nw nu
      refine ⟨_, rfl, D, _, rfl, SqL.of (s4 _ _ (s3 _ _ (s2 _ _ hD1))), hsne, by omega, hsb, fun H5 w5 s5 nw5 hw5 => ?_⟩
      refine ⟨u, w5, _, _, rfl, rfl, s5 _ _ upd_same, hw5, ?_, fun y ny => ?_⟩
      · rw [List.length_append, nb_len, nb_len, nb_len, PfM.wide_len, PfM.wide_len]
        have := PfM.above_len (ns := Pg.stepsOf (z :: r)) (by omega) hsb
        exact sz (by omega)
      · have sa : Same H H5 := (((s1.trans s2).trans s3).trans s4).trans s5
        refine q _ y (sa.trans (nw ny)) (sa.free ny) ?_
        rw [upd_same, ← nb_app, ← nb_app, List.append_assoc, em]
        rfl
/-! ## shared_count -/
abbrev s_shared_count : Stmt := topS 34
abbrev N_shared_count : List Str := ["one", "other", "count"]
theorem sc_shared_count : FnScope N_shared_count ["one", "other"] (defScope s_shared_count) := ⟨rfl, rfl, rfl, by decide +kernel, rfl, by decide +kernel, by decide +kernel⟩
def sp_shared_count (K : PySem.W.Frag) : Sp := fun vs H Q _ => ∃ (a b : Addr) (l m : List Nat), vs = [.ref a, .ref b] ∧ SqT K H a (nb l) ∧ SqT K H b (nb m) ∧ Q (.int (Pg.common l m : Nat)) H
def countM (n : Nat) (σ : L2.St) : Nat := match σ[2]? with
  | some (some (V.int i)) => n - i.toNat
  | _ => 0
theorem nb_at {l : List Nat} {j : Nat} (h : j < l.length) : atI (nb l) (j : Int) = some (.int ((l[j] : Nat) : Int)) := atI_nat (by
  unfold nb
  rw [List.getElem?_map, List.getElem?_eq_getElem h]
  rfl)
theorem ok_shared_count {P : Program} {w : World} {K : PySem.W.Frag} {mg : Str → Option Value} {base : Heap} {f : Addr} {fd : FuncData} (F : Fun K "shared_count" "shared_count" s_shared_count f fd) (b_min : mg "min" = none) (b_len : mg "len" = none) : FnOk P w K mg base CX0 1 f fd ["one", "other"] (sp_shared_count K) := by
  refine F.ok sc_shared_count (fun vs H Q E h => ?_) (fun cdv A outer s H vs Q E hr h => ?_)
  · obtain ⟨a, b, l, m, rfl, h1, h2, q⟩ := h
    rfl
  · have hu := hu_of hr
    obtain ⟨a, b, l, m, rfl, h1, h2, q⟩ := h
    refine ⟨_, (pss_cons (ps_set (i := 2) sc_shared_count.nd rfl (Or.inl rfl) pe_int)
              (pss_cons (ps_while PassesOwn.never (PW.pt (pw_and (pt_cmpR op_lt (pv 2) (pe_callB (call_min2 rfl) (by rfl) b_min (by decide +kernel) (pa_cons (pe_callB call_len_seq (by rfl) b_len PySem.boot_len (pa_cons (pv 0) pa_nil)) (pa_cons (pe_callB call_len_seq (by rfl) b_len PySem.boot_len (pa_cons (pv 1) pa_nil)) pa_nil))) (nomark _)) (pw_and1 (pt_cmpR op_eq (pe_ix ix_tup (pv 0) (pv 2) (fun _ _ => rfl)) (pe_ix ix_tup (pv 1) (pv 2) (fun _ _ => rfl)) (nomark _)))))
              (pss_one (ps_set (i := 2) sc_shared_count.nd rfl (Or.inl rfl) (pe_op op_add (pv 2) pe_int))))
              (pss_one (ps_ret (pv 2))))), ?_⟩
    refine while_by (fun σ H' => ∃ j : Nat, σ = [some (.ref a), some (.ref b), some (.int (j : Int))] ∧ H' = H ∧ Pg.common l m = j + Pg.common (l.drop j) (m.drop j)) (fun σ _ => countM l.length σ)
      ⟨0, rfl, rfl, by simp⟩ ?_ ?_
    · rintro σ H1 ⟨j, rfl, rfl, hc⟩
      refine ⟨_, rfl, _, rfl, a, _, rfl, .inr h1, _, rfl, b, _, rfl, .inr h2, _, _, rfl, _, _, rfl, rfl, _, rfl, ?_⟩
      rw [nb_len, nb_len]
      refine ifD (fun h => ?_) (fun h => ?_)
      · have hj1 : j < l.length := by
          split at h <;> omega
        have hj2 : j < m.length := by
          split at h <;> omega
        refine ⟨_, rfl, _, rfl, a, _, _, _, rfl, rfl, h1, nb_at hj1, _, rfl, _, rfl, b, _, _, _, rfl, rfl, h2, nb_at hj2, rfl, _, rfl, ifE (fun e => ?_) (fun e => ?_)⟩
        · refine ⟨_, rfl, _, _, rfl, rfl, ⟨j + 1, ?_, rfl, ?_⟩, ?_⟩
          · rw [Int.natCast_add]
            rfl
          · exact (PfM.common_step l m j hc _ _ (List.getElem?_eq_getElem hj1) (List.getElem?_eq_getElem hj2)).1 (by omega)
          · show l.length - ((j : Int) + 1).toNat < l.length - ((j : Int)).toNat
            omega
        · have := (PfM.common_step l m j hc _ _ (List.getElem?_eq_getElem hj1) (List.getElem?_eq_getElem hj2)).2 (by omega)
          rw [this] at q
          exact ⟨_, rfl, q⟩
      · have := PfM.common_end hc (by split at h <;> omega)
        rw [this] at q
        exact ⟨_, rfl, q⟩
    · rintro σ H1 R R' hR ⟨v, e1, v2, e2, p1, y1, e3, g1, v3, e4, p2, y2, e5, g2, i1, j1, e6, i2, j2, e7, e8, c, e9, h⟩
      refine ⟨v, e1, v2, e2, p1, y1, e3, g1, v3, e4, p2, y2, e5, g2, i1, j1, e6, i2, j2, e7, e8, c, e9, ?_⟩
      cases c with
      | false => exact hR _ _ h
      | true =>
        obtain ⟨w1, f1, w2, f2, p3, y3, i3, u3, f3, f4, g3, g4, w4, f5, w5, f6, p5, y5, i5, u5, f7, f8, g5, g6, f9, c2, f10, h⟩ := h
        exact ⟨w1, f1, w2, f2, p3, y3, i3, u3, f3, f4, g3, g4, w4, f5, w5, f6, p5, y5, i5, u5, f7, f8, g5, g6, f9, c2, f10, hR _ _ h⟩
/-! ## shared_bytes -/
abbrev s_shared_bytes : Stmt := topS 35
abbrev N_shared_bytes : List Str := ["rows_of_bytes", "out", "before", "value", "count"]
theorem sc_shared_bytes : FnScope N_shared_bytes ["rows_of_bytes"] (defScope s_shared_bytes) := ⟨rfl, rfl, rfl, by decide +kernel, rfl, by decide +kernel, by decide +kernel⟩
def sp_shared_bytes (K : PySem.W.Frag) : Sp := fun vs H Q _ => ∃ (a : Addr) (xs : List V) (l : List Pg.Val), vs = [.ref a] ∧ SqL K H a xs ∧ VsA H xs l ∧ (∀ v ∈ l, v.is 1 = true) ∧ l.length ≤ 1000 ∧
  ∀ H' p, Same H H' → H p = none → H' p = some (.lst (nb (Pg.sharedFrom [] l))) → Q (.ref p) H'
theorem ok_shared_bytes {P : Program} {w : World} {K : PySem.W.Frag} {mg : Str → Option Value} {base : Heap} {f : Addr} {fd : FuncData} (F : Fun K "shared_bytes" "shared_bytes" s_shared_bytes f fd) (c_ROWS_OF_BYTES : Kst mg "ROWS_OF_BYTES" (.int 1)) (h_alone_bytes : Ok P w K mg base 3 "alone_bytes" ["kind", "value"] (sp_alone_bytes K)) (h_number_bytes : Ok P w K mg base 1 "number_bytes" ["number", "width"] (sp_number_bytes K)) (h_shared_count : Ok P w K mg base 1 "shared_count" ["one", "other"] (sp_shared_count K)) : FnOk P w K mg base CX0 4 f fd ["rows_of_bytes"] (sp_shared_bytes K) := by
  refine F.ok sc_shared_bytes (fun vs H Q E h => ?_) (fun cdv A outer s H vs Q E hr h => ?_)
  · obtain ⟨a, xs, l, rfl, hS, hv, hi, hl, q⟩ := h
    rfl
  · have hu := hu_of hr
    obtain ⟨a, xs, l, rfl, hS, hv, hi, hl, q⟩ := h
    refine ⟨_, (pss_cons (ps_set (i := 1) sc_shared_bytes.nd rfl (Or.inl rfl) (pe_lst pa_nil))
              (pss_cons (ps_set (i := 2) sc_shared_bytes.nd rfl (Or.inl rfl) (pe_tup pa_nil))
              (pss_cons (ps_for PassesOwn.never rfl (pi_list (pv 0)) (pg_name (i := 3) sc_shared_bytes.nd rfl (.inl rfl))
              (pss_cons (ps_set (i := 4) sc_shared_bytes.nd rfl (Or.inl rfl) (pe_fn h_shared_count (hr.mono (by decide)) (by rfl) (pa_cons (pv 2) (pa_cons (pv 3) pa_nil))))
              (pss_cons (ps_expr (pe_bm PySem.F.plainAttrs_list PySem.F.slot_list_extend PySem.F.type_list_extend mt_extend (pv 1) (pa_cons (pe_fn h_number_bytes (hr.mono (by decide)) (by rfl) (pa_cons (pv 4) (pa_cons pe_int pa_nil))) pa_nil)))
              (pss_cons (ps_expr (pe_bm PySem.F.plainAttrs_list PySem.F.slot_list_extend PySem.F.type_list_extend mt_extend (pv 1) (pa_cons (pe_fn h_alone_bytes (hr.mono (by decide)) (by rfl) (pa_cons (pe_k c_ROWS_OF_BYTES rfl) (pa_cons (pe_slice sl_tupA (pv 3) (po_some (pv 4)) po_none) pa_nil))) pa_nil)))
              (pss_one (ps_set (i := 2) sc_shared_bytes.nd rfl (Or.inl rfl) (pv 3)))))))
              (pss_one (ps_ret (pv 1)))))), ?_⟩
    have hxl : xs.length = l.length := hv.length
    refine ⟨Nat.zero_le _, fun o no => ?_⟩
    refine ⟨Nat.zero_le _, fun t0 nt0 => ?_⟩
    refine ⟨_, rfl, a, rfl, ⟨_, ((nw no).trans (nw nt0)).seq hS⟩, for_list (K := K) (a := a) (xs := xs) (fun i σ H' => ∃ (y z : Option V) (b : Addr) (u pre : List Nat), σ = [some (.ref a), some (.ref o), some (.ref b), y, z] ∧ Same H H' ∧ H' o = some (.lst (nb pre)) ∧ H' b = some (.tup (nb u)) ∧ pre.length ≤ 48 * i ∧ Pg.sharedFrom [] l = pre ++ Pg.sharedFrom u (l.drop i)) ⟨none, none, t0, [], [], rfl, (nw no).trans (nw nt0), nw nt0 _ _ upd_same, upd_same, by decide, rfl⟩ (fun i σ H' _ ⟨_, _, _, _, _, _, s2, _⟩ => s2.seq hS) ?_ ?_⟩
    · rintro i x σ H1 hx ⟨y, z, b, u, pre, rfl, s1, ho, hb, hp, hs⟩
      obtain ⟨v, hvi, hxv⟩ := pgl hv hx
      have iv := hi v (List.mem_of_getElem? hvi)
      have hil : i < l.length := (List.getElem?_eq_some_iff.mp hvi).1
      cases v with
      | num z => exact absurd (is_num iv).1 (by decide)
      | str c =>
        obtain ⟨t, rfl, ht⟩ := hxv
        obtain ⟨_, hc40, hcb⟩ := is_str iv
        have ht1 := s1 _ _ ht
        have cle := (PfM.common_le u c).2
        have hd : l.drop i = .str c :: l.drop (i + 1) := by
          have := List.getElem?_eq_some_iff.mp hvi
          rw [List.drop_eq_getElem_cons this.1, this.2]
        have hs' : Pg.sharedFrom u (l.drop i) = Pg.le 4 (Pg.common u c) ++ (Pg.le 4 (c.length - Pg.common u c) ++ (c.drop (Pg.common u c) ++ Pg.sharedFrom c (l.drop (i + 1)))) := by rw [hd]; rfl
        -- count = shared_count(before, value)
        refine ⟨_, rfl, _, rfl, b, t, u, c, rfl, SqT.of hb, SqT.of ht1, ?_⟩
        generalize Pg.common u c = n at cle hs'
        -- out.extend(number_bytes(count, 4))
        refine ⟨_, rfl, .inl ⟨rfl, _, SqL.of ho⟩, _, rfl, _, 4, rfl, by decide, fun H2 p s2 np hp2 => ?_⟩
        refine ⟨o, p, _, _, rfl, rfl, s2 _ _ ho, hp2, ?_, ?_⟩
        · rw [nb_len, nb_len, PfM.wide_len]
          exact sz (by omega)
        have s3 : Same H (upd H2 o (.lst (nb pre ++ nb (Pg.wide 4 (n : Int))))) := mt (s1.trans s2) no
        have keep : ∀ (e : Addr) (w : List V), H1 e = some (.tup w) → (upd H2 o (.lst (nb pre ++ nb (Pg.wide 4 (n : Int))))) e = some (.tup w) := fun e w he => by
          rw [upd_ne (fun e2 => by rw [e2, ho] at he; cases he)]
          exact s2 _ _ he
        have ht3 := keep t _ ht1
        -- alone_bytes(ROWS_OF_BYTES, value[count:])
        have isd : (Pg.Val.str (c.drop n)).is 1 = true := by
          show ((1 : Nat) == 1 && (decide ((c.drop n).length ≤ Pg.LONG) && Pg.isBytes (c.drop n))) = true
          rw [decide_eq_true (show (c.drop n).length ≤ Pg.LONG by rw [List.length_drop]; show c.length - n ≤ 40; omega)]
          show Pg.isBytes (c.drop n) = true
          exact List.all_eq_true.mpr fun x hx => decide_eq_true (hcb x (List.mem_of_mem_drop hx))
        have done : ∀ (H4 : Hp), Same (upd H2 o (.lst (nb pre ++ nb (Pg.wide 4 (n : Int))))) H4 → ∀ H5 p5, Same H4 H5 → H5 p5 = some (.lst (nb (Pg.alone (.str (c.drop n))))) → ∀ Dn : Ends, (∀ σ' H', (∃ (y z : Option V) (b : Addr) (u pre : List Nat), σ' = [some (.ref a), some (.ref o), some (.ref b), y, z] ∧ Same H H' ∧ H' o = some (.lst (nb pre)) ∧ H' b = some (.tup (nb u)) ∧ pre.length ≤ 48 * (i + 1) ∧ Pg.sharedFrom [] l = pre ++ Pg.sharedFrom u (l.drop (i + 1))) → Dn.nx σ' H') →
            rExtend (.ref o) [.ref p5] H5 (fun _ H6 => tAsg (tVar 3) (gName 2) Dn [some (.ref a), some (.ref o), some (.ref b), some (.ref t), some (.int (n : Int))] H6) := by
          intro H4 s4 H5 p5 s5 hp5 Dn hDn
          have ho5 := s5 _ _ (s4 _ _ (upd_same (H := H2) (a := o) (o := .lst (nb pre ++ nb (Pg.wide 4 (n : Int))))))
          have al : (Pg.alone (.str (c.drop n))).length = 4 + (c.length - n) := by
            show (Pg.le 4 (c.drop n).length ++ c.drop n).length = _
            rw [List.length_append, PfM.le_len, List.length_drop]
          refine ⟨o, p5, _, _, rfl, rfl, ho5, hp5, ?_, ?_⟩
          · rw [List.length_append, nb_len, nb_len, nb_len, PfM.wide_len, al]
            exact sz (by omega)
          · refine ⟨_, rfl, hDn _ _ ⟨_, _, t, c, pre ++ (Pg.le 4 n ++ (Pg.le 4 (c.length - n) ++ c.drop n)), rfl, mt ((s3.trans s4).trans s5) no, ?_, ?_, ?_, ?_⟩⟩
            · rw [upd_same, ← nb_app, ← nb_app, PfM.wide_nat, List.append_assoc]
              show some (HO.lst (nb (pre ++ (Pg.le 4 n ++ (Pg.le 4 (c.drop n).length ++ c.drop n))))) = _
              rw [List.length_drop]
            · have h5 := s5 _ _ (s4 _ _ ht3)
              rw [upd_ne (fun e2 => by rw [e2, ho5] at h5; cases h5)]
              exact h5
            · rw [List.length_append, List.length_append, List.length_append, PfM.le_len, PfM.le_len, List.length_drop]
              omega
            · rw [hs, hs']
              simp only [List.append_assoc]
        refine ⟨_, rfl, .inl ⟨rfl, _, SqL.of upd_same⟩, _, rfl, _, rfl, _, rfl, t, _, rfl, SqT.of ht3, fun hw => ?_, fun hw e ne => ?_⟩
        · -- the whole tuple
          have hn0 : c.drop n = c := by
            rw [HT.sIx_nat, HT.sIx_none, nb_len] at hw
            have : n = 0 ∨ c.length = 0 := by
              have := hw.1
              omega
            rcases this with h | h
            · rw [h, List.drop_zero]
            · rw [List.eq_nil_of_length_eq_zero h, List.drop_nil]
          refine ⟨1, _, .str (c.drop n), rfl, ⟨t, rfl, by rw [hn0]; exact ht3⟩, kd_of isd, fun H5 p5 s5 np5 hp5 => ?_⟩
          exact done _ (Same.refl _) H5 p5 s5 hp5 _ (fun _ _ h => h)
        · rw [cut_nb c n cle]
          refine ⟨1, _, .str (c.drop n), rfl, ⟨e, rfl, upd_same⟩, kd_of isd, fun H5 p5 s5 np5 hp5 => ?_⟩
          exact done _ (nw ne) H5 p5 s5 hp5 _ (fun _ _ h => h)
    · rintro σ H1 ⟨y, z, b, u, pre, rfl, s1, ho, hb, hp, hs⟩
      rw [hxl, List.drop_length] at hs
      refine ⟨_, rfl, q H1 o s1 no ?_⟩
      rw [ho, hs]
      show _ = some (HO.lst (nb (pre ++ [])))
      rw [List.append_nil]
/-! ## dictionary_bytes -/
abbrev s_dictionary_bytes : Stmt := topS 30
abbrev N_dictionary_bytes : List Str := ["kind", "values", "different", "places", "place", "value", "q", "which"]
theorem sc_dictionary_bytes : FnScope N_dictionary_bytes ["kind", "values"] (defScope s_dictionary_bytes) := ⟨rfl, rfl, rfl, by decide +kernel, rfl, by decide +kernel, by decide +kernel⟩
def sp_dictionary_bytes (K : PySem.W.Frag) : Sp := fun vs H Q _ => ∃ (k : Nat) (a : Addr) (xs : List V) (l : List Pg.Val), vs = [.int (k : Int), .ref a] ∧ SqL K H a xs ∧ VsA H xs l ∧ (∀ v ∈ l, v.is k = true) ∧ k ≤ 1 ∧ l ≠ [] ∧ l.length ≤ 64 ∧
  ∀ H' p, Same H H' → H p = none → H' p = some (.lst (nb (Pg.dictionary k l))) → Q (.ref p) H'
def keyN (v : Pg.Val) : Key := Sum.inl (Pg.zOf v)
def keyB (v : Pg.Val) : List Key := (Pg.raw v).map fun (c : Nat) => (Sum.inl (c : Int) : Key)
theorem keyB_nb (b : List Nat) : (keyB (.str b)).map kV = nb b := by
  unfold keyB nb
  rw [List.map_map]
  rfl
theorem get_num {H : Hp} {d : Addr} {kvs : List (Key × V)} {x : V} {v : Pg.Val} (hi : v.is 0 = true) (h : VA H x v) (hd : H d = some (.dK kvs)) : DGet H d x (valV kvs (keyN v)) := by
  cases v with
  | num z =>
    cases h
    exact DGet.k (k := Sum.inl z) hd
  | str b => exact absurd (is_str hi).1 (by decide)
theorem put_num {H : Hp} {d : Addr} {kvs : List (Key × V)} {x y : V} {v : Pg.Val} (hi : v.is 0 = true) (h : VA H x v) (hd : H d = some (.dK kvs)) (hl : kvs.length < sizeLine) : DPut H d x y (upd H d (.dK (putK kvs (keyN v) y))) := by
  cases v with
  | num z =>
    cases h
    exact DPut.k (k := Sum.inl z) hd hl
  | str b => exact absurd (is_str hi).1 (by decide)
theorem get_byt {H : Hp} {d : Addr} {kvs : List (List Key × V)} {x : V} {v : Pg.Val} (hi : v.is 1 = true) (h : VA H x v) (hd : H d = some (.dT kvs)) : DGet H d x (valV kvs (keyB v)) := by
  cases v with
  | num z => exact absurd (is_num hi).1 (by decide)
  | str b =>
    obtain ⟨t, rfl, ht⟩ := h
    exact DGet.t hd (by rw [keyB_nb]; exact ht)
theorem put_byt {H : Hp} {d : Addr} {kvs : List (List Key × V)} {x y : V} {v : Pg.Val} (hi : v.is 1 = true) (h : VA H x v) (hd : H d = some (.dT kvs)) (hl : kvs.length < sizeLine) : DPut H d x y (upd H d (.dT (putK kvs (keyB v) y))) := by
  cases v with
  | num z => exact absurd (is_num hi).1 (by decide)
  | str b =>
    obtain ⟨t, rfl, ht⟩ := h
    exact DPut.t hd (by rw [keyB_nb]; exact ht) hl
theorem inj_num {v u : Pg.Val} (hv : v.is 0 = true) (hu : u.is 0 = true) (h : keyN v = keyN u) : v = u := by
  cases v with
  | num z =>
    cases u with
    | num y =>
      have e : z = y := Sum.inl.inj h
      rw [e]
    | str b => exact absurd (is_str hu).1 (by decide)
  | str b => exact absurd (is_str hv).1 (by decide)
theorem inj_byt {v u : Pg.Val} (hv : v.is 1 = true) (hu : u.is 1 = true) (h : keyB v = keyB u) : v = u := by
  cases v with
  | num z => exact absurd (is_num hv).1 (by decide)
  | str b =>
    cases u with
    | num y => exact absurd (is_num hu).1 (by decide)
    | str c =>
      have e : nb b = nb c := by rw [← keyB_nb, ← keyB_nb, h]
      rw [nb_cast, nb_cast] at e
      have e2 : castI b = castI c := by
        have inj : ∀ l m : List Int, l.map V.int = m.map V.int → l = m := by
          intro l
          induction l with
          | nil => intro m h; cases m with | nil => rfl | cons _ _ => cases h
          | cons x l ih =>
            intro m h
            cases m with
            | nil => cases h
            | cons y m =>
              have h1 := (List.cons.inj h)
              rw [V.int.inj h1.1, ih m h1.2]
        exact inj _ _ e
      rw [castI_inj e2]
theorem VA.keepD {H : Hp} {d : Addr} {o o' : HO} (hd : H d = some o) (ho : ∀ xs, o ≠ .tup xs) {z : V} {e : Pg.Val} (h : VA H z e) : VA (upd H d o') z e := by
  cases e with
  | num _ => exact h
  | str b =>
    obtain ⟨t, rfl, ht⟩ := h
    refine ⟨t, rfl, ?_⟩
    rw [upd_ne (fun e => by rw [e, hd] at ht; exact ho _ (Option.some.inj ht))]
    exact ht
theorem pk_len {κ : Type} [DecidableEq κ] (c : List (κ × V)) (k : κ) (x : V) : (putK c k x).length ≤ c.length + 1 := by
  unfold putK
  split
  · rw [List.length_map]
    omega
  · rw [List.length_append]
    exact Nat.le_refl _
theorem ok_dictionary_bytes {P : Program} {w : World} {K : PySem.W.Frag} {mg : Str → Option Value} {base : Heap} {f : Addr} {fd : FuncData} (F : Fun K "dictionary_bytes" "dictionary_bytes" s_dictionary_bytes f fd) (b_len : mg "len" = none) (b_enumerate : mg "enumerate" = none) (b_sorted : mg "sorted" = none) (b_set : mg "set" = none) (h_number_bytes : Ok P w K mg base 1 "number_bytes" ["number", "width"] (sp_number_bytes K)) (h_plain_bytes : Ok P w K mg base 3 "plain_bytes" ["kind", "values"] (sp_plain_bytes K)) (h_packed_bytes : Ok P w K mg base 2 "packed_bytes" ["q", "numbers"] (sp_packed_bytes K)) : FnOk P w K mg base CX0 4 f fd ["kind", "values"] (sp_dictionary_bytes K) := by
  refine F.ok sc_dictionary_bytes (fun vs H Q E h => ?_) (fun cdv A outer s H vs Q E hr h => ?_)
  · obtain ⟨k, a, xs, l, rfl, hS, hv, hi, hk, hne, hl, q⟩ := h
    rfl
  · have hu := hu_of hr
    obtain ⟨k, a, xs, l, rfl, hS, hv, hi, hk, hne, hl, q⟩ := h
    have hxl : xs.length = l.length := hv.length
    have dn := PfM.words_nodup l
    have dl := PfM.words_len l
    have dne := PfM.words_ne hne
    have din : ∀ v ∈ Pg.wordsOf l, v.is k = true := fun v h => hi v ((PfM.words_mem l v).mp h)
    have dpos : 0 < (Pg.wordsOf l).length := List.length_pos_iff.mpr dne
    rcases (show k = 0 ∨ k = 1 by omega) with rfl | rfl
    · refine ⟨_, (pss_cons (ps_set (i := 2) sc_dictionary_bytes.nd rfl (Or.inl rfl) (pe_callB (cr_sortI rfl hr.units) (by rfl) b_sorted (by decide +kernel) (pa_cons (pe_callTy (cr_setI rfl) (by rfl) b_set (by decide +kernel) (pa_cons (pv 1) pa_nil)) pa_nil)))
              (pss_cons (ps_set (i := 3) sc_dictionary_bytes.nd rfl (Or.inr rfl) pe_dnewK)
              (pss_cons (ps_for PassesOwn.never rfl (pi_enum (by rfl) b_enumerate (pa_cons (pv 2) pa_nil)) (pg_tup rfl (pgs_cons (pg_name (i := 4) sc_dictionary_bytes.nd rfl (.inl rfl)) (pgs_cons (pg_name (i := 5) sc_dictionary_bytes.nd rfl (.inl rfl)) pgs_nil)))
              (pss_one (ps_dput hu (pv 3) (pv 5) (pv 4) rfl)))
              (pss_cons (ps_set (i := 6) sc_dictionary_bytes.nd rfl (Or.inl rfl) (pe_bits (pe_op op_sub (pe_callB call_len_seq (by rfl) b_len PySem.boot_len (pa_cons (pv 2) pa_nil)) pe_int)))
              (pss_cons (ps_setLc (i := 7) (own := [("value", 5)]) (g := gName 5) (tt := tYes) rfl sc_dictionary_bytes.nd rfl rfl (sw_true rfl rfl rfl (by decide +kernel)) (pi_list (pv 1)) (blkOk_by (own := [("value", 5)]) (N := N_dictionary_bytes) (sc := defScope s_dictionary_bytes) (by decide +kernel)) (fun _ _ _ _ _ => pg_name (i := 5) sc_dictionary_bytes.nd rfl (Or.inl rfl)) (fun _ _ _ _ _ => pts_nil) (fun _ _ _ _ _ => (pe_dget hu (pv 3) (pv 5) (fun _ _ => rfl))))
              (pss_one (ps_ret (pe_op op_cat (pe_op op_cat (pe_fn h_number_bytes (hr.mono (by decide)) (by rfl) (pa_cons (pe_callB call_len_seq (by rfl) b_len PySem.boot_len (pa_cons (pv 2) pa_nil)) (pa_cons pe_int pa_nil))) (pe_fn h_plain_bytes (hr.mono (by decide)) (by rfl) (pa_cons (pv 0) (pa_cons (pv 2) pa_nil)))) (pe_fn h_packed_bytes (hr.mono (by decide)) (by rfl) (pa_cons (pv 6) (pa_cons (pv 7) pa_nil))))))))))), ?_⟩
      have en := vs_num hv hi
      refine ⟨_, rfl, a, l.map Pg.zOf, rfl, by rw [← en]; exact hS, by rw [List.length_map]; omega, fun S us ks w0 ew nS hus knd hkm => ?_⟩
      refine ⟨S, us, ks, w0, ew, rfl, upd_same, hus, fun D ks' nD pm pw => ?_⟩
      have eD : ks'.map Pg.Val.num = Pg.wordsOf l := by
        refine PfM.words_is (PfM.strict_of (List.pairwise_map.mpr (pw.imp fun {x y} h z => ?_)) ?_) fun u => ?_
        · have z' : (if y < x then Ordering.lt else if x < y then .gt else .eq) = .lt := z
          rw [if_neg (by omega)] at z'
          split at z' <;> cases z'
        · exact List.Pairwise.map _ (fun x y h e => h (Pg.Val.num.inj e)) (pm.nodup_iff.mpr knd)
        · rw [List.mem_map]
          constructor
          · rintro ⟨z, hz, rfl⟩
            obtain ⟨v, hvl, e⟩ := List.mem_map.mp ((hkm z).mp (pm.mem_iff.mp hz))
            have iv := hi v hvl
            cases v with
            | num y =>
              have : y = z := e
              rw [← this]
              exact hvl
            | str b => exact absurd (is_str iv).1 (by decide)
          · intro hu
            have iv := hi u hu
            cases u with
            | num y => exact ⟨y, pm.mem_iff.mpr ((hkm y).mpr (List.mem_map.mpr ⟨_, hu, rfl⟩)), rfl⟩
            | str b => exact absurd (is_str iv).1 (by decide)
      have s1 : Same H (upd (upd H S (SetUO w0 S us)) D (.lst (ks'.map V.int))) := (nw nS).trans (nw nD)
      have nD0 : H D = none := (nw nS).free nD
      have hDs : (upd (upd H S (SetUO w0 S us)) D (.lst (ks'.map V.int))) D = some (.lst (ks'.map V.int)) := upd_same
      have hys : VsA (upd (upd H S (SetUO w0 S us)) D (.lst (ks'.map V.int))) (ks'.map V.int) (Pg.wordsOf l) := by
        rw [← eD]
        have vsn : ∀ m : List Int, VsA (upd (upd H S (SetUO w0 S us)) D (.lst (ks'.map V.int))) (m.map V.int) (m.map Pg.Val.num) := by
          intro m
          induction m with
          | nil => exact .nil
          | cons z m ih => exact .cons rfl ih
        exact vsn ks'
      generalize upd (upd H S (SetUO w0 S us)) D (.lst (ks'.map V.int)) = H1 at s1 hDs hys
      generalize ks'.map V.int = ys at hDs hys
      have hyl : ys.length = (Pg.wordsOf l).length := hys.length
      have hlk : ∀ {v : Pg.Val} {j : Nat}, (Pg.wordsOf l)[j]? = some v → v.is 0 = true := fun h => din _ (List.mem_of_getElem? h)
      -- places = {}; the loop that fills it
      refine fun d nd => ?_
      refine ⟨_, rfl, D, ys, rfl, SqL.of (nw nd _ _ hDs), ?_⟩
      refine for_it walk_enum (fun i σ H' => ∃ (y4 y5 : Option V) (kvs : List (Key × V)), σ = [some (.int ((0 : Nat) : Int)), some (.ref a), some (.ref D), some (.ref d), y4, y5, none, none] ∧ Same H1 H' ∧ H' d = some (.dK kvs) ∧ kvs.length ≤ i ∧ ∀ (j : Nat) (v : Pg.Val), j < i → (Pg.wordsOf l)[j]? = some v → valV kvs (keyN v) = some (.int (j : Int)))
        ⟨none, none, [], rfl, nw nd, upd_same, Nat.le_refl _, fun j v h => absurd h (by omega)⟩ (fun i σ H' _ ⟨_, _, _, _, s2, _⟩ => SqL.of (s2 _ _ hDs)) ?_ ?_
      · rintro i vv σ H2 H3 hi2 ⟨y4, y5, kvs, rfl, s2, hd, hkl, hval⟩ ⟨T, x, c, rfl, nT, rfl, ex2, hc⟩
        cases ex2
        obtain ⟨v, hvi, hcv⟩ := pgl hys hc
        have iv := hlk hvi
        have s3 : Same H1 (upd H2 T (.tup [.int (i : Nat), c])) := s2.trans (nw nT)
        have hd3 := nw (o := .tup [.int (i : Nat), c]) nT _ _ hd
        refine ⟨T, _, rfl, SqT.of upd_same, rfl, _, _, rfl, _, _, rfl, rfl, ?_⟩
        refine ⟨_, rfl, _, rfl, _, rfl, d, _, rfl, put_num iv (hcv.mono s3) hd3 (szl (by omega)), ?_⟩
        refine ⟨some (.int ((i : Nat) : Int)), some c, _, rfl, mt s3 nd, upd_same, ?_, fun j u hj hu => ?_⟩
        · have := pk_len kvs (keyN v) (.int ((i : Nat) : Int))
          omega
        · rw [valV_put]
          by_cases e : keyN u = keyN v
          · rw [if_pos e]
            have e2 := inj_num (hlk hu) iv e
            subst e2
            have := nd_ix dn hu hvi
            rw [this]
          · rw [if_neg e]
            refine hval j u ?_ hu
            rcases Nat.lt_or_ge j i with h | h
            · exact h
            · have : j = i := by omega
              subst this
              rw [hu] at hvi
              cases hvi
              exact absurd rfl e
      · rintro σ H2 ⟨y4, y5, kvs, rfl, s2, hd, hkl, hval⟩
        rw [hyl] at hval
        have hD2 := s2 _ _ hDs
        -- q
        refine ⟨_, rfl, D, _, rfl, .inl (SqL.of hD2), _, _, rfl, rfl, _, rfl, ?_⟩
        have eq : (Builtin.Int.intBits ((ys.length : Int) - 1) : Int) = ((Pg.bitsFor ((Pg.wordsOf l).length - 1) : Nat) : Int) := by
          rw [hyl, show ((Pg.wordsOf l).length : Int) - 1 = (((Pg.wordsOf l).length - 1 : Nat) : Int) by omega, bits_nat]
        -- which
        refine ⟨_, rfl, a, rfl, ⟨_, (s1.trans s2).seq hS⟩, fun C nC => ?_⟩
        refine lc_list (K := K) (a := a) (xs := xs) (fun i H' => Same H2 H' ∧ H' C = some (.lst (nb ((l.take i).map (Pg.indexOf (Pg.wordsOf l)))))) ⟨nw nC, upd_same⟩ (fun i H' _ h => ((s1.trans s2).trans h.1).seq hS) ?_ ?_
        · rintro i x H3 hx ⟨s3, hC⟩
          obtain ⟨v, hvi, hxv⟩ := pgl hv hx
          have hvl := List.mem_of_getElem? hvi
          have hix := PfM.index_lt dn ((PfM.words_mem l v).mpr hvl)
          refine ⟨rfl, ?_⟩
          refine ⟨_, rfl, _, rfl, d, .int ((Pg.indexOf (Pg.wordsOf l) v : Nat) : Int), rfl, ?_, _, hC, ?_, mt s3 nC, ?_⟩
          · have g := get_num (hi v hvl) (hxv.mono ((s1.trans s2).trans s3)) (s3 _ _ hd)
            rw [hval _ v hix.1 hix.2] at g
            exact g
          · rw [nb_len, List.length_map, List.length_take]
            exact szl (by omega)
          · rw [upd_same, take_more hvi, List.map_append, nb_app]
            rfl
        · rintro H3 ⟨s3, hC⟩
          rw [hxl, List.take_length] at hC
          have s13 : Same H1 H3 := s2.trans s3
          have hD3 := s13 _ _ hDs
          -- number_bytes(len(different), 4)
          refine ⟨_, rfl, D, _, rfl, .inl (SqL.of hD3), _, 4, rfl, by decide, fun H4 p4 s4 n4 h4 => ?_⟩
          refine ⟨_, rfl, _, rfl, 0, D, ys, Pg.wordsOf l, rfl, SqL.of (s4 _ _ hD3), vsm (s13.trans s4) hys, fun v hv' => kd_of (din v hv'), by decide, by omega, fun H5 p5 s5 n5 h5 => ?_⟩
          have pl := PfM.plain_len (k := 0) (l := Pg.wordsOf l) (fun v hv' => raw_len (din v hv')) (by omega)
          refine ⟨p4, p5, _, _, rfl, rfl, s5 _ _ h4, h5, ?_, fun p6 n6 => ?_⟩
          · rw [nb_len, nb_len, PfM.wide_len]
            exact sz (by omega)
          have s6 : Same H5 (upd H5 p6 (.lst (nb (Pg.wide 4 (ys.length : Int)) ++ nb (Pg.plain 0 (Pg.wordsOf l))))) := nw n6
          have hq : Pg.bitsFor ((Pg.wordsOf l).length - 1) ≤ 7 := PfM.bits_le (by omega)
          refine ⟨_, rfl, _, rfl, Pg.bitsFor ((Pg.wordsOf l).length - 1), C, l.map (Pg.indexOf (Pg.wordsOf l)), ?_, SqL.of (s6 _ _ (s5 _ _ (s4 _ _ hC))), by omega, by rw [List.length_map]; omega, ?_, fun H7 p7 s7 n7 h7 => ?_⟩
          · show [V.int _, V.ref C] = _
            rw [eq]
          · intro j hj
            obtain ⟨v, hvl, rfl⟩ := List.mem_map.mp hj
            have hix := PfM.index_lt dn ((PfM.words_mem l v).mpr hvl)
            exact Nat.lt_of_le_of_lt (by omega) (PfM.bits_lt _)
          refine ⟨p6, p7, _, _, rfl, rfl, s7 _ _ upd_same, h7, ?_, fun p8 n8 => ?_⟩
          · rw [List.length_append, nb_len, nb_len, nb_len, PfM.wide_len]
            have : (Pg.packed (Pg.bitsFor ((Pg.wordsOf l).length - 1)) (l.map (Pg.indexOf (Pg.wordsOf l)))).length ≤ 1000 := by
              unfold Pg.packed
              rw [PfM.le_len, List.length_map]
              unfold Pg.packedLong
              have : l.length * Pg.bitsFor ((Pg.wordsOf l).length - 1) ≤ 64 * 7 := Nat.mul_le_mul hl hq
              omega
            exact sz (by omega)
          · have sa : Same H H7 := (((s1.trans s13).trans s4).trans s5).trans (s6.trans s7)
            refine q _ p8 (sa.trans (nw n8)) (sa.free n8) ?_
            rw [upd_same, ← nb_app, ← nb_app, PfM.dictionary_eq, List.append_assoc, PfM.wide_nat, hyl]
    · refine ⟨_, (pss_cons (ps_set (i := 2) sc_dictionary_bytes.nd rfl (Or.inl rfl) (pe_callB (cr_sortB rfl hr.units) (by rfl) b_sorted (by decide +kernel) (pa_cons (pe_callTy (cr_setB rfl hr.units) (by rfl) b_set (by decide +kernel) (pa_cons (pv 1) pa_nil)) pa_nil)))
              (pss_cons (ps_set (i := 3) sc_dictionary_bytes.nd rfl (Or.inr rfl) pe_dnewT)
              (pss_cons (ps_for PassesOwn.never rfl (pi_enum (by rfl) b_enumerate (pa_cons (pv 2) pa_nil)) (pg_tup rfl (pgs_cons (pg_name (i := 4) sc_dictionary_bytes.nd rfl (.inl rfl)) (pgs_cons (pg_name (i := 5) sc_dictionary_bytes.nd rfl (.inl rfl)) pgs_nil)))
              (pss_one (ps_dput hu (pv 3) (pv 5) (pv 4) rfl)))
              (pss_cons (ps_set (i := 6) sc_dictionary_bytes.nd rfl (Or.inl rfl) (pe_bits (pe_op op_sub (pe_callB call_len_seq (by rfl) b_len PySem.boot_len (pa_cons (pv 2) pa_nil)) pe_int)))
              (pss_cons (ps_setLc (i := 7) (own := [("value", 5)]) (g := gName 5) (tt := tYes) rfl sc_dictionary_bytes.nd rfl rfl (sw_true rfl rfl rfl (by decide +kernel)) (pi_list (pv 1)) (blkOk_by (own := [("value", 5)]) (N := N_dictionary_bytes) (sc := defScope s_dictionary_bytes) (by decide +kernel)) (fun _ _ _ _ _ => pg_name (i := 5) sc_dictionary_bytes.nd rfl (Or.inl rfl)) (fun _ _ _ _ _ => pts_nil) (fun _ _ _ _ _ => (pe_dget hu (pv 3) (pv 5) (fun _ _ => rfl))))
              (pss_one (ps_ret (pe_op op_cat (pe_op op_cat (pe_fn h_number_bytes (hr.mono (by decide)) (by rfl) (pa_cons (pe_callB call_len_seq (by rfl) b_len PySem.boot_len (pa_cons (pv 2) pa_nil)) (pa_cons pe_int pa_nil))) (pe_fn h_plain_bytes (hr.mono (by decide)) (by rfl) (pa_cons (pv 0) (pa_cons (pv 2) pa_nil)))) (pe_fn h_packed_bytes (hr.mono (by decide)) (by rfl) (pa_cons (pv 6) (pa_cons (pv 7) pa_nil))))))))))), ?_⟩
      -- the tuples with their addresses
      have addrs : ∀ (xs : List V) (l : List Pg.Val), VsA H xs l → (∀ v ∈ l, v.is 1 = true) → ∃ kb : List (Addr × List Nat), xs = kb.map (fun p => V.ref p.1) ∧ l = kb.map (fun p => Pg.Val.str p.2) ∧ ∀ p ∈ kb, H p.1 = some (.tup (nb p.2)) := by
        intro xs l h
        induction h with
        | nil => intro _; exact ⟨[], rfl, rfl, fun p hp => by cases hp⟩
        | @cons x v xs l h1 _ ih =>
          intro hi
          obtain ⟨kb, e1, e2, h2⟩ := ih fun u hu => hi u (List.mem_cons_of_mem _ hu)
          have iv := hi v List.mem_cons_self
          cases v with
          | num z => exact absurd (is_num iv).1 (by decide)
          | str b =>
            obtain ⟨t, rfl, ht⟩ := h1
            refine ⟨(t, b) :: kb, by rw [e1]; rfl, by rw [e2]; rfl, fun p hp => ?_⟩
            rcases List.mem_cons.mp hp with rfl | hp
            · exact ht
            · exact h2 p hp
      obtain ⟨kb, ex, el, hkb⟩ := addrs xs l hv hi
      refine ⟨_, rfl, a, kb, rfl, by rw [← ex]; exact hS, hkb, by have := congrArg List.length el; rw [List.length_map] at this; omega, fun S L w0 ew nS lnd lin lall => ?_⟩
      refine ⟨S, L, w0, ew, rfl, upd_same, fun p hp => nw nS _ _ (hkb p (lin p hp)), fun D L' nD pm pw => ?_⟩
      have eD : L'.map (fun p => Pg.Val.str p.2) = Pg.wordsOf l := by
        have em : L'.map (fun p => Pg.Val.str p.2) = (L'.map (·.2)).map Pg.Val.str := by rw [List.map_map]; rfl
        refine PfM.words_is (PfM.strict_of ?_ ?_) fun u => ?_
        · rw [em]
          exact List.pairwise_map.mpr pw
        · rw [em]
          exact List.Pairwise.map _ (fun x y h e => h (Pg.Val.str.inj e)) ((List.Perm.map (fun (p : Addr × List Nat) => p.2) pm).nodup_iff.mpr lnd)
        · rw [List.mem_map]
          constructor
          · rintro ⟨p, hp, rfl⟩
            rw [el]
            exact List.mem_map.mpr ⟨p, lin p (pm.mem_iff.mp hp), rfl⟩
          · intro hu
            rw [el] at hu
            obtain ⟨p, hp, rfl⟩ := List.mem_map.mp hu
            obtain ⟨p', hp', e⟩ := List.mem_map.mp (lall p hp)
            exact ⟨p', pm.mem_iff.mpr hp', by rw [e]⟩
      have s1 : Same H (upd (upd H S (SetUO w0 S (L.map fun q => Value.ref q.1))) D (.lst (L'.map fun q => V.ref q.1))) := (nw nS).trans (nw nD)
      have nD0 : H D = none := (nw nS).free nD
      have hDs : (upd (upd H S (SetUO w0 S (L.map fun q => Value.ref q.1))) D (.lst (L'.map fun q => V.ref q.1))) D = some (.lst (L'.map fun q => V.ref q.1)) := upd_same
      have hys : VsA (upd (upd H S (SetUO w0 S (L.map fun q => Value.ref q.1))) D (.lst (L'.map fun q => V.ref q.1))) (L'.map fun q => V.ref q.1) (Pg.wordsOf l) := by
        rw [← eD]
        have vsb : ∀ m : List (Addr × List Nat), (∀ p ∈ m, p ∈ kb) → VsA (upd (upd H S (SetUO w0 S (L.map fun q => Value.ref q.1))) D (.lst (L'.map fun q => V.ref q.1))) (m.map fun q => V.ref q.1) (m.map fun p => Pg.Val.str p.2) := by
          intro m
          induction m with
          | nil => intro _; exact .nil
          | cons p m ih =>
            intro h
            exact .cons ⟨p.1, rfl, s1 _ _ (hkb p (h p List.mem_cons_self))⟩ (ih fun q hq => h q (List.mem_cons_of_mem _ hq))
        exact vsb L' fun p hp => lin p (pm.mem_iff.mp hp)
      generalize upd (upd H S (SetUO w0 S (L.map fun q => Value.ref q.1))) D (.lst (L'.map fun q => V.ref q.1)) = H1 at s1 hDs hys
      generalize L'.map (fun q => V.ref q.1) = ys at hDs hys
      have hyl : ys.length = (Pg.wordsOf l).length := hys.length
      have hlk : ∀ {v : Pg.Val} {j : Nat}, (Pg.wordsOf l)[j]? = some v → v.is 1 = true := fun h => din _ (List.mem_of_getElem? h)
      -- places = {}; the loop that fills it
      refine fun d nd => ?_
      refine ⟨_, rfl, D, ys, rfl, SqL.of (nw nd _ _ hDs), ?_⟩
      refine for_it walk_enum (fun i σ H' => ∃ (y4 y5 : Option V) (kvs : List (List Key × V)), σ = [some (.int ((1 : Nat) : Int)), some (.ref a), some (.ref D), some (.ref d), y4, y5, none, none] ∧ Same H1 H' ∧ H' d = some (.dT kvs) ∧ kvs.length ≤ i ∧ ∀ (j : Nat) (v : Pg.Val), j < i → (Pg.wordsOf l)[j]? = some v → valV kvs (keyB v) = some (.int (j : Int)))
        ⟨none, none, [], rfl, nw nd, upd_same, Nat.le_refl _, fun j v h => absurd h (by omega)⟩ (fun i σ H' _ ⟨_, _, _, _, s2, _⟩ => SqL.of (s2 _ _ hDs)) ?_ ?_
      · rintro i vv σ H2 H3 hi2 ⟨y4, y5, kvs, rfl, s2, hd, hkl, hval⟩ ⟨T, x, c, rfl, nT, rfl, ex2, hc⟩
        cases ex2
        obtain ⟨v, hvi, hcv⟩ := pgl hys hc
        have iv := hlk hvi
        have s3 : Same H1 (upd H2 T (.tup [.int (i : Nat), c])) := s2.trans (nw nT)
        have hd3 := nw (o := .tup [.int (i : Nat), c]) nT _ _ hd
        refine ⟨T, _, rfl, SqT.of upd_same, rfl, _, _, rfl, _, _, rfl, rfl, ?_⟩
        refine ⟨_, rfl, _, rfl, _, rfl, d, _, rfl, put_byt iv (hcv.mono s3) hd3 (szl (by omega)), ?_⟩
        refine ⟨some (.int ((i : Nat) : Int)), some c, _, rfl, mt s3 nd, upd_same, ?_, fun j u hj hu => ?_⟩
        · have := pk_len kvs (keyB v) (.int ((i : Nat) : Int))
          omega
        · rw [valV_put]
          by_cases e : keyB u = keyB v
          · rw [if_pos e]
            have e2 := inj_byt (hlk hu) iv e
            subst e2
            have := nd_ix dn hu hvi
            rw [this]
          · rw [if_neg e]
            refine hval j u ?_ hu
            rcases Nat.lt_or_ge j i with h | h
            · exact h
            · have : j = i := by omega
              subst this
              rw [hu] at hvi
              cases hvi
              exact absurd rfl e
      · rintro σ H2 ⟨y4, y5, kvs, rfl, s2, hd, hkl, hval⟩
        rw [hyl] at hval
        have hD2 := s2 _ _ hDs
        -- q
        refine ⟨_, rfl, D, _, rfl, .inl (SqL.of hD2), _, _, rfl, rfl, _, rfl, ?_⟩
        have eq : (Builtin.Int.intBits ((ys.length : Int) - 1) : Int) = ((Pg.bitsFor ((Pg.wordsOf l).length - 1) : Nat) : Int) := by
          rw [hyl, show ((Pg.wordsOf l).length : Int) - 1 = (((Pg.wordsOf l).length - 1 : Nat) : Int) by omega, bits_nat]
        -- which
        refine ⟨_, rfl, a, rfl, ⟨_, (s1.trans s2).seq hS⟩, fun C nC => ?_⟩
        refine lc_list (K := K) (a := a) (xs := xs) (fun i H' => Same H2 H' ∧ H' C = some (.lst (nb ((l.take i).map (Pg.indexOf (Pg.wordsOf l)))))) ⟨nw nC, upd_same⟩ (fun i H' _ h => ((s1.trans s2).trans h.1).seq hS) ?_ ?_
        · rintro i x H3 hx ⟨s3, hC⟩
          obtain ⟨v, hvi, hxv⟩ := pgl hv hx
          have hvl := List.mem_of_getElem? hvi
          have hix := PfM.index_lt dn ((PfM.words_mem l v).mpr hvl)
          refine ⟨rfl, ?_⟩
          refine ⟨_, rfl, _, rfl, d, .int ((Pg.indexOf (Pg.wordsOf l) v : Nat) : Int), rfl, ?_, _, hC, ?_, mt s3 nC, ?_⟩
          · have g := get_byt (hi v hvl) (hxv.mono ((s1.trans s2).trans s3)) (s3 _ _ hd)
            rw [hval _ v hix.1 hix.2] at g
            exact g
          · rw [nb_len, List.length_map, List.length_take]
            exact szl (by omega)
          · rw [upd_same, take_more hvi, List.map_append, nb_app]
            rfl
        · rintro H3 ⟨s3, hC⟩
          rw [hxl, List.take_length] at hC
          have s13 : Same H1 H3 := s2.trans s3
          have hD3 := s13 _ _ hDs
          -- number_bytes(len(different), 4)
          refine ⟨_, rfl, D, _, rfl, .inl (SqL.of hD3), _, 4, rfl, by decide, fun H4 p4 s4 n4 h4 => ?_⟩
          refine ⟨_, rfl, _, rfl, 1, D, ys, Pg.wordsOf l, rfl, SqL.of (s4 _ _ hD3), vsm (s13.trans s4) hys, fun v hv' => kd_of (din v hv'), by decide, by omega, fun H5 p5 s5 n5 h5 => ?_⟩
          have pl := PfM.plain_len (k := 1) (l := Pg.wordsOf l) (fun v hv' => raw_len (din v hv')) (by omega)
          refine ⟨p4, p5, _, _, rfl, rfl, s5 _ _ h4, h5, ?_, fun p6 n6 => ?_⟩
          · rw [nb_len, nb_len, PfM.wide_len]
            exact sz (by omega)
          have s6 : Same H5 (upd H5 p6 (.lst (nb (Pg.wide 4 (ys.length : Int)) ++ nb (Pg.plain 1 (Pg.wordsOf l))))) := nw n6
          have hq : Pg.bitsFor ((Pg.wordsOf l).length - 1) ≤ 7 := PfM.bits_le (by omega)
          refine ⟨_, rfl, _, rfl, Pg.bitsFor ((Pg.wordsOf l).length - 1), C, l.map (Pg.indexOf (Pg.wordsOf l)), ?_, SqL.of (s6 _ _ (s5 _ _ (s4 _ _ hC))), by omega, by rw [List.length_map]; omega, ?_, fun H7 p7 s7 n7 h7 => ?_⟩
          · show [V.int _, V.ref C] = _
            rw [eq]
          · intro j hj
            obtain ⟨v, hvl, rfl⟩ := List.mem_map.mp hj
            have hix := PfM.index_lt dn ((PfM.words_mem l v).mpr hvl)
            exact Nat.lt_of_le_of_lt (by omega) (PfM.bits_lt _)
          refine ⟨p6, p7, _, _, rfl, rfl, s7 _ _ upd_same, h7, ?_, fun p8 n8 => ?_⟩
          · rw [List.length_append, nb_len, nb_len, nb_len, PfM.wide_len]
            have : (Pg.packed (Pg.bitsFor ((Pg.wordsOf l).length - 1)) (l.map (Pg.indexOf (Pg.wordsOf l)))).length ≤ 1000 := by
              unfold Pg.packed
              rw [PfM.le_len, List.length_map]
              unfold Pg.packedLong
              have : l.length * Pg.bitsFor ((Pg.wordsOf l).length - 1) ≤ 64 * 7 := Nat.mul_le_mul hl hq
              omega
            exact sz (by omega)
          · have sa : Same H H7 := (((s1.trans s13).trans s4).trans s5).trans (s6.trans s7)
            refine q _ p8 (sa.trans (nw n8)) (sa.free n8) ?_
            rw [upd_same, ← nb_app, ← nb_app, PfM.dictionary_eq, List.append_assoc, PfM.wide_nat, hyl]
/-! ## each_way -/
abbrev s_each_way : Stmt := topS 36
abbrev N_each_way : List Str := ["kind", "values", "numbers", "runs"]
theorem sc_each_way : FnScope N_each_way ["kind", "values"] (defScope s_each_way) := ⟨rfl, rfl, rfl, by decide +kernel, rfl, by decide +kernel, by decide +kernel⟩
def sp_each_way (K : PySem.W.Frag) : Sp := fun vs H Q _ => ∃ (k : Nat) (a : Addr) (xs : List V) (l : List Pg.Val), vs = [.int (k : Int), .ref a] ∧ SqL K H a xs ∧ VsA H xs l ∧ (∀ v ∈ l, v.is k = true) ∧ k ≤ 1 ∧ l ≠ [] ∧ l.length ≤ 64 ∧
  ∀ H' p ys, Same H H' → H p = none → H' p = some (.lst ys) → OsA H' ys (Pg.ways k l) → Q (.ref p) H'
theorem ok_each_way {P : Program} {w : World} {K : PySem.W.Frag} {mg : Str → Option Value} {base : Heap} {f : Addr} {fd : FuncData} (F : Fun K "each_way" "each_way" s_each_way f fd) (b_len : mg "len" = none) (c_NUMBERS : Kst mg "NUMBERS" (.int 0)) (h_shared_bytes : Ok P w K mg base 4 "shared_bytes" ["rows_of_bytes"] (sp_shared_bytes K)) (h_differences_bytes : Ok P w K mg base 4 "differences_bytes" ["numbers"] (sp_differences_bytes K)) (h_from_least_bytes : Ok P w K mg base 4 "from_least_bytes" ["numbers"] (sp_from_least_bytes K)) (h_dictionary_bytes : Ok P w K mg base 4 "dictionary_bytes" ["kind", "values"] (sp_dictionary_bytes K)) (h_runs_bytes : Ok P w K mg base 4 "runs_bytes" ["kind", "runs"] (sp_runs_bytes K)) (h_alone_bytes : Ok P w K mg base 3 "alone_bytes" ["kind", "value"] (sp_alone_bytes K)) (h_plain_bytes : Ok P w K mg base 3 "plain_bytes" ["kind", "values"] (sp_plain_bytes K)) (h_runs_in : Ok P w K mg base 1 "runs_in" ["values"] (sp_runs_in K)) : FnOk P w K mg base CX0 5 f fd ["kind", "values"] (sp_each_way K) := by
  refine F.ok sc_each_way (fun vs H Q E h => ?_) (fun cdv A outer s H vs Q E hr h => ?_)
  · obtain ⟨k, a, xs, l, rfl, hS, hv, hi, hk, hne, hl, q⟩ := h
    rfl
  · have hu := hu_of hr
    obtain ⟨k, a, xs, l, rfl, hS, hv, hi, hk, hne, hl, q⟩ := h
    refine ⟨_, (pss_cons (ps_set (i := 2) sc_each_way.nd rfl (Or.inl rfl) (pe_cmpR op_eq (pv 0) (pe_k c_NUMBERS rfl) (nomark _)))
              (pss_cons (ps_set (i := 3) sc_each_way.nd rfl (Or.inl rfl) (pe_fn h_runs_in (hr.mono (by decide)) (by rfl) (pa_cons (pv 1) pa_nil)))
              (pss_one (ps_ret (pe_lst (pa_cons (pe_fn h_plain_bytes (hr.mono (by decide)) (by rfl) (pa_cons (pv 0) (pa_cons (pv 1) pa_nil))) (pa_cons (pe_ifExp (pt_cmpR op_eq (pe_callB call_len_seq (by rfl) b_len PySem.boot_len (pa_cons (pv 3) pa_nil)) pe_int (nomark _)) (pe_fn h_alone_bytes (hr.mono (by decide)) (by rfl) (pa_cons (pv 0) (pa_cons (pe_ix ix_list (pv 1) pe_int (fun _ _ => rfl)) pa_nil))) pe_non) (pa_cons (pe_fn h_runs_bytes (hr.mono (by decide)) (by rfl) (pa_cons (pv 0) (pa_cons (pv 3) pa_nil))) (pa_cons (pe_fn h_dictionary_bytes (hr.mono (by decide)) (by rfl) (pa_cons (pv 0) (pa_cons (pv 1) pa_nil))) (pa_cons (pe_ifExp (pt_val (pv 2)) (pe_fn h_from_least_bytes (hr.mono (by decide)) (by rfl) (pa_cons (pv 1) pa_nil)) pe_non) (pa_cons (pe_ifExp (PW.pt (pw_and (pt_val (pv 2)) (pw_and1 (pt_cmpR op_ge (pe_callB call_len_seq (by rfl) b_len PySem.boot_len (pa_cons (pv 1) pa_nil)) pe_int (nomark _))))) (pe_fn h_differences_bytes (hr.mono (by decide)) (by rfl) (pa_cons (pv 1) pa_nil)) pe_non) (pa_cons (pe_ifExp (pt_val (pv 2)) pe_non (pe_fn h_shared_bytes (hr.mono (by decide)) (by rfl) (pa_cons (pv 1) pa_nil))) pa_nil)))))))))))), ?_⟩
    refine ⟨_, rfl, rfl, ?_⟩
    refine ⟨_, rfl, k, a, xs, l, rfl, hS, hv, hi, by omega, fun H0 r rs s0 nr hr0 hrs => ?_⟩
    have hxl : xs.length = l.length := hv.length
    have hS0 := s0.seq hS
    have hv0 := vsm s0 hv
    have hb : decide (V.int (k : Int) = V.int 0) = decide (k = 0) := by
      rw [dV]
      exact decide_eq_decide.mpr ⟨fun h => by omega, fun h => by omega⟩
    rw [hb]
    dsimp only [gName, tRet]
    refine gv_lst (ws := Pg.ways k l) (gv_cons ?_ (gv_cons ?_ (gv_cons ?_ (gv_cons ?_ (gv_cons ?_ (gv_cons ?_ (gv_cons ?_ gv_nil))))))) (by show 7 ≤ 1000; decide) fun H' p ys s np hp hy => q H' p ys (s0.trans s) (s0.free np) hp hy
    · intro H1 s R hR
      exact ⟨_, rfl, _, rfl, k, a, xs, l, rfl, s.seq hS0, vsm s hv0, fun v hv => kd_of (hi v hv), hk, by omega, fun H2 p s2 n2 h2 => hR _ H2 s2 ⟨p, rfl, h2⟩⟩
    · intro H1 s R hR
      obtain ⟨v, t, rfl⟩ : ∃ v t, l = v :: t := by
        cases l with
        | nil => exact absurd rfl hne
        | cons v t => exact ⟨v, t, rfl⟩
      have hrl := hrs.length
      have hone : Pg.one (v :: t) = if t.all (Pg.same v) = true then some (Pg.alone v) else none := rfl
      refine ⟨_, rfl, r, _, rfl, .inl (SqL.of (s _ _ hr0)), rfl, _, rfl, ifE (fun e => ?_) (fun e => ?_)⟩
      · obtain ⟨x, hx, hxv⟩ := pgr (j := 0) hv0 rfl
        refine ⟨_, rfl, _, rfl, a, _, 0, x, rfl, rfl, s.seq hS0, atI_nat (j := 0) hx, k, x, v, rfl, hxv.mono s, kd_of (hi v List.mem_cons_self), fun H2 p s2 n2 h2 => hR _ H2 s2 ?_⟩
        rcases PfM.runs_one t v with ⟨h1, _⟩ | ⟨_, h2'⟩
        · rw [hone, if_pos h1]
          exact ⟨p, rfl, h2⟩
        · omega
      · refine hR _ H1 (Same.refl _) ?_
        rcases PfM.runs_one t v with ⟨_, h2⟩ | ⟨h1, _⟩
        · rw [h2] at hrl
          exact absurd (by rw [hrl]; rfl) e
        · rw [hone, if_neg (by rw [h1]; exact Bool.false_ne_true)]
          rfl
    · intro H1 s R hR
      refine ⟨_, rfl, _, rfl, k, r, rs, Pg.runsOf l, rfl, SqL.of (s _ _ hr0), rsm s hrs, fun p hp => hi _ (PfM.runs_vals l p hp).1, ?_, fun H2 p s2 n2 h2 => hR _ H2 s2 ⟨p, rfl, h2⟩⟩
      have := PfM.runs_len l
      omega
    · intro H1 s R hR
      exact ⟨_, rfl, _, rfl, k, a, xs, l, rfl, s.seq hS0, vsm s hv0, hi, hk, hne, hl, fun H2 p s2 n2 h2 => hR _ H2 s2 ⟨p, rfl, h2⟩⟩
    · intro H1 s R hR
      refine ⟨_, rfl, _, rfl, ?_⟩
      rcases (show k = 0 ∨ k = 1 by omega) with rfl | rfl
      · refine iteT ?_
        have en := vs_num hv0 hi
        have rg := num_range hi
        refine ⟨_, rfl, a, l.map Pg.zOf, rfl, by rw [← en]; exact s.seq hS0, by simpa using hne, by rw [List.length_map]; omega, fun z hz => by have := rg z hz; omega, fun H2 p s2 n2 h2 => hR _ H2 s2 ?_⟩
        rw [PfM.fromLeast_eq l hne]
        exact ⟨p, rfl, h2⟩
      · refine iteF (hR _ H1 (Same.refl _) ?_)
        have e : Pg.fromLeast 1 l = none := by
          cases l with
          | nil => rfl
          | cons v t => rfl
        rw [e]
        rfl
    · intro H1 s R hR
      refine ⟨_, rfl, _, rfl, ?_⟩
      rcases (show k = 0 ∨ k = 1 by omega) with rfl | rfl
      · refine iteT ?_
        have en := vs_num hv0 hi
        have rg := num_range hi
        refine ⟨_, rfl, a, _, rfl, .inl (s.seq hS0), _, _, rfl, rfl, _, rfl, ifD (fun h => ?_) (fun h => ?_)⟩
        · have h2 : 2 ≤ l.length := by omega
          refine ⟨_, rfl, a, l.map Pg.zOf, rfl, by rw [← en]; exact s.seq hS0, by rw [List.length_map]; exact h2, by rw [List.length_map]; omega, rg, fun H2 p s2 n2 h2' => hR _ H2 s2 ?_⟩
          rw [PfM.differences_eq l h2]
          exact ⟨p, rfl, h2'⟩
        · refine hR _ H1 (Same.refl _) ?_
          rw [PfM.differences_none l (by omega)]
          rfl
      · exact iteF (iteF (hR _ H1 (Same.refl _) rfl))
    · intro H1 s R hR
      refine ⟨_, rfl, _, rfl, ?_⟩
      rcases (show k = 0 ∨ k = 1 by omega) with rfl | rfl
      · exact iteT (hR _ H1 (Same.refl _) rfl)
      · refine iteF ?_
        exact ⟨_, rfl, a, xs, l, rfl, s.seq hS0, vsm s hv0, hi, by omega, fun H2 p s2 n2 h2 => hR _ H2 s2 ⟨p, rfl, h2⟩⟩
/-! ## way_taken -/
abbrev s_way_taken : Stmt := topS 37
abbrev N_way_taken : List Str := ["written", "taken", "way", "the_bytes"]
theorem sc_way_taken : FnScope N_way_taken ["written"] (defScope s_way_taken) := ⟨rfl, rfl, rfl, by decide +kernel, rfl, by decide +kernel, by decide +kernel⟩
def sp_way_taken (K : PySem.W.Frag) : Sp := fun vs H Q _ => ∃ (a : Addr) (ys : List V) (ws : List (Option (List Nat))) (b : List Nat), vs = [.ref a] ∧ SqL K H a ys ∧ OsA H ys ws ∧ ws[0]? = some (some b) ∧
  ∀ H', Same H H' → Q (.int ((PfM.pick ws b).1 : Nat)) H'
theorem ok_way_taken {P : Program} {w : World} {K : PySem.W.Frag} {mg : Str → Option Value} {base : Heap} {f : Addr} {fd : FuncData} (F : Fun K "way_taken" "way_taken" s_way_taken f fd) (b_enumerate : mg "enumerate" = none) (b_len : mg "len" = none) : FnOk P w K mg base CX0 1 f fd ["written"] (sp_way_taken K) := by
  refine F.ok sc_way_taken (fun vs H Q E h => ?_) (fun cdv A outer s H vs Q E hr h => ?_)
  · obtain ⟨a, ys, ws, b, rfl, hS, hw, h0, q⟩ := h
    rfl
  · have hu := hu_of hr
    obtain ⟨a, ys, ws, b, rfl, hS, hw, h0, q⟩ := h
    refine ⟨_, (pss_cons (ps_set (i := 1) sc_way_taken.nd rfl (Or.inl rfl) pe_int)
              (pss_cons (ps_for PassesOwn.never rfl (pi_enum (by rfl) b_enumerate (pa_cons (pv 0) pa_nil)) (pg_tup rfl (pgs_cons (pg_name (i := 2) sc_way_taken.nd rfl (.inl rfl)) (pgs_cons (pg_name (i := 3) sc_way_taken.nd rfl (.inl rfl)) pgs_nil)))
              (pss_one (ps_if (PW.pt (pw_and (pt_cmpR op_notN (pv 3) pe_non (nomark _)) (pw_and1 (pt_cmpR op_lt (pe_callB call_len_seq (by rfl) b_len PySem.boot_len (pa_cons (pv 3) pa_nil)) (pe_callB call_len_seq (by rfl) b_len PySem.boot_len (pa_cons (pe_ix ix_list (pv 0) (pv 1) (fun _ _ => rfl)) pa_nil)) (nomark _)))))
              (pss_one (ps_set (i := 1) sc_way_taken.nd rfl (Or.inl rfl) (pv 2)))
              pss_nil)))
              (pss_one (ps_ret (pv 1))))), ?_⟩
    have hyl : ys.length = ws.length := hw.length
    refine ⟨_, rfl, a, ys, rfl, hS, ?_⟩
    refine for_it walk_enum (fun i σ H' => ∃ y z, σ = [some (.ref a), some (.int ((PfM.pickTo ws b i).1 : Nat)), y, z] ∧ Same H H') ⟨none, none, rfl, Same.refl _⟩ (fun i σ H' _ ⟨_, _, _, s1⟩ => s1.seq hS) ?_ ?_
    · rintro i v σ H1 H2 hi ⟨y, z, rfl, s1⟩ ⟨T, x, c, rfl, nT, rfl, ex, hc⟩
      cases ex
      obtain ⟨w, hwi, hcw⟩ := pgl hw hc
      have s2 : Same H (upd H1 T (.tup [.int (i : Nat), c])) := s1.trans (nw nT)
      have pm := PfM.pickTo_more (b := b) hwi
      have pa := PfM.pickTo_at h0 i (by omega)
      refine ⟨T, _, rfl, SqT.of upd_same, rfl, _, _, rfl, _, _, rfl, rfl, ?_⟩
      refine ⟨_, rfl, rfl, _, rfl, ?_⟩
      cases w with
      | none =>
        cases hcw
        refine iteF ⟨some (.int ((i : Nat) : Int)), some .non, ?_, s2⟩
        rw [pm]
        rfl
      | some d =>
        obtain ⟨pd, rfl, hd⟩ := hcw
        refine iteT ?_
        have pm' : PfM.pickTo ws b (i + 1) = if d.length < (PfM.pickTo ws b i).2.length then (i, d) else PfM.pickTo ws b i := pm
        obtain ⟨xt, hxt, ⟨pt, rfl, ht⟩⟩ := pgr hw pa
        refine ⟨_, rfl, pd, _, rfl, .inl (SqL.of (s2 _ _ hd)), _, rfl, _, rfl, a, _, _, _, rfl, rfl, s2.seq hS, atI_nat hxt, pt, _, rfl, .inl (SqL.of (s2 _ _ ht)), _, _, rfl, rfl, _, rfl, ?_⟩
        rw [nb_len, nb_len]
        refine ifD (fun h => ?_) (fun h => ?_)
        · refine ⟨_, rfl, some (.int ((i : Nat) : Int)), some (.ref pd), ?_, s2⟩
          rw [pm', if_pos (by omega)]
          rfl
        · refine ⟨some (.int ((i : Nat) : Int)), some (.ref pd), ?_, s2⟩
          rw [pm', if_neg (by omega)]
          rfl
    · rintro σ H1 ⟨y, z, rfl, s1⟩
      rw [hyl, PfM.pickTo_all]
      exact ⟨_, rfl, q H1 s1⟩
/-! ## null_state -/
abbrev s_null_state : Stmt := topS 55
abbrev N_null_state : List Str := ["n", "nulls"]
theorem sc_null_state : FnScope N_null_state ["n", "nulls"] (defScope s_null_state) := ⟨rfl, rfl, rfl, by decide +kernel, rfl, by decide +kernel, by decide +kernel⟩
def sp_null_state (K : PySem.W.Frag) : Sp := fun vs H Q _ => ∃ n m : Nat, vs = [.int (n : Int), .int (m : Int)] ∧ Q (.int ((if m = 0 then 0 else if m = n then 1 else 2 : Nat) : Int)) H
theorem ok_null_state {P : Program} {w : World} {K : PySem.W.Frag} {mg : Str → Option Value} {base : Heap} {f : Addr} {fd : FuncData} (F : Fun K "null_state" "null_state" s_null_state f fd) (c_ALL_NULL : Kst mg "ALL_NULL" (.int 1)) (c_SOME_NULL : Kst mg "SOME_NULL" (.int 2)) (c_NO_NULLS : Kst mg "NO_NULLS" (.int 0)) : FnOk P w K mg base CX0 1 f fd ["n", "nulls"] (sp_null_state K) := by
  refine F.ok sc_null_state (fun vs H Q E h => ?_) (fun cdv A outer s H vs Q E hr h => ?_)
  · obtain ⟨n, m, rfl, q⟩ := h
    rfl
  · have hu := hu_of hr
    obtain ⟨n, m, rfl, q⟩ := h
    refine ⟨_, (pss_cons (ps_if (pt_cmpR op_eq (pv 1) pe_int (nomark _))
              (pss_one (ps_ret (pe_k c_NO_NULLS rfl)))
              pss_nil)
              (pss_one (ps_ret (pe_ifExp (pt_cmpR op_eq (pv 1) (pv 0) (nomark _)) (pe_k c_ALL_NULL rfl) (pe_k c_SOME_NULL rfl))))), ?_⟩
    refine ⟨_, rfl, rfl, _, rfl, ifE (fun e => ?_) (fun e => ?_)⟩
    · rw [if_pos (by omega)] at q
      exact q
    · rw [if_neg (by omega)] at q
      refine ⟨_, rfl, _, rfl, rfl, _, rfl, ifE (fun e2 => ?_) (fun e2 => ?_)⟩
      · rw [if_pos (by omega)] at q
        exact q
      · rw [if_neg (by omega)] at q
        exact q
/-! ## null_map -/
abbrev s_null_map : Stmt := topS 56
abbrev N_null_map : List Str := ["cells", "cell"]
theorem sc_null_map : FnScope N_null_map ["cells"] (defScope s_null_map) := ⟨rfl, rfl, rfl, by decide +kernel, rfl, by decide +kernel, by decide +kernel⟩
def sp_null_map (K : PySem.W.Frag) : Sp := fun vs H Q _ => ∃ (a : Addr) (xs : List V) (cs : List Pg.Cell), vs = [.ref a] ∧ SqL K H a xs ∧ CsA H xs cs ∧ cs.length ≤ 1000 ∧
  ∀ H' p, Same H H' → H p = none → H' p = some (.lst (nb (Pg.bitBytes (cs.map Option.isSome)))) → Q (.ref p) H'
def bitsOf (cs : List Pg.Cell) : List Nat := (cs.map Option.isSome).map Bool.toNat
theorem ok_null_map {P : Program} {w : World} {K : PySem.W.Frag} {mg : Str → Option Value} {base : Heap} {f : Addr} {fd : FuncData} (F : Fun K "null_map" "null_map" s_null_map f fd) (h_packed_bytes : Ok P w K mg base 2 "packed_bytes" ["q", "numbers"] (sp_packed_bytes K)) : FnOk P w K mg base CX0 3 f fd ["cells"] (sp_null_map K) := by
  refine F.ok sc_null_map (fun vs H Q E h => ?_) (fun cdv A outer s H vs Q E hr h => ?_)
  · obtain ⟨a, xs, cs, rfl, hS, hc, hl, q⟩ := h
    rfl
  · have hu := hu_of hr
    obtain ⟨a, xs, cs, rfl, hS, hc, hl, q⟩ := h
    refine ⟨_, (pss_one (ps_ret (pe_fn h_packed_bytes (hr.mono (by decide)) (by rfl) (pa_cons pe_int (pa_cons (pe_lc (own := [("cell", 1)]) (g := gName 1) (tt := tYes) rfl sc_null_map.nd (pi_list (pv 0)) (blkOk_by (own := [("cell", 1)]) (N := N_null_map) (sc := defScope s_null_map) (by decide +kernel)) (fun _ _ _ _ _ => pg_name (i := 1) sc_null_map.nd rfl (Or.inl rfl)) (fun _ _ _ _ _ => pts_nil) (fun _ _ _ _ _ => (pe_ifExp (pt_cmpR op_isN (pv 1) pe_non (nomark _)) pe_int pe_int))) pa_nil))))), ?_⟩
    have hxl : xs.length = cs.length := hc.length
    refine ⟨_, rfl, a, rfl, ⟨_, hS⟩, fun D nD => ?_⟩
    refine lc_list (K := K) (a := a) (xs := xs) (fun i H' => Same H H' ∧ H' D = some (.lst (nb (bitsOf (cs.take i))))) ⟨nw nD, upd_same⟩ (fun i H' _ h => h.1.seq hS) ?_ ?_
    · rintro i x H1 hx ⟨s1, hD⟩
      obtain ⟨c, hci, hxc⟩ := pgl hc hx
      refine ⟨rfl, ?_⟩
      have fin : ∀ n : Nat, n = Bool.toNat c.isSome → ∃ acc, H1 D = some (.lst acc) ∧ acc.length < sizeLine ∧ Same H (upd H1 D (.lst (acc ++ [V.int (n : Int)]))) ∧ (upd H1 D (.lst (acc ++ [V.int (n : Int)]))) D = some (.lst (nb (bitsOf (cs.take (i + 1))))) := by
        rintro n rfl
        refine ⟨_, hD, ?_, mt s1 nD, ?_⟩
        · rw [nb_len]
          unfold bitsOf
          rw [List.length_map, List.length_map, List.length_take]
          exact szl (by omega)
        · rw [upd_same, take_more hci]
          unfold bitsOf
          rw [List.map_append, List.map_append, nb_app]
          rfl
      refine ⟨_, rfl, rfl, _, rfl, ?_⟩
      cases c with
      | none =>
        cases hxc
        exact iteT (fin 0 rfl)
      | some v =>
        rw [decide_eq_false (VA.ne_non hxc)]
        exact iteF (fin 1 rfl)
    · rintro H1 ⟨s1, hD⟩
      rw [hxl, List.take_length] at hD
      refine ⟨1, D, bitsOf cs, rfl, SqL.of hD, by decide, ?_, ?_, fun H2 p s2 n2 h2 => q H2 p (s1.trans s2) (s1.free n2) h2⟩
      · unfold bitsOf
        rw [List.length_map, List.length_map]
        exact hl
      · intro x hx
        unfold bitsOf at hx
        obtain ⟨b, _, rfl⟩ := List.mem_map.mp hx
        cases b <;> decide
/-! ## listed -/
abbrev s_listed : Stmt := topS 67
abbrev N_listed : List Str := ["numbers"]
theorem sc_listed : FnScope N_listed ["numbers"] (defScope s_listed) := ⟨rfl, rfl, rfl, by decide +kernel, rfl, by decide +kernel, by decide +kernel⟩
def sp_listed (K : PySem.W.Frag) : Sp := fun vs H Q _ => ∃ (a : Addr) (ns : List Int), vs = [.ref a] ∧ H a = some (.lst (ns.map V.int)) ∧ ns.length ≤ 500000 ∧
  ∀ H' p, Same H H' → H p = none → H' p = some (.lst (((ns.length : Int) :: ns).map V.int)) → Q (.ref p) H'
theorem ok_listed {P : Program} {w : World} {K : PySem.W.Frag} {mg : Str → Option Value} {base : Heap} {f : Addr} {fd : FuncData} (F : Fun K "listed" "listed" s_listed f fd) (b_len : mg "len" = none) : FnOk P w K mg base CX0 1 f fd ["numbers"] (sp_listed K) := by
  refine F.ok sc_listed (fun vs H Q E h => ?_) (fun cdv A outer s H vs Q E hr h => ?_)
  · obtain ⟨a, ns, rfl, hS, hl, q⟩ := h
    rfl
  · have hu := hu_of hr
    obtain ⟨a, ns, rfl, hS, hl, q⟩ := h
    refine ⟨_, (pss_one (ps_ret (pe_op op_cat (pe_lst (pa_cons (pe_callB call_len_seq (by rfl) b_len PySem.boot_len (pa_cons (pv 0) pa_nil)) pa_nil)) (pv 0)))), ?_⟩
    refine ⟨_, rfl, a, _, rfl, .inl (SqL.of hS), sz (by show 1 ≤ 1000000; decide), fun p np => ?_⟩
    refine ⟨_, rfl, p, a, _, _, rfl, rfl, upd_same, nw np _ _ hS, ?_, fun t nt => ?_⟩
    · rw [List.length_map]
      exact sz (by show 1 + ns.length ≤ 1000000; omega)
    · refine q _ t ((nw np).trans (nw nt)) ((nw np).free nt) ?_
      rw [upd_same, List.length_map]
      rfl
theorem okH_listed {P : Program} {w : World} {K : PySem.W.Frag} {mg : Str → Option Value} {base : Heap} {f : Addr} {fd : FuncData} (F : Fun K "listed" "listed" s_listed f fd) (b_len : mg "len" = none) : L2H.FnH P w K mg base CX0 1 f fd ["numbers"] (sp_listed K) := by
  refine okH F sc_listed (fun vs H Q E h => ?_) (fun cdv A outer s H vs Q E pp hot hr h => ?_)
  · obtain ⟨a, ns, rfl, hS, hl, q⟩ := h
    rfl
  · obtain ⟨a, ns, rfl, hS, hl, q⟩ := h
    refine ⟨_, (pss_one (ps_ret (pe_op op_cat (pe_lst (pa_cons (pe_callB call_len_seq (by rfl) b_len PySem.boot_len (pa_cons (pv 0) pa_nil)) pa_nil)) (pv 0)))), ?_⟩
    refine ⟨_, rfl, a, _, rfl, .inl (SqL.of hS), sz (by show 1 ≤ 1000000; decide), fun p np => ?_⟩
    refine ⟨_, rfl, p, a, _, _, rfl, rfl, upd_same, nw np _ _ hS, ?_, fun t nt => ?_⟩
    · rw [List.length_map]
      exact sz (by show 1 + ns.length ≤ 1000000; omega)
    · refine q _ t ((nw np).trans (nw nt)) ((nw np).free nt) ?_
      rw [upd_same, List.length_map]
      rfl
/-! ## answer_with_list -/
abbrev s_answer_with_list : Stmt := topS 68
abbrev N_answer_with_list : List Str := ["number", "numbers"]
theorem sc_answer_with_list : FnScope N_answer_with_list ["number", "numbers"] (defScope s_answer_with_list) := ⟨rfl, rfl, rfl, by decide +kernel, rfl, by decide +kernel, by decide +kernel⟩
def sp_answer_with_list (K : PySem.W.Frag) : Sp := fun vs H Q _ => ∃ (z : Int) (a : Addr) (ns : List Int), vs = [.int z, .ref a] ∧ H a = some (.lst (ns.map V.int)) ∧ ns.length ≤ 500000 ∧
  ∀ H' p, Same H H' → H p = none → H' p = some (.lst ((z :: (ns.length : Int) :: ns).map V.int)) → Q (.ref p) H'
theorem ok_answer_with_list {P : Program} {w : World} {K : PySem.W.Frag} {mg : Str → Option Value} {base : Heap} {f : Addr} {fd : FuncData} (F : Fun K "answer_with_list" "answer_with_list" s_answer_with_list f fd) (h_listed : Ok P w K mg base 1 "listed" ["numbers"] (sp_listed K)) : FnOk P w K mg base CX0 2 f fd ["number", "numbers"] (sp_answer_with_list K) := by
  refine F.ok sc_answer_with_list (fun vs H Q E h => ?_) (fun cdv A outer s H vs Q E hr h => ?_)
  · obtain ⟨z, a, ns, rfl, hS, hl, q⟩ := h
    rfl
  · have hu := hu_of hr
    obtain ⟨z, a, ns, rfl, hS, hl, q⟩ := h
    refine ⟨_, (pss_one (ps_ret (pe_op op_cat (pe_lst (pa_cons (pv 0) pa_nil)) (pe_fn h_listed (hr.mono (by decide)) (by rfl) (pa_cons (pv 1) pa_nil))))), ?_⟩
    refine ⟨_, rfl, sz (by show 1 ≤ 1000000; decide), fun p np => ?_⟩
    refine ⟨_, rfl, a, ns, rfl, nw np _ _ hS, hl, fun H1 t s1 nt ht => ?_⟩
    refine ⟨p, t, _, _, rfl, rfl, s1 _ _ upd_same, ht, ?_, fun u nu => ?_⟩
    · rw [List.length_map, List.length_cons]
      exact sz (by show 1 + (ns.length + 1) ≤ 1000000; omega)
    · refine q _ u (((nw np).trans s1).trans (nw nu)) (((nw np).trans s1).free nu) ?_
      rw [upd_same]
      rfl
theorem okH_answer_with_list {P : Program} {w : World} {K : PySem.W.Frag} {mg : Str → Option Value} {base : Heap} {f : Addr} {fd : FuncData} (F : Fun K "answer_with_list" "answer_with_list" s_answer_with_list f fd) (g_listed : OkH P w K mg base 1 "listed" ["numbers"] (sp_listed K)) : L2H.FnH P w K mg base CX0 2 f fd ["number", "numbers"] (sp_answer_with_list K) := by
  refine okH F sc_answer_with_list (fun vs H Q E h => ?_) (fun cdv A outer s H vs Q E pp hot hr h => ?_)
  · obtain ⟨z, a, ns, rfl, hS, hl, q⟩ := h
    rfl
  · obtain ⟨z, a, ns, rfl, hS, hl, q⟩ := h
    refine ⟨_, (pss_one (ps_ret (pe_op op_cat (pe_lst (pa_cons (pv 0) pa_nil)) (pe_fnH g_listed (hr.mono (by decide)) (hot_of hot) (by rfl) (pa_cons (pv 1) pa_nil))))), ?_⟩
    refine ⟨_, rfl, sz (by show 1 ≤ 1000000; decide), fun p np => ?_⟩
    refine ⟨_, rfl, a, ns, rfl, nw np _ _ hS, hl, fun H1 t s1 nt ht => ?_⟩
    refine ⟨p, t, _, _, rfl, rfl, s1 _ _ upd_same, ht, ?_, fun u nu => ?_⟩
    · rw [List.length_map, List.length_cons]
      exact sz (by show 1 + (ns.length + 1) ≤ 1000000; omega)
    · refine q _ u (((nw np).trans s1).trans (nw nu)) (((nw np).trans s1).free nu) ?_
      rw [upd_same]
      rfl
/-! ## page_bytes -/
abbrev s_page_bytes : Stmt := topS 57
abbrev N_page_bytes : List Str := ["kind", "cells", "values", "nulls", "state", "way", "body", "written", "out", "number"]
theorem sc_page_bytes : FnScope N_page_bytes ["kind", "cells"] (defScope s_page_bytes) := ⟨rfl, rfl, rfl, by decide +kernel, rfl, by decide +kernel, by decide +kernel⟩
def sp_page_bytes (K : PySem.W.Frag) : Sp := fun vs H Q _ => ∃ (k : Nat) (a : Addr) (xs : List V) (cs : List Pg.Cell), vs = [.int (k : Int), .ref a] ∧ SqL K H a xs ∧ CsA H xs cs ∧ (∀ c ∈ cs, Pg.cellIs k c = true) ∧ k ≤ 1 ∧ cs.length ≤ 64 ∧
  ∀ H' p, Same H H' → H p = none → H' p = some (.lst (nb (Pg.page k cs))) → Q (.ref p) H'

theorem ok_page_bytes {P : Program} {w : World} {K : PySem.W.Frag} {mg : Str → Option Value} {base : Heap} {f : Addr} {fd : FuncData} (F : Fun K "page_bytes" "page_bytes" s_page_bytes f fd) (b_len : mg "len" = none) (c_SOME_NULL : Kst mg "SOME_NULL" (.int 2)) (h_check_bytes : Ok P w K mg base 2 "check_bytes" ["the_bytes"] (sp_check_bytes K)) (h_number_bytes : Ok P w K mg base 1 "number_bytes" ["number", "width"] (sp_number_bytes K)) (h_way_taken : Ok P w K mg base 1 "way_taken" ["written"] (sp_way_taken K)) (h_each_way : Ok P w K mg base 5 "each_way" ["kind", "values"] (sp_each_way K)) (h_null_map : Ok P w K mg base 3 "null_map" ["cells"] (sp_null_map K)) (h_null_state : Ok P w K mg base 1 "null_state" ["n", "nulls"] (sp_null_state K)) (h_values_among : Ok P w K mg base 1 "values_among" ["cells"] (sp_values_among K)) : FnOk P w K mg base CX0 6 f fd ["kind", "cells"] (sp_page_bytes K) := by
  refine F.ok sc_page_bytes (fun vs H Q E h => ?_) (fun cdv A outer s H vs Q E hr h => ?_)
  · obtain ⟨k, a, xs, cs, rfl, hS, hc, hi, hk, hl, q⟩ := h
    rfl
  · have hu := hu_of hr
    obtain ⟨k, a, xs, cs, rfl, hS, hc, hi, hk, hl, q⟩ := h
    refine ⟨_, (pss_cons (ps_set (i := 2) sc_page_bytes.nd rfl (Or.inl rfl) (pe_fn h_values_among (hr.mono (by decide)) (by rfl) (pa_cons (pv 1) pa_nil)))
              (pss_cons (ps_set (i := 3) sc_page_bytes.nd rfl (Or.inl rfl) (pe_op op_sub (pe_callB call_len_seq (by rfl) b_len PySem.boot_len (pa_cons (pv 1) pa_nil)) (pe_callB call_len_seq (by rfl) b_len PySem.boot_len (pa_cons (pv 2) pa_nil))))
              (pss_cons (ps_set (i := 4) sc_page_bytes.nd rfl (Or.inl rfl) (pe_fn h_null_state (hr.mono (by decide)) (by rfl) (pa_cons (pe_callB call_len_seq (by rfl) b_len PySem.boot_len (pa_cons (pv 1) pa_nil)) (pa_cons (pv 3) pa_nil))))
              (pss_cons (ps_set (i := 5) sc_page_bytes.nd rfl (Or.inl rfl) pe_int)
              (pss_cons (ps_set (i := 6) sc_page_bytes.nd rfl (Or.inl rfl) (pe_ifExp (pt_cmpR op_eq (pv 4) (pe_k c_SOME_NULL rfl) (nomark _)) (pe_fn h_null_map (hr.mono (by decide)) (by rfl) (pa_cons (pv 1) pa_nil)) (pe_lst pa_nil)))
              (pss_cons (ps_if (pt_cmpR op_gt (pe_callB call_len_seq (by rfl) b_len PySem.boot_len (pa_cons (pv 2) pa_nil)) pe_int (nomark _))
              (pss_cons (ps_set (i := 7) sc_page_bytes.nd rfl (Or.inl rfl) (pe_fn h_each_way (hr.mono (by decide)) (by rfl) (pa_cons (pv 0) (pa_cons (pv 2) pa_nil))))
              (pss_cons (ps_set (i := 5) sc_page_bytes.nd rfl (Or.inl rfl) (pe_fn h_way_taken (hr.mono (by decide)) (by rfl) (pa_cons (pv 7) pa_nil)))
              (pss_one (ps_expr (pe_bm PySem.F.plainAttrs_list PySem.F.slot_list_extend PySem.F.type_list_extend mt_extend (pv 6) (pa_cons (pe_ix ix_list (pv 7) (pv 5) (fun _ _ => rfl)) pa_nil))))))
              pss_nil)
              (pss_cons (ps_set (i := 8) sc_page_bytes.nd rfl (Or.inl rfl) (pe_lst (pa_cons (pv 5) (pa_cons (pv 4) (pa_cons pe_int (pa_cons pe_int pa_nil))))))
              (pss_cons (ps_for PassesOwn.never rfl (pi_tup (pe_tup (pa_cons (pe_callB call_len_seq (by rfl) b_len PySem.boot_len (pa_cons (pv 1) pa_nil)) (pa_cons (pv 3) (pa_cons (pe_callB call_len_seq (by rfl) b_len PySem.boot_len (pa_cons (pv 6) pa_nil)) pa_nil))))) (pg_name (i := 9) sc_page_bytes.nd rfl (.inl rfl))
              (pss_one (ps_expr (pe_bm PySem.F.plainAttrs_list PySem.F.slot_list_extend PySem.F.type_list_extend mt_extend (pv 8) (pa_cons (pe_fn h_number_bytes (hr.mono (by decide)) (by rfl) (pa_cons (pv 9) (pa_cons pe_int pa_nil))) pa_nil)))))
              (pss_cons (ps_expr (pe_bm PySem.F.plainAttrs_list PySem.F.slot_list_extend PySem.F.type_list_extend mt_extend (pv 8) (pa_cons (pv 6) pa_nil)))
              (pss_one (ps_ret (pe_op op_cat (pv 8) (pe_fn h_check_bytes (hr.mono (by decide)) (by rfl) (pa_cons (pv 8) pa_nil)))))))))))))), ?_⟩
    have hxl : xs.length = cs.length := hc.length
    have hvi := PfM.vals_is hi
    have hvl : (Pg.valuesOf cs).length ≤ cs.length := PfM.vals_len cs
    -- values = values_among(cells)
    refine ⟨_, rfl, a, xs, cs, rfl, hS, hc, by omega, fun H1 D ys s1 nD hD hy => ?_⟩
    · have hyl0 := hy.length
      have hyl : ys.length = (Pg.valuesOf cs).length := hy.length
      have hS1 := s1.seq hS
      have en : ((cs.length : Int) - ((Pg.valuesOf cs).length : Int)) = ((Pg.nullsOf cs : Nat) : Int) := by
        unfold Pg.nullsOf
        omega
      -- nulls, state, way
      refine ⟨_, rfl, a, _, rfl, .inl hS1, _, rfl, D, _, rfl, .inl (SqL.of hD), _, _, rfl, rfl, ?_⟩
      dsimp only
      rw [hxl, hyl, en]
      refine ⟨_, rfl, a, _, rfl, .inl hS1, _, rfl, cs.length, Pg.nullsOf cs, by rw [hxl]; rfl, ?_⟩
      generalize hst : (if Pg.nullsOf cs = 0 then 0 else if Pg.nullsOf cs = cs.length then 1 else 2 : Nat) = st
      refine stepC ?_
      refine stepC ?_
      -- body = null_map(cells) if state == SOME_NULL else []
      refine cut (fun σ' H' => ∃ o, σ' = [some (.int (k : Int)), some (.ref a), some (.ref D), some (.int ((Pg.nullsOf cs : Nat) : Int)), some (.int (st : Int)), some (.int 0), some (.ref o), none, none, none] ∧ Same H1 H' ∧ H1 o = none ∧ H' o = some (.lst (nb (if st = 2 then Pg.bitBytes (cs.map Option.isSome) else [])))) ?_ (fun tail => ?_)
      · rintro σ2 H2 ⟨o, rfl, s2, no, ho⟩
        have bl := PfM.bits_len cs hl
        have bl2 : (if st = 2 then Pg.bitBytes (cs.map Option.isSome) else []).length ≤ 10 := by
          split
          · exact bl
          · decide
        -- the rest behind the values' bytes
        refine cut (fun σ' H' => ∃ (w : Nat) (bd : List Nat) (y7 : Option V), σ' = [some (.int (k : Int)), some (.ref a), some (.ref D), some (.int ((Pg.nullsOf cs : Nat) : Int)), some (.int (st : Int)), some (.int (w : Int)), some (.ref o), y7, none, none] ∧ Same H H' ∧ H' o = some (.lst (nb bd)) ∧ bd.length ≤ 4000 ∧ w = (Pg.chosen k (Pg.valuesOf cs)).1 ∧ bd = (if st = 2 then Pg.bitBytes (cs.map Option.isSome) else []) ++ (Pg.chosen k (Pg.valuesOf cs)).2) ?_ (fun tail2 => ?_)
        · rintro σ3 H3 ⟨w, bd, y7, rfl, s3, ho3, hbd, hw, hb⟩
          have pe := PfM.page_eq k cs hw hst.symm hb
          have fl := PfM.frame_len w st cs.length (Pg.nullsOf cs) bd
          -- out = [way, state, 0, 0]
          refine ⟨_, rfl, _, rfl, sz (by show 4 ≤ 1000000; decide), fun u nu => ?_⟩
          have s4 : Same H (upd H3 u (.lst [V.int (w : Int), V.int (st : Int), V.int 0, V.int 0])) := s3.trans (nw nu)
          have nu0 : H u = none := s3.free nu
          -- for number in (len(cells), nulls, len(body))
          refine ⟨_, rfl, a, _, rfl, .inl (s4.seq hS), _, rfl, _, rfl, o, _, rfl, .inl (SqL.of (nw nu _ _ ho3)), sz (by show 3 ≤ 1000000; decide), fun t nt => ?_⟩
          have hou : o ≠ u := ne_some ho3 nu
          have hut : u ≠ t := ne_some upd_same nt
          have hot : o ≠ t := ne_some (nw nu _ _ ho3) nt
          rw [hxl, nb_len]
          refine ⟨t, rfl, ⟨_, SqT.of upd_same⟩, for_tup (K := K) (a := t) (xs := [V.int (cs.length : Int), V.int ((Pg.nullsOf cs : Nat) : Int), V.int (bd.length : Int)]) (fun i σ' H' => ∃ y, σ' = [some (.int (k : Int)), some (.ref a), some (.ref D), some (.int ((Pg.nullsOf cs : Nat) : Int)), some (.int (st : Int)), some (.int (w : Int)), some (.ref o), y7, some (.ref u), y] ∧ Same H H' ∧ H' o = some (.lst (nb bd)) ∧ H' t = some (.tup [V.int (cs.length : Int), V.int ((Pg.nullsOf cs : Nat) : Int), V.int (bd.length : Int)]) ∧ H' u = some (.lst (nb ([w, st, 0, 0] ++ ([cs.length, Pg.nullsOf cs, bd.length].take i).flatMap (Pg.le 4)))))
            ⟨none, rfl, s4.trans (nw nt), nw nt _ _ (nw nu _ _ ho3), upd_same, nw nt _ _ upd_same⟩ (fun i σ H' _ ⟨_, _, _, _, h4, _⟩ => SqT.of h4) ?_ ?_⟩
          · rintro i x σ5 H5 hx ⟨y, rfl, s5, ho5, ht5, hu5⟩
            obtain ⟨n, hn, rfl⟩ : ∃ n : Nat, [cs.length, Pg.nullsOf cs, bd.length][i]? = some n ∧ x = .int (n : Int) := nb_get (l := [cs.length, Pg.nullsOf cs, bd.length]) hx
            have hfl : (([cs.length, Pg.nullsOf cs, bd.length].take i).flatMap (Pg.le 4)).length ≤ 12 := by
              have := PfM.flat_len (f := Pg.le 4) (B := 4) (l := [cs.length, Pg.nullsOf cs, bd.length].take i) fun v _ => by rw [PfM.le_len]; exact Nat.le_refl _
              have h2 : ([cs.length, Pg.nullsOf cs, bd.length].take i).length ≤ 3 := by rw [List.length_take]; exact Nat.min_le_right _ _
              omega
            refine ⟨_, rfl, .inl ⟨rfl, _, SqL.of hu5⟩, _, rfl, _, 4, rfl, by decide, fun H6 p s6 np hp => ?_⟩
            refine ⟨u, p, _, _, rfl, rfl, s6 _ _ hu5, hp, ?_, ?_⟩
            · rw [nb_len, nb_len, PfM.wide_len, List.length_append]
              exact sz (by show 4 + _ + 4 ≤ 1000000; omega)
            · have h6o := s6 _ _ ho5
              have h6t := s6 _ _ ht5
              refine ⟨some (.int (n : Int)), rfl, mt (s5.trans s6) nu0, ?_, ?_, ?_⟩
              · rw [upd_ne hou]; exact h6o
              · rw [upd_ne (fun e => hut e.symm)]; exact h6t
              · rw [upd_same, PfM.flat_more hn, ← nb_app, PfM.wide_nat, List.append_assoc]
          · rintro σ5 H5 ⟨y, rfl, s5, ho5, ht5, hu5⟩
            have ef : [w, st, 0, 0] ++ ([cs.length, Pg.nullsOf cs, bd.length].take 3).flatMap (Pg.le 4) ++ bd = PfM.frame w st cs.length (Pg.nullsOf cs) bd := by
              unfold PfM.frame
              simp
            have hl5 : ([w, st, 0, 0] ++ ([cs.length, Pg.nullsOf cs, bd.length].take 3).flatMap (Pg.le 4)).length + bd.length = 16 + bd.length := by
              have := congrArg List.length ef
              rw [List.length_append, fl] at this
              exact this
            -- out.extend(body)
            refine ⟨_, rfl, .inl ⟨rfl, _, SqL.of hu5⟩, _, rfl, u, o, _, _, rfl, rfl, hu5, ho5, ?_, ?_⟩
            · rw [nb_len, nb_len]
              have hl5' : ([w, st, 0, 0] ++ (List.take [V.int (cs.length : Int), V.int ((Pg.nullsOf cs : Nat) : Int), V.int (bd.length : Int)].length [cs.length, Pg.nullsOf cs, bd.length]).flatMap (Pg.le 4)).length + bd.length = 16 + bd.length := hl5
              exact sz (by omega)
            have hu6 : (upd H5 u (.lst (nb ([w, st, 0, 0] ++ ([cs.length, Pg.nullsOf cs, bd.length].take 3).flatMap (Pg.le 4)) ++ nb bd))) u = some (.lst (nb (PfM.frame w st cs.length (Pg.nullsOf cs) bd))) := by
              rw [upd_same, ← nb_app, ef]
            have s6 : Same H (upd H5 u (.lst (nb ([w, st, 0, 0] ++ ([cs.length, Pg.nullsOf cs, bd.length].take 3).flatMap (Pg.le 4)) ++ nb bd))) := mt s5 nu0
            -- return out + check_bytes(out)
            refine ⟨_, rfl, _, rfl, u, PfM.frame w st cs.length (Pg.nullsOf cs) bd, rfl, SqL.of hu6, fun H7 p s7 np hp => ?_⟩
            refine ⟨u, p, _, _, rfl, rfl, s7 _ _ hu6, hp, ?_, fun r nr => ?_⟩
            · rw [nb_len, nb_len, PfM.le_len, fl]
              exact sz (by omega)
            · refine q _ r ((s6.trans s7).trans (nw nr)) ((s6.trans s7).free nr) ?_
              rw [upd_same, ← nb_app, pe]
        · -- if len(values) > 0
          have hD2 := s2 _ _ hD
          refine ⟨_, rfl, D, _, rfl, .inl (SqL.of hD2), _, _, rfl, rfl, _, rfl, ifD (fun h => ?_) (fun h => ?_)⟩
          · have hne : Pg.valuesOf cs ≠ [] := fun e => by
              rw [e, List.length_nil] at hyl
              rw [hyl] at h
              exact absurd h (by decide)
            have ce := PfM.chosen_eq k hne
            have w0 : (Pg.ways k (Pg.valuesOf cs))[0]? = some (some (Pg.plain k (Pg.valuesOf cs))) := rfl
            have pa := PfM.pick_at w0
            have pl : (PfM.pick (Pg.ways k (Pg.valuesOf cs)) (Pg.plain k (Pg.valuesOf cs))).2.length ≤ 3000 := by
              have h1 := PfM.pick_le (Pg.ways k (Pg.valuesOf cs)) (Pg.plain k (Pg.valuesOf cs)) _ (Nat.le_refl _)
              rw [PfM.pickTo_all] at h1
              have h2 := PfM.plain_len (k := k) (l := Pg.valuesOf cs) (fun v hv => raw_len (hvi v hv)) (by omega)
              omega
            refine ⟨_, rfl, _, rfl, k, D, ys, Pg.valuesOf cs, rfl, SqL.of hD2, vsm s2 hy, hvi, hk, hne, by omega, fun H3 e zs s3 ne he hz => ?_⟩
            refine ⟨_, rfl, e, zs, Pg.ways k (Pg.valuesOf cs), _, rfl, SqL.of he, hz, w0, fun H4 s4 => ?_⟩
            obtain ⟨z, hzz, ⟨pz, rfl, hpz⟩⟩ := pgr hz pa
            have ho4 := s4 _ _ (s3 _ _ ho)
            refine ⟨_, rfl, .inl ⟨rfl, _, SqL.of ho4⟩, _, rfl, _, rfl, e, _, _, _, rfl, rfl, SqL.of (s4 _ _ he), atI_nat hzz, o, pz, _, _, rfl, rfl, ho4, s4 _ _ hpz, ?_, ?_⟩
            · rw [nb_len, nb_len]
              exact sz (by omega)
            · refine tail2 _ _ ⟨_, (if st = 2 then Pg.bitBytes (cs.map Option.isSome) else []) ++ (Pg.chosen k (Pg.valuesOf cs)).2, some (.ref e), ?_, mt (((s1.trans s2).trans s3).trans s4) (s1.free no), ?_, ?_, rfl, rfl⟩
              · rw [ce]
                rfl
              · rw [upd_same, ← nb_app, ce]
              · rw [List.length_append, ce]
                omega
          · have he : Pg.valuesOf cs = [] := by
              cases e : Pg.valuesOf cs with
              | nil => rfl
              | cons v r =>
                rw [e, List.length_cons] at hyl
                rw [hyl] at h
                exact absurd (by omega) h
            have ce : Pg.chosen k (Pg.valuesOf cs) = (0, []) := by
              rw [he]
              rfl
            refine tail2 _ _ ⟨0, (if st = 2 then Pg.bitBytes (cs.map Option.isSome) else []) ++ (Pg.chosen k (Pg.valuesOf cs)).2, none, rfl, s1.trans s2, ?_, ?_, ?_, rfl⟩
            · rw [ho, ce, List.append_nil]
            · rw [ce, List.append_nil]
              omega
            · rw [ce]
      · refine ⟨_, rfl, rfl, _, rfl, ifE (fun e => ?_) (fun e => ?_)⟩
        · have e2 : st = 2 := by omega
          refine ⟨_, rfl, a, xs, cs, rfl, hS1, csm s1 hc, by omega, fun H2 o s2 no ho => tail _ _ ⟨o, rfl, s2, no, ?_⟩⟩
          rw [ho, if_pos e2]
        · have e2 : st ≠ 2 := by omega
          refine ⟨Nat.zero_le _, fun o no => tail _ _ ⟨o, rfl, nw no, no, ?_⟩⟩
          rw [upd_same, if_neg e2]
          rfl
/-! ## number_at -/
abbrev s_number_at : Stmt := topS 17
abbrev N_number_at : List Str := ["the_bytes", "at", "width", "number", "byte"]
theorem sc_number_at : FnScope N_number_at ["the_bytes", "at", "width"] (defScope s_number_at) := ⟨rfl, rfl, rfl, by decide +kernel, rfl, by decide +kernel, by decide +kernel⟩
def sp_number_at (K : PySem.W.Frag) : Sp := fun vs H Q _ => ∃ (a : Addr) (b : List Nat) (i n : Nat), vs = [.ref a, .int (i : Int), .int (n : Int)] ∧ SqL K H a (nb b) ∧ ∀ H', Same H H' → Q (.int (PfM.numAt b i n : Nat)) H'
theorem ok_number_at {P : Program} {w : World} {K : PySem.W.Frag} {mg : Str → Option Value} {base : Heap} {f : Addr} {fd : FuncData} (F : Fun K "number_at" "number_at" s_number_at f fd) (b_reversed : mg "reversed" = none) : FnOk P w K mg base CX0 1 f fd ["the_bytes", "at", "width"] (sp_number_at K) := by
  refine F.ok sc_number_at (fun vs H Q E h => ?_) (fun cdv A outer s H vs Q E hr h => ?_)
  · obtain ⟨a, b, i, n, rfl, hS, q⟩ := h
    rfl
  · have hu := hu_of hr
    obtain ⟨a, b, i, n, rfl, hS, q⟩ := h
    refine ⟨_, (pss_cons (ps_set (i := 3) sc_number_at.nd rfl (Or.inl rfl) pe_int)
              (pss_cons (ps_for PassesOwn.never rfl (pi_reversed (by rfl) b_reversed (pa_cons (pe_slice sl_list (pv 0) (po_some (pv 1)) (po_some (pe_op op_add (pv 1) (pv 2)))) pa_nil)) (pg_name (i := 4) sc_number_at.nd rfl (.inl rfl))
              (pss_one (ps_set (i := 3) sc_number_at.nd rfl (Or.inl rfl) (pe_op op_add (pe_op op_mul (pv 3) pe_int) (pv 4)))))
              (pss_one (ps_ret (pv 3))))), ?_⟩
    refine ⟨_, rfl, _, rfl, _, rfl, _, rfl, _, rfl, _, _, rfl, rfl, _, rfl, a, _, rfl, hS, fun p np => ?_⟩
    have ec : cutV (nb b) (some (i : Int)) (some ((i : Int) + (n : Int))) = nb ((b.drop i).take n) := by
      have := cut_nb2 b i (i + n)
      rw [show i + n - i = n by omega, Int.natCast_add] at this
      exact this
    rw [ec]
    have hp : (upd H p (.lst (nb ((b.drop i).take n)))) p = some (.lst (nb ((b.drop i).take n))) := upd_same
    have s1 : Same H (upd H p (.lst (nb ((b.drop i).take n)))) := nw np
    generalize upd H p (.lst (nb ((b.drop i).take n))) = H1 at hp s1
    unfold PfM.numAt at q
    generalize (b.drop i).take n = l at hp q
    have hn : (nb l).length = l.length := nb_len l
    refine ⟨p, _, rfl, SqL.of hp, ?_⟩
    refine for_it walk_rev (fun j σ H' => ∃ v, σ = [some (.ref a), some (.int (i : Int)), some (.int (n : Int)), some (.int ((Pg.num (l.drop (l.length - j)) : Nat) : Int)), v] ∧ H' = H1) ⟨none, ?_, rfl⟩ ?_ ?_ ?_
    · rw [Nat.sub_zero, List.drop_length]
      rfl
    · rintro j σ H2 _ ⟨v, rfl, rfl⟩
      exact SqL.of hp
    · rintro j x σ H2 H3 hj ⟨v, rfl, rfl⟩ ⟨rfl, hx⟩
      obtain ⟨c, hc, rfl⟩ := nb_get hx
      rw [hn] at hj hc
      have hd : l.drop (l.length - (j + 1)) = c :: l.drop (l.length - j) := by
        have h1 : l.length - 1 - j < l.length := by omega
        have e := (List.getElem?_eq_some_iff.mp hc).2
        rw [show l.length - (j + 1) = l.length - 1 - j by omega, List.drop_eq_getElem_cons h1, e, show l.length - 1 - j + 1 = l.length - j by omega]
      refine ⟨_, rfl, _, _, rfl, rfl, .inr ⟨by decide, by decide⟩, _, rfl, _, _, rfl, rfl, ?_⟩
      refine ⟨some (.int (c : Int)), ?_, rfl⟩
      rw [hd, PfM.num_cons]
      have e : (((c + 256 * Pg.num (l.drop (l.length - j)) : Nat)) : Int) = ((Pg.num (l.drop (l.length - j)) : Nat) : Int) * 256 + (c : Int) := by omega
      rw [e]
      rfl
    · rintro σ H2 ⟨v, rfl, rfl⟩
      rw [hn, Nat.sub_self, List.drop_zero]
      exact ⟨_, rfl, q _ s1⟩
/-! ## signed_at -/
abbrev s_signed_at : Stmt := topS 18
abbrev N_signed_at : List Str := ["the_bytes", "at", "width", "number", "half"]
theorem sc_signed_at : FnScope N_signed_at ["the_bytes", "at", "width"] (defScope s_signed_at) := ⟨rfl, rfl, rfl, by decide +kernel, rfl, by decide +kernel, by decide +kernel⟩
def sp_signed_at (K : PySem.W.Frag) : Sp := fun vs H Q _ => ∃ (a : Addr) (b : List Nat) (i n : Nat), vs = [.ref a, .int (i : Int), .int (n : Int)] ∧ SqL K H a (nb b) ∧ 1 ≤ n ∧ n ≤ 100 ∧ ∀ H', Same H H' → Q (.int (PfM.sgnAt b i n)) H'
theorem ok_signed_at {P : Program} {w : World} {K : PySem.W.Frag} {mg : Str → Option Value} {base : Heap} {f : Addr} {fd : FuncData} (F : Fun K "signed_at" "signed_at" s_signed_at f fd) (h_number_at : Ok P w K mg base 1 "number_at" ["the_bytes", "at", "width"] (sp_number_at K)) : FnOk P w K mg base CX0 2 f fd ["the_bytes", "at", "width"] (sp_signed_at K) := by
  refine F.ok sc_signed_at (fun vs H Q E h => ?_) (fun cdv A outer s H vs Q E hr h => ?_)
  · obtain ⟨a, b, i, n, rfl, hS, h1, hn, q⟩ := h
    rfl
  · have hu := hu_of hr
    obtain ⟨a, b, i, n, rfl, hS, h1, hn, q⟩ := h
    refine ⟨_, (pss_cons (ps_set (i := 3) sc_signed_at.nd rfl (Or.inl rfl) (pe_fn h_number_at (hr.mono (by decide)) (by rfl) (pa_cons (pv 0) (pa_cons (pv 1) (pa_cons (pv 2) pa_nil)))))
              (pss_cons (ps_set (i := 4) sc_signed_at.nd rfl (Or.inl rfl) (pe_op op_shlN pe_int (pe_op op_sub (pe_op op_mul pe_int (pv 2)) pe_int)))
              (pss_one (ps_ret (pe_ifExp (pt_cmpR op_ge (pv 3) (pv 4) (nomark _)) (pe_op op_sub (pv 3) (pe_op op_mul pe_int (pv 4))) (pv 3)))))), ?_⟩
    refine ⟨_, rfl, _, rfl, _, rfl, a, b, i, n, rfl, hS, fun H1 s1 => ?_⟩
    have e8 : (8 : Int) * (n : Int) - 1 = ((8 * n - 1 : Nat) : Int) := by omega
    refine ⟨_, rfl, _, _, rfl, rfl, .inl ⟨by decide, by decide⟩, _, _, rfl, rfl, 1, 8 * n - 1, rfl, ?_, shl_ok (n := 1) (by decide) (by omega), ?_⟩
    · show V.int ((8 : Int) * (n : Int) - 1) = _
      rw [e8]
    rw [Int.one_mul]
    have q1 := q H1 s1
    unfold PfM.sgnAt PfM.sgn at q1
    generalize PfM.numAt b i n = m at q1 ⊢
    have hc : ((2 ^ (8 * n - 1) : Nat) : Int) = 2 ^ (8 * n - 1) := cpow _
    refine ⟨_, rfl, _, rfl, _, _, rfl, rfl, _, rfl, ifD (fun h => ?_) (fun h => ?_)⟩
    · rw [if_pos (by omega)] at q1
      refine ⟨_, rfl, _, rfl, _, _, rfl, rfl, .inl ⟨by decide, by decide⟩, _, _, rfl, rfl, ?_⟩
      exact q1
    · rw [if_neg (by omega)] at q1
      exact ⟨_, rfl, q1⟩
/-! ## packed_numbers -/
abbrev s_packed_numbers : Stmt := topS 21
abbrev N_packed_numbers : List Str := ["q", "k", "the_bytes", "together", "numbers", "place"]
theorem sc_packed_numbers : FnScope N_packed_numbers ["q", "k", "the_bytes"] (defScope s_packed_numbers) := ⟨rfl, rfl, rfl, by decide +kernel, rfl, by decide +kernel, by decide +kernel⟩
def sp_packed_numbers (K : PySem.W.Frag) : Sp := fun vs H Q _ => ∃ (m k : Nat) (a : Addr) (b : List Nat), vs = [.int (m : Int), .int (k : Int), .ref a] ∧ SqL K H a (nb b) ∧ m ≤ 300 ∧ k ≤ 1000 ∧
  ∀ H' p, Same H H' → H p = none → H' p = some (.lst (nb (Pg.unpacked m k (b.take (Pg.packedLong m k))))) → Q (.ref p) H'
theorem ok_packed_numbers {P : Program} {w : World} {K : PySem.W.Frag} {mg : Str → Option Value} {base : Heap} {f : Addr} {fd : FuncData} (F : Fun K "packed_numbers" "packed_numbers" s_packed_numbers f fd) (b_range : mg "range" = none) (h_number_at : Ok P w K mg base 1 "number_at" ["the_bytes", "at", "width"] (sp_number_at K)) (h_packed_width : Ok P w K mg base 1 "packed_width" ["q", "k"] (sp_packed_width K)) : FnOk P w K mg base CX0 2 f fd ["q", "k", "the_bytes"] (sp_packed_numbers K) := by
  refine F.ok sc_packed_numbers (fun vs H Q E h => ?_) (fun cdv A outer s H vs Q E hr h => ?_)
  · obtain ⟨m, k, a, b, rfl, hS, hm, hk, q⟩ := h
    rfl
  · have hu := hu_of hr
    obtain ⟨m, k, a, b, rfl, hS, hm, hk, q⟩ := h
    refine ⟨_, (pss_cons (ps_set (i := 3) sc_packed_numbers.nd rfl (Or.inl rfl) (pe_fn h_number_at (hr.mono (by decide)) (by rfl) (pa_cons (pv 2) (pa_cons pe_int (pa_cons (pe_fn h_packed_width (hr.mono (by decide)) (by rfl) (pa_cons (pv 0) (pa_cons (pv 1) pa_nil))) pa_nil)))))
              (pss_cons (ps_set (i := 4) sc_packed_numbers.nd rfl (Or.inl rfl) (pe_lst pa_nil))
              (pss_cons (ps_for PassesOwn.never rfl (pi_range1 (by rfl) b_range (pa_cons (pv 1) pa_nil)) (pg_name (i := 5) sc_packed_numbers.nd rfl (.inl rfl))
              (pss_cons (ps_expr (pe_bm PySem.F.plainAttrs_list PySem.F.slot_list_append PySem.F.type_list_append mt_append (pv 4) (pa_cons (pe_op op_modN (pv 3) (pe_op op_shlN pe_int (pv 0))) pa_nil)))
              (pss_one (ps_set (i := 3) sc_packed_numbers.nd rfl (Or.inl rfl) (pe_op op_shrNN (pv 3) (pv 0))))))
              (pss_one (ps_ret (pv 4)))))), ?_⟩
    refine ⟨_, rfl, _, rfl, _, rfl, m, k, rfl, by omega, a, b, 0, Pg.packedLong m k, rfl, hS, fun H1 s1 => ?_⟩
    have e0 : PfM.numAt b 0 (Pg.packedLong m k) = Pg.num (b.take (Pg.packedLong m k)) := by
      unfold PfM.numAt
      rw [List.drop_zero]
    rw [e0]
    unfold Pg.unpacked at q
    dsimp only at q
    generalize Pg.num (b.take (Pg.packedLong m k)) = t at q ⊢
    refine ⟨Nat.zero_le _, fun o no => ?_⟩
    refine ⟨_, rfl, (k : Int), rfl, by omega, by omega, for_range (fun i σ H' => ∃ v, σ = [some (.int (m : Int)), some (.int (k : Int)), some (.ref a), some (.int ((t / 2 ^ (m * i) : Nat) : Int)), some (.ref o), v] ∧ Same H1 H' ∧ H' o = some (.lst (nb ((List.range i).map fun (j : Nat) => t / 2 ^ (m * j) % 2 ^ m)))) ⟨none, ?_, nw no, upd_same⟩ ?_ ?_⟩
    · rw [Nat.mul_zero, Nat.pow_zero, Nat.div_one]
      rfl
    · rintro i σ H2 hi ⟨v, rfl, s2, ho⟩
      refine ⟨_, rfl, .inl ⟨rfl, _, SqL.of ho⟩, _, rfl, _, rfl, 1, m, rfl, rfl, shl_ok (n := 1) (by decide) (by omega), _, _, rfl, rfl, ?_, o, _, _, rfl, rfl, ho, ?_, ?_⟩
      · show (1 : Int) * 2 ^ m ≠ 0
        have := Nat.pow_pos (n := m) (show 0 < 2 by decide)
        have hc := cpow m
        omega
      · rw [nb_len, List.length_map, List.length_range]
        exact szl (by omega)
      · refine ⟨_, rfl, _, rfl, _, m, rfl, rfl, some (.int (0 + (i : Int))), ?_, mt s2 no, ?_⟩
        · rw [Nat.div_div_eq_div_mul, ← Nat.pow_add, ← Nat.mul_succ]
          rfl
        · rw [upd_same, List.range_succ, List.map_append, nb_app]
          have e : ((t / 2 ^ (m * i) : Nat) : Int).fmod (1 * 2 ^ m) = ((t / 2 ^ (m * i) % 2 ^ m : Nat) : Int) := by
            rw [Int.one_mul, ← cpow, Int.fmod_eq_emod_of_nonneg _ (Int.natCast_nonneg _)]
            rfl
          show some (HO.lst (_ ++ [V.int (((t / 2 ^ (m * i) : Nat) : Int).fmod (1 * 2 ^ m))])) = _
          rw [e]
          rfl
    · rintro σ H2 ⟨v, rfl, s2, ho⟩
      rw [Int.toNat_natCast] at ho
      exact ⟨_, rfl, q H2 o (s1.trans s2) (s1.free no) ho⟩
/-! ## alone_value -/
abbrev s_alone_value : Stmt := topS 39
abbrev N_alone_value : List Str := ["kind", "the_bytes", "at"]
theorem sc_alone_value : FnScope N_alone_value ["kind", "the_bytes", "at"] (defScope s_alone_value) := ⟨rfl, rfl, rfl, by decide +kernel, rfl, by decide +kernel, by decide +kernel⟩
def sp_alone_value (K : PySem.W.Frag) : Sp := fun vs H Q _ => ∃ (k : Nat) (a : Addr) (b : List Nat) (i : Nat), vs = [.int (k : Int), .ref a, .int (i : Int)] ∧ k ≤ 1 ∧ SqL K H a (nb b) ∧
  ∀ H' x, Same H H' → VA H' x (PfM.aloneV k b i) → Q x H'
theorem ok_alone_value {P : Program} {w : World} {K : PySem.W.Frag} {mg : Str → Option Value} {base : Heap} {f : Addr} {fd : FuncData} (F : Fun K "alone_value" "alone_value" s_alone_value f fd) (b_tuple : mg "tuple" = none) (c_NUMBERS : Kst mg "NUMBERS" (.int 0)) (h_number_at : Ok P w K mg base 1 "number_at" ["the_bytes", "at", "width"] (sp_number_at K)) (h_signed_at : Ok P w K mg base 2 "signed_at" ["the_bytes", "at", "width"] (sp_signed_at K)) : FnOk P w K mg base CX0 3 f fd ["kind", "the_bytes", "at"] (sp_alone_value K) := by
  refine F.ok sc_alone_value (fun vs H Q E h => ?_) (fun cdv A outer s H vs Q E hr h => ?_)
  · obtain ⟨k, a, b, i, rfl, hk, hS, q⟩ := h
    rfl
  · have hu := hu_of hr
    obtain ⟨k, a, b, i, rfl, hk, hS, q⟩ := h
    refine ⟨_, (pss_cons (ps_if (pt_cmpR op_eq (pv 0) (pe_k c_NUMBERS rfl) (nomark _))
              (pss_one (ps_ret (pe_fn h_signed_at (hr.mono (by decide)) (by rfl) (pa_cons (pv 1) (pa_cons (pv 2) (pa_cons pe_int pa_nil))))))
              pss_nil)
              (pss_one (ps_ret (pe_callTy call_tuple_of (by rfl) b_tuple (by decide +kernel) (pa_cons (pe_slice sl_list (pv 1) (po_some (pe_op op_add (pv 2) pe_int)) (po_some (pe_op op_add (pe_op op_add (pv 2) pe_int) (pe_fn h_number_at (hr.mono (by decide)) (by rfl) (pa_cons (pv 1) (pa_cons (pv 2) (pa_cons pe_int pa_nil))))))) pa_nil))))), ?_⟩
    unfold PfM.aloneV at q
    rcases (show k = 0 ∨ k = 1 by omega) with rfl | rfl
    · refine ⟨_, rfl, rfl, _, rfl, ifE (fun _ => ?_) (fun z => absurd rfl z)⟩
      exact ⟨_, rfl, _, rfl, a, b, i, 8, rfl, hS, by decide, by decide, fun H1 s1 => q H1 _ s1 rfl⟩
    · refine ⟨_, rfl, rfl, _, rfl, ifE (fun z => absurd z (by decide)) (fun _ => ?_)⟩
      refine ⟨_, rfl, _, rfl, _, _, rfl, rfl, _, rfl, _, rfl, _, _, rfl, rfl, _, rfl, _, rfl, a, b, i, 4, rfl, hS, fun H1 s1 => ?_⟩
      refine ⟨_, _, rfl, rfl, _, rfl, a, _, rfl, s1.seq hS, fun p np => ?_⟩
      have ec : cutV (nb b) (some ((i : Int) + 4)) (some ((i : Int) + 4 + ((PfM.numAt b i 4 : Nat) : Int))) = nb ((b.drop (i + 4)).take (PfM.numAt b i 4)) := by
        have := cut_nb2 b (i + 4) (i + 4 + PfM.numAt b i 4)
        rw [show i + 4 + PfM.numAt b i 4 - (i + 4) = PfM.numAt b i 4 by omega, Int.natCast_add (i + 4), Int.natCast_add i 4] at this
        exact this
      rw [ec]
      refine ⟨p, _, rfl, .inl ⟨SqL.of upd_same, fun t nt => q _ _ ((s1.trans (nw np)).trans (nw nt)) ⟨t, rfl, upd_same⟩⟩⟩
/-! ## one_values -/
abbrev s_one_values : Stmt := topS 41
abbrev N_one_values : List Str := ["kind", "k", "the_bytes"]
theorem sc_one_values : FnScope N_one_values ["kind", "k", "the_bytes"] (defScope s_one_values) := ⟨rfl, rfl, rfl, by decide +kernel, rfl, by decide +kernel, by decide +kernel⟩
def sp_one_values (K : PySem.W.Frag) : Sp := fun vs H Q _ => ∃ (k n : Nat) (a : Addr) (b : List Nat), vs = [.int (k : Int), .int (n : Int), .ref a] ∧ k ≤ 1 ∧ SqL K H a (nb b) ∧ n ≤ 1000 ∧
  ∀ H' p ys, Same H H' → H p = none → H' p = some (.lst ys) → VsA H' ys (List.replicate n (PfM.aloneV k b 0)) → Q (.ref p) H'
theorem vs_rep {H : Hp} {x : V} {v : Pg.Val} (h : VA H x v) : ∀ n : Nat, VsA H (List.replicate n x) (List.replicate n v)
  | 0 => .nil
  | n + 1 => .cons h (vs_rep h n)
theorem ok_one_values {P : Program} {w : World} {K : PySem.W.Frag} {mg : Str → Option Value} {base : Heap} {f : Addr} {fd : FuncData} (F : Fun K "one_values" "one_values" s_one_values f fd) (h_alone_value : Ok P w K mg base 3 "alone_value" ["kind", "the_bytes", "at"] (sp_alone_value K)) : FnOk P w K mg base CX0 4 f fd ["kind", "k", "the_bytes"] (sp_one_values K) := by
  refine F.ok sc_one_values (fun vs H Q E h => ?_) (fun cdv A outer s H vs Q E hr h => ?_)
  · obtain ⟨k, n, a, b, rfl, hk, hS, hn, q⟩ := h
    rfl
  · have hu := hu_of hr
    obtain ⟨k, n, a, b, rfl, hk, hS, hn, q⟩ := h
    refine ⟨_, (pss_one (ps_ret (pe_op op_rep (pe_lst (pa_cons (pe_fn h_alone_value (hr.mono (by decide)) (by rfl) (pa_cons (pv 0) (pa_cons (pv 2) (pa_cons pe_int pa_nil)))) pa_nil)) (pv 1)))), ?_⟩
    refine ⟨_, rfl, _, rfl, k, a, b, 0, rfl, hk, hS, fun H1 x s1 hx => ?_⟩
    refine ⟨sz (by show 1 ≤ 1000000; decide), fun p np => ?_⟩
    refine ⟨_, rfl, p, _, _, rfl, rfl, upd_same, by omega, by omega, ?_, fun t nt => ?_⟩
    · rw [Int.toNat_natCast]
      exact sz (by show 1 * n ≤ 1000000; omega)
    · refine q _ t _ ((s1.trans (nw np)).trans (nw nt)) ((s1.trans (nw np)).free nt) upd_same ?_
      have e : (List.replicate (n : Int).toNat [x]).flatten = List.replicate n x := by
        rw [Int.toNat_natCast]
        simp
      first
        | (rw [e]; exact vs_rep (VA.mono ((nw np).trans (nw nt)) hx) n)
        | simpa using vs_rep (VA.mono ((nw np).trans (nw nt)) hx) n
/-! ## above_least -/
abbrev s_above_least : Stmt := topS 44
abbrev N_above_least : List Str := ["least", "k", "the_bytes", "q", "number"]
theorem sc_above_least : FnScope N_above_least ["least", "k", "the_bytes"] (defScope s_above_least) := ⟨rfl, rfl, rfl, by decide +kernel, rfl, by decide +kernel, by decide +kernel⟩
def sp_above_least (K : PySem.W.Frag) : Sp := fun vs H Q _ => ∃ (z : Int) (k : Nat) (a : Addr) (b : List Nat), vs = [.int z, .int (k : Int), .ref a] ∧ SqL K H a (nb b) ∧ (∀ c ∈ b, c < 256) ∧ k ≤ 1000 ∧
  ∀ H' p, Same H H' → H p = none → H' p = some (.lst (((Pg.unpacked (b.getD 0 0) k ((b.drop 1).take (Pg.packedLong (b.getD 0 0) k))).map fun (x : Nat) => z + (x : Int)).map V.int)) → Q (.ref p) H'
theorem num1 (b : List Nat) : PfM.numAt b 0 1 = b.getD 0 0 := by
  unfold PfM.numAt
  cases b with
  | nil => rfl
  | cons c b => show c + 256 * 0 = c; omega
theorem ok_above_least {P : Program} {w : World} {K : PySem.W.Frag} {mg : Str → Option Value} {base : Heap} {f : Addr} {fd : FuncData} (F : Fun K "above_least" "above_least" s_above_least f fd) (h_packed_numbers : Ok P w K mg base 2 "packed_numbers" ["q", "k", "the_bytes"] (sp_packed_numbers K)) (h_number_at : Ok P w K mg base 1 "number_at" ["the_bytes", "at", "width"] (sp_number_at K)) : FnOk P w K mg base CX0 3 f fd ["least", "k", "the_bytes"] (sp_above_least K) := by
  refine F.ok sc_above_least (fun vs H Q E h => ?_) (fun cdv A outer s H vs Q E hr h => ?_)
  · obtain ⟨z, k, a, b, rfl, hS, hb, hk, q⟩ := h
    rfl
  · have hu := hu_of hr
    obtain ⟨z, k, a, b, rfl, hS, hb, hk, q⟩ := h
    refine ⟨_, (pss_cons (ps_set (i := 3) sc_above_least.nd rfl (Or.inl rfl) (pe_fn h_number_at (hr.mono (by decide)) (by rfl) (pa_cons (pv 2) (pa_cons pe_int (pa_cons pe_int pa_nil)))))
              (pss_one (ps_ret (pe_lc (own := [("number", 4)]) (g := gName 4) (tt := tYes) rfl sc_above_least.nd (pi_list (pe_fn h_packed_numbers (hr.mono (by decide)) (by rfl) (pa_cons (pv 3) (pa_cons (pv 1) (pa_cons (pe_slice sl_list (pv 2) (po_some pe_int) po_none) pa_nil))))) (blkOk_by (own := [("number", 4)]) (N := N_above_least) (sc := defScope s_above_least) (by decide +kernel)) (fun _ _ _ _ _ => pg_name (i := 4) sc_above_least.nd rfl (Or.inl rfl)) (fun _ _ _ _ _ => pts_nil) (fun _ _ _ _ _ => (pe_op op_add (pv 0) (pv 4))))))), ?_⟩
    refine ⟨_, rfl, a, b, 0, 1, rfl, hS, fun H1 s1 => ?_⟩
    rw [num1]
    have hq : b.getD 0 0 < 256 := by
      cases b with
      | nil => decide
      | cons c b => exact hb c List.mem_cons_self
    generalize b.getD 0 0 = m at q hq ⊢
    have ul : (Pg.unpacked m k ((b.drop 1).take (Pg.packedLong m k))).length = k := by
      unfold Pg.unpacked
      dsimp only
      rw [List.length_map, List.length_range]
    refine ⟨_, rfl, _, rfl, _, rfl, _, rfl, a, _, rfl, s1.seq hS, fun p np => ?_⟩
    rw [show cutV (nb b) (some 1) none = nb (b.drop 1) from cut_nbD b 1]
    refine ⟨m, k, p, b.drop 1, rfl, SqL.of upd_same, by omega, hk, fun H2 r s2 nr hr2 => ?_⟩
    generalize Pg.unpacked m k ((b.drop 1).take (Pg.packedLong m k)) = us at q hr2 ul
    have s12 : Same H H2 := (s1.trans (nw np)).trans s2
    refine ⟨r, rfl, ⟨_, SqL.of hr2⟩, fun D nD => ?_⟩
    refine lc_list (K := K) (a := r) (xs := nb us) (fun i H' => Same H2 H' ∧ H' D = some (.lst (((us.take i).map fun (x : Nat) => z + (x : Int)).map V.int))) ⟨nw nD, upd_same⟩ (fun i H' _ h => h.1.seq (SqL.of hr2)) ?_ ?_
    · rintro i x H3 hx ⟨s3, hD⟩
      obtain ⟨c, hc, rfl⟩ := nb_get hx
      refine ⟨rfl, ?_⟩
      refine ⟨_, rfl, _, rfl, _, _, rfl, rfl, _, hD, ?_, mt s3 nD, ?_⟩
      · rw [List.length_map, List.length_map, List.length_take]
        exact szl (by omega)
      · rw [upd_same, take_more hc, List.map_append, List.map_append]
        rfl
    · rintro H3 ⟨s3, hD⟩
      rw [nb_len, List.take_length] at hD
      exact q H3 D (s12.trans s3) (s12.free nD) hD
/-! ## from_least_values -/
abbrev s_from_least_values : Stmt := topS 45
abbrev N_from_least_values : List Str := ["k", "the_bytes"]
theorem sc_from_least_values : FnScope N_from_least_values ["k", "the_bytes"] (defScope s_from_least_values) := ⟨rfl, rfl, rfl, by decide +kernel, rfl, by decide +kernel, by decide +kernel⟩
def sp_from_least_values (K : PySem.W.Frag) : Sp := fun vs H Q _ => ∃ (k : Nat) (a : Addr) (b : List Nat), vs = [.int (k : Int), .ref a] ∧ SqL K H a (nb b) ∧ (∀ c ∈ b, c < 256) ∧ k ≤ 1000 ∧
  ∀ H' p, Same H H' → H p = none → H' p = some (.lst (((Pg.unpacked ((b.drop 8).getD 0 0) k (((b.drop 8).drop 1).take (Pg.packedLong ((b.drop 8).getD 0 0) k))).map fun (x : Nat) => PfM.sgnAt b 0 8 + (x : Int)).map V.int)) → Q (.ref p) H'
theorem ok_from_least_values {P : Program} {w : World} {K : PySem.W.Frag} {mg : Str → Option Value} {base : Heap} {f : Addr} {fd : FuncData} (F : Fun K "from_least_values" "from_least_values" s_from_least_values f fd) (h_above_least : Ok P w K mg base 3 "above_least" ["least", "k", "the_bytes"] (sp_above_least K)) (h_signed_at : Ok P w K mg base 2 "signed_at" ["the_bytes", "at", "width"] (sp_signed_at K)) : FnOk P w K mg base CX0 4 f fd ["k", "the_bytes"] (sp_from_least_values K) := by
  refine F.ok sc_from_least_values (fun vs H Q E h => ?_) (fun cdv A outer s H vs Q E hr h => ?_)
  · obtain ⟨k, a, b, rfl, hS, hb, hk, q⟩ := h
    rfl
  · have hu := hu_of hr
    obtain ⟨k, a, b, rfl, hS, hb, hk, q⟩ := h
    refine ⟨_, (pss_one (ps_ret (pe_fn h_above_least (hr.mono (by decide)) (by rfl) (pa_cons (pe_fn h_signed_at (hr.mono (by decide)) (by rfl) (pa_cons (pv 1) (pa_cons pe_int (pa_cons pe_int pa_nil)))) (pa_cons (pv 0) (pa_cons (pe_slice sl_list (pv 1) (po_some pe_int) po_none) pa_nil)))))), ?_⟩
    refine ⟨_, rfl, a, b, 0, 8, rfl, hS, by decide, by decide, fun H1 s1 => ?_⟩
    refine ⟨_, rfl, _, rfl, _, rfl, a, _, rfl, s1.seq hS, fun p np => ?_⟩
    rw [show cutV (nb b) (some 8) none = nb (b.drop 8) from cut_nbD b 8]
    exact ⟨_, k, p, b.drop 8, rfl, SqL.of upd_same, fun c hc => hb c (List.mem_of_mem_drop hc), hk, fun H2 r s2 nr hr2 => q H2 r ((s1.trans (nw np)).trans s2) ((s1.trans (nw np)).free nr) hr2⟩
/-! ## head_numbers -/
abbrev s_head_numbers : Stmt := topS 58
abbrev N_head_numbers : List Str := ["the_bytes"]
theorem sc_head_numbers : FnScope N_head_numbers ["the_bytes"] (defScope s_head_numbers) := ⟨rfl, rfl, rfl, by decide +kernel, rfl, by decide +kernel, by decide +kernel⟩
def sp_head_numbers (K : PySem.W.Frag) : Sp := fun vs H Q _ => ∃ (a : Addr) (b : List Nat), vs = [.ref a] ∧ SqL K H a (nb b) ∧
  ∀ H' p, Same H H' → H p = none → H' p = some (.lst (nb [PfM.numAt b 0 1, PfM.numAt b 1 1, PfM.numAt b 4 4, PfM.numAt b 8 4])) → Q (.ref p) H'
theorem ok_head_numbers {P : Program} {w : World} {K : PySem.W.Frag} {mg : Str → Option Value} {base : Heap} {f : Addr} {fd : FuncData} (F : Fun K "head_numbers" "head_numbers" s_head_numbers f fd) (h_number_at : Ok P w K mg base 1 "number_at" ["the_bytes", "at", "width"] (sp_number_at K)) : FnOk P w K mg base CX0 2 f fd ["the_bytes"] (sp_head_numbers K) := by
  refine F.ok sc_head_numbers (fun vs H Q E h => ?_) (fun cdv A outer s H vs Q E hr h => ?_)
  · obtain ⟨a, b, rfl, hS, q⟩ := h
    rfl
  · have hu := hu_of hr
    obtain ⟨a, b, rfl, hS, q⟩ := h
    refine ⟨_, (pss_one (ps_ret (pe_lst (pa_cons (pe_fn h_number_at (hr.mono (by decide)) (by rfl) (pa_cons (pv 0) (pa_cons pe_int (pa_cons pe_int pa_nil)))) (pa_cons (pe_fn h_number_at (hr.mono (by decide)) (by rfl) (pa_cons (pv 0) (pa_cons pe_int (pa_cons pe_int pa_nil)))) (pa_cons (pe_fn h_number_at (hr.mono (by decide)) (by rfl) (pa_cons (pv 0) (pa_cons pe_int (pa_cons pe_int pa_nil)))) (pa_cons (pe_fn h_number_at (hr.mono (by decide)) (by rfl) (pa_cons (pv 0) (pa_cons pe_int (pa_cons pe_int pa_nil)))) pa_nil))))))), ?_⟩
    refine ⟨_, rfl, a, b, 0, 1, rfl, hS, fun H1 s1 => ?_⟩
    refine ⟨_, rfl, a, b, 1, 1, rfl, s1.seq hS, fun H2 s2 => ?_⟩
    refine ⟨_, rfl, a, b, 4, 4, rfl, (s1.trans s2).seq hS, fun H3 s3 => ?_⟩
    refine ⟨_, rfl, a, b, 8, 4, rfl, ((s1.trans s2).trans s3).seq hS, fun H4 s4 => ?_⟩
    have s := ((s1.trans s2).trans s3).trans s4
    exact ⟨sz (by show 4 ≤ 1000000; decide), fun p np => q _ p (s.trans (nw np)) (s.free np) upd_same⟩
/-! ## present_marks -/
abbrev s_present_marks : Stmt := topS 59
abbrev N_present_marks : List Str := ["state", "n", "body"]
theorem sc_present_marks : FnScope N_present_marks ["state", "n", "body"] (defScope s_present_marks) := ⟨rfl, rfl, rfl, by decide +kernel, rfl, by decide +kernel, by decide +kernel⟩
def marksOf (st n : Nat) (b : List Nat) : List Nat := if st = 2 then Pg.unpacked 1 n (b.take (Pg.packedLong 1 n)) else List.replicate n (if st = 0 then 1 else 0)
def sp_present_marks (K : PySem.W.Frag) : Sp := fun vs H Q _ => ∃ (st n : Nat) (a : Addr) (b : List Nat), vs = [.int (st : Int), .int (n : Int), .ref a] ∧ SqL K H a (nb b) ∧ n ≤ 1000 ∧
  ∀ H' p, Same H H' → H p = none → H' p = some (.lst (nb (marksOf st n b))) → Q (.ref p) H'
theorem ok_present_marks {P : Program} {w : World} {K : PySem.W.Frag} {mg : Str → Option Value} {base : Heap} {f : Addr} {fd : FuncData} (F : Fun K "present_marks" "present_marks" s_present_marks f fd) (c_NO_NULLS : Kst mg "NO_NULLS" (.int 0)) (c_SOME_NULL : Kst mg "SOME_NULL" (.int 2)) (h_packed_numbers : Ok P w K mg base 2 "packed_numbers" ["q", "k", "the_bytes"] (sp_packed_numbers K)) : FnOk P w K mg base CX0 3 f fd ["state", "n", "body"] (sp_present_marks K) := by
  refine F.ok sc_present_marks (fun vs H Q E h => ?_) (fun cdv A outer s H vs Q E hr h => ?_)
  · obtain ⟨st, n, a, b, rfl, hS, hn, q⟩ := h
    rfl
  · have hu := hu_of hr
    obtain ⟨st, n, a, b, rfl, hS, hn, q⟩ := h
    refine ⟨_, (pss_cons (ps_if (pt_cmpR op_eq (pv 0) (pe_k c_SOME_NULL rfl) (nomark _))
              (pss_one (ps_ret (pe_fn h_packed_numbers (hr.mono (by decide)) (by rfl) (pa_cons pe_int (pa_cons (pv 1) (pa_cons (pv 2) pa_nil))))))
              pss_nil)
              (pss_one (ps_ret (pe_op op_rep (pe_lst (pa_cons (pe_ifExp (pt_cmpR op_eq (pv 0) (pe_k c_NO_NULLS rfl) (nomark _)) pe_int pe_int) pa_nil)) (pv 1))))), ?_⟩
    unfold marksOf at q
    refine ⟨_, rfl, rfl, _, rfl, ifE (fun e => ?_) (fun e => ?_)⟩
    · have e2 : st = 2 := by omega
      rw [if_pos e2] at q
      exact ⟨_, rfl, _, rfl, 1, n, a, b, rfl, hS, by decide, hn, q⟩
    · have e2 : st ≠ 2 := by omega
      rw [if_neg e2] at q
      have rep : ∀ (m : Nat) (H1 : Hp) (p : Addr), (if st = 0 then 1 else 0) = m → Same H H1 → H1 p = some (.lst [V.int (m : Int)]) → ∀ t, H1 t = none → Q (.ref t) (upd H1 t (.lst ((List.replicate (n : Int).toNat [V.int (m : Int)]).flatten))) := by
        intro m H1 p em s1 hp t nt
        refine q _ t (s1.trans (nw nt)) (s1.free nt) ?_
        rw [upd_same, em, Int.toNat_natCast]
        unfold nb
        simp
      refine ⟨_, rfl, rfl, _, rfl, ifE (fun e0 => ?_) (fun e0 => ?_)⟩
      · refine ⟨sz (by show 1 ≤ 1000000; decide), fun p np => ?_⟩
        refine ⟨_, rfl, p, _, _, rfl, rfl, upd_same, by omega, by omega, by rw [Int.toNat_natCast]; exact sz (by show 1 * n ≤ 1000000; omega), fun t nt => ?_⟩
        have := rep 1 _ p (by rw [if_pos (by omega)]) (nw np) upd_same t nt
        first | exact this | simpa using this
      · refine ⟨sz (by show 1 ≤ 1000000; decide), fun p np => ?_⟩
        refine ⟨_, rfl, p, _, _, rfl, rfl, upd_same, by omega, by omega, by rw [Int.toNat_natCast]; exact sz (by show 1 * n ≤ 1000000; omega), fun t nt => ?_⟩
        have := rep 0 _ p (by rw [if_neg (by omega)]) (nw np) upd_same t nt
        first | exact this | simpa using this
/-! ## plain_values -/
abbrev s_plain_values : Stmt := topS 40
abbrev N_plain_values : List Str := ["kind", "k", "the_bytes", "values", "at", "place", "count"]
theorem sc_plain_values : FnScope N_plain_values ["kind", "k", "the_bytes"] (defScope s_plain_values) := ⟨rfl, rfl, rfl, by decide +kernel, rfl, by decide +kernel, by decide +kernel⟩
def sp_plain_values (K : PySem.W.Frag) : Sp := fun vs H Q _ => ∃ (k n : Nat) (a : Addr) (b : List Nat), vs = [.int (k : Int), .int (n : Int), .ref a] ∧ k ≤ 1 ∧ SqL K H a (nb b) ∧ b.length ≤ 20000 ∧ n ≤ 1000 ∧
  ∀ H' p ys l, Same H H' → H p = none → H' p = some (.lst ys) → VsA H' ys l → l.length = n → (∀ v ∈ l, Kd k v) → (∀ l0 r, (∀ v ∈ l0, v.is k = true) → l0.length = n → b = Pg.plain k l0 ++ r → l = l0) → Q (.ref p) H'
theorem VA.keepL {H : Hp} {d : Addr} {xs xs' : List V} (hd : H d = some (.lst xs)) {z : V} {e : Pg.Val} (h : VA H z e) : VA (upd H d (.lst xs')) z e := by
  cases e with
  | num _ => exact h
  | str b =>
    obtain ⟨t, rfl, ht⟩ := h
    refine ⟨t, rfl, ?_⟩
    rw [upd_ne (fun e => by rw [e, hd] at ht; cases ht)]
    exact ht
theorem ok_plain_values {P : Program} {w : World} {K : PySem.W.Frag} {mg : Str → Option Value} {base : Heap} {f : Addr} {fd : FuncData} (F : Fun K "plain_values" "plain_values" s_plain_values f fd) (b_range : mg "range" = none) (b_tuple : mg "tuple" = none) (c_NUMBERS : Kst mg "NUMBERS" (.int 0)) (h_number_at : Ok P w K mg base 1 "number_at" ["the_bytes", "at", "width"] (sp_number_at K)) (h_signed_at : Ok P w K mg base 2 "signed_at" ["the_bytes", "at", "width"] (sp_signed_at K)) : FnOk P w K mg base CX0 3 f fd ["kind", "k", "the_bytes"] (sp_plain_values K) := by
  refine F.ok sc_plain_values (fun vs H Q E h => ?_) (fun cdv A outer s H vs Q E hr h => ?_)
  · obtain ⟨k, n, a, b, rfl, hk, hS, hbl, hn, q⟩ := h
    rfl
  · have hu := hu_of hr
    obtain ⟨k, n, a, b, rfl, hk, hS, hbl, hn, q⟩ := h
    refine ⟨_, (pss_cons (ps_if (pt_cmpR op_eq (pv 0) (pe_k c_NUMBERS rfl) (nomark _))
              (pss_one (ps_ret (pe_lc (own := [("place", 5)]) (g := gName 5) (tt := tYes) rfl sc_plain_values.nd (pi_range1 (by rfl) b_range (pa_cons (pv 1) pa_nil)) (blkOk_by (own := [("place", 5)]) (N := N_plain_values) (sc := defScope s_plain_values) (by decide +kernel)) (fun _ _ _ _ _ => pg_name (i := 5) sc_plain_values.nd rfl (Or.inl rfl)) (fun _ _ _ _ _ => pts_nil) (fun _ _ _ _ _ => (pe_fn h_signed_at (hr.mono (by decide)) (by rfl) (pa_cons (pv 2) (pa_cons (pe_op op_mul pe_int (pv 5)) (pa_cons pe_int pa_nil))))))))
              pss_nil)
              (pss_cons (ps_set (i := 3) sc_plain_values.nd rfl (Or.inl rfl) (pe_lst pa_nil))
              (pss_cons (ps_set (i := 4) sc_plain_values.nd rfl (Or.inl rfl) (pe_op op_mul pe_int (pv 1)))
              (pss_cons (ps_for PassesOwn.never rfl (pi_range1 (by rfl) b_range (pa_cons (pv 1) pa_nil)) (pg_name (i := 5) sc_plain_values.nd rfl (.inl rfl))
              (pss_cons (ps_set (i := 6) sc_plain_values.nd rfl (Or.inl rfl) (pe_fn h_number_at (hr.mono (by decide)) (by rfl) (pa_cons (pv 2) (pa_cons (pe_op op_mul pe_int (pv 5)) (pa_cons pe_int pa_nil)))))
              (pss_cons (ps_expr (pe_bm PySem.F.plainAttrs_list PySem.F.slot_list_append PySem.F.type_list_append mt_append (pv 3) (pa_cons (pe_callTy call_tuple_of (by rfl) b_tuple (by decide +kernel) (pa_cons (pe_slice sl_list (pv 2) (po_some (pv 4)) (po_some (pe_op op_add (pv 4) (pv 6)))) pa_nil)) pa_nil)))
              (pss_one (ps_set (i := 4) sc_plain_values.nd rfl (Or.inl rfl) (pe_op op_add (pv 4) (pv 6)))))))
              (pss_one (ps_ret (pv 3))))))), ?_⟩
    rcases (show k = 0 ∨ k = 1 by omega) with rfl | rfl
    · refine ⟨_, rfl, rfl, _, rfl, ifE (fun _ => ?_) (fun z => absurd rfl z)⟩
      refine ⟨_, rfl, (n : Int), rfl, by omega, by omega, fun D nD => ?_⟩
      refine lc_range (lo := 0) (n := (n : Int).toNat) (fun i H' => Same H H' ∧ H' D = some (.lst (((List.range i).map fun (j : Nat) => PfM.sgnAt b (8 * j) 8).map V.int))) ⟨nw nD, upd_same⟩ ?_ ?_
      · rintro i H1 hi ⟨s1, hD⟩
        refine ⟨rfl, ?_⟩
        refine ⟨_, rfl, _, rfl, _, _, rfl, rfl, .inl ⟨by decide, by decide⟩, a, b, 8 * i, 8, ?_, s1.seq hS, by decide, by decide, fun H2 s2 => ?_⟩
        · show [V.ref a, V.int ((8 : Int) * (0 + (i : Int))), V.int 8] = [V.ref a, V.int ((8 * i : Nat) : Int), V.int ((8 : Nat) : Int)]
          rw [show (8 : Int) * (0 + (i : Int)) = ((8 * i : Nat) : Int) by omega]
          rfl
        · refine ⟨_, s2 _ _ hD, ?_, mt (s1.trans s2) nD, ?_⟩
          · rw [List.length_map, List.length_map, List.length_range]
            exact szl (by omega)
          · rw [upd_same, List.range_succ, List.map_append, List.map_append]
            rfl
      · rintro H1 ⟨s1, hD⟩
        rw [Int.toNat_natCast] at hD
        have vsn : ∀ m : List Int, VsA H1 (m.map V.int) (m.map Pg.Val.num) := by
          intro m
          induction m with
          | nil => exact .nil
          | cons z m ih => exact .cons rfl ih
        refine q H1 D _ _ s1 nD hD (vsn _) (by rw [List.length_map, List.length_map, List.length_range]) (fun v hv => ?_) fun l0 r hi hl hb => ?_
        · obtain ⟨z, _, rfl⟩ := List.mem_map.mp hv
          rfl
        · apply List.ext_getElem?
          intro j
          rw [List.getElem?_map, List.getElem?_map]
          by_cases hj : j < n
          · have hj' : j < l0.length := by omega
            rw [List.getElem?_range hj, List.getElem?_eq_getElem hj']
            have iv := hi _ (List.getElem_mem hj')
            have hg : l0[j]? = some l0[j] := List.getElem?_eq_getElem hj'
            generalize l0[j] = v at iv hg
            cases v with
            | num z =>
              show some (Pg.Val.num (PfM.sgnAt b (8 * j) 8)) = some (Pg.Val.num z)
              rw [hb, PfM.at_num hi hg]
            | str c => exact absurd (is_str iv).1 (by decide)
          · rw [List.getElem?_eq_none (by rw [List.length_range]; omega), List.getElem?_eq_none (l := l0) (by omega)]
            rfl
    · refine ⟨_, rfl, rfl, _, rfl, ifE (fun z => absurd z (by decide)) (fun _ => ?_)⟩
      refine ⟨Nat.zero_le _, fun D nD => ?_⟩
      refine ⟨_, rfl, _, _, rfl, rfl, .inl ⟨by decide, by decide⟩, ?_⟩
      refine ⟨_, rfl, (n : Int), rfl, by omega, by omega, for_range (fun i σ H' => ∃ (t : Nat) (y5 y6 : Option V) (ys : List V) (l : List Pg.Val), σ = [some (.int ((1 : Nat) : Int)), some (.int (n : Int)), some (.ref a), some (.ref D), some (.int (t : Int)), y5, y6] ∧ Same H H' ∧ H' D = some (.lst ys) ∧ VsA H' ys l ∧ l.length = i ∧ (∀ v ∈ l, Kd 1 v) ∧ (∀ l0 r, (∀ v ∈ l0, v.is 1 = true) → l0.length = n → b = Pg.plain 1 l0 ++ r → l = l0.take i ∧ t = 4 * n + ((l0.take i).flatMap Pg.raw).length))
        ⟨4 * n, none, none, [], [], ?_, nw nD, upd_same, .nil, rfl, (fun v hv => by cases hv), fun l0 r _ _ _ => ⟨rfl, rfl⟩⟩ ?_ ?_⟩
      · show [some (V.int ((1 : Nat) : Int)), some (.int (n : Int)), some (.ref a), some (.ref D), some (.int ((4 : Int) * (n : Int))), none, none] = _
        rw [show (4 : Int) * (n : Int) = ((4 * n : Nat) : Int) by omega]
      · rintro i σ H1 hi ⟨t, y5, y6, ys, l, rfl, s1, hD, hy, hl, hkd, hW⟩
        rw [Int.toNat_natCast] at hi
        refine ⟨_, rfl, _, rfl, _, _, rfl, rfl, .inl ⟨by decide, by decide⟩, a, b, 4 * i, 4, ?_, s1.seq hS, fun H2 s2 => ?_⟩
        · show [V.ref a, V.int ((4 : Int) * (0 + (i : Int))), V.int 4] = [V.ref a, V.int ((4 * i : Nat) : Int), V.int ((4 : Nat) : Int)]
          rw [show (4 : Int) * (0 + (i : Int)) = ((4 * i : Nat) : Int) by omega]
          rfl
        · have hD2 := s2 _ _ hD
          refine ⟨_, rfl, .inl ⟨rfl, _, SqL.of hD2⟩, _, rfl, _, rfl, _, rfl, _, rfl, _, rfl, _, _, rfl, rfl, _, rfl, a, _, rfl, (s1.trans s2).seq hS, fun p np => ?_⟩
          have ec : cutV (nb b) (some (t : Int)) (some ((t : Int) + ((PfM.numAt b (4 * i) 4 : Nat) : Int))) = nb ((b.drop t).take (PfM.numAt b (4 * i) 4)) := by
            have := cut_nb2 b t (t + PfM.numAt b (4 * i) 4)
            rw [show t + PfM.numAt b (4 * i) 4 - t = PfM.numAt b (4 * i) 4 by omega, Int.natCast_add] at this
            exact this
          rw [ec]
          refine ⟨p, _, rfl, .inl ⟨SqL.of upd_same, fun u nu => ?_⟩⟩
          have hD4 : (upd (upd H2 p (.lst (nb ((b.drop t).take (PfM.numAt b (4 * i) 4))))) u (.tup (nb ((b.drop t).take (PfM.numAt b (4 * i) 4))))) D = some (.lst ys) := nw nu _ _ (nw np _ _ hD2)
          have s4 := ((s1.trans s2).trans (nw (o := .lst (nb ((b.drop t).take (PfM.numAt b (4 * i) 4)))) np)).trans (nw (o := .tup (nb ((b.drop t).take (PfM.numAt b (4 * i) 4)))) nu)
          have hyl : ys.length = l.length := hy.length
          refine ⟨D, _, _, rfl, rfl, hD4, szl (by omega), ?_⟩
          refine ⟨_, rfl, _, rfl, _, _, rfl, rfl, t + PfM.numAt b (4 * i) 4, some (.int (0 + (i : Int))), some (.int ((PfM.numAt b (4 * i) 4 : Nat) : Int)), ys ++ [.ref u], l ++ [.str ((b.drop t).take (PfM.numAt b (4 * i) 4))], ?_, mt s4 nD, upd_same, ?_, by rw [List.length_append, hl]; rfl, fun v hv => ?_, fun l0 r h1 h2 h3 => ?_⟩
          · rw [Int.natCast_add]
            rfl
          · refine (L2.Paired.mapP hy fun z e h => VA.keepL hD4 (VA.mono (s2.trans ((nw np).trans (nw nu))) h)).snoc ?_
            exact VA.keepL hD4 ⟨u, rfl, upd_same⟩
          · rcases List.mem_append.mp hv with hv | hv
            · exact hkd v hv
            · rw [List.mem_singleton.mp hv]
              refine ⟨rfl, ?_⟩
              rw [List.length_take, List.length_drop]
              omega
          · obtain ⟨e1, e2⟩ := hW l0 r h1 h2 h3
            have hi0 : i < l0.length := by omega
            have hg : l0[i]? = some l0[i] := List.getElem?_eq_getElem hi0
            have iv := h1 _ (List.getElem_mem hi0)
            generalize l0[i] = v at hg iv
            have hr : ∀ v ∈ l0, (Pg.raw v).length ≤ 40 := fun v hv => raw_len (h1 v hv)
            have ecnt : PfM.numAt b (4 * i) 4 = (Pg.raw v).length := by rw [h3, PfM.at_len hr hg]
            have eraw : (b.drop t).take (PfM.numAt b (4 * i) 4) = Pg.raw v := by rw [ecnt, e2, h3, PfM.at_raw hr h2.symm hg]
            rw [eraw, ecnt, e2, take_more hg, e1]
            constructor
            · cases v with
              | num z => exact absurd (is_num iv).1 (by decide)
              | str c => rfl
            · rw [List.flatMap_append, List.length_append]
              simp
              omega
      · rintro σ H1 ⟨t, y5, y6, ys, l, rfl, s1, hD, hy, hl, hkd, hW⟩
        rw [Int.toNat_natCast] at hl hW
        refine ⟨_, rfl, q H1 D ys l s1 nD hD hy hl hkd fun l0 r h1 h2 h3 => ?_⟩
        rw [(hW l0 r h1 h2 h3).1, ← h2, List.take_length]
/-! ## runs_values -/
abbrev s_runs_values : Stmt := topS 42
abbrev N_runs_values : List Str := ["kind", "k", "the_bytes", "values", "at", "place", "value"]
theorem sc_runs_values : FnScope N_runs_values ["kind", "k", "the_bytes"] (defScope s_runs_values) := ⟨rfl, rfl, rfl, by decide +kernel, rfl, by decide +kernel, by decide +kernel⟩
def sp_runs_values (K : PySem.W.Frag) : Sp := fun vs H Q _ => ∃ (k n : Nat) (a : Addr) (b : List Nat), vs = [.int (k : Int), .int (n : Int), .ref a] ∧ k ≤ 1 ∧ SqL K H a (nb b) ∧ b.length ≤ 20000 ∧ n ≤ 64 ∧
  ∀ H' p ys l, Same H H' → H p = none → H' p = some (.lst ys) → VsA H' ys l → l.length ≤ 5000 → (∀ v ∈ l, Kd k v) → (∀ l0, (∀ v ∈ l0, v.is k = true) → l0.length = n → b = Pg.runs l0 → l = l0) → Q (.ref p) H'
theorem vs_app {H : Hp} : ∀ {xs : List V} {l : List Pg.Val} {ys : List V} {m : List Pg.Val}, VsA H xs l → VsA H ys m → VsA H (xs ++ ys) (l ++ m)
  | _, _, _, _, .nil, h => h
  | _, _, _, _, .cons h t, k => .cons h (vs_app t k)
theorem vs_rep2 {H : Hp} {x : V} {v : Pg.Val} (h : VA H x v) : ∀ n : Nat, VsA H (List.replicate n x) (List.replicate n v)
  | 0 => .nil
  | n + 1 => .cons h (vs_rep2 h n)
theorem VA.keepL2 {H : Hp} {d : Addr} {xs xs' : List V} (hd : H d = some (.lst xs)) {z : V} {e : Pg.Val} (h : VA H z e) : VA (upd H d (.lst xs')) z e := by
  cases e with
  | num _ => exact h
  | str b =>
    obtain ⟨t, rfl, ht⟩ := h
    refine ⟨t, rfl, ?_⟩
    rw [upd_ne (fun e => by rw [e, hd] at ht; cases ht)]
    exact ht
theorem min_nat (i j : Nat) : (if (j : Int) < (i : Int) then (j : Int) else (i : Int)) = ((min i j : Nat) : Int) := by
  by_cases h : j < i
  · rw [if_pos (by omega), Nat.min_eq_right (by omega)]
  · rw [if_neg (by omega), Nat.min_eq_left (by omega)]
theorem ok_runs_values {P : Program} {w : World} {K : PySem.W.Frag} {mg : Str → Option Value} {base : Heap} {f : Addr} {fd : FuncData} (F : Fun K "runs_values" "runs_values" s_runs_values f fd) (b_range : mg "range" = none) (b_min : mg "min" = none) (b_len : mg "len" = none) (h_number_at : Ok P w K mg base 1 "number_at" ["the_bytes", "at", "width"] (sp_number_at K)) (h_alone_bytes : Ok P w K mg base 3 "alone_bytes" ["kind", "value"] (sp_alone_bytes K)) (h_alone_value : Ok P w K mg base 3 "alone_value" ["kind", "the_bytes", "at"] (sp_alone_value K)) : FnOk P w K mg base CX0 4 f fd ["kind", "k", "the_bytes"] (sp_runs_values K) := by
  refine F.ok sc_runs_values (fun vs H Q E h => ?_) (fun cdv A outer s H vs Q E hr h => ?_)
  · obtain ⟨k, n, a, b, rfl, hk, hS, hbl, hn, q⟩ := h
    rfl
  · have hu := hu_of hr
    obtain ⟨k, n, a, b, rfl, hk, hS, hbl, hn, q⟩ := h
    refine ⟨_, (pss_cons (ps_set (i := 3) sc_runs_values.nd rfl (Or.inl rfl) (pe_lst pa_nil))
              (pss_cons (ps_set (i := 4) sc_runs_values.nd rfl (Or.inl rfl) pe_int)
              (pss_cons (ps_for PassesOwn.never rfl (pi_range1 (by rfl) b_range (pa_cons (pe_callB (call_min2 rfl) (by rfl) b_min (by decide +kernel) (pa_cons (pv 1) (pa_cons (pe_fn h_number_at (hr.mono (by decide)) (by rfl) (pa_cons (pv 2) (pa_cons pe_int (pa_cons pe_int pa_nil)))) pa_nil))) pa_nil)) (pg_name (i := 5) sc_runs_values.nd rfl (.inl rfl))
              (pss_cons (ps_set (i := 6) sc_runs_values.nd rfl (Or.inl rfl) (pe_fn h_alone_value (hr.mono (by decide)) (by rfl) (pa_cons (pv 0) (pa_cons (pv 2) (pa_cons (pe_op op_add (pv 4) pe_int) pa_nil)))))
              (pss_cons (ps_expr (pe_bm PySem.F.plainAttrs_list PySem.F.slot_list_extend PySem.F.type_list_extend mt_extend (pv 3) (pa_cons (pe_op op_rep (pe_lst (pa_cons (pv 6) pa_nil)) (pe_callB (call_min2 rfl) (by rfl) b_min (by decide +kernel) (pa_cons (pv 1) (pa_cons (pe_fn h_number_at (hr.mono (by decide)) (by rfl) (pa_cons (pv 2) (pa_cons (pv 4) (pa_cons pe_int pa_nil)))) pa_nil)))) pa_nil)))
              (pss_one (ps_set (i := 4) sc_runs_values.nd rfl (Or.inl rfl) (pe_op op_add (pe_op op_add (pv 4) pe_int) (pe_callB call_len_seq (by rfl) b_len PySem.boot_len (pa_cons (pe_fn h_alone_bytes (hr.mono (by decide)) (by rfl) (pa_cons (pv 0) (pa_cons (pv 6) pa_nil))) pa_nil))))))))
              (pss_one (ps_ret (pv 3)))))), ?_⟩
    refine ⟨Nat.zero_le _, fun D nD => ?_⟩
    refine ⟨_, rfl, _, rfl, a, b, 0, 4, rfl, (nw nD).seq hS, fun H0 s0 => ?_⟩
    have s00 : Same H H0 := (nw nD).trans s0
    have hD0 := s0 _ _ upd_same
    refine ⟨_, _, rfl, _, rfl, ?_⟩
    rw [min_nat]
    have rs_facts : ∀ l0, (∀ v ∈ l0, v.is k = true) → l0.length = n → b = Pg.runs l0 → PfM.numAt b 0 4 = (Pg.runsOf l0).length ∧ (Pg.runsOf l0).length ≤ n := fun l0 h1 h2 h3 => by
      have rl := PfM.runs_len l0
      refine ⟨?_, by omega⟩
      rw [h3, PfM.runs_eq, PfM.numAt0 (by omega)]
    refine ⟨by omega, by omega, for_range (fun i σ H' => ∃ (t : Nat) (y5 y6 : Option V) (ys : List V) (l : List Pg.Val), σ = [some (.int (k : Int)), some (.int (n : Int)), some (.ref a), some (.ref D), some (.int (t : Int)), y5, y6] ∧ Same H H' ∧ H' D = some (.lst ys) ∧ VsA H' ys l ∧ l.length ≤ 64 * i ∧ (∀ v ∈ l, Kd k v) ∧ (∀ l0, (∀ v ∈ l0, v.is k = true) → l0.length = n → b = Pg.runs l0 → l = PfM.expand ((Pg.runsOf l0).take i) ∧ t = 4 + (((Pg.runsOf l0).take i).flatMap PfM.ent).length))
      ⟨4, none, none, [], [], rfl, s00, hD0, .nil, by decide, (fun v hv => by cases hv), fun l0 _ _ _ => ⟨rfl, rfl⟩⟩ ?_ ?_⟩
    · rintro i σ H1 hi ⟨t, y5, y6, ys, l, rfl, s1, hD, hy, hl, hkd, hW⟩
      rw [Int.toNat_natCast] at hi
      have hin : i < n := by omega
      -- value = alone_value(kind, the_bytes, at + 4)
      refine ⟨_, rfl, _, rfl, _, rfl, _, _, rfl, rfl, k, a, b, t + 4, rfl, hk, s1.seq hS, fun H2 x s2 hx => ?_⟩
      have kd := aloneV_kd (i := t + 4) hk hbl
      have hD2 := s2 _ _ hD
      -- values.extend([value] * min(k, number_at(the_bytes, at, 4)))
      refine ⟨_, rfl, .inl ⟨rfl, _, SqL.of hD2⟩, _, rfl, sz (by show 1 ≤ 1000000; decide), fun p np => ?_⟩
      refine ⟨_, rfl, _, rfl, _, rfl, a, b, t, 4, rfl, ((s1.trans s2).trans (nw np)).seq hS, fun H3 s3 => ?_⟩
      refine ⟨_, _, rfl, ?_⟩
      rw [min_nat]
      have hp3 : H3 p = some (.lst [x]) := s3 _ _ upd_same
      refine ⟨p, _, _, rfl, rfl, hp3, by omega, by omega, ?_, fun u nu => ?_⟩
      · rw [Int.toNat_natCast]
        exact sz (by show 1 * min n _ ≤ 1000000; omega)
      have s3' : Same H1 H3 := (s2.trans (nw np)).trans s3
      have hD3 := s3' _ _ hD
      have er : (List.replicate ((min n (PfM.numAt b t 4) : Nat) : Int).toNat [x]).flatten = List.replicate (min n (PfM.numAt b t 4)) x := by
        rw [Int.toNat_natCast]
        simp
      rw [er]
      have hD4 : (upd H3 u (.lst (List.replicate (min n (PfM.numAt b t 4)) x))) D = some (.lst ys) := nw nu _ _ hD3
      have hyl : ys.length = l.length := hy.length
      refine ⟨D, u, _, _, rfl, rfl, hD4, upd_same, ?_, ?_⟩
      · rw [List.length_replicate]
        exact sz (by omega)
      have s4 : Same H1 (upd H3 u (.lst (List.replicate (min n (PfM.numAt b t 4)) x))) := s3'.trans (nw nu)
      have hx4 : VA (upd H3 u (.lst (List.replicate (min n (PfM.numAt b t 4)) x))) x (PfM.aloneV k b (t + 4)) := hx.mono (((nw np).trans s3).trans (nw nu))
      have hx5 := VA.keepL2 (xs' := ys ++ List.replicate (min n (PfM.numAt b t 4)) x) hD4 hx4
      -- at = at + 4 + len(alone_bytes(kind, value))
      refine ⟨_, rfl, _, _, rfl, rfl, _, rfl, _, rfl, k, x, _, rfl, hx5, kd, fun H6 z s6 nz hz => ?_⟩
      refine ⟨z, _, rfl, .inl (SqL.of hz), _, _, rfl, rfl, ?_⟩
      refine ⟨t + 4 + (Pg.alone (PfM.aloneV k b (t + 4))).length, some (.int (0 + (i : Int))), some x, ys ++ List.replicate (min n (PfM.numAt b t 4)) x, l ++ List.replicate (min n (PfM.numAt b t 4)) (PfM.aloneV k b (t + 4)), ?_, (mt (s1.trans s4) nD).trans s6, s6 _ _ upd_same, ?_, ?_, fun v hv => ?_, fun l0 h1 h2 h3 => ?_⟩
      · rw [nb_len, Int.natCast_add, Int.natCast_add]
        rfl
      · exact vsm s6 (vs_app (L2.Paired.mapP hy fun z e h => VA.keepL2 hD4 (VA.mono s4 h)) (vs_rep2 hx5 _))
      · rw [List.length_append, List.length_replicate]
        omega
      · rcases List.mem_append.mp hv with hv | hv
        · exact hkd v hv
        · rw [(List.mem_replicate.mp hv).2]
          exact kd
      · obtain ⟨e1, e2⟩ := hW l0 h1 h2 h3
        obtain ⟨f1, f2⟩ := rs_facts l0 h1 h2 h3
        have hir : i < (Pg.runsOf l0).length := by omega
        have hg : (Pg.runsOf l0)[i]? = some (Pg.runsOf l0)[i] := List.getElem?_eq_getElem hir
        have rv := PfM.runs_vals l0 _ (List.getElem_mem hir)
        generalize (Pg.runsOf l0)[i] = mv at hg rv
        obtain ⟨m, v⟩ := mv
        have rv1 : v ∈ l0 := rv.1
        have rv2 : m ≤ l0.length := rv.2
        have iv := h1 v rv1
        obtain ⟨g1, g2⟩ := PfM.at_run (d := (Pg.runsOf l0).length) hk iv (by omega) hg
        rw [← PfM.runs_eq, ← h3, ← e2] at g1 g2
        rw [g2, g1, Nat.min_eq_right (by omega), PfM.expand_more hg, e1]
        refine ⟨rfl, ?_⟩
        rw [PfM.flat_more hg, List.length_append, e2]
        have el : (PfM.ent (m, v)).length = 4 + (Pg.alone v).length := by
          unfold PfM.ent
          rw [List.length_append, PfM.le_len]
        rw [el]
        omega
    · rintro σ H1 ⟨t, y5, y6, ys, l, rfl, s1, hD, hy, hl, hkd, hW⟩
      rw [Int.toNat_natCast] at hl hW
      refine ⟨_, rfl, q H1 D ys l s1 nD hD hy (by omega) hkd fun l0 h1 h2 h3 => ?_⟩
      obtain ⟨f1, f2⟩ := rs_facts l0 h1 h2 h3
      rw [(hW l0 h1 h2 h3).1, f1, Nat.min_eq_right f2, List.take_length, PfM.expand_runs]
/-! ## dictionary_values -/
abbrev s_dictionary_values : Stmt := topS 43
abbrev N_dictionary_values : List Str := ["kind", "k", "the_bytes", "d", "different", "behind", "which", "place"]
theorem sc_dictionary_values : FnScope N_dictionary_values ["kind", "k", "the_bytes"] (defScope s_dictionary_values) := ⟨rfl, rfl, rfl, by decide +kernel, rfl, by decide +kernel, by decide +kernel⟩
def sp_dictionary_values (K : PySem.W.Frag) : Sp := fun vs H Q _ => ∃ (k n : Nat) (a : Addr) (b : List Nat), vs = [.int (k : Int), .int (n : Int), .ref a] ∧ k ≤ 1 ∧ SqL K H a (nb b) ∧ b.length ≤ 20000 ∧ n ≤ 64 ∧
  ∀ H' p ys l, Same H H' → H p = none → H' p = some (.lst ys) → VsA H' ys l → l.length ≤ 5000 → (∀ v ∈ l, Kd k v) → (∀ l0, (∀ v ∈ l0, v.is k = true) → l0.length = n → l0 ≠ [] → b = Pg.dictionary k l0 → l = l0) → Q (.ref p) H'
theorem min_nat2 (i j : Nat) : (if (j : Int) < (i : Int) then (j : Int) else (i : Int)) = ((min i j : Nat) : Int) := by
  by_cases h : j < i
  · rw [if_pos (by omega), Nat.min_eq_right (by omega)]
  · rw [if_neg (by omega), Nat.min_eq_left (by omega)]
theorem VA.keepL3 {H : Hp} {d : Addr} {xs xs' : List V} (hd : H d = some (.lst xs)) {z : V} {e : Pg.Val} (h : VA H z e) : VA (upd H d (.lst xs')) z e := by
  cases e with
  | num _ => exact h
  | str b =>
    obtain ⟨t, rfl, ht⟩ := h
    refine ⟨t, rfl, ?_⟩
    rw [upd_ne (fun e => by rw [e, hd] at ht; cases ht)]
    exact ht
theorem ok_dictionary_values {P : Program} {w : World} {K : PySem.W.Frag} {mg : Str → Option Value} {base : Heap} {f : Addr} {fd : FuncData} (F : Fun K "dictionary_values" "dictionary_values" s_dictionary_values f fd) (b_len : mg "len" = none) (b_min : mg "min" = none) (h_packed_numbers : Ok P w K mg base 2 "packed_numbers" ["q", "k", "the_bytes"] (sp_packed_numbers K)) (h_plain_bytes : Ok P w K mg base 3 "plain_bytes" ["kind", "values"] (sp_plain_bytes K)) (h_plain_values : Ok P w K mg base 3 "plain_values" ["kind", "k", "the_bytes"] (sp_plain_values K)) (h_number_at : Ok P w K mg base 1 "number_at" ["the_bytes", "at", "width"] (sp_number_at K)) : FnOk P w K mg base CX0 4 f fd ["kind", "k", "the_bytes"] (sp_dictionary_values K) := by
  refine F.ok sc_dictionary_values (fun vs H Q E h => ?_) (fun cdv A outer s H vs Q E hr h => ?_)
  · obtain ⟨k, n, a, b, rfl, hk, hS, hbl, hn, q⟩ := h
    rfl
  · have hu := hu_of hr
    obtain ⟨k, n, a, b, rfl, hk, hS, hbl, hn, q⟩ := h
    refine ⟨_, (pss_cons (ps_set (i := 3) sc_dictionary_values.nd rfl (Or.inr rfl) (pe_callB (call_min2 rfl) (by rfl) b_min (by decide +kernel) (pa_cons (pv 1) (pa_cons (pe_fn h_number_at (hr.mono (by decide)) (by rfl) (pa_cons (pv 2) (pa_cons pe_int (pa_cons pe_int pa_nil)))) pa_nil))))
              (pss_cons (ps_set (i := 4) sc_dictionary_values.nd rfl (Or.inr rfl) (pe_fn h_plain_values (hr.mono (by decide)) (by rfl) (pa_cons (pv 0) (pa_cons (pv 3) (pa_cons (pe_slice sl_list (pv 2) (po_some pe_int) po_none) pa_nil)))))
              (pss_cons (ps_set (i := 5) sc_dictionary_values.nd rfl (Or.inl rfl) (pe_op op_add pe_int (pe_callB call_len_seq (by rfl) b_len PySem.boot_len (pa_cons (pe_fn h_plain_bytes (hr.mono (by decide)) (by rfl) (pa_cons (pv 0) (pa_cons (pv 4) pa_nil))) pa_nil))))
              (pss_cons (ps_set (i := 6) sc_dictionary_values.nd rfl (Or.inl rfl) (pe_fn h_packed_numbers (hr.mono (by decide)) (by rfl) (pa_cons (pe_bits (pe_op op_sub (pv 3) pe_int)) (pa_cons (pv 1) (pa_cons (pe_slice sl_list (pv 2) (po_some (pv 5)) po_none) pa_nil)))))
              (pss_one (ps_ret (pe_lc (own := [("place", 7)]) (g := gName 7) rfl sc_dictionary_values.nd (pi_list (pv 6)) (blkOk_by (own := [("place", 7)]) (N := N_dictionary_values) (sc := defScope s_dictionary_values) (by decide +kernel)) (fun _ _ _ _ _ => pg_name (i := 7) sc_dictionary_values.nd rfl (Or.inl rfl)) (fun _ _ _ _ _ => (pts_one (pt_cmpR op_lt (pv 7) (pv 3) (nomark _)))) (fun _ _ _ _ _ => (pe_ix (ixL K rfl) (pv 4) (pv 7) (fun _ _ => rfl)))))))))), ?_⟩
    -- d
    refine ⟨_, rfl, _, rfl, a, b, 0, 4, rfl, hS, fun H0 s0 => ?_⟩
    refine ⟨_, _, rfl, ?_⟩
    rw [min_nat2]
    generalize hd : min n (PfM.numAt b 0 4) = d
    have hdn : d ≤ n := by omega
    -- different
    refine ⟨_, rfl, _, rfl, _, rfl, _, rfl, a, _, rfl, s0.seq hS, fun p np => ?_⟩
    rw [show cutV (nb b) (some 4) none = nb (b.drop 4) from cut_nbD b 4]
    refine ⟨k, d, p, b.drop 4, rfl, hk, SqL.of upd_same, by rw [List.length_drop]; omega, by omega, fun H1 D ds dl s1 nD hD hds hdl hdk hdW => ?_⟩
    have s01 : Same H H1 := (s0.trans (nw np)).trans s1
    -- behind
    refine ⟨_, rfl, _, rfl, k, D, ds, dl, rfl, SqL.of hD, hds, hdk, hk, by omega, fun H2 z s2 nz hz => ?_⟩
    refine ⟨z, _, rfl, .inl (SqL.of hz), _, _, rfl, rfl, ?_⟩
    rw [nb_len]
    -- which
    have eb : (4 : Int) + ((Pg.plain k dl).length : Int) = ((4 + (Pg.plain k dl).length : Nat) : Int) := by omega
    have s02 : Same H H2 := s01.trans s2
    have ib : Builtin.Int.intBits ((d : Int) - 1) ≤ 7 := PyProof.Rows.intBits_le (by omega)
    refine ⟨_, rfl, _, _, rfl, rfl, _, rfl, _, rfl, _, rfl, _, rfl, _, rfl, a, _, rfl, s02.seq hS, fun p3 n3 => ?_⟩
    have ec : cutV (nb b) (some ((4 : Int) + ((Pg.plain k dl).length : Int))) none = nb (b.drop (4 + (Pg.plain k dl).length)) := by
      rw [eb]
      exact cut_nbD b _
    dsimp only
    rw [ec]
    refine ⟨Builtin.Int.intBits ((d : Int) - 1), n, p3, _, rfl, SqL.of upd_same, by omega, by omega, fun H4 C s4 nC hC => ?_⟩
    generalize hus : Pg.unpacked (Builtin.Int.intBits ((d : Int) - 1)) n ((b.drop (4 + (Pg.plain k dl).length)).take (Pg.packedLong (Builtin.Int.intBits ((d : Int) - 1)) n)) = us at hC
    have usl : us.length = n := by rw [← hus, PfM.unpacked_len]
    have s24 : Same H2 H4 := (nw n3).trans s4
    have s14 : Same H1 H4 := s2.trans s24
    have s04 : Same H H4 := s01.trans s14
    have hD4 := s14 _ _ hD
    have hdsl : ds.length = dl.length := hds.length
    -- the comprehension
    refine ⟨_, rfl, C, rfl, ⟨_, SqL.of hC⟩, fun R nR => ?_⟩
    refine lc_list (K := K) (a := C) (xs := nb us) (fun i H' => Same H4 H' ∧ ∃ ys, H' R = some (.lst ys) ∧ VsA H' ys ((us.take i).filterMap fun (j : Nat) => dl[j]?)) ⟨nw nR, [], upd_same, .nil⟩ (fun i H' _ h => h.1.seq (SqL.of hC)) ?_ ?_
    · rintro i x H5 hx ⟨s5, ys, hR, hy⟩
      obtain ⟨j, hj, rfl⟩ := nb_get hx
      refine ⟨rfl, ?_⟩
      refine ⟨_, rfl, _, rfl, _, _, rfl, rfl, _, rfl, ?_⟩
      have tm : (us.take (i + 1)).filterMap (fun (j : Nat) => dl[j]?) = (us.take i).filterMap (fun (j : Nat) => dl[j]?) ++ (dl[j]?).toList := by
        rw [take_more hj, List.filterMap_append]
        have : ([j] : List Nat).filterMap (fun (j : Nat) => dl[j]?) = (dl[j]?).toList := by
          cases e : dl[j]? <;> simp [e]
        rw [this]
      refine ifD (fun h => ?_) (fun h => ?_)
      · have hjd : j < dl.length := by omega
        have hg : dl[j]? = some dl[j] := List.getElem?_eq_getElem hjd
        generalize dl[j] = v at hg
        obtain ⟨x, hxs, hxv⟩ := pgr hds hg
        have hyl := hy.length
        have hfl : ((us.take i).filterMap fun (j : Nat) => dl[j]?).length ≤ (us.take i).length := List.length_filterMap_le _ _
        rw [List.length_take] at hfl
        refine ⟨_, rfl, _, rfl, D, _, _, _, rfl, rfl, SqL.of (s5 _ _ hD4), atI_nat hxs, _, hR, szl (by omega), mt s5 nR, ys ++ [x], upd_same, ?_⟩
        rw [tm, hg]
        exact (L2.Paired.mapP hy fun z e h => VA.keepL3 hR h).snoc (VA.keepL3 hR (VA.mono (s14.trans s5) hxv))
      · refine ⟨s5, ys, hR, ?_⟩
        rw [tm, List.getElem?_eq_none (by omega)]
        show VsA H5 ys (_ ++ [])
        rw [List.append_nil]
        exact hy
    · rintro H5 ⟨s5, ys, hR, hy⟩
      rw [nb_len, List.take_length] at hy
      have hfl : (us.filterMap fun (j : Nat) => dl[j]?).length ≤ us.length := List.length_filterMap_le _ _
      refine q H5 R ys _ (s04.trans s5) (s04.free nR) hR hy (by omega) (fun v hv => ?_) fun l0 h1 h2 hne h3 => ?_
      · obtain ⟨j, _, hj⟩ := List.mem_filterMap.mp hv
        exact hdk v (List.mem_of_getElem? hj)
      · have wl := PfM.words_len l0
        have wn := PfM.words_nodup l0
        have wne := PfM.words_ne hne
        have wpos : 0 < (Pg.wordsOf l0).length := List.length_pos_iff.mpr wne
        have ed : d = (Pg.wordsOf l0).length := by
          rw [← hd, h3, PfM.dictionary_eq, PfM.numAt0 (by omega)]
          omega
        have e4 : b.drop 4 = Pg.plain k (Pg.wordsOf l0) ++ Pg.packed (Pg.bitsFor ((Pg.wordsOf l0).length - 1)) (l0.map (Pg.indexOf (Pg.wordsOf l0))) := by
          rw [h3, PfM.dictionary_eq, PfM.drop_le]
        have edl : dl = Pg.wordsOf l0 := hdW _ _ (fun v hv => h1 v ((PfM.words_mem l0 v).mp hv)) ed.symm e4
        have eq : Builtin.Int.intBits ((d : Int) - 1) = Pg.bitsFor ((Pg.wordsOf l0).length - 1) := by
          rw [ed, show ((Pg.wordsOf l0).length : Int) - 1 = (((Pg.wordsOf l0).length - 1 : Nat) : Int) by omega, bits_nat]
        have hf : PfM.fits (Pg.bitsFor ((Pg.wordsOf l0).length - 1)) (l0.map (Pg.indexOf (Pg.wordsOf l0))) := by
          intro j hj
          obtain ⟨v, hv, rfl⟩ := List.mem_map.mp hj
          have := PfM.index_lt wn ((PfM.words_mem l0 v).mpr hv)
          exact Nat.lt_of_le_of_lt (by omega) (PfM.bits_lt _)
        have eu : us = l0.map (Pg.indexOf (Pg.wordsOf l0)) := by
          rw [← hus, eq, edl, ← List.drop_drop, e4, PfM.drop_app, PfM.take_packed (by rw [List.length_map]; exact h2.symm), PfM.unpacked_packed hf n (by rw [List.length_map]; exact h2.symm)]
        rw [eu, edl]
        exact PfM.filter_index wn l0 fun v hv => (PfM.words_mem l0 v).mpr hv
/-! ## differences_values -/
abbrev s_differences_values : Stmt := topS 46
abbrev N_differences_values : List Str := ["k", "the_bytes", "values", "step"]
theorem sc_differences_values : FnScope N_differences_values ["k", "the_bytes"] (defScope s_differences_values) := ⟨rfl, rfl, rfl, by decide +kernel, rfl, by decide +kernel, by decide +kernel⟩
def stepsV (k : Nat) (b : List Nat) : List Int := (Pg.unpacked ((b.drop 17).getD 0 0) (k - 1) (((b.drop 17).drop 1).take (Pg.packedLong ((b.drop 17).getD 0 0) (k - 1)))).map fun (x : Nat) => PfM.sgnAt b 8 9 + (x : Int)
def sp_differences_values (K : PySem.W.Frag) : Sp := fun vs H Q _ => ∃ (k : Nat) (a : Addr) (b : List Nat), vs = [.int (k : Int), .ref a] ∧ SqL K H a (nb b) ∧ (∀ c ∈ b, c < 256) ∧ 1 ≤ k ∧ k ≤ 1000 ∧
  ∀ H' p, Same H H' → H p = none → H' p = some (.lst ((Pg.sumsFrom (PfM.sgnAt b 0 8) (stepsV k b)).map V.int)) → Q (.ref p) H'
theorem ok_differences_values {P : Program} {w : World} {K : PySem.W.Frag} {mg : Str → Option Value} {base : Heap} {f : Addr} {fd : FuncData} (F : Fun K "differences_values" "differences_values" s_differences_values f fd) (h_above_least : Ok P w K mg base 3 "above_least" ["least", "k", "the_bytes"] (sp_above_least K)) (h_signed_at : Ok P w K mg base 2 "signed_at" ["the_bytes", "at", "width"] (sp_signed_at K)) : FnOk P w K mg base CX0 4 f fd ["k", "the_bytes"] (sp_differences_values K) := by
  refine F.ok sc_differences_values (fun vs H Q E h => ?_) (fun cdv A outer s H vs Q E hr h => ?_)
  · obtain ⟨k, a, b, rfl, hS, hb, h1, hk, q⟩ := h
    rfl
  · have hu := hu_of hr
    obtain ⟨k, a, b, rfl, hS, hb, h1, hk, q⟩ := h
    refine ⟨_, (pss_cons (ps_set (i := 2) sc_differences_values.nd rfl (Or.inl rfl) (pe_lst (pa_cons (pe_fn h_signed_at (hr.mono (by decide)) (by rfl) (pa_cons (pv 1) (pa_cons pe_int (pa_cons pe_int pa_nil)))) pa_nil)))
              (pss_cons (ps_for PassesOwn.never rfl (pi_list (pe_fn h_above_least (hr.mono (by decide)) (by rfl) (pa_cons (pe_fn h_signed_at (hr.mono (by decide)) (by rfl) (pa_cons (pv 1) (pa_cons pe_int (pa_cons pe_int pa_nil)))) (pa_cons (pe_op op_sub (pv 0) pe_int) (pa_cons (pe_slice sl_list (pv 1) (po_some pe_int) po_none) pa_nil))))) (pg_name (i := 3) sc_differences_values.nd rfl (.inl rfl))
              (pss_one (ps_expr (pe_bm PySem.F.plainAttrs_list PySem.F.slot_list_append PySem.F.type_list_append mt_append (pv 2) (pa_cons (pe_op op_add (pe_ix ix_list (pv 2) (pe_un un_neg pe_int) (fun _ _ => rfl)) (pv 3)) pa_nil)))))
              (pss_one (ps_ret (pv 2))))), ?_⟩
    refine ⟨_, rfl, a, b, 0, 8, rfl, hS, by decide, by decide, fun H1 s1 => ?_⟩
    refine ⟨sz (by show 1 ≤ 1000000; decide), fun D nD => ?_⟩
    have sD := s1.trans (nw (o := .lst [V.int (PfM.sgnAt b 0 8)]) nD)
    refine ⟨_, rfl, a, b, 8, 9, rfl, sD.seq hS, by decide, by decide, fun H2 s2 => ?_⟩
    refine ⟨_, rfl, _, _, rfl, rfl, _, rfl, _, rfl, a, _, rfl, (sD.trans s2).seq hS, fun p np => ?_⟩
    rw [show cutV (nb b) (some 17) none = nb (b.drop 17) from cut_nbD b 17]
    have ek : (k : Int) - 1 = ((k - 1 : Nat) : Int) := by omega
    refine ⟨PfM.sgnAt b 8 9, k - 1, p, b.drop 17, ?_, SqL.of upd_same, fun c hc => hb c (List.mem_of_mem_drop hc), by omega, fun H3 r s3 nr hr3 => ?_⟩
    · show [V.int _, V.int ((k : Int) - 1), V.ref p] = _
      rw [ek]
    have hs : H3 r = some (.lst ((stepsV k b).map V.int)) := hr3
    have sl : (stepsV k b).length = k - 1 := by
      unfold stepsV
      rw [List.length_map, PfM.unpacked_len]
    generalize stepsV k b = st at hs sl q
    have s23 : Same H2 H3 := (nw np).trans s3
    have hD3 := s23 _ _ (s2 _ _ (upd_same (H := H1) (a := D) (o := .lst [V.int (PfM.sgnAt b 0 8)])))
    have s03 : Same H H3 := (sD.trans s2).trans s23
    have nD0 : H D = none := s1.free nD
    have hrD : r ≠ D := fun e => by
      have h1' := s2 _ _ (upd_same (H := H1) (a := D) (o := .lst [V.int (PfM.sgnAt b 0 8)]))
      have h2' := nw (o := .lst (nb (b.drop 17))) np _ _ h1'
      rw [← e, nr] at h2'
      cases h2'
    generalize PfM.sgnAt b 0 8 = z at hD3 q ⊢
    refine ⟨r, rfl, ⟨_, SqL.of hs⟩, for_list (K := K) (a := r) (xs := st.map V.int) (fun i σ H' => ∃ (y : Option V) (pre : List Int) (x : Int), σ = [some (.int (k : Int)), some (.ref a), some (.ref D), y] ∧ Same H H' ∧ H' r = some (.lst (st.map V.int)) ∧ H' D = some (.lst ((pre ++ [x]).map V.int)) ∧ pre.length = i ∧ Pg.sumsFrom z st = pre ++ Pg.sumsFrom x (st.drop i))
      ⟨none, [], z, rfl, s03, hs, hD3, rfl, rfl⟩ (fun i σ H' _ ⟨_, _, _, _, _, h, _⟩ => SqL.of h) ?_ ?_⟩
    · rintro i v σ H4 hv ⟨y, pre, x, rfl, s4, hr4, hD4, hpl, hsum⟩
      obtain ⟨c, hc, rfl⟩ := ints_get hv
      have hil := (List.getElem?_eq_some_iff.mp hc).1
      have gl : atI ((pre ++ [x]).map V.int) (-1) = some (.int x) := by
        rw [List.map_append]
        exact atI_last _ _
      refine ⟨_, rfl, .inl ⟨rfl, _, SqL.of hD4⟩, _, rfl, _, rfl, D, _, _, _, rfl, rfl, SqL.of hD4, gl, _, rfl, _, _, rfl, rfl, D, _, _, rfl, rfl, hD4, ?_, ?_⟩
      · rw [List.length_map, List.length_append, List.length_singleton]
        exact szl (by omega)
      · refine ⟨some (.int c), pre ++ [x], x + c, rfl, mt s4 nD0, ?_, ?_, by rw [List.length_append, hpl]; rfl, ?_⟩
        · rw [upd_ne hrD]
          exact hr4
        · rw [upd_same, List.map_append (l₂ := [x + c])]
          rfl
        · have hd : st.drop i = c :: st.drop (i + 1) := PfM.drop_at hc
          rw [hsum, hd]
          show pre ++ (x :: Pg.sumsFrom (x + c) (st.drop (i + 1))) = _
          rw [List.append_assoc]
          rfl
    · rintro σ H4 ⟨y, pre, x, rfl, s4, hr4, hD4, hpl, hsum⟩
      rw [List.length_map, List.drop_length] at hsum
      refine ⟨_, rfl, q H4 D s4 nD0 ?_⟩
      rw [hD4, hsum]
      rfl
/-! ## shared_values -/
abbrev s_shared_values : Stmt := topS 47
abbrev N_shared_values : List Str := ["k", "the_bytes", "values", "before", "at", "place", "left"]
theorem sc_shared_values : FnScope N_shared_values ["k", "the_bytes"] (defScope s_shared_values) := ⟨rfl, rfl, rfl, by decide +kernel, rfl, by decide +kernel, by decide +kernel⟩
def Ty (k : Nat) : Pg.Val → Prop
  | .num _ => k = 0
  | .str b => k = 1 ∧ b.length ≤ 5000000
def sp_shared_values (K : PySem.W.Frag) : Sp := fun vs H Q _ => ∃ (n : Nat) (a : Addr) (b : List Nat), vs = [.int (n : Int), .ref a] ∧ SqL K H a (nb b) ∧ b.length ≤ 20000 ∧ n ≤ 64 ∧
  ∀ H' p ys l, Same H H' → H p = none → H' p = some (.lst ys) → VsA H' ys l → l.length ≤ 5000 → (∀ v ∈ l, Ty 1 v) → (∀ l0, (∀ v ∈ l0, v.is 1 = true) → l0.length = n → b = Pg.sharedFrom [] l0 → l = l0) → Q (.ref p) H'
theorem VA.keepL4 {H : Hp} {d : Addr} {xs xs' : List V} (hd : H d = some (.lst xs)) {z : V} {e : Pg.Val} (h : VA H z e) : VA (upd H d (.lst xs')) z e := by
  cases e with
  | num _ => exact h
  | str b =>
    obtain ⟨t, rfl, ht⟩ := h
    refine ⟨t, rfl, ?_⟩
    rw [upd_ne (fun e => by rw [e, hd] at ht; cases ht)]
    exact ht
theorem cut_to (b : List Nat) (j : Nat) : cutV (nb b) none (some (j : Int)) = nb (b.take j) := by
  unfold cutV
  rw [HT.sIx_nat, HT.sIx_none, nb_len, Nat.sub_zero, List.drop_zero]
  unfold nb
  rw [← List.map_take]
  by_cases h : j ≤ b.length
  · rw [Nat.min_eq_left h]
  · rw [Nat.min_eq_right (by omega), List.take_of_length_le (l := b) (Nat.le_refl _), List.take_of_length_le (l := b) (by omega)]
theorem ok_shared_values {P : Program} {w : World} {K : PySem.W.Frag} {mg : Str → Option Value} {base : Heap} {f : Addr} {fd : FuncData} (F : Fun K "shared_values" "shared_values" s_shared_values f fd) (b_range : mg "range" = none) (b_len : mg "len" = none) (c_ROWS_OF_BYTES : Kst mg "ROWS_OF_BYTES" (.int 1)) (h_number_at : Ok P w K mg base 1 "number_at" ["the_bytes", "at", "width"] (sp_number_at K)) (h_alone_value : Ok P w K mg base 3 "alone_value" ["kind", "the_bytes", "at"] (sp_alone_value K)) : FnOk P w K mg base CX0 4 f fd ["k", "the_bytes"] (sp_shared_values K) := by
  refine F.ok sc_shared_values (fun vs H Q E h => ?_) (fun cdv A outer s H vs Q E hr h => ?_)
  · obtain ⟨n, a, b, rfl, hS, hbl, hn, q⟩ := h
    rfl
  · have hu := hu_of hr
    obtain ⟨n, a, b, rfl, hS, hbl, hn, q⟩ := h
    refine ⟨_, (pss_cons (ps_set (i := 2) sc_shared_values.nd rfl (Or.inl rfl) (pe_lst pa_nil))
              (pss_cons (ps_set (i := 3) sc_shared_values.nd rfl (Or.inl rfl) (pe_tup pa_nil))
              (pss_cons (ps_set (i := 4) sc_shared_values.nd rfl (Or.inl rfl) pe_int)
              (pss_cons (ps_for PassesOwn.never rfl (pi_range1 (by rfl) b_range (pa_cons (pv 0) pa_nil)) (pg_name (i := 5) sc_shared_values.nd rfl (.inl rfl))
              (pss_cons (ps_set (i := 6) sc_shared_values.nd rfl (Or.inl rfl) (pe_fn h_alone_value (hr.mono (by decide)) (by rfl) (pa_cons (pe_k c_ROWS_OF_BYTES rfl) (pa_cons (pv 1) (pa_cons (pe_op op_add (pv 4) pe_int) pa_nil)))))
              (pss_cons (ps_set (i := 3) sc_shared_values.nd rfl (Or.inl rfl) (pe_op op_catA (pe_slice sl_tupA (pv 3) po_none (po_some (pe_fn h_number_at (hr.mono (by decide)) (by rfl) (pa_cons (pv 1) (pa_cons (pv 4) (pa_cons pe_int pa_nil)))))) (pv 6)))
              (pss_cons (ps_expr (pe_bm PySem.F.plainAttrs_list PySem.F.slot_list_append PySem.F.type_list_append mt_append (pv 2) (pa_cons (pv 3) pa_nil)))
              (pss_one (ps_set (i := 4) sc_shared_values.nd rfl (Or.inl rfl) (pe_op op_add (pe_op op_add (pv 4) pe_int) (pe_callB call_len_seq (by rfl) b_len PySem.boot_len (pa_cons (pv 6) pa_nil)))))))))
              (pss_one (ps_ret (pv 2))))))), ?_⟩
    refine ⟨Nat.zero_le _, fun D nD => ?_⟩
    refine ⟨Nat.zero_le _, fun t0 nt0 => ?_⟩
    refine ⟨_, rfl, (n : Int), rfl, by omega, by omega, for_range (fun i σ H' => ∃ (t : Nat) (y5 y6 : Option V) (u : Addr) (w : List Nat) (ys : List V) (l : List Pg.Val), σ = [some (.int (n : Int)), some (.ref a), some (.ref D), some (.ref u), some (.int (t : Int)), y5, y6] ∧ Same H H' ∧ H' D = some (.lst ys) ∧ VsA H' ys l ∧ H' u = some (.tup (nb w)) ∧ w.length ≤ 20000 * i ∧ l.length = i ∧ (∀ v ∈ l, Ty 1 v) ∧ (∀ l0, (∀ v ∈ l0, v.is 1 = true) → l0.length = n → b = Pg.sharedFrom [] l0 → l = l0.take i ∧ ∃ pre, b = pre ++ Pg.sharedFrom w (l0.drop i) ∧ t = pre.length))
      ⟨0, none, none, t0, [], [], [], rfl, (nw nD).trans (nw nt0), nw nt0 _ _ upd_same, .nil, upd_same, by decide, rfl, (fun v hv => by cases hv), fun l0 _ _ h3 => ⟨rfl, [], h3, rfl⟩⟩ ?_ ?_⟩
    · rintro i σ H1 hi ⟨t, y5, y6, u, w, ys, l, rfl, s1, hD, hy, hu1, hwl, hl, hty, hW⟩
      rw [Int.toNat_natCast] at hi
      -- left = alone_value(ROWS_OF_BYTES, the_bytes, at + 4)
      refine ⟨_, rfl, _, rfl, _, _, rfl, rfl, 1, a, b, t + 4, rfl, by decide, s1.seq hS, fun H2 x s2 hx => ?_⟩
      have hx' : VA H2 x (.str ((b.drop (t + 4 + 4)).take (PfM.numAt b (t + 4) 4))) := hx
      obtain ⟨f2, rfl, hf2⟩ := hx'
      have hll : ((b.drop (t + 4 + 4)).take (PfM.numAt b (t + 4) 4)).length ≤ 20000 := by
        rw [List.length_take, List.length_drop]
        omega
      have facts : ∀ l0, (∀ v ∈ l0, v.is 1 = true) → l0.length = n → b = Pg.sharedFrom [] l0 → ∃ (c pre : List Nat), l0[i]? = some (.str c) ∧ l = l0.take i ∧ t = pre.length ∧ PfM.numAt b t 4 = Pg.common w c ∧ (b.drop (t + 4 + 4)).take (PfM.numAt b (t + 4) 4) = c.drop (Pg.common w c) ∧ b = pre ++ (Pg.le 4 (Pg.common w c) ++ (Pg.le 4 (c.length - Pg.common w c) ++ (c.drop (Pg.common w c) ++ Pg.sharedFrom c (l0.drop (i + 1))))) := by
        intro l0 h1 h2 h3
        obtain ⟨e1, pre, e2, e3⟩ := hW l0 h1 h2 h3
        have hi0 : i < l0.length := by omega
        have hg : l0[i]? = some l0[i] := List.getElem?_eq_getElem hi0
        have iv := h1 _ (List.getElem_mem hi0)
        generalize l0[i] = v at hg iv
        cases v with
        | num z => exact absurd (is_num iv).1 (by decide)
        | str c =>
          have hc := (is_str iv).2.1
          have cl := PfM.common_le w c
          have hd : l0.drop i = .str c :: l0.drop (i + 1) := by
            have := List.getElem?_eq_some_iff.mp hg
            rw [List.drop_eq_getElem_cons this.1, this.2]
          have eb : b = pre ++ (Pg.le 4 (Pg.common w c) ++ (Pg.le 4 (c.length - Pg.common w c) ++ (c.drop (Pg.common w c) ++ Pg.sharedFrom c (l0.drop (i + 1))))) := by
            rw [e2, hd]
            rfl
          have n1 : PfM.numAt b t 4 = Pg.common w c := by rw [eb, e3, PfM.numAt_le (by omega)]
          have eb2 : b = (pre ++ Pg.le 4 (Pg.common w c)) ++ (Pg.le 4 (c.length - Pg.common w c) ++ (c.drop (Pg.common w c) ++ Pg.sharedFrom c (l0.drop (i + 1)))) := by rw [List.append_assoc]; exact eb
          have l2 : t + 4 = (pre ++ Pg.le 4 (Pg.common w c)).length := by rw [List.length_append, PfM.le_len, e3]
          have n2 : PfM.numAt b (t + 4) 4 = c.length - Pg.common w c := by rw [eb2, l2, PfM.numAt_le (by omega)]
          refine ⟨c, pre, hg, e1, e3, n1, ?_, eb⟩
          have dl : (c.drop (Pg.common w c)).length = c.length - Pg.common w c := List.length_drop
          rw [n2, ← List.drop_drop, l2]
          conv => lhs; rw [eb2]
          rw [PfM.drop_app, PfM.drop_le, ← dl, PfM.take_app]
      -- before = before[:number_at(the_bytes, at, 4)] + left
      refine ⟨_, rfl, _, rfl, _, rfl, a, b, t, 4, rfl, (s1.trans s2).seq hS, fun H3 s3 => ?_⟩
      have hu3 := s3 _ _ (s2 _ _ hu1)
      have hf3 := s3 _ _ hf2
      have hD3 := s3 _ _ (s2 _ _ hD)
      have s13 : Same H1 H3 := s2.trans s3
      -- what stands behind, from before's new tuple on
      have done : ∀ (H4 : Hp) (g : Addr), Same H3 H4 → H4 g = some (.tup (nb (w.take (PfM.numAt b t 4) ++ (b.drop (t + 4 + 4)).take (PfM.numAt b (t + 4) 4)))) → ∀ Dn : Ends, (∀ σ' H', (∃ (t : Nat) (y5 y6 : Option V) (u : Addr) (w : List Nat) (ys : List V) (l : List Pg.Val), σ' = [some (.int (n : Int)), some (.ref a), some (.ref D), some (.ref u), some (.int (t : Int)), y5, y6] ∧ Same H H' ∧ H' D = some (.lst ys) ∧ VsA H' ys l ∧ H' u = some (.tup (nb w)) ∧ w.length ≤ 20000 * (i + 1) ∧ l.length = i + 1 ∧ (∀ v ∈ l, Ty 1 v) ∧ (∀ l0, (∀ v ∈ l0, v.is 1 = true) → l0.length = n → b = Pg.sharedFrom [] l0 → l = l0.take (i + 1) ∧ ∃ pre, b = pre ++ Pg.sharedFrom w (l0.drop (i + 1)) ∧ t = pre.length)) → Dn.nx σ' H') →
          tSeq (tDrop (tBM K "list" rAppend (tVar 2) (tCons (tVar 3) tNil))) (tAsg (tOp (rI0 fun i j => .int (i + j)) (tOp (rI0 fun i j => .int (i + j)) (tVar 4) (tC (.int 8))) (tCB (fun xs H Q => ∃ p ys, xs = [.ref p] ∧ (SqL K H p ys ∨ SqT K H p ys) ∧ Q (.int ys.length) H) (tCons (tVar 6) tNil))) (gName 4)) Dn [some (.int (n : Int)), some (.ref a), some (.ref D), some (.ref g), some (.int (t : Int)), some (.int (0 + (i : Int))), some (.ref f2)] H4 := by
        intro H4 g s4 hg4 Dn hDn
        have hD4 := s4 _ _ hD3
        have hf4 := s4 _ _ hf3
        have hyl : ys.length = l.length := hy.length
        refine ⟨_, rfl, .inl ⟨rfl, _, SqL.of hD4⟩, _, rfl, D, _, _, rfl, rfl, hD4, szl (by omega), ?_⟩
        have tk : ∀ (e : Addr) (z : List V), H4 e = some (.tup z) → (upd H4 D (.lst (ys ++ [.ref g]))) e = some (.tup z) := fun e z he => by
          rw [upd_ne (fun e2 => by rw [e2, hD4] at he; cases he)]
          exact he
        refine ⟨_, rfl, _, _, rfl, rfl, _, rfl, f2, _, rfl, .inr (SqT.of (tk _ _ hf4)), _, _, rfl, rfl, ?_⟩
        have wl : (w.take (PfM.numAt b t 4)).length ≤ w.length := by rw [List.length_take]; omega
        refine hDn _ _ ⟨t + 8 + ((b.drop (t + 4 + 4)).take (PfM.numAt b (t + 4) 4)).length, some (.int (0 + (i : Int))), some (.ref f2), g, w.take (PfM.numAt b t 4) ++ (b.drop (t + 4 + 4)).take (PfM.numAt b (t + 4) 4), ys ++ [.ref g], l ++ [.str (w.take (PfM.numAt b t 4) ++ (b.drop (t + 4 + 4)).take (PfM.numAt b (t + 4) 4))], ?_, mt ((s1.trans s13).trans s4) nD, upd_same, ?_, tk _ _ hg4, ?_, by rw [List.length_append, hl]; rfl, fun v hv => ?_, fun l0 h1 h2 h3 => ?_⟩
        · rw [nb_len, Int.natCast_add, Int.natCast_add]
          rfl
        · refine (L2.Paired.mapP hy fun z e h => VA.keepL4 hD4 (VA.mono (s13.trans s4) h)).snoc ?_
          exact VA.keepL4 hD4 ⟨g, rfl, hg4⟩
        · rw [List.length_append]
          omega
        · rcases List.mem_append.mp hv with hv | hv
          · exact hty v hv
          · rw [List.mem_singleton.mp hv]
            refine ⟨rfl, ?_⟩
            rw [List.length_append]
            omega
        · obtain ⟨c, pre, g1, g2, g3, g4, g5, g6⟩ := facts l0 h1 h2 h3
          have ct : w.take (Pg.common w c) = c.take (Pg.common w c) := PfM.sharedIn_eq.common_take w c
          have cl := PfM.common_le w c
          rw [g5, g4, ct, List.take_append_drop, take_more g1, g2]
          refine ⟨rfl, pre ++ (Pg.le 4 (Pg.common w c) ++ (Pg.le 4 (c.length - Pg.common w c) ++ c.drop (Pg.common w c))), ?_, ?_⟩
          · conv => lhs; rw [g6]
            simp only [List.append_assoc]
          · simp only [List.length_append, PfM.le_len, g3]
            omega
      -- the slice, then the sum
      have sum : ∀ (H4 : Hp) (g : Addr), Same H3 H4 → H4 g = some (.tup (nb (w.take (PfM.numAt b t 4)))) → ∀ R : VK, (∀ (H5 : Hp) (e : Addr), Same H3 H5 → H5 e = some (.tup (nb (w.take (PfM.numAt b t 4) ++ (b.drop (t + 4 + 4)).take (PfM.numAt b (t + 4) 4)))) → R (.ref e) H5) → rCatA K (.ref g) (.ref f2) H4 R := by
        intro H4 g s4 hg4 R hR
        refine ⟨g, f2, _, _, rfl, rfl, SqT.of hg4, SqT.of (s4 _ _ hf3), ?_, fun e => ?_, fun _ e => ?_, fun _ _ p np => ?_⟩
        · rw [nb_len, nb_len, List.length_take]
          exact sz16 (by omega)
        · have e0 : w.take (PfM.numAt b t 4) = [] := by
            have := congrArg List.length e
            rw [nb_len] at this
            exact List.eq_nil_of_length_eq_zero this
          refine hR H4 f2 s4 ?_
          rw [e0, List.nil_append]
          exact s4 _ _ hf3
        · have e0 : (b.drop (t + 4 + 4)).take (PfM.numAt b (t + 4) 4) = [] := by
            have := congrArg List.length e
            rw [nb_len] at this
            exact List.eq_nil_of_length_eq_zero this
          refine hR H4 g s4 ?_
          rw [e0, List.append_nil]
          exact hg4
        · refine hR _ p (s4.trans (nw np)) ?_
          rw [upd_same, nb_app]
      refine ⟨_, rfl, u, _, rfl, SqT.of hu3, fun hw => ?_, fun hw e ne => ?_⟩
      · refine ⟨_, rfl, sum H3 u (Same.refl _) ?_ _ fun H5 e s5 he => done H5 e s5 he _ (fun _ _ h => h)⟩
        rw [HT.sIx_nat, HT.sIx_none, nb_len] at hw
        rw [hu3, List.take_of_length_le (by have := hw.2; omega)]
      · rw [cut_to]
        exact ⟨_, rfl, sum _ e (nw ne) upd_same _ fun H5 e s5 he => done H5 e s5 he _ (fun _ _ h => h)⟩
    · rintro σ H1 ⟨t, y5, y6, u, w, ys, l, rfl, s1, hD, hy, hu1, hwl, hl, hty, hW⟩
      rw [Int.toNat_natCast] at hl hW
      refine ⟨_, rfl, q H1 D ys l s1 nD hD hy (by omega) hty fun l0 h1 h2 h3 => ?_⟩
      rw [(hW l0 h1 h2 h3).1, ← h2, List.take_length]
/-! ## values_in_way -/
abbrev s_values_in_way : Stmt := topS 48
abbrev N_values_in_way : List Str := ["way", "kind", "k", "the_bytes"]
theorem sc_values_in_way : FnScope N_values_in_way ["way", "kind", "k", "the_bytes"] (defScope s_values_in_way) := ⟨rfl, rfl, rfl, by decide +kernel, rfl, by decide +kernel, by decide +kernel⟩
def sp_values_in_way (K : PySem.W.Frag) : Sp := fun vs H Q _ => ∃ (e k n : Nat) (a : Addr) (b : List Nat), vs = [.int (e : Int), .int (k : Int), .int (n : Int), .ref a] ∧ k ≤ 1 ∧ 1 ≤ n ∧ n ≤ 64 ∧ SqL K H a (nb b) ∧ (∀ c ∈ b, c < 256) ∧ b.length ≤ 20000 ∧
  ∀ H' p ys l, Same H H' → H p = none → H' p = some (.lst ys) → VsA H' ys l → l.length ≤ 5000 → (∀ v ∈ l, Ty k v) → (∀ l0, PfM.Wr k e n b l0 → l = l0) → Q (.ref p) H'
theorem ty_kd {k : Nat} {v : Pg.Val} (h : Kd k v) : Ty k v := by
  cases v with
  | num z => exact h
  | str b => exact ⟨h.1, by have := h.2; omega⟩
theorem vs_ints {H : Hp} (m : List Int) : VsA H (m.map V.int) (m.map Pg.Val.num) := by
  induction m with
  | nil => exact .nil
  | cons z m ih => exact .cons rfl ih
theorem ok_values_in_way {P : Program} {w : World} {K : PySem.W.Frag} {mg : Str → Option Value} {base : Heap} {f : Addr} {fd : FuncData} (F : Fun K "values_in_way" "values_in_way" s_values_in_way f fd) (c_ROWS_OF_BYTES : Kst mg "ROWS_OF_BYTES" (.int 1)) (c_NUMBERS : Kst mg "NUMBERS" (.int 0)) (h_shared_values : Ok P w K mg base 4 "shared_values" ["k", "the_bytes"] (sp_shared_values K)) (h_differences_values : Ok P w K mg base 4 "differences_values" ["k", "the_bytes"] (sp_differences_values K)) (h_from_least_values : Ok P w K mg base 4 "from_least_values" ["k", "the_bytes"] (sp_from_least_values K)) (h_dictionary_values : Ok P w K mg base 4 "dictionary_values" ["kind", "k", "the_bytes"] (sp_dictionary_values K)) (h_runs_values : Ok P w K mg base 4 "runs_values" ["kind", "k", "the_bytes"] (sp_runs_values K)) (h_one_values : Ok P w K mg base 4 "one_values" ["kind", "k", "the_bytes"] (sp_one_values K)) (h_plain_values : Ok P w K mg base 3 "plain_values" ["kind", "k", "the_bytes"] (sp_plain_values K)) : FnOk P w K mg base CX0 5 f fd ["way", "kind", "k", "the_bytes"] (sp_values_in_way K) := by
  refine F.ok sc_values_in_way (fun vs H Q E h => ?_) (fun cdv A outer s H vs Q E hr h => ?_)
  · obtain ⟨e, k, n, a, b, rfl, hk, hn1, hn, hS, hb, hbl, q⟩ := h
    rfl
  · have hu := hu_of hr
    obtain ⟨e, k, n, a, b, rfl, hk, hn1, hn, hS, hb, hbl, q⟩ := h
    refine ⟨_, (pss_cons (ps_if (pt_cmpR op_eq (pv 0) pe_int (nomark _))
              (pss_one (ps_ret (pe_fn h_plain_values (hr.mono (by decide)) (by rfl) (pa_cons (pv 1) (pa_cons (pv 2) (pa_cons (pv 3) pa_nil))))))
              pss_nil)
              (pss_cons (ps_if (pt_cmpR op_eq (pv 0) pe_int (nomark _))
              (pss_one (ps_ret (pe_fn h_one_values (hr.mono (by decide)) (by rfl) (pa_cons (pv 1) (pa_cons (pv 2) (pa_cons (pv 3) pa_nil))))))
              pss_nil)
              (pss_cons (ps_if (pt_cmpR op_eq (pv 0) pe_int (nomark _))
              (pss_one (ps_ret (pe_fn h_runs_values (hr.mono (by decide)) (by rfl) (pa_cons (pv 1) (pa_cons (pv 2) (pa_cons (pv 3) pa_nil))))))
              pss_nil)
              (pss_cons (ps_if (pt_cmpR op_eq (pv 0) pe_int (nomark _))
              (pss_one (ps_ret (pe_fn h_dictionary_values (hr.mono (by decide)) (by rfl) (pa_cons (pv 1) (pa_cons (pv 2) (pa_cons (pv 3) pa_nil))))))
              pss_nil)
              (pss_cons (ps_if (PW.pt (pw_and (pt_cmpR op_eq (pv 0) pe_int (nomark _)) (pw_and1 (pt_cmpR op_eq (pv 1) (pe_k c_NUMBERS rfl) (nomark _)))))
              (pss_one (ps_ret (pe_fn h_from_least_values (hr.mono (by decide)) (by rfl) (pa_cons (pv 2) (pa_cons (pv 3) pa_nil)))))
              pss_nil)
              (pss_cons (ps_if (PW.pt (pw_and (pt_cmpR op_eq (pv 0) pe_int (nomark _)) (pw_and1 (pt_cmpR op_eq (pv 1) (pe_k c_NUMBERS rfl) (nomark _)))))
              (pss_one (ps_ret (pe_fn h_differences_values (hr.mono (by decide)) (by rfl) (pa_cons (pv 2) (pa_cons (pv 3) pa_nil)))))
              pss_nil)
              (pss_cons (ps_if (PW.pt (pw_and (pt_cmpR op_eq (pv 0) pe_int (nomark _)) (pw_and1 (pt_cmpR op_eq (pv 1) (pe_k c_ROWS_OF_BYTES rfl) (nomark _)))))
              (pss_one (ps_ret (pe_fn h_shared_values (hr.mono (by decide)) (by rfl) (pa_cons (pv 2) (pa_cons (pv 3) pa_nil)))))
              pss_nil)
              (pss_one (ps_ret (pe_lst pa_nil)))))))))), ?_⟩
    refine ⟨_, rfl, rfl, _, rfl, ifE (fun z => ?_) (fun z0 => ?_)⟩
    · have e0 : e = 0 := by omega
      subst e0
      refine ⟨_, rfl, _, rfl, _, rfl, k, n, a, b, rfl, hk, hS, hbl, by omega, fun H1 p ys l s1 np hp hy hl hkd hW => ?_⟩
      refine q H1 p ys l s1 np hp hy (by omega) (fun v hv => ty_kd (hkd v hv)) fun l0 w => ?_
      have w2 : some (Pg.plain k l0) = some b := Option.some.inj w.2.2
      exact hW l0 [] w.1 w.2.1 (by rw [List.append_nil]; exact (Option.some.inj w2).symm)
    refine ⟨_, rfl, rfl, _, rfl, ifE (fun z => ?_) (fun z1 => ?_)⟩
    · have e0 : e = 1 := by omega
      subst e0
      refine ⟨_, rfl, _, rfl, _, rfl, k, n, a, b, rfl, hk, hS, by omega, fun H1 p ys s1 np hp hy => ?_⟩
      have kd := aloneV_kd (i := 0) hk hbl
      refine q H1 p ys _ s1 np hp hy (by rw [List.length_replicate]; omega) (fun v hv => ?_) fun l0 w => ?_
      · rw [(List.mem_replicate.mp hv).2]
        exact ty_kd kd
      · have w2 : Pg.one l0 = some b := Option.some.inj w.2.2
        obtain ⟨v, r, f1, f2, f3⟩ := PfM.one_all w2
        have iv : v.is k = true := w.1 v (by rw [f1]; exact List.mem_cons_self)
        have ae := PfM.aloneV_eq hk iv [] []
        rw [List.append_nil, ← f2] at ae
        have ae' : PfM.aloneV k b 0 = v := ae
        rw [ae', f3, w.2.1]
    refine ⟨_, rfl, rfl, _, rfl, ifE (fun z => ?_) (fun z2 => ?_)⟩
    · have e0 : e = 2 := by omega
      subst e0
      refine ⟨_, rfl, _, rfl, _, rfl, k, n, a, b, rfl, hk, hS, hbl, by omega, fun H1 p ys l s1 np hp hy hl hkd hW => ?_⟩
      refine q H1 p ys l s1 np hp hy (by omega) (fun v hv => ty_kd (hkd v hv)) fun l0 w => ?_
      have w2 : some (Pg.runs l0) = some b := Option.some.inj w.2.2
      exact hW l0 w.1 w.2.1 (Option.some.inj w2).symm
    refine ⟨_, rfl, rfl, _, rfl, ifE (fun z => ?_) (fun z3 => ?_)⟩
    · have e0 : e = 3 := by omega
      subst e0
      refine ⟨_, rfl, _, rfl, _, rfl, k, n, a, b, rfl, hk, hS, hbl, by omega, fun H1 p ys l s1 np hp hy hl hkd hW => ?_⟩
      refine q H1 p ys l s1 np hp hy (by omega) (fun v hv => ty_kd (hkd v hv)) fun l0 w => ?_
      have w2 : some (Pg.dictionary k l0) = some b := Option.some.inj w.2.2
      have hne : l0 ≠ [] := fun z => by
        have := w.2.1
        rw [z, List.length_nil] at this
        omega
      exact hW l0 w.1 w.2.1 hne (Option.some.inj w2).symm
    have none_ : (∀ l0, ¬ PfM.Wr k e n b l0) → ∀ D, H D = none → Q (.ref D) (upd H D (.lst [])) := fun hno D nD => q _ D [] [] (nw nD) nD upd_same .nil (by decide) (fun v hv => absurd hv (by simp)) fun l0 w => absurd w (hno l0)
    have ty0 : ∀ (m : List Int), k = 0 → ∀ v ∈ m.map Pg.Val.num, Ty k v := fun m k0 v hv => by
      obtain ⟨z, _, rfl⟩ := List.mem_map.mp hv
      exact k0
    rcases (show k = 0 ∨ k = 1 by omega) with rfl | rfl
    · -- numbers
      refine ⟨_, rfl, rfl, _, rfl, ifE (fun z => ?_) (fun z4 => ?_)⟩
      · have e0 : e = 4 := by omega
        subst e0
        refine ⟨_, rfl, rfl, _, rfl, ifE (fun _ => ?_) (fun z => absurd rfl z)⟩
        refine ⟨_, rfl, _, rfl, n, a, b, rfl, hS, hb, by omega, fun H1 p s1 np hp => ?_⟩
        refine q H1 p _ _ s1 np hp (vs_ints _) ?_ (ty0 _ rfl) fun l0 w => PfM.least_back hn1 w
        rw [List.length_map, List.length_map, PfM.unpacked_len]
        omega
      · refine ⟨_, rfl, rfl, _, rfl, ifE (fun z => ?_) (fun z5 => ?_)⟩
        · have e0 : e = 5 := by omega
          subst e0
          refine ⟨_, rfl, rfl, _, rfl, ifE (fun _ => ?_) (fun z => absurd rfl z)⟩
          refine ⟨_, rfl, _, rfl, n, a, b, rfl, hS, hb, hn1, by omega, fun H1 p s1 np hp => ?_⟩
          refine q H1 p _ _ s1 np hp (vs_ints _) ?_ (ty0 _ rfl) fun l0 w => PfM.diffs_back hn1 w
          rw [List.length_map, PfM.sums_len]
          unfold stepsV
          rw [List.length_map, PfM.unpacked_len]
          omega
        · have hno : ∀ l0, ¬ PfM.Wr 0 e n b l0 := fun l0 w => by
            have h7 := (List.getElem?_eq_some_iff.mp w.2.2).1
            have h7' : e < 7 := h7
            have e6 : e = 6 := by omega
            subst e6
            have w2 : Pg.shared 0 l0 = some b := Option.some.inj w.2.2
            cases w2
          refine ⟨_, rfl, rfl, _, rfl, ifE (fun z => ?_) (fun z6 => ?_)⟩
          · refine ⟨_, rfl, rfl, _, rfl, ifE (fun z => absurd z (by decide)) (fun _ => ?_)⟩
            exact ⟨Nat.zero_le _, fun D nD => none_ hno D nD⟩
          · exact ⟨Nat.zero_le _, fun D nD => none_ hno D nD⟩
    · -- rows of bytes
      by_cases e6 : e = 6
      · subst e6
        refine ⟨_, rfl, rfl, _, rfl, ifE (fun z => absurd z (by decide)) (fun _ => ?_)⟩
        refine ⟨_, rfl, rfl, _, rfl, ifE (fun z => absurd z (by decide)) (fun _ => ?_)⟩
        refine ⟨_, rfl, rfl, _, rfl, ifE (fun _ => ?_) (fun z => absurd rfl z)⟩
        refine ⟨_, rfl, rfl, _, rfl, ifE (fun _ => ?_) (fun z => absurd rfl z)⟩
        refine ⟨_, rfl, _, rfl, n, a, b, rfl, hS, hbl, hn, fun H1 p ys l s1 np hp hy hl hty hW => ?_⟩
        refine q H1 p ys l s1 np hp hy hl hty fun l0 w => ?_
        have w2 : some (Pg.sharedFrom [] l0) = some b := Option.some.inj w.2.2
        exact hW l0 w.1 w.2.1 (Option.some.inj w2).symm
      · have hno : ∀ l0, ¬ PfM.Wr 1 e n b l0 := fun l0 w => by
          have h7 := (List.getElem?_eq_some_iff.mp w.2.2).1
          have h7' : e < 7 := h7
          have e45 : e = 4 ∨ e = 5 := by omega
          rcases e45 with rfl | rfl
          · have w2 : Pg.fromLeast 1 l0 = some b := Option.some.inj w.2.2
            unfold Pg.fromLeast at w2
            split at w2 <;> cases w2
          · have w2 : Pg.differences 1 l0 = some b := Option.some.inj w.2.2
            cases w2
        have last : ∀ z6 : (e : Int) ≠ 6, True := fun _ => trivial
        by_cases e4 : e = 4
        · subst e4
          refine ⟨_, rfl, rfl, _, rfl, ifE (fun _ => ?_) (fun z => absurd rfl z)⟩
          refine ⟨_, rfl, rfl, _, rfl, ifE (fun z => absurd z (by decide)) (fun _ => ?_)⟩
          refine ⟨_, rfl, rfl, _, rfl, ifE (fun z => absurd z (by decide)) (fun _ => ?_)⟩
          refine ⟨_, rfl, rfl, _, rfl, ifE (fun z => absurd z (by decide)) (fun _ => ?_)⟩
          exact ⟨Nat.zero_le _, fun D nD => none_ hno D nD⟩
        · refine ⟨_, rfl, rfl, _, rfl, ifE (fun z => absurd z (by omega)) (fun _ => ?_)⟩
          by_cases e5 : e = 5
          · subst e5
            refine ⟨_, rfl, rfl, _, rfl, ifE (fun _ => ?_) (fun z => absurd rfl z)⟩
            refine ⟨_, rfl, rfl, _, rfl, ifE (fun z => absurd z (by decide)) (fun _ => ?_)⟩
            refine ⟨_, rfl, rfl, _, rfl, ifE (fun z => absurd z (by decide)) (fun _ => ?_)⟩
            exact ⟨Nat.zero_le _, fun D nD => none_ hno D nD⟩
          · refine ⟨_, rfl, rfl, _, rfl, ifE (fun z => absurd z (by omega)) (fun _ => ?_)⟩
            refine ⟨_, rfl, rfl, _, rfl, ifE (fun z => absurd z (by omega)) (fun _ => ?_)⟩
            exact ⟨Nat.zero_le _, fun D nD => none_ hno D nD⟩
/-! ## cells_of -/
abbrev s_cells_of : Stmt := topS 60
abbrev N_cells_of : List Str := ["marks", "values", "cells", "used", "mark"]
theorem sc_cells_of : FnScope N_cells_of ["marks", "values"] (defScope s_cells_of) := ⟨rfl, rfl, rfl, by decide +kernel, rfl, by decide +kernel, by decide +kernel⟩
def sumN (l : List Nat) : Nat := l.foldr (fun (x y : Nat) => x + y) 0
def sp_cells_of (K : PySem.W.Frag) : Sp := fun vs H Q _ => ∃ (a c : Addr) (ms : List Nat) (ys : List V) (l : List Pg.Val), vs = [.ref a, .ref c] ∧ SqL K H a (nb ms) ∧ SqL K H c ys ∧ VsA H ys l ∧ (∀ m ∈ ms, m ≤ 1) ∧ sumN ms = l.length ∧ ms.length ≤ 1000 ∧
  ∀ H' p zs, Same H H' → H p = none → H' p = some (.lst zs) → CsA H' zs (Pg.spread (ms.map fun (x : Nat) => x == 1) l) → Q (.ref p) H'
theorem CA.keepL {H : Hp} {d : Addr} {xs xs' : List V} (hd : H d = some (.lst xs)) {z : V} {e : Pg.Cell} (h : CA H z e) : CA (upd H d (.lst xs')) z e := by
  cases e with
  | none => exact h
  | some v =>
    cases v with
    | num _ => exact h
    | str b =>
      obtain ⟨t, rfl, ht⟩ := h
      refine ⟨t, rfl, ?_⟩
      rw [upd_ne (fun e => by rw [e, hd] at ht; cases ht)]
      exact ht
theorem sumN_cons (m : Nat) (l : List Nat) : sumN (m :: l) = m + sumN l := rfl
theorem ok_cells_of {P : Program} {w : World} {K : PySem.W.Frag} {mg : Str → Option Value} {base : Heap} {f : Addr} {fd : FuncData} (F : Fun K "cells_of" "cells_of" s_cells_of f fd)  : FnOk P w K mg base CX0 1 f fd ["marks", "values"] (sp_cells_of K) := by
  refine F.ok sc_cells_of (fun vs H Q E h => ?_) (fun cdv A outer s H vs Q E hr h => ?_)
  · obtain ⟨a, c, ms, ys, l, rfl, hS, hC, hy, hm, hsum, hml, q⟩ := h
    rfl
  · have hu := hu_of hr
    obtain ⟨a, c, ms, ys, l, rfl, hS, hC, hy, hm, hsum, hml, q⟩ := h
    refine ⟨_, (pss_cons (ps_set (i := 2) sc_cells_of.nd rfl (Or.inl rfl) (pe_lst pa_nil))
              (pss_cons (ps_set (i := 3) sc_cells_of.nd rfl (Or.inl rfl) pe_int)
              (pss_cons (ps_for PassesOwn.never rfl (pi_list (pv 0)) (pg_name (i := 4) sc_cells_of.nd rfl (.inl rfl))
              (pss_cons (ps_expr (pe_bm PySem.F.plainAttrs_list PySem.F.slot_list_append PySem.F.type_list_append mt_append (pv 2) (pa_cons (pe_ifExp (pt_cmpR op_eq (pv 4) pe_int (nomark _)) (pe_ix ix_list (pv 1) (pv 3) (fun _ _ => rfl)) pe_non) pa_nil)))
              (pss_one (ps_set (i := 3) sc_cells_of.nd rfl (Or.inl rfl) (pe_op op_add (pv 3) (pv 4))))))
              (pss_one (ps_ret (pv 2)))))), ?_⟩
    have hyl : ys.length = l.length := hy.length
    refine ⟨Nat.zero_le _, fun D nD => ?_⟩
    refine stepC ?_
    refine ⟨_, rfl, a, rfl, ⟨_, (nw nD).seq hS⟩, for_list (K := K) (a := a) (xs := nb ms) (fun i σ H' => ∃ (y : Option V) (u : Nat) (zs : List V) (pre : List Pg.Cell), σ = [some (.ref a), some (.ref c), some (.ref D), some (.int (u : Int)), y] ∧ Same H H' ∧ H' D = some (.lst zs) ∧ CsA H' zs pre ∧ pre.length = i ∧ u + sumN (ms.drop i) = l.length ∧ Pg.spread (ms.map fun (x : Nat) => x == 1) l = pre ++ Pg.spread ((ms.drop i).map fun (x : Nat) => x == 1) (l.drop u))
      ⟨none, 0, [], [], rfl, nw nD, upd_same, .nil, rfl, by rw [List.drop_zero, Nat.zero_add]; exact hsum, rfl⟩ (fun i σ H' _ ⟨_, _, _, _, _, h, _⟩ => h.seq hS) ?_ ?_⟩
    · rintro i v σ H1 hv ⟨y, u, zs, pre, rfl, s1, hD, hz, hpl, hu, hsp⟩
      obtain ⟨m, hg, rfl⟩ := nb_get hv
      have hil := (List.getElem?_eq_some_iff.mp hg).1
      have hd : ms.drop i = m :: ms.drop (i + 1) := by
        have := List.getElem?_eq_some_iff.mp hg
        rw [List.drop_eq_getElem_cons this.1, this.2]
      have hm1 := hm m (List.mem_of_getElem? hg)
      have hzl : zs.length = pre.length := hz.length
      rw [hd, sumN_cons] at hu
      rw [hd] at hsp
      refine ⟨_, rfl, .inl ⟨rfl, _, SqL.of hD⟩, ?_⟩
      refine ⟨_, rfl, rfl, _, rfl, ifE (fun z => ?_) (fun z => ?_)⟩
      · have e1 : m = 1 := by omega
        subst e1
        have hul : u < l.length := by omega
        have hg2 : l[u]? = some l[u] := List.getElem?_eq_getElem hul
        have hdl : l.drop u = l[u] :: l.drop (u + 1) := List.drop_eq_getElem_cons hul
        generalize l[u] = w at hg2 hdl
        obtain ⟨x, hx, hxv⟩ := pgr hy hg2
        refine ⟨_, rfl, _, rfl, c, _, _, _, rfl, rfl, s1.seq hC, atI_nat hx, ?_⟩
        refine ⟨D, _, _, rfl, rfl, hD, szl (by omega), ?_⟩
        refine ⟨_, rfl, _, rfl, _, _, rfl, rfl, some (.int ((1 : Nat) : Int)), u + 1, zs ++ [x], pre ++ [some w], ?_, mt s1 nD, upd_same, ?_, by rw [List.length_append, hpl]; rfl, by omega, ?_⟩
        · rw [Int.natCast_add]
          rfl
        · refine (L2.Paired.mapP hz fun z e h => CA.keepL hD h).snoc ?_
          exact CA.keepL (e := some w) hD (VA.mono s1 hxv)
        · rw [hsp, List.map_cons, hdl, List.append_assoc]
          rfl
      · have e1 : m = 0 := by omega
        subst e1
        refine ⟨D, _, _, rfl, rfl, hD, szl (by omega), ?_⟩
        refine ⟨_, rfl, _, rfl, _, _, rfl, rfl, some (.int ((0 : Nat) : Int)), u, zs ++ [.non], pre ++ [none], ?_, mt s1 nD, upd_same, ?_, by rw [List.length_append, hpl]; rfl, by omega, ?_⟩
        · show [some (V.ref a), some (.ref c), some (.ref D), some (.int ((u : Int) + ((0 : Nat) : Int))), _] = _
          rw [show (u : Int) + ((0 : Nat) : Int) = (u : Int) by omega]
        · exact (L2.Paired.mapP hz fun z e h => CA.keepL hD h).snoc rfl
        · rw [hsp, List.map_cons, List.append_assoc]
          cases l.drop u <;> rfl
    · rintro σ H1 ⟨y, u, zs, pre, rfl, s1, hD, hz, hpl, hu, hsp⟩
      refine ⟨_, rfl, q H1 D zs s1 nD hD ?_⟩
      rw [nb_len, List.drop_length] at hsp
      rw [hsp]
      show CsA H1 zs (pre ++ [])
      rw [List.append_nil]
      exact hz
/-! ## possible_cells -/
abbrev s_possible_cells : Stmt := topS 61
abbrev N_possible_cells : List Str := ["kind", "the_bytes", "head", "n", "body", "marks", "k", "values", "value"]
theorem sc_possible_cells : FnScope N_possible_cells ["kind", "the_bytes"] (defScope s_possible_cells) := ⟨rfl, rfl, rfl, by decide +kernel, rfl, by decide +kernel, by decide +kernel⟩
def sp_possible_cells (K : PySem.W.Frag) : Sp := fun vs H Q _ => ∃ (k : Nat) (a : Addr) (b : List Nat), vs = [.int (k : Int), .ref a] ∧ k ≤ 1 ∧ SqL K H a (nb b) ∧ (∀ c ∈ b, c < 256) ∧ b.length ≤ 20000 ∧
  (∀ H', Same H H' → (∀ c0, PfM.Right k c0 → Pg.page k c0 ≠ b) → Q .non H') ∧
  (∀ H' p zs c, Same H H' → H p = none → H' p = some (.lst zs) → CsA H' zs c → PfM.Right k c → (∀ c0, PfM.Right k c0 → Pg.page k c0 = b → c0 = c) → Q (.ref p) H')
theorem cut_mid (b : List Nat) : cutV (nb b) (some 16) (some (-4)) = nb ((b.drop 16).take (b.length - 20)) := by
  unfold cutV
  rw [show (some 16 : Option Int) = some ((16 : Nat) : Int) from rfl, HT.sIx_nat, nb_len]
  have e4 : HT.sIx b.length b.length (some (-4)) = b.length - 4 := by
    show (if (-4 : Int) < 0 then ((-4 : Int) + (b.length : Int)).toNat else min (-4 : Int).toNat b.length) = _
    rw [if_pos (by decide)]
    omega
  rw [e4]
  unfold nb
  rw [← List.map_drop, ← List.map_take]
  by_cases h : 16 ≤ b.length
  · rw [Nat.min_eq_left h, show b.length - 4 - 16 = b.length - 20 by omega]
  · rw [Nat.min_eq_right (by omega), List.drop_of_length_le (l := b) (Nat.le_refl _), List.drop_of_length_le (l := b) (by omega), List.take_nil, List.take_nil]
theorem sumN_int (l : List Nat) : (l.map fun (c : Nat) => (c : Int)).sum = ((sumN l : Nat) : Int) := by
  induction l with
  | nil => rfl
  | cons c l ih =>
    rw [List.map_cons, List.sum_cons, ih]
    show (c : Int) + ((sumN l : Nat) : Int) = ((c + sumN l : Nat) : Int)
    rw [Int.natCast_add]
theorem sumN_le (l : List Nat) (h : ∀ m ∈ l, m ≤ 1) : sumN l ≤ l.length := by
  induction l with
  | nil => exact Nat.le_refl _
  | cons c l ih =>
    have h1 := h c List.mem_cons_self
    have h2 := ih fun m hm => h m (List.mem_cons_of_mem _ hm)
    show c + sumN l ≤ l.length + 1
    omega
theorem bytes_all (c : List Nat) : (c.map fun (x : Nat) => (x : Int)).all PfM.byteOk = Pg.isBytes c := by
  unfold Pg.isBytes
  rw [List.all_map]
  congr 1
  funext x
  show PfM.byteOk (x : Int) = decide (x < 256)
  unfold PfM.byteOk
  rw [decide_eq_true (show (0 : Int) ≤ (x : Int) by omega), Bool.true_and]
  exact decide_eq_decide.mpr ⟨fun h => by omega, fun h => by omega⟩
theorem VA.keepL5 {H : Hp} {d : Addr} {xs xs' : List V} (hd : H d = some (.lst xs)) {z : V} {e : Pg.Val} (h : VA H z e) : VA (upd H d (.lst xs')) z e := by
  cases e with
  | num _ => exact h
  | str b =>
    obtain ⟨t, rfl, ht⟩ := h
    refine ⟨t, rfl, ?_⟩
    rw [upd_ne (fun e => by rw [e, hd] at ht; cases ht)]
    exact ht
theorem ok_possible_cells {P : Program} {w : World} {K : PySem.W.Frag} {mg : Str → Option Value} {base : Heap} {f : Addr} {fd : FuncData} (F : Fun K "possible_cells" "possible_cells" s_possible_cells f fd) (b_len : mg "len" = none) (b_all : mg "all" = none) (b_sum : mg "sum" = none) (c_SOME_NULL : Kst mg "SOME_NULL" (.int 2)) (c_HEAD_WIDTH : Kst mg "HEAD_WIDTH" (.int 16)) (c_CHECK_WIDTH : Kst mg "CHECK_WIDTH" (.int 4)) (c_MOST_CELLS : Kst mg "MOST_CELLS" (.int 64)) (h_cells_of : Ok P w K mg base 1 "cells_of" ["marks", "values"] (sp_cells_of K)) (h_is_value : Ok P w K mg base 1 "is_value" ["kind", "value"] (sp_is_value K)) (h_values_in_way : Ok P w K mg base 5 "values_in_way" ["way", "kind", "k", "the_bytes"] (sp_values_in_way K)) (h_packed_width : Ok P w K mg base 1 "packed_width" ["q", "k"] (sp_packed_width K)) (h_present_marks : Ok P w K mg base 3 "present_marks" ["state", "n", "body"] (sp_present_marks K)) (h_head_numbers : Ok P w K mg base 2 "head_numbers" ["the_bytes"] (sp_head_numbers K)) : FnOk P w K mg base CX0 6 f fd ["kind", "the_bytes"] (sp_possible_cells K) := by
  refine F.ok sc_possible_cells (fun vs H Q E h => ?_) (fun cdv A outer s H vs Q E hr h => ?_)
  · obtain ⟨k, a, b, rfl, hk, hS, hb, hbl, q1, q2⟩ := h
    rfl
  · have hu := hu_of hr
    obtain ⟨k, a, b, rfl, hk, hS, hb, hbl, q1, q2⟩ := h
    refine ⟨_, (pss_cons (ps_set (i := 2) sc_possible_cells.nd rfl (Or.inl rfl) (pe_fn h_head_numbers (hr.mono (by decide)) (by rfl) (pa_cons (pv 1) pa_nil)))
              (pss_cons (ps_set (i := 3) sc_possible_cells.nd rfl (Or.inl rfl) (pe_ix ix_list (pv 2) pe_int (fun _ _ => rfl)))
              (pss_cons (ps_if (pt_cmpR op_gt (pv 3) (pe_k c_MOST_CELLS rfl) (nomark _))
              (pss_one (ps_ret pe_non))
              pss_nil)
              (pss_cons (ps_set (i := 4) sc_possible_cells.nd rfl (Or.inl rfl) (pe_slice sl_list (pv 1) (po_some (pe_k c_HEAD_WIDTH rfl)) (po_some (pe_un un_neg (pe_k c_CHECK_WIDTH rfl)))))
              (pss_cons (ps_set (i := 5) sc_possible_cells.nd rfl (Or.inl rfl) (pe_fn h_present_marks (hr.mono (by decide)) (by rfl) (pa_cons (pe_ix ix_list (pv 2) pe_int (fun _ _ => rfl)) (pa_cons (pv 3) (pa_cons (pv 4) pa_nil)))))
              (pss_cons (ps_if (pt_cmpR op_eq (pe_ix ix_list (pv 2) pe_int (fun _ _ => rfl)) (pe_k c_SOME_NULL rfl) (nomark _))
              (pss_one (ps_set (i := 4) sc_possible_cells.nd rfl (Or.inl rfl) (pe_slice sl_list (pv 4) (po_some (pe_fn h_packed_width (hr.mono (by decide)) (by rfl) (pa_cons pe_int (pa_cons (pv 3) pa_nil)))) po_none)))
              pss_nil)
              (pss_cons (ps_set (i := 6) sc_possible_cells.nd rfl (Or.inl rfl) (pe_callB (cr_sum rfl) (by rfl) b_sum (by decide +kernel) (pa_cons (pv 5) pa_nil)))
              (pss_cons (ps_set (i := 7) sc_possible_cells.nd rfl (Or.inl rfl) (pe_ifExp (pt_cmpR op_gt (pv 6) pe_int (nomark _)) (pe_fn h_values_in_way (hr.mono (by decide)) (by rfl) (pa_cons (pe_ix ix_list (pv 2) pe_int (fun _ _ => rfl)) (pa_cons (pv 0) (pa_cons (pv 6) (pa_cons (pv 4) pa_nil))))) (pe_lst pa_nil)))
              (pss_cons (ps_if (PW.pt (pw_or (pt_cmpR op_ne (pe_callB call_len_seq (by rfl) b_len PySem.boot_len (pa_cons (pv 7) pa_nil)) (pv 6) (nomark _)) (pw_or1 (pt_not (pt_val (pe_callB (cr_all rfl) (by rfl) b_all (by decide +kernel) (pa_cons (pe_lc (own := [("value", 8)]) (g := gName 8) (tt := tYes) rfl sc_possible_cells.nd (pi_list (pv 7)) (blkOk_by (own := [("value", 8)]) (N := N_possible_cells) (sc := defScope s_possible_cells) (by decide +kernel)) (fun _ _ _ _ _ => pg_name (i := 8) sc_possible_cells.nd rfl (Or.inl rfl)) (fun _ _ _ _ _ => pts_nil) (fun _ _ _ _ _ => (pe_fn h_is_value (hr.mono (by decide)) (by rfl) (pa_cons (pv 0) (pa_cons (pv 8) pa_nil))))) pa_nil)))))))
              (pss_one (ps_ret pe_non))
              pss_nil)
              (pss_one (ps_ret (pe_fn h_cells_of (hr.mono (by decide)) (by rfl) (pa_cons (pv 5) (pa_cons (pv 7) pa_nil)))))))))))))), ?_⟩
    refine ⟨_, rfl, a, b, rfl, hS, fun H1 p1 s1 n1 h1 => ?_⟩
    refine ⟨_, rfl, p1, _, _, _, rfl, rfl, SqL.of h1, rfl, ?_⟩
    refine ⟨_, rfl, _, _, rfl, rfl, _, rfl, ifD (fun h => ?_) (fun h => ?_)⟩
    · refine q1 H1 s1 fun c0 R e => ?_
      have f := (PfM.page_facts R e rfl).1
      have := R.1
      omega
    have hn : PfM.numAt b 4 4 ≤ 64 := by omega
    refine ⟨_, rfl, _, rfl, _, rfl, _, rfl, a, _, rfl, s1.seq hS, fun bp nbp => ?_⟩
    rw [show cutV (nb b) (some 16) (some (-4)) = _ from cut_mid b]
    generalize hbd : (b.drop 16).take (b.length - 20) = bd
    have bdl : bd.length ≤ 20000 := by
      rw [← hbd, List.length_take, List.length_drop]
      omega
    have bdb : ∀ c ∈ bd, c < 256 := fun c hc => by
      rw [← hbd] at hc
      exact hb c (List.mem_of_mem_drop (List.mem_of_mem_take hc))
    have facts : ∀ c0, PfM.Right k c0 → Pg.page k c0 = b → _ := fun c0 R e => PfM.page_facts R e hbd.symm
    generalize PfM.numAt b 0 1 = e at h1 facts ⊢
    generalize PfM.numAt b 1 1 = st at h1 facts ⊢
    generalize PfM.numAt b 4 4 = n at h1 facts hn h ⊢
    have hb1 := nw (o := .lst (nb bd)) nbp _ _ h1
    have sb : Same H (upd H1 bp (.lst (nb bd))) := s1.trans (nw nbp)
    refine ⟨_, rfl, p1, _, _, _, rfl, rfl, SqL.of hb1, rfl, _, rfl, _, rfl, st, n, bp, bd, rfl, SqL.of upd_same, by omega, fun H2 mp s2 nmp hmp => ?_⟩
    have hmp' : H2 mp = some (.lst (nb (PfM.marksIn st n bd))) := hmp
    have m1 : ∀ m ∈ PfM.marksIn st n bd, m ≤ 1 := PfM.marks_le1
    have ml : (PfM.marksIn st n bd).length = n := PfM.marks_len
    generalize hms : PfM.marksIn st n bd = ms at hmp' m1 ml
    have h12 := s2 _ _ hb1
    have hbp2 := s2 _ _ (upd_same (H := H1) (a := bp) (o := .lst (nb bd)))
    have s02 : Same H H2 := sb.trans s2
    refine stepG ?_
    refine cut (fun σ' H' => ∃ o : Addr, σ' = [some (.int (k : Int)), some (.ref a), some (.ref p1), some (.int (n : Int)), some (.ref o), some (.ref mp), none, none, none] ∧ Same H2 H' ∧ H' o = some (.lst (nb (if st = 2 then bd.drop (Pg.packedLong 1 n) else bd)))) ?_ (fun tail => ?_)
    · rintro σ3 H3 ⟨o, rfl, s3, ho⟩
      have b2l : (if st = 2 then bd.drop (Pg.packedLong 1 n) else bd).length ≤ 20000 := by
        split
        · rw [List.length_drop]; omega
        · exact bdl
      have b2b : ∀ c ∈ (if st = 2 then bd.drop (Pg.packedLong 1 n) else bd), c < 256 := by
        split
        · exact fun c hc => bdb c (List.mem_of_mem_drop hc)
        · exact bdb
      have facts' : ∀ c0, PfM.Right k c0 → Pg.page k c0 = b → n = c0.length ∧ ms = (c0.map Option.isSome).map Bool.toNat ∧ (Pg.valuesOf c0 ≠ [] → PfM.Wr k e (Pg.valuesOf c0).length (if st = 2 then bd.drop (Pg.packedLong 1 n) else bd) (Pg.valuesOf c0)) := fun c0 R ee => by
        have f := facts c0 R ee
        have f1 := f.1
        subst f1
        exact ⟨rfl, hms.symm.trans f.2.1, f.2.2.1⟩
      generalize (if st = 2 then bd.drop (Pg.packedLong 1 n) else bd) = b2 at ho b2l b2b facts'
      have s03 : Same H H3 := s02.trans s3
      have hm3 := s3 _ _ hmp'
      -- k = sum(marks)
      refine ⟨_, rfl, mp, ms.map (fun (c : Nat) => (c : Int)), rfl, SqL.of (by rw [hm3, nb_ints]), ?_⟩
      rw [sumN_int]
      have kl := sumN_le ms m1
      have fs : ∀ c0, PfM.Right k c0 → Pg.page k c0 = b → sumN ms = (Pg.valuesOf c0).length := fun c0 R ee => by
        rw [(facts' c0 R ee).2.1]
        exact PfM.sum_bits c0
      generalize hK : sumN ms = k0 at kl fs
      -- values
      refine stepG ?_
      refine cut (fun σ' H' => ∃ (vp : Addr) (ys : List V) (l : List Pg.Val), σ' = [some (.int (k : Int)), some (.ref a), some (.ref p1), some (.int (n : Int)), some (.ref o), some (.ref mp), some (.int (k0 : Int)), some (.ref vp), none] ∧ Same H3 H' ∧ H' vp = some (.lst ys) ∧ VsA H' ys l ∧ l.length ≤ 5000 ∧ (∀ v ∈ l, Ty k v) ∧ (∀ c0, PfM.Right k c0 → Pg.page k c0 = b → l = Pg.valuesOf c0)) ?_ (fun tail2 => ?_)
      · rintro σ4 H4 ⟨vp, ys, l, rfl, s4, hvp, hy, hl, hty, hW⟩
        have hyl : ys.length = l.length := hy.length
        have s04 := s03.trans s4
        refine ⟨_, rfl, vp, _, rfl, .inl (SqL.of hvp), _, rfl, rfl, _, rfl, ifN (fun z => iteT ?_) (fun z => ?_)⟩
        · refine q1 H4 s04 fun c0 R ee => ?_
          have w1 := hW c0 R ee
          have w2 := fs c0 R ee
          rw [w1] at hyl
          omega
        · have hlk : l.length = k0 := by omega
          refine ⟨_, rfl, vp, rfl, ⟨_, SqL.of hvp⟩, fun D nD => ?_⟩
          refine lc_list (K := K) (a := vp) (xs := ys) (fun i H' => Same H4 H' ∧ H' D = some (.lst (((l.take i).map (Pg.Val.is k)).map V.bl))) ⟨nw nD, upd_same⟩ (fun i H' _ h => h.1.seq (SqL.of hvp)) ?_ ?_
          · rintro i x H5 hx ⟨s5, hD⟩
            obtain ⟨v, hv, hxv⟩ := pgl hy hx
            have hxv5 := VA.mono s5 hxv
            have tv := hty v (List.mem_of_getElem? hv)
            refine ⟨rfl, ?_⟩
            have fin : ∀ (H6 : Hp) (c : Bool), c = v.is k → Same H5 H6 → ∃ acc, H6 D = some (.lst acc) ∧ acc.length < sizeLine ∧ Same H4 (upd H6 D (.lst (acc ++ [V.bl c]))) ∧ (upd H6 D (.lst (acc ++ [V.bl c]))) D = some (.lst (((l.take (i + 1)).map (Pg.Val.is k)).map V.bl)) := by
              rintro H6 c rfl s6
              refine ⟨_, s6 _ _ hD, ?_, mt (s5.trans s6) nD, ?_⟩
              · rw [List.length_map, List.length_map, List.length_take]
                exact szl (by omega)
              · rw [upd_same, take_more hv, List.map_append, List.map_append]
                rfl
            cases v with
            | num y =>
              have k0' : k = 0 := tv
              subst k0'
              cases hxv5
              exact ⟨_, rfl, _, rfl, _, _, rfl, .inl ⟨rfl, y, rfl, fin H5 _ rfl (Same.refl _)⟩⟩
            | str c =>
              obtain ⟨k1, hc⟩ : k = 1 ∧ c.length ≤ 5000000 := tv
              subst k1
              obtain ⟨t, rfl, ht⟩ := hxv5
              refine ⟨_, rfl, _, rfl, _, _, rfl, .inr ⟨by decide, t, c.map (fun (x : Nat) => (x : Int)), rfl, SqT.of (by rw [ht, nb_ints]), by rw [List.length_map]; omega, fun H6 s6 => ?_⟩⟩
              rw [bytes_all, List.length_map]
              exact fin H6 _ rfl s6
          · rintro H5 ⟨s5, hD⟩
            rw [hyl, List.take_length] at hD
            refine ⟨D, _, rfl, SqL.of hD, _, rfl, ?_⟩
            have s05 := s04.trans s5
            cases ea : (l.map (Pg.Val.is k)).all id with
            | false =>
              refine iteT (q1 H5 s05 fun c0 R ee => ?_)
              have w1 := hW c0 R ee
              have : (l.map (Pg.Val.is k)).all id = true := by
                rw [List.all_map, List.all_eq_true]
                intro v hv
                rw [w1] at hv
                exact PfM.vals_is R.2 v hv
              rw [this] at ea
              cases ea
            | true =>
              have his : ∀ v ∈ l, v.is k = true := fun v hv => by
                rw [List.all_map] at ea
                exact List.all_eq_true.mp ea v hv
              refine iteF ?_
              refine ⟨_, rfl, _, rfl, mp, vp, ms, ys, l, rfl, SqL.of (s5 _ _ (s4 _ _ hm3)), SqL.of (s5 _ _ hvp), vsm s5 hy, m1, by rw [hK, hlk], by omega, fun H8 cp zs s8 ncp hcp hz => ?_⟩
              refine q2 H8 cp zs _ (s05.trans s8) (s05.free ncp) hcp hz ⟨by rw [PfM.spread_len, List.length_map]; omega, PfM.spread_is _ _ his⟩ fun c0 R ee => ?_
              rw [(facts' c0 R ee).2.1, hW c0 R ee, PfM.bits_is1, PfM.spread_cells]
      · refine ⟨_, rfl, _, _, rfl, rfl, _, rfl, ifD (fun h => ?_) (fun h => ?_)⟩
        · refine ⟨_, rfl, p1, _, _, _, rfl, rfl, SqL.of (s3 _ _ h12), rfl, _, rfl, _, rfl, _, rfl, e, k, k0, o, b2, rfl, hk, by omega, by omega, SqL.of ho, b2b, b2l, fun H5 vp ys l s5 nvp hvp hy hl hty hW => tail2 _ _ ⟨vp, ys, l, rfl, s5, hvp, hy, hl, hty, fun c0 R ee => ?_⟩⟩
          have w2 := fs c0 R ee
          have hne : Pg.valuesOf c0 ≠ [] := fun z => by
            rw [z, List.length_nil] at w2
            omega
          have w3 := (facts' c0 R ee).2.2 hne
          rw [← w2] at w3
          exact hW _ w3
        · refine ⟨Nat.zero_le _, fun vp nvp => tail2 _ _ ⟨vp, [], [], rfl, nw nvp, upd_same, .nil, by decide, (fun v hv => by cases hv), fun c0 R ee => ?_⟩⟩
          have w2 := fs c0 R ee
          exact (List.eq_nil_of_length_eq_zero (by omega)).symm
    · refine ⟨_, rfl, p1, _, _, _, rfl, rfl, SqL.of h12, rfl, rfl, _, rfl, ifE (fun z => ?_) (fun z => ?_)⟩
      · have e2 : st = 2 := by omega
        refine ⟨_, rfl, _, rfl, 1, n, rfl, by omega, _, rfl, bp, _, rfl, SqL.of hbp2, fun o no => tail _ _ ⟨o, rfl, nw no, ?_⟩⟩
        rw [upd_same, if_pos e2, ← cut_nbD]
      · have e2 : st ≠ 2 := by omega
        refine tail _ _ ⟨bp, rfl, Same.refl _, ?_⟩
        rw [if_neg e2]
        exact hbp2
/-! ## right_cells -/
abbrev s_right_cells : Stmt := topS 62
abbrev N_right_cells : List Str := ["kind", "the_bytes", "cells"]
theorem sc_right_cells : FnScope N_right_cells ["kind", "the_bytes"] (defScope s_right_cells) := ⟨rfl, rfl, rfl, by decide +kernel, rfl, by decide +kernel, by decide +kernel⟩
def sp_right_cells (K : PySem.W.Frag) : Sp := fun vs H Q _ => ∃ (k : Nat) (a : Addr) (b : List Nat), vs = [.int (k : Int), .ref a] ∧ k ≤ 1 ∧ SqL K H a (nb b) ∧ (∀ c ∈ b, c < 256) ∧ b.length ≤ 20000 ∧
  (Pg.pageOf k b = none → ∀ H', Same H H' → Q .non H') ∧
  (∀ c, Pg.pageOf k b = some c → ∀ H' p zs, Same H H' → H p = none → H' p = some (.lst zs) → CsA H' zs c → Q (.ref p) H')
theorem ok_right_cells {P : Program} {w : World} {K : PySem.W.Frag} {mg : Str → Option Value} {base : Heap} {f : Addr} {fd : FuncData} (F : Fun K "right_cells" "right_cells" s_right_cells f fd) (h_page_bytes : Ok P w K mg base 6 "page_bytes" ["kind", "cells"] (sp_page_bytes K)) (h_possible_cells : Ok P w K mg base 6 "possible_cells" ["kind", "the_bytes"] (sp_possible_cells K)) : FnOk P w K mg base CX0 7 f fd ["kind", "the_bytes"] (sp_right_cells K) := by
  refine F.ok sc_right_cells (fun vs H Q E h => ?_) (fun cdv A outer s H vs Q E hr h => ?_)
  · obtain ⟨k, a, b, rfl, hk, hS, hb, hbl, q1, q2⟩ := h
    rfl
  · have hu := hu_of hr
    obtain ⟨k, a, b, rfl, hk, hS, hb, hbl, q1, q2⟩ := h
    refine ⟨_, (pss_cons (ps_set (i := 2) sc_right_cells.nd rfl (Or.inl rfl) (pe_fn h_possible_cells (hr.mono (by decide)) (by rfl) (pa_cons (pv 0) (pa_cons (pv 1) pa_nil))))
              (pss_cons (ps_if (PW.pt (pw_or (pt_cmpR op_isN (pv 2) pe_non (nomark _)) (pw_or1 (pt_cmpR (op_neD hr.units) (pe_fn h_page_bytes (hr.mono (by decide)) (by rfl) (pa_cons (pv 0) (pa_cons (pv 2) pa_nil))) (pv 1) (nomark _)))))
              (pss_one (ps_ret pe_non))
              pss_nil)
              (pss_one (ps_ret (pv 2))))), ?_⟩
    have nope : (∀ c0, PfM.Right k c0 → Pg.page k c0 ≠ b) → Pg.pageOf k b = none := fun h => by
      cases e : Pg.pageOf k b with
      | none => rfl
      | some c =>
        have := (PfM.pageOf_iff hk).mp e
        exact absurd this.2 (h c this.1)
    refine ⟨_, rfl, _, rfl, k, a, b, rfl, hk, hS, hb, hbl, fun H1 s1 hno => ?_, fun H1 p zs c s1 np hp hz R hW => ?_⟩
    · refine ⟨_, rfl, rfl, _, rfl, ?_⟩
      exact iteT (q1 (nope hno) H1 s1)
    · refine ⟨_, rfl, rfl, _, rfl, ?_⟩
      refine iteF ?_
      refine ⟨_, rfl, _, rfl, k, p, zs, c, rfl, SqL.of hp, hz, R.2, hk, R.1, fun H2 t s2 nt ht => ?_⟩
      refine ⟨_, rfl, PyData.list (dI (Pg.page k c)), PyData.list (dI b), Dp.lst (SqL.of ht) (dpI _), Dp.lst ((s1.trans s2).seq hS) (dpI _), sh_list _, sh_list _, _, rfl, ?_⟩
      rw [show PyData.eqv (PyData.list (dI (Pg.page k c))) (PyData.list (dI b)) = decide (Pg.page k c = b) from eqv_dI _ _]
      by_cases e : Pg.page k c = b
      · rw [decide_eq_true e]
        refine iteF ⟨_, rfl, ?_⟩
        exact q2 c ((PfM.pageOf_iff hk).mpr ⟨R, e⟩) H2 p zs (s1.trans s2) np (s2 _ _ hp) (csm s2 hz)
      · rw [decide_eq_false e]
        refine iteT (q1 (nope fun c0 R0 e0 => ?_) H2 (s1.trans s2))
        have := hW c0 R0 e0
        rw [this] at e0
        exact e e0
/-! ## cells_told -/
abbrev s_cells_told : Stmt := topS 12
abbrev N_cells_told : List Str := ["kind", "cells", "told", "cell"]
theorem sc_cells_told : FnScope N_cells_told ["kind", "cells"] (defScope s_cells_told) := ⟨rfl, rfl, rfl, by decide +kernel, rfl, by decide +kernel, by decide +kernel⟩
def sp_cells_told (K : PySem.W.Frag) : Sp := fun vs H Q _ => ∃ (k : Nat) (a : Addr) (xs : List V) (cs : List Pg.Cell), vs = [.int (k : Int), .ref a] ∧ SqL K H a xs ∧ CsA H xs cs ∧ (∀ c ∈ cs, Pg.cellIs k c = true) ∧ cs.length ≤ 3000 ∧
  ∀ H' p, Same H H' → H p = none → H' p = some (.lst ((cs.flatMap Pg.cellList).map V.int)) → Q (.ref p) H'
theorem ok_cells_told {P : Program} {w : World} {K : PySem.W.Frag} {mg : Str → Option Value} {base : Heap} {f : Addr} {fd : FuncData} (F : Fun K "cells_told" "cells_told" s_cells_told f fd) (h_cell_told : Ok P w K mg base 2 "cell_told" ["kind", "cell"] (sp_cell_told K)) : FnOk P w K mg base CX0 3 f fd ["kind", "cells"] (sp_cells_told K) := by
  refine F.ok sc_cells_told (fun vs H Q E h => ?_) (fun cdv A outer s H vs Q E hr h => ?_)
  · obtain ⟨k, a, xs, cs, rfl, hS, hc, hi, hl, q⟩ := h
    rfl
  · have hu := hu_of hr
    obtain ⟨k, a, xs, cs, rfl, hS, hc, hi, hl, q⟩ := h
    refine ⟨_, (pss_cons (ps_set (i := 2) sc_cells_told.nd rfl (Or.inl rfl) (pe_lst pa_nil))
              (pss_cons (ps_for PassesOwn.never rfl (pi_list (pv 1)) (pg_name (i := 3) sc_cells_told.nd rfl (.inl rfl))
              (pss_one (ps_expr (pe_bm PySem.F.plainAttrs_list PySem.F.slot_list_extend PySem.F.type_list_extend mt_extend (pv 2) (pa_cons (pe_fn h_cell_told (hr.mono (by decide)) (by rfl) (pa_cons (pv 0) (pa_cons (pv 3) pa_nil))) pa_nil)))))
              (pss_one (ps_ret (pv 2))))), ?_⟩
    have hxl : xs.length = cs.length := hc.length
    refine ⟨Nat.zero_le _, fun D nD => ?_⟩
    refine ⟨_, rfl, a, rfl, ⟨_, (nw nD).seq hS⟩, for_list (K := K) (a := a) (xs := xs) (fun i σ H' => ∃ (y : Option V), σ = [some (.int (k : Int)), some (.ref a), some (.ref D), y] ∧ Same H H' ∧ H' D = some (.lst (((cs.take i).flatMap Pg.cellList).map V.int)))
      ⟨none, rfl, nw nD, upd_same⟩ (fun i σ H' _ ⟨_, _, h, _⟩ => h.seq hS) ?_ ?_⟩
    · rintro i v σ H1 hv ⟨y, rfl, s1, hD⟩
      obtain ⟨c, hg, hvc⟩ := pgl hc hv
      have ci := hi c (List.mem_of_getElem? hg)
      refine ⟨_, rfl, .inl ⟨rfl, _, SqL.of hD⟩, _, rfl, _, rfl, k, v, c, rfl, CA.mono s1 hvc, ci, fun H2 p s2 np hp => ?_⟩
      have tl := PfM.told_len (l := cs.take i) fun x hx => hi x (List.mem_of_mem_take hx)
      have cl := PfM.cell_len ci
      rw [List.length_take] at tl
      refine ⟨D, p, _, _, rfl, rfl, s2 _ _ hD, hp, ?_, some v, rfl, mt (s1.trans s2) nD, ?_⟩
      · rw [List.length_map, List.length_map]
        exact sz (by omega)
      · rw [upd_same, take_more hg, List.flatMap_append, List.map_append]
        simp
    · rintro σ H1 ⟨y, rfl, s1, hD⟩
      rw [hxl, List.take_length] at hD
      exact ⟨_, rfl, q H1 D s1 nD hD⟩
/-! ## read -/
abbrev s_read : Stmt := topS 69
abbrev N_read : List Str := ["k", "start", "n", "the_bytes", "page_cells"]
theorem sc_read : FnScope N_read ["k", "start", "n", "the_bytes"] (defScope s_read) := ⟨rfl, rfl, rfl, by decide +kernel, rfl, by decide +kernel, by decide +kernel⟩
def sp_read (K : PySem.W.Frag) : Sp := fun vs H Q _ => ∃ (k s n : Int) (a : Addr) (ns : List Int), vs = [.int k, .int s, .int n, .ref a] ∧ 0 ≤ k ∧ 0 ≤ s ∧ 0 ≤ n ∧ SqL K H a (ns.map V.int) ∧ (∀ c ∈ ns, 0 ≤ c ∧ c ≤ 255) ∧ ns.length ≤ 20000 ∧
  ∀ H' p, H' p = some (.lst ((PyWrpage.read k s n ns).map V.int)) → Q (.ref p) H'
theorem ok_read {P : Program} {w : World} {K : PySem.W.Frag} {mg : Str → Option Value} {base : Heap} {f : Addr} {fd : FuncData} (F : Fun K "read" "read" s_read f fd) (b_len : mg "len" = none) (c_TOO_FEW : Kst mg "TOO_FEW" (.int (-4))) (c_NOT_RIGHT : Kst mg "NOT_RIGHT" (.int (-2))) (c_NOT_AS_TOLD : Kst mg "NOT_AS_TOLD" (.int (-1))) (h_answer_with_list : Ok P w K mg base 2 "answer_with_list" ["number", "numbers"] (sp_answer_with_list K)) (h_cells_told : Ok P w K mg base 3 "cells_told" ["kind", "cells"] (sp_cells_told K)) (h_right_cells : Ok P w K mg base 7 "right_cells" ["kind", "the_bytes"] (sp_right_cells K)) (h_is_kind : Ok P w K mg base 1 "is_kind" ["kind"] (sp_is_kind K)) : FnOk P w K mg base CX0 8 f fd ["k", "start", "n", "the_bytes"] (sp_read K) := by
  refine F.ok sc_read (fun vs H Q E h => ?_) (fun cdv A outer s H vs Q E hr h => ?_)
  · obtain ⟨k, s0, n0, a, ns, rfl, h0, hs0, hn0, hS, hn, hl, q⟩ := h
    rfl
  · have hu := hu_of hr
    obtain ⟨k, s0, n0, a, ns, rfl, h0, hs0, hn0, hS, hn, hl, q⟩ := h
    refine ⟨_, (pss_cons (ps_if (pt_not (pt_val (pe_fn h_is_kind (hr.mono (by decide)) (by rfl) (pa_cons (pv 0) pa_nil))))
              (pss_one (ps_ret (pe_lst (pa_cons (pe_k c_NOT_AS_TOLD rfl) pa_nil))))
              pss_nil)
              (pss_cons (ps_set (i := 4) sc_read.nd rfl (Or.inl rfl) (pe_fn h_right_cells (hr.mono (by decide)) (by rfl) (pa_cons (pv 0) (pa_cons (pv 3) pa_nil))))
              (pss_cons (ps_if (pt_cmpR op_isN (pv 4) pe_non (nomark _))
              (pss_one (ps_ret (pe_lst (pa_cons (pe_k c_NOT_RIGHT rfl) pa_nil))))
              pss_nil)
              (pss_cons (ps_if (pt_cmpR op_gt (pe_op op_add (pv 1) (pv 2)) (pe_callB call_len_seq (by rfl) b_len PySem.boot_len (pa_cons (pv 4) pa_nil)) (nomark _))
              (pss_one (ps_ret (pe_lst (pa_cons (pe_k c_TOO_FEW rfl) pa_nil))))
              pss_nil)
              (pss_one (ps_ret (pe_fn h_answer_with_list (hr.mono (by decide)) (by rfl) (pa_cons (pv 2) (pa_cons (pe_fn h_cells_told (hr.mono (by decide)) (by rfl) (pa_cons (pv 0) (pa_cons (pe_slice sl_list (pv 4) (po_some (pv 1)) (po_some (pe_op op_add (pv 1) (pv 2)))) pa_nil))) pa_nil))))))))), ?_⟩
    rw [PfM.due_read h0 hs0 hn0 hn] at q
    refine ⟨_, rfl, k, rfl, _, rfl, ?_⟩
    by_cases hk : k = 0 ∨ k = 1
    · rw [decide_eq_true hk]
      refine iteF ?_
      obtain ⟨n, rfl⟩ := Int.eq_ofNat_of_zero_le h0
      obtain ⟨i, rfl⟩ := Int.eq_ofNat_of_zero_le hs0
      obtain ⟨m, rfl⟩ := Int.eq_ofNat_of_zero_le hn0
      have hn1 : n ≤ 1 := by omega
      rw [Int.toNat_natCast, Int.toNat_natCast, Int.toNat_natCast, if_neg (by omega)] at q
      have hS' : SqL K H a (nb (ns.map Int.toNat)) := by
        rw [nb_ints, PfM.toNat_back hn]
        exact hS
      refine ⟨_, rfl, _, rfl, n, a, ns.map Int.toNat, rfl, hn1, hS', PfM.toNat_bytes hn, by rw [List.length_map]; exact hl, fun e H1 s1 => ?_, fun c e H1 p zs s1 np hp hz => ?_⟩
      · refine ⟨_, rfl, rfl, _, rfl, iteT ?_⟩
        refine ⟨sz (by show 1 ≤ 1000000; decide), fun t nt => q _ t ?_⟩
        rw [upd_same, e]
        rfl
      · refine ⟨_, rfl, rfl, _, rfl, iteF ?_⟩
        have R := (PfM.pageOf_iff hn1).mp e
        rw [e] at q
        have hzl : zs.length = c.length := hz.length
        have hc64 := R.1.1
        dsimp only at q
        refine ⟨_, rfl, _, rfl, _, _, rfl, rfl, _, rfl, p, _, rfl, .inl (SqL.of hp), _, _, rfl, rfl, _, rfl, ifD (fun h => ?_) (fun h => ?_)⟩
        · rw [if_pos (by omega)] at q
          refine ⟨sz (by show 1 ≤ 1000000; decide), fun t nt => q _ t ?_⟩
          rw [upd_same]
          rfl
        · rw [if_neg (by omega)] at q
          refine ⟨_, rfl, _, rfl, _, rfl, _, rfl, _, rfl, _, rfl, _, rfl, _, _, rfl, rfl, _, rfl, p, _, rfl, SqL.of hp, fun t nt => ?_⟩
          have ec : cutV zs (some (i : Int)) (some ((i : Int) + (m : Int))) = (zs.drop i).take m := by
            have := cut_any zs i (i + m)
            rw [show i + m - i = m by omega, Int.natCast_add] at this
            exact this
          rw [ec]
          have ci : ∀ x ∈ (c.drop i).take m, Pg.cellIs n x = true := fun x hx => R.1.2 x (List.mem_of_mem_drop (List.mem_of_mem_take hx))
          have ll : ((c.drop i).take m).length ≤ 64 := by
            rw [List.length_take, List.length_drop]
            omega
          have tl := PfM.told_len ci
          refine ⟨n, t, _, (c.drop i).take m, rfl, SqL.of upd_same, ptake m (pdrop i (csm (nw nt) hz)), ci, by omega, fun H2 u s2 nu hu => ?_⟩
          exact ⟨(m : Int), u, _, rfl, hu, by omega, fun H3 v _ _ hv => q _ v hv⟩
    · rw [decide_eq_false hk]
      refine iteT ?_
      rw [if_pos (by omega)] at q
      refine ⟨sz (by show 1 ≤ 1000000; decide), fun t nt => q _ t ?_⟩
      rw [upd_same]
      rfl
theorem all_mk {P : Program} {w : World} {K : PySem.W.Frag} {h : Heap} {mg : Str → Option Value} {fa : Addr} (X : K.In h) (G : h.Ns mainGlobals mg) (hfa : mg "read" = some (.ref fa))
    {f0 : Addr} {od0 an0 : Option Addr} {sl0 : Array (Option Value)} {oc0 kV0 dc0 pm0 cd0 ct0 : Value}
    (a0 : PySem.W.nsIn K mainGlobals "is_kind" = some (some (.ref f0)))
    (l0 : K.lookup f0 = some ⟨oc0, od0, .func (PySem.W.fnOf "is_kind" "is_kind" (defArgs s_is_kind) (defBody s_is_kind) (defScope s_is_kind) .none kV0 dc0 pm0 an0 cd0 ct0), sl0⟩)
    (q0 : PySem.W.codeIn K cd0 "is_kind" = true) (k0 : PySem.W.keepIn K (.ref f0) = true)
    {f1 : Addr} {od1 an1 : Option Addr} {sl1 : Array (Option Value)} {oc1 kV1 dc1 pm1 cd1 ct1 : Value}
    (a1 : PySem.W.nsIn K mainGlobals "is_value" = some (some (.ref f1)))
    (l1 : K.lookup f1 = some ⟨oc1, od1, .func (PySem.W.fnOf "is_value" "is_value" (defArgs s_is_value) (defBody s_is_value) (defScope s_is_value) .none kV1 dc1 pm1 an1 cd1 ct1), sl1⟩)
    (q1 : PySem.W.codeIn K cd1 "is_value" = true) (k1 : PySem.W.keepIn K (.ref f1) = true)
    {f2 : Addr} {od2 an2 : Option Addr} {sl2 : Array (Option Value)} {oc2 kV2 dc2 pm2 cd2 ct2 : Value}
    (a2 : PySem.W.nsIn K mainGlobals "value_told" = some (some (.ref f2)))
    (l2 : K.lookup f2 = some ⟨oc2, od2, .func (PySem.W.fnOf "value_told" "value_told" (defArgs s_value_told) (defBody s_value_told) (defScope s_value_told) .none kV2 dc2 pm2 an2 cd2 ct2), sl2⟩)
    (q2 : PySem.W.codeIn K cd2 "value_told" = true) (k2 : PySem.W.keepIn K (.ref f2) = true)
    {f3 : Addr} {od3 an3 : Option Addr} {sl3 : Array (Option Value)} {oc3 kV3 dc3 pm3 cd3 ct3 : Value}
    (a3 : PySem.W.nsIn K mainGlobals "values_among" = some (some (.ref f3)))
    (l3 : K.lookup f3 = some ⟨oc3, od3, .func (PySem.W.fnOf "values_among" "values_among" (defArgs s_values_among) (defBody s_values_among) (defScope s_values_among) .none kV3 dc3 pm3 an3 cd3 ct3), sl3⟩)
    (q3 : PySem.W.codeIn K cd3 "values_among" = true) (k3 : PySem.W.keepIn K (.ref f3) = true)
    {f4 : Addr} {od4 an4 : Option Addr} {sl4 : Array (Option Value)} {oc4 kV4 dc4 pm4 cd4 ct4 : Value}
    (a4 : PySem.W.nsIn K mainGlobals "cell_told" = some (some (.ref f4)))
    (l4 : K.lookup f4 = some ⟨oc4, od4, .func (PySem.W.fnOf "cell_told" "cell_told" (defArgs s_cell_told) (defBody s_cell_told) (defScope s_cell_told) .none kV4 dc4 pm4 an4 cd4 ct4), sl4⟩)
    (q4 : PySem.W.codeIn K cd4 "cell_told" = true) (k4 : PySem.W.keepIn K (.ref f4) = true)
    {f5 : Addr} {od5 an5 : Option Addr} {sl5 : Array (Option Value)} {oc5 kV5 dc5 pm5 cd5 ct5 : Value}
    (a5 : PySem.W.nsIn K mainGlobals "cells_told" = some (some (.ref f5)))
    (l5 : K.lookup f5 = some ⟨oc5, od5, .func (PySem.W.fnOf "cells_told" "cells_told" (defArgs s_cells_told) (defBody s_cells_told) (defScope s_cells_told) .none kV5 dc5 pm5 an5 cd5 ct5), sl5⟩)
    (q5 : PySem.W.codeIn K cd5 "cells_told" = true) (k5 : PySem.W.keepIn K (.ref f5) = true)
    {f6 : Addr} {od6 an6 : Option Addr} {sl6 : Array (Option Value)} {oc6 kV6 dc6 pm6 cd6 ct6 : Value}
    (a6 : PySem.W.nsIn K mainGlobals "number_bytes" = some (some (.ref f6)))
    (l6 : K.lookup f6 = some ⟨oc6, od6, .func (PySem.W.fnOf "number_bytes" "number_bytes" (defArgs s_number_bytes) (defBody s_number_bytes) (defScope s_number_bytes) .none kV6 dc6 pm6 an6 cd6 ct6), sl6⟩)
    (q6 : PySem.W.codeIn K cd6 "number_bytes" = true) (k6 : PySem.W.keepIn K (.ref f6) = true)
    {f7 : Addr} {od7 an7 : Option Addr} {sl7 : Array (Option Value)} {oc7 kV7 dc7 pm7 cd7 ct7 : Value}
    (a7 : PySem.W.nsIn K mainGlobals "number_at" = some (some (.ref f7)))
    (l7 : K.lookup f7 = some ⟨oc7, od7, .func (PySem.W.fnOf "number_at" "number_at" (defArgs s_number_at) (defBody s_number_at) (defScope s_number_at) .none kV7 dc7 pm7 an7 cd7 ct7), sl7⟩)
    (q7 : PySem.W.codeIn K cd7 "number_at" = true) (k7 : PySem.W.keepIn K (.ref f7) = true)
    {f8 : Addr} {od8 an8 : Option Addr} {sl8 : Array (Option Value)} {oc8 kV8 dc8 pm8 cd8 ct8 : Value}
    (a8 : PySem.W.nsIn K mainGlobals "signed_at" = some (some (.ref f8)))
    (l8 : K.lookup f8 = some ⟨oc8, od8, .func (PySem.W.fnOf "signed_at" "signed_at" (defArgs s_signed_at) (defBody s_signed_at) (defScope s_signed_at) .none kV8 dc8 pm8 an8 cd8 ct8), sl8⟩)
    (q8 : PySem.W.codeIn K cd8 "signed_at" = true) (k8 : PySem.W.keepIn K (.ref f8) = true)
    {f9 : Addr} {od9 an9 : Option Addr} {sl9 : Array (Option Value)} {oc9 kV9 dc9 pm9 cd9 ct9 : Value}
    (a9 : PySem.W.nsIn K mainGlobals "packed_width" = some (some (.ref f9)))
    (l9 : K.lookup f9 = some ⟨oc9, od9, .func (PySem.W.fnOf "packed_width" "packed_width" (defArgs s_packed_width) (defBody s_packed_width) (defScope s_packed_width) .none kV9 dc9 pm9 an9 cd9 ct9), sl9⟩)
    (q9 : PySem.W.codeIn K cd9 "packed_width" = true) (k9 : PySem.W.keepIn K (.ref f9) = true)
    {f10 : Addr} {od10 an10 : Option Addr} {sl10 : Array (Option Value)} {oc10 kV10 dc10 pm10 cd10 ct10 : Value}
    (a10 : PySem.W.nsIn K mainGlobals "packed_bytes" = some (some (.ref f10)))
    (l10 : K.lookup f10 = some ⟨oc10, od10, .func (PySem.W.fnOf "packed_bytes" "packed_bytes" (defArgs s_packed_bytes) (defBody s_packed_bytes) (defScope s_packed_bytes) .none kV10 dc10 pm10 an10 cd10 ct10), sl10⟩)
    (q10 : PySem.W.codeIn K cd10 "packed_bytes" = true) (k10 : PySem.W.keepIn K (.ref f10) = true)
    {f11 : Addr} {od11 an11 : Option Addr} {sl11 : Array (Option Value)} {oc11 kV11 dc11 pm11 cd11 ct11 : Value}
    (a11 : PySem.W.nsIn K mainGlobals "packed_numbers" = some (some (.ref f11)))
    (l11 : K.lookup f11 = some ⟨oc11, od11, .func (PySem.W.fnOf "packed_numbers" "packed_numbers" (defArgs s_packed_numbers) (defBody s_packed_numbers) (defScope s_packed_numbers) .none kV11 dc11 pm11 an11 cd11 ct11), sl11⟩)
    (q11 : PySem.W.codeIn K cd11 "packed_numbers" = true) (k11 : PySem.W.keepIn K (.ref f11) = true)
    {f12 : Addr} {od12 an12 : Option Addr} {sl12 : Array (Option Value)} {oc12 kV12 dc12 pm12 cd12 ct12 : Value}
    (a12 : PySem.W.nsIn K mainGlobals "check_number" = some (some (.ref f12)))
    (l12 : K.lookup f12 = some ⟨oc12, od12, .func (PySem.W.fnOf "check_number" "check_number" (defArgs s_check_number) (defBody s_check_number) (defScope s_check_number) .none kV12 dc12 pm12 an12 cd12 ct12), sl12⟩)
    (q12 : PySem.W.codeIn K cd12 "check_number" = true) (k12 : PySem.W.keepIn K (.ref f12) = true)
    {f13 : Addr} {od13 an13 : Option Addr} {sl13 : Array (Option Value)} {oc13 kV13 dc13 pm13 cd13 ct13 : Value}
    (a13 : PySem.W.nsIn K mainGlobals "check_bytes" = some (some (.ref f13)))
    (l13 : K.lookup f13 = some ⟨oc13, od13, .func (PySem.W.fnOf "check_bytes" "check_bytes" (defArgs s_check_bytes) (defBody s_check_bytes) (defScope s_check_bytes) .none kV13 dc13 pm13 an13 cd13 ct13), sl13⟩)
    (q13 : PySem.W.codeIn K cd13 "check_bytes" = true) (k13 : PySem.W.keepIn K (.ref f13) = true)
    {f14 : Addr} {od14 an14 : Option Addr} {sl14 : Array (Option Value)} {oc14 kV14 dc14 pm14 cd14 ct14 : Value}
    (a14 : PySem.W.nsIn K mainGlobals "value_bytes" = some (some (.ref f14)))
    (l14 : K.lookup f14 = some ⟨oc14, od14, .func (PySem.W.fnOf "value_bytes" "value_bytes" (defArgs s_value_bytes) (defBody s_value_bytes) (defScope s_value_bytes) .none kV14 dc14 pm14 an14 cd14 ct14), sl14⟩)
    (q14 : PySem.W.codeIn K cd14 "value_bytes" = true) (k14 : PySem.W.keepIn K (.ref f14) = true)
    {f15 : Addr} {od15 an15 : Option Addr} {sl15 : Array (Option Value)} {oc15 kV15 dc15 pm15 cd15 ct15 : Value}
    (a15 : PySem.W.nsIn K mainGlobals "alone_bytes" = some (some (.ref f15)))
    (l15 : K.lookup f15 = some ⟨oc15, od15, .func (PySem.W.fnOf "alone_bytes" "alone_bytes" (defArgs s_alone_bytes) (defBody s_alone_bytes) (defScope s_alone_bytes) .none kV15 dc15 pm15 an15 cd15 ct15), sl15⟩)
    (q15 : PySem.W.codeIn K cd15 "alone_bytes" = true) (k15 : PySem.W.keepIn K (.ref f15) = true)
    {f16 : Addr} {od16 an16 : Option Addr} {sl16 : Array (Option Value)} {oc16 kV16 dc16 pm16 cd16 ct16 : Value}
    (a16 : PySem.W.nsIn K mainGlobals "plain_bytes" = some (some (.ref f16)))
    (l16 : K.lookup f16 = some ⟨oc16, od16, .func (PySem.W.fnOf "plain_bytes" "plain_bytes" (defArgs s_plain_bytes) (defBody s_plain_bytes) (defScope s_plain_bytes) .none kV16 dc16 pm16 an16 cd16 ct16), sl16⟩)
    (q16 : PySem.W.codeIn K cd16 "plain_bytes" = true) (k16 : PySem.W.keepIn K (.ref f16) = true)
    {f17 : Addr} {od17 an17 : Option Addr} {sl17 : Array (Option Value)} {oc17 kV17 dc17 pm17 cd17 ct17 : Value}
    (a17 : PySem.W.nsIn K mainGlobals "runs_in" = some (some (.ref f17)))
    (l17 : K.lookup f17 = some ⟨oc17, od17, .func (PySem.W.fnOf "runs_in" "runs_in" (defArgs s_runs_in) (defBody s_runs_in) (defScope s_runs_in) .none kV17 dc17 pm17 an17 cd17 ct17), sl17⟩)
    (q17 : PySem.W.codeIn K cd17 "runs_in" = true) (k17 : PySem.W.keepIn K (.ref f17) = true)
    {f18 : Addr} {od18 an18 : Option Addr} {sl18 : Array (Option Value)} {oc18 kV18 dc18 pm18 cd18 ct18 : Value}
    (a18 : PySem.W.nsIn K mainGlobals "runs_bytes" = some (some (.ref f18)))
    (l18 : K.lookup f18 = some ⟨oc18, od18, .func (PySem.W.fnOf "runs_bytes" "runs_bytes" (defArgs s_runs_bytes) (defBody s_runs_bytes) (defScope s_runs_bytes) .none kV18 dc18 pm18 an18 cd18 ct18), sl18⟩)
    (q18 : PySem.W.codeIn K cd18 "runs_bytes" = true) (k18 : PySem.W.keepIn K (.ref f18) = true)
    {f19 : Addr} {od19 an19 : Option Addr} {sl19 : Array (Option Value)} {oc19 kV19 dc19 pm19 cd19 ct19 : Value}
    (a19 : PySem.W.nsIn K mainGlobals "dictionary_bytes" = some (some (.ref f19)))
    (l19 : K.lookup f19 = some ⟨oc19, od19, .func (PySem.W.fnOf "dictionary_bytes" "dictionary_bytes" (defArgs s_dictionary_bytes) (defBody s_dictionary_bytes) (defScope s_dictionary_bytes) .none kV19 dc19 pm19 an19 cd19 ct19), sl19⟩)
    (q19 : PySem.W.codeIn K cd19 "dictionary_bytes" = true) (k19 : PySem.W.keepIn K (.ref f19) = true)
    {f20 : Addr} {od20 an20 : Option Addr} {sl20 : Array (Option Value)} {oc20 kV20 dc20 pm20 cd20 ct20 : Value}
    (a20 : PySem.W.nsIn K mainGlobals "above_least_bytes" = some (some (.ref f20)))
    (l20 : K.lookup f20 = some ⟨oc20, od20, .func (PySem.W.fnOf "above_least_bytes" "above_least_bytes" (defArgs s_above_least_bytes) (defBody s_above_least_bytes) (defScope s_above_least_bytes) .none kV20 dc20 pm20 an20 cd20 ct20), sl20⟩)
    (q20 : PySem.W.codeIn K cd20 "above_least_bytes" = true) (k20 : PySem.W.keepIn K (.ref f20) = true)
    {f21 : Addr} {od21 an21 : Option Addr} {sl21 : Array (Option Value)} {oc21 kV21 dc21 pm21 cd21 ct21 : Value}
    (a21 : PySem.W.nsIn K mainGlobals "from_least_bytes" = some (some (.ref f21)))
    (l21 : K.lookup f21 = some ⟨oc21, od21, .func (PySem.W.fnOf "from_least_bytes" "from_least_bytes" (defArgs s_from_least_bytes) (defBody s_from_least_bytes) (defScope s_from_least_bytes) .none kV21 dc21 pm21 an21 cd21 ct21), sl21⟩)
    (q21 : PySem.W.codeIn K cd21 "from_least_bytes" = true) (k21 : PySem.W.keepIn K (.ref f21) = true)
    {f22 : Addr} {od22 an22 : Option Addr} {sl22 : Array (Option Value)} {oc22 kV22 dc22 pm22 cd22 ct22 : Value}
    (a22 : PySem.W.nsIn K mainGlobals "differences_bytes" = some (some (.ref f22)))
    (l22 : K.lookup f22 = some ⟨oc22, od22, .func (PySem.W.fnOf "differences_bytes" "differences_bytes" (defArgs s_differences_bytes) (defBody s_differences_bytes) (defScope s_differences_bytes) .none kV22 dc22 pm22 an22 cd22 ct22), sl22⟩)
    (q22 : PySem.W.codeIn K cd22 "differences_bytes" = true) (k22 : PySem.W.keepIn K (.ref f22) = true)
    {f23 : Addr} {od23 an23 : Option Addr} {sl23 : Array (Option Value)} {oc23 kV23 dc23 pm23 cd23 ct23 : Value}
    (a23 : PySem.W.nsIn K mainGlobals "shared_count" = some (some (.ref f23)))
    (l23 : K.lookup f23 = some ⟨oc23, od23, .func (PySem.W.fnOf "shared_count" "shared_count" (defArgs s_shared_count) (defBody s_shared_count) (defScope s_shared_count) .none kV23 dc23 pm23 an23 cd23 ct23), sl23⟩)
    (q23 : PySem.W.codeIn K cd23 "shared_count" = true) (k23 : PySem.W.keepIn K (.ref f23) = true)
    {f24 : Addr} {od24 an24 : Option Addr} {sl24 : Array (Option Value)} {oc24 kV24 dc24 pm24 cd24 ct24 : Value}
    (a24 : PySem.W.nsIn K mainGlobals "shared_bytes" = some (some (.ref f24)))
    (l24 : K.lookup f24 = some ⟨oc24, od24, .func (PySem.W.fnOf "shared_bytes" "shared_bytes" (defArgs s_shared_bytes) (defBody s_shared_bytes) (defScope s_shared_bytes) .none kV24 dc24 pm24 an24 cd24 ct24), sl24⟩)
    (q24 : PySem.W.codeIn K cd24 "shared_bytes" = true) (k24 : PySem.W.keepIn K (.ref f24) = true)
    {f25 : Addr} {od25 an25 : Option Addr} {sl25 : Array (Option Value)} {oc25 kV25 dc25 pm25 cd25 ct25 : Value}
    (a25 : PySem.W.nsIn K mainGlobals "each_way" = some (some (.ref f25)))
    (l25 : K.lookup f25 = some ⟨oc25, od25, .func (PySem.W.fnOf "each_way" "each_way" (defArgs s_each_way) (defBody s_each_way) (defScope s_each_way) .none kV25 dc25 pm25 an25 cd25 ct25), sl25⟩)
    (q25 : PySem.W.codeIn K cd25 "each_way" = true) (k25 : PySem.W.keepIn K (.ref f25) = true)
    {f26 : Addr} {od26 an26 : Option Addr} {sl26 : Array (Option Value)} {oc26 kV26 dc26 pm26 cd26 ct26 : Value}
    (a26 : PySem.W.nsIn K mainGlobals "way_taken" = some (some (.ref f26)))
    (l26 : K.lookup f26 = some ⟨oc26, od26, .func (PySem.W.fnOf "way_taken" "way_taken" (defArgs s_way_taken) (defBody s_way_taken) (defScope s_way_taken) .none kV26 dc26 pm26 an26 cd26 ct26), sl26⟩)
    (q26 : PySem.W.codeIn K cd26 "way_taken" = true) (k26 : PySem.W.keepIn K (.ref f26) = true)
    {f27 : Addr} {od27 an27 : Option Addr} {sl27 : Array (Option Value)} {oc27 kV27 dc27 pm27 cd27 ct27 : Value}
    (a27 : PySem.W.nsIn K mainGlobals "alone_value" = some (some (.ref f27)))
    (l27 : K.lookup f27 = some ⟨oc27, od27, .func (PySem.W.fnOf "alone_value" "alone_value" (defArgs s_alone_value) (defBody s_alone_value) (defScope s_alone_value) .none kV27 dc27 pm27 an27 cd27 ct27), sl27⟩)
    (q27 : PySem.W.codeIn K cd27 "alone_value" = true) (k27 : PySem.W.keepIn K (.ref f27) = true)
    {f28 : Addr} {od28 an28 : Option Addr} {sl28 : Array (Option Value)} {oc28 kV28 dc28 pm28 cd28 ct28 : Value}
    (a28 : PySem.W.nsIn K mainGlobals "plain_values" = some (some (.ref f28)))
    (l28 : K.lookup f28 = some ⟨oc28, od28, .func (PySem.W.fnOf "plain_values" "plain_values" (defArgs s_plain_values) (defBody s_plain_values) (defScope s_plain_values) .none kV28 dc28 pm28 an28 cd28 ct28), sl28⟩)
    (q28 : PySem.W.codeIn K cd28 "plain_values" = true) (k28 : PySem.W.keepIn K (.ref f28) = true)
    {f29 : Addr} {od29 an29 : Option Addr} {sl29 : Array (Option Value)} {oc29 kV29 dc29 pm29 cd29 ct29 : Value}
    (a29 : PySem.W.nsIn K mainGlobals "one_values" = some (some (.ref f29)))
    (l29 : K.lookup f29 = some ⟨oc29, od29, .func (PySem.W.fnOf "one_values" "one_values" (defArgs s_one_values) (defBody s_one_values) (defScope s_one_values) .none kV29 dc29 pm29 an29 cd29 ct29), sl29⟩)
    (q29 : PySem.W.codeIn K cd29 "one_values" = true) (k29 : PySem.W.keepIn K (.ref f29) = true)
    {f30 : Addr} {od30 an30 : Option Addr} {sl30 : Array (Option Value)} {oc30 kV30 dc30 pm30 cd30 ct30 : Value}
    (a30 : PySem.W.nsIn K mainGlobals "runs_values" = some (some (.ref f30)))
    (l30 : K.lookup f30 = some ⟨oc30, od30, .func (PySem.W.fnOf "runs_values" "runs_values" (defArgs s_runs_values) (defBody s_runs_values) (defScope s_runs_values) .none kV30 dc30 pm30 an30 cd30 ct30), sl30⟩)
    (q30 : PySem.W.codeIn K cd30 "runs_values" = true) (k30 : PySem.W.keepIn K (.ref f30) = true)
    {f31 : Addr} {od31 an31 : Option Addr} {sl31 : Array (Option Value)} {oc31 kV31 dc31 pm31 cd31 ct31 : Value}
    (a31 : PySem.W.nsIn K mainGlobals "dictionary_values" = some (some (.ref f31)))
    (l31 : K.lookup f31 = some ⟨oc31, od31, .func (PySem.W.fnOf "dictionary_values" "dictionary_values" (defArgs s_dictionary_values) (defBody s_dictionary_values) (defScope s_dictionary_values) .none kV31 dc31 pm31 an31 cd31 ct31), sl31⟩)
    (q31 : PySem.W.codeIn K cd31 "dictionary_values" = true) (k31 : PySem.W.keepIn K (.ref f31) = true)
    {f32 : Addr} {od32 an32 : Option Addr} {sl32 : Array (Option Value)} {oc32 kV32 dc32 pm32 cd32 ct32 : Value}
    (a32 : PySem.W.nsIn K mainGlobals "above_least" = some (some (.ref f32)))
    (l32 : K.lookup f32 = some ⟨oc32, od32, .func (PySem.W.fnOf "above_least" "above_least" (defArgs s_above_least) (defBody s_above_least) (defScope s_above_least) .none kV32 dc32 pm32 an32 cd32 ct32), sl32⟩)
    (q32 : PySem.W.codeIn K cd32 "above_least" = true) (k32 : PySem.W.keepIn K (.ref f32) = true)
    {f33 : Addr} {od33 an33 : Option Addr} {sl33 : Array (Option Value)} {oc33 kV33 dc33 pm33 cd33 ct33 : Value}
    (a33 : PySem.W.nsIn K mainGlobals "from_least_values" = some (some (.ref f33)))
    (l33 : K.lookup f33 = some ⟨oc33, od33, .func (PySem.W.fnOf "from_least_values" "from_least_values" (defArgs s_from_least_values) (defBody s_from_least_values) (defScope s_from_least_values) .none kV33 dc33 pm33 an33 cd33 ct33), sl33⟩)
    (q33 : PySem.W.codeIn K cd33 "from_least_values" = true) (k33 : PySem.W.keepIn K (.ref f33) = true)
    {f34 : Addr} {od34 an34 : Option Addr} {sl34 : Array (Option Value)} {oc34 kV34 dc34 pm34 cd34 ct34 : Value}
    (a34 : PySem.W.nsIn K mainGlobals "differences_values" = some (some (.ref f34)))
    (l34 : K.lookup f34 = some ⟨oc34, od34, .func (PySem.W.fnOf "differences_values" "differences_values" (defArgs s_differences_values) (defBody s_differences_values) (defScope s_differences_values) .none kV34 dc34 pm34 an34 cd34 ct34), sl34⟩)
    (q34 : PySem.W.codeIn K cd34 "differences_values" = true) (k34 : PySem.W.keepIn K (.ref f34) = true)
    {f35 : Addr} {od35 an35 : Option Addr} {sl35 : Array (Option Value)} {oc35 kV35 dc35 pm35 cd35 ct35 : Value}
    (a35 : PySem.W.nsIn K mainGlobals "shared_values" = some (some (.ref f35)))
    (l35 : K.lookup f35 = some ⟨oc35, od35, .func (PySem.W.fnOf "shared_values" "shared_values" (defArgs s_shared_values) (defBody s_shared_values) (defScope s_shared_values) .none kV35 dc35 pm35 an35 cd35 ct35), sl35⟩)
    (q35 : PySem.W.codeIn K cd35 "shared_values" = true) (k35 : PySem.W.keepIn K (.ref f35) = true)
    {f36 : Addr} {od36 an36 : Option Addr} {sl36 : Array (Option Value)} {oc36 kV36 dc36 pm36 cd36 ct36 : Value}
    (a36 : PySem.W.nsIn K mainGlobals "values_in_way" = some (some (.ref f36)))
    (l36 : K.lookup f36 = some ⟨oc36, od36, .func (PySem.W.fnOf "values_in_way" "values_in_way" (defArgs s_values_in_way) (defBody s_values_in_way) (defScope s_values_in_way) .none kV36 dc36 pm36 an36 cd36 ct36), sl36⟩)
    (q36 : PySem.W.codeIn K cd36 "values_in_way" = true) (k36 : PySem.W.keepIn K (.ref f36) = true)
    {f37 : Addr} {od37 an37 : Option Addr} {sl37 : Array (Option Value)} {oc37 kV37 dc37 pm37 cd37 ct37 : Value}
    (a37 : PySem.W.nsIn K mainGlobals "null_state" = some (some (.ref f37)))
    (l37 : K.lookup f37 = some ⟨oc37, od37, .func (PySem.W.fnOf "null_state" "null_state" (defArgs s_null_state) (defBody s_null_state) (defScope s_null_state) .none kV37 dc37 pm37 an37 cd37 ct37), sl37⟩)
    (q37 : PySem.W.codeIn K cd37 "null_state" = true) (k37 : PySem.W.keepIn K (.ref f37) = true)
    {f38 : Addr} {od38 an38 : Option Addr} {sl38 : Array (Option Value)} {oc38 kV38 dc38 pm38 cd38 ct38 : Value}
    (a38 : PySem.W.nsIn K mainGlobals "null_map" = some (some (.ref f38)))
    (l38 : K.lookup f38 = some ⟨oc38, od38, .func (PySem.W.fnOf "null_map" "null_map" (defArgs s_null_map) (defBody s_null_map) (defScope s_null_map) .none kV38 dc38 pm38 an38 cd38 ct38), sl38⟩)
    (q38 : PySem.W.codeIn K cd38 "null_map" = true) (k38 : PySem.W.keepIn K (.ref f38) = true)
    {f39 : Addr} {od39 an39 : Option Addr} {sl39 : Array (Option Value)} {oc39 kV39 dc39 pm39 cd39 ct39 : Value}
    (a39 : PySem.W.nsIn K mainGlobals "page_bytes" = some (some (.ref f39)))
    (l39 : K.lookup f39 = some ⟨oc39, od39, .func (PySem.W.fnOf "page_bytes" "page_bytes" (defArgs s_page_bytes) (defBody s_page_bytes) (defScope s_page_bytes) .none kV39 dc39 pm39 an39 cd39 ct39), sl39⟩)
    (q39 : PySem.W.codeIn K cd39 "page_bytes" = true) (k39 : PySem.W.keepIn K (.ref f39) = true)
    {f40 : Addr} {od40 an40 : Option Addr} {sl40 : Array (Option Value)} {oc40 kV40 dc40 pm40 cd40 ct40 : Value}
    (a40 : PySem.W.nsIn K mainGlobals "head_numbers" = some (some (.ref f40)))
    (l40 : K.lookup f40 = some ⟨oc40, od40, .func (PySem.W.fnOf "head_numbers" "head_numbers" (defArgs s_head_numbers) (defBody s_head_numbers) (defScope s_head_numbers) .none kV40 dc40 pm40 an40 cd40 ct40), sl40⟩)
    (q40 : PySem.W.codeIn K cd40 "head_numbers" = true) (k40 : PySem.W.keepIn K (.ref f40) = true)
    {f41 : Addr} {od41 an41 : Option Addr} {sl41 : Array (Option Value)} {oc41 kV41 dc41 pm41 cd41 ct41 : Value}
    (a41 : PySem.W.nsIn K mainGlobals "present_marks" = some (some (.ref f41)))
    (l41 : K.lookup f41 = some ⟨oc41, od41, .func (PySem.W.fnOf "present_marks" "present_marks" (defArgs s_present_marks) (defBody s_present_marks) (defScope s_present_marks) .none kV41 dc41 pm41 an41 cd41 ct41), sl41⟩)
    (q41 : PySem.W.codeIn K cd41 "present_marks" = true) (k41 : PySem.W.keepIn K (.ref f41) = true)
    {f42 : Addr} {od42 an42 : Option Addr} {sl42 : Array (Option Value)} {oc42 kV42 dc42 pm42 cd42 ct42 : Value}
    (a42 : PySem.W.nsIn K mainGlobals "cells_of" = some (some (.ref f42)))
    (l42 : K.lookup f42 = some ⟨oc42, od42, .func (PySem.W.fnOf "cells_of" "cells_of" (defArgs s_cells_of) (defBody s_cells_of) (defScope s_cells_of) .none kV42 dc42 pm42 an42 cd42 ct42), sl42⟩)
    (q42 : PySem.W.codeIn K cd42 "cells_of" = true) (k42 : PySem.W.keepIn K (.ref f42) = true)
    {f43 : Addr} {od43 an43 : Option Addr} {sl43 : Array (Option Value)} {oc43 kV43 dc43 pm43 cd43 ct43 : Value}
    (a43 : PySem.W.nsIn K mainGlobals "possible_cells" = some (some (.ref f43)))
    (l43 : K.lookup f43 = some ⟨oc43, od43, .func (PySem.W.fnOf "possible_cells" "possible_cells" (defArgs s_possible_cells) (defBody s_possible_cells) (defScope s_possible_cells) .none kV43 dc43 pm43 an43 cd43 ct43), sl43⟩)
    (q43 : PySem.W.codeIn K cd43 "possible_cells" = true) (k43 : PySem.W.keepIn K (.ref f43) = true)
    {f44 : Addr} {od44 an44 : Option Addr} {sl44 : Array (Option Value)} {oc44 kV44 dc44 pm44 cd44 ct44 : Value}
    (a44 : PySem.W.nsIn K mainGlobals "right_cells" = some (some (.ref f44)))
    (l44 : K.lookup f44 = some ⟨oc44, od44, .func (PySem.W.fnOf "right_cells" "right_cells" (defArgs s_right_cells) (defBody s_right_cells) (defScope s_right_cells) .none kV44 dc44 pm44 an44 cd44 ct44), sl44⟩)
    (q44 : PySem.W.codeIn K cd44 "right_cells" = true) (k44 : PySem.W.keepIn K (.ref f44) = true)
    {f45 : Addr} {od45 an45 : Option Addr} {sl45 : Array (Option Value)} {oc45 kV45 dc45 pm45 cd45 ct45 : Value}
    (a45 : PySem.W.nsIn K mainGlobals "listed" = some (some (.ref f45)))
    (l45 : K.lookup f45 = some ⟨oc45, od45, .func (PySem.W.fnOf "listed" "listed" (defArgs s_listed) (defBody s_listed) (defScope s_listed) .none kV45 dc45 pm45 an45 cd45 ct45), sl45⟩)
    (q45 : PySem.W.codeIn K cd45 "listed" = true) (k45 : PySem.W.keepIn K (.ref f45) = true)
    {f46 : Addr} {od46 an46 : Option Addr} {sl46 : Array (Option Value)} {oc46 kV46 dc46 pm46 cd46 ct46 : Value}
    (a46 : PySem.W.nsIn K mainGlobals "answer_with_list" = some (some (.ref f46)))
    (l46 : K.lookup f46 = some ⟨oc46, od46, .func (PySem.W.fnOf "answer_with_list" "answer_with_list" (defArgs s_answer_with_list) (defBody s_answer_with_list) (defScope s_answer_with_list) .none kV46 dc46 pm46 an46 cd46 ct46), sl46⟩)
    (q46 : PySem.W.codeIn K cd46 "answer_with_list" = true) (k46 : PySem.W.keepIn K (.ref f46) = true)
    {f47 : Addr} {od47 an47 : Option Addr} {sl47 : Array (Option Value)} {oc47 kV47 dc47 pm47 cd47 ct47 : Value}
    (a47 : PySem.W.nsIn K mainGlobals "read" = some (some (.ref f47)))
    (l47 : K.lookup f47 = some ⟨oc47, od47, .func (PySem.W.fnOf "read" "read" (defArgs s_read) (defBody s_read) (defScope s_read) .none kV47 dc47 pm47 an47 cd47 ct47), sl47⟩)
    (q47 : PySem.W.codeIn K cd47 "read" = true) (k47 : PySem.W.keepIn K (.ref f47) = true)
    (z_len : PySem.W.nsIn K mainGlobals "len" = some none)
    (z_all : PySem.W.nsIn K mainGlobals "all" = some none)
    (z_list : PySem.W.nsIn K mainGlobals "list" = some none)
    (z_range : PySem.W.nsIn K mainGlobals "range" = some none)
    (z_reversed : PySem.W.nsIn K mainGlobals "reversed" = some none)
    (z_enumerate : PySem.W.nsIn K mainGlobals "enumerate" = some none)
    (z_sorted : PySem.W.nsIn K mainGlobals "sorted" = some none)
    (z_set : PySem.W.nsIn K mainGlobals "set" = some none)
    (z_max : PySem.W.nsIn K mainGlobals "max" = some none)
    (z_min : PySem.W.nsIn K mainGlobals "min" = some none)
    (z_tuple : PySem.W.nsIn K mainGlobals "tuple" = some none)
    (z_sum : PySem.W.nsIn K mainGlobals "sum" = some none)
    {t_NUMBERS : Tok} (x_NUMBERS : PySem.W.nsIn K mainGlobals "NUMBERS" = some (some (.int 0 t_NUMBERS)))
    {t_ROWS_OF_BYTES : Tok} (x_ROWS_OF_BYTES : PySem.W.nsIn K mainGlobals "ROWS_OF_BYTES" = some (some (.int 1 t_ROWS_OF_BYTES)))
    {t_MOST_BYTES : Tok} (x_MOST_BYTES : PySem.W.nsIn K mainGlobals "MOST_BYTES" = some (some (.int 40 t_MOST_BYTES)))
    {t_LEAST_NUMBER : Tok} (x_LEAST_NUMBER : PySem.W.nsIn K mainGlobals "LEAST_NUMBER" = some (some (.int (-9223372036854775808) t_LEAST_NUMBER)))
    {t_GREATEST_NUMBER : Tok} (x_GREATEST_NUMBER : PySem.W.nsIn K mainGlobals "GREATEST_NUMBER" = some (some (.int 9223372036854775807 t_GREATEST_NUMBER)))
    {t_ALL_ONES : Tok} (x_ALL_ONES : PySem.W.nsIn K mainGlobals "ALL_ONES" = some (some (.int 4294967295 t_ALL_ONES)))
    {e_CHECK_STEPS : Addr} {u_CHECK_STEPS : Obj} (x_CHECK_STEPS : PySem.W.nsIn K mainGlobals "CHECK_STEPS" = some (some (.ref e_CHECK_STEPS))) (y_CHECK_STEPS : K.lookup e_CHECK_STEPS = some u_CHECK_STEPS) (v_CHECK_STEPS : TupOf u_CHECK_STEPS (nb [0, 274646895, 549293790, 820201905, 1098587580, 1361435347, 1640403810, 1905808397, 2197175160, 2460548119, 2722870694, 2987750089, 3280807620, 3553878443, 3811616794, 4084100981]))
    {t_ALL_NULL : Tok} (x_ALL_NULL : PySem.W.nsIn K mainGlobals "ALL_NULL" = some (some (.int 1 t_ALL_NULL)))
    {t_SOME_NULL : Tok} (x_SOME_NULL : PySem.W.nsIn K mainGlobals "SOME_NULL" = some (some (.int 2 t_SOME_NULL)))
    {t_NO_NULLS : Tok} (x_NO_NULLS : PySem.W.nsIn K mainGlobals "NO_NULLS" = some (some (.int 0 t_NO_NULLS)))
    {t_HEAD_WIDTH : Tok} (x_HEAD_WIDTH : PySem.W.nsIn K mainGlobals "HEAD_WIDTH" = some (some (.int 16 t_HEAD_WIDTH)))
    {t_CHECK_WIDTH : Tok} (x_CHECK_WIDTH : PySem.W.nsIn K mainGlobals "CHECK_WIDTH" = some (some (.int 4 t_CHECK_WIDTH)))
    {t_MOST_CELLS : Tok} (x_MOST_CELLS : PySem.W.nsIn K mainGlobals "MOST_CELLS" = some (some (.int 64 t_MOST_CELLS)))
    {t_TOO_FEW : Tok} (x_TOO_FEW : PySem.W.nsIn K mainGlobals "TOO_FEW" = some (some (.int (-4) t_TOO_FEW)))
    {t_NOT_RIGHT : Tok} (x_NOT_RIGHT : PySem.W.nsIn K mainGlobals "NOT_RIGHT" = some (some (.int (-2) t_NOT_RIGHT)))
    {t_NOT_AS_TOLD : Tok} (x_NOT_AS_TOLD : PySem.W.nsIn K mainGlobals "NOT_AS_TOLD" = some (some (.int (-1) t_NOT_AS_TOLD)))
    : ∃ fd : FuncData, (∀ (s : Shared) (us : List Value), us.length = (["k", "start", "n", "the_bytes"] : List Str).length → BindsTo s fd ⟨us, []⟩ ((["k", "start", "n", "the_bytes"] : List Str).zip us)) ∧ ∀ base : Heap, K.In base → base.Ns mainGlobals mg → FnOk P w K mg base CX0 8 fa fd ["k", "start", "n", "the_bytes"] (sp_read K) := by
  have e := hfa.symm.trans (PySem.W.mg_of X G a47)
  cases e
  have b_len := PySem.W.mg_none_of X G z_len
  have b_all := PySem.W.mg_none_of X G z_all
  have b_list := PySem.W.mg_none_of X G z_list
  have b_range := PySem.W.mg_none_of X G z_range
  have b_reversed := PySem.W.mg_none_of X G z_reversed
  have b_enumerate := PySem.W.mg_none_of X G z_enumerate
  have b_sorted := PySem.W.mg_none_of X G z_sorted
  have b_set := PySem.W.mg_none_of X G z_set
  have b_max := PySem.W.mg_none_of X G z_max
  have b_min := PySem.W.mg_none_of X G z_min
  have b_tuple := PySem.W.mg_none_of X G z_tuple
  have b_sum := PySem.W.mg_none_of X G z_sum
  have c_NUMBERS : Kst mg "NUMBERS" (.int 0) := ⟨_, PySem.W.mg_of X G x_NUMBERS, _, rfl⟩
  have c_ROWS_OF_BYTES : Kst mg "ROWS_OF_BYTES" (.int 1) := ⟨_, PySem.W.mg_of X G x_ROWS_OF_BYTES, _, rfl⟩
  have c_MOST_BYTES : Kst mg "MOST_BYTES" (.int 40) := ⟨_, PySem.W.mg_of X G x_MOST_BYTES, _, rfl⟩
  have c_LEAST_NUMBER : Kst mg "LEAST_NUMBER" (.int (-9223372036854775808)) := ⟨_, PySem.W.mg_of X G x_LEAST_NUMBER, _, rfl⟩
  have c_GREATEST_NUMBER : Kst mg "GREATEST_NUMBER" (.int 9223372036854775807) := ⟨_, PySem.W.mg_of X G x_GREATEST_NUMBER, _, rfl⟩
  have c_ALL_ONES : Kst mg "ALL_ONES" (.int 4294967295) := ⟨_, PySem.W.mg_of X G x_ALL_ONES, _, rfl⟩
  have c_CHECK_STEPS : Kst mg "CHECK_STEPS" (.ref e_CHECK_STEPS) := ⟨_, PySem.W.mg_of X G x_CHECK_STEPS, rfl⟩
  have w_CHECK_STEPS : ∀ H, SqT K H e_CHECK_STEPS (nb [0, 274646895, 549293790, 820201905, 1098587580, 1361435347, 1640403810, 1905808397, 2197175160, 2460548119, 2722870694, 2987750089, 3280807620, 3553878443, 3811616794, 4084100981]) := fun H => v_CHECK_STEPS.sq y_CHECK_STEPS
  have c_ALL_NULL : Kst mg "ALL_NULL" (.int 1) := ⟨_, PySem.W.mg_of X G x_ALL_NULL, _, rfl⟩
  have c_SOME_NULL : Kst mg "SOME_NULL" (.int 2) := ⟨_, PySem.W.mg_of X G x_SOME_NULL, _, rfl⟩
  have c_NO_NULLS : Kst mg "NO_NULLS" (.int 0) := ⟨_, PySem.W.mg_of X G x_NO_NULLS, _, rfl⟩
  have c_HEAD_WIDTH : Kst mg "HEAD_WIDTH" (.int 16) := ⟨_, PySem.W.mg_of X G x_HEAD_WIDTH, _, rfl⟩
  have c_CHECK_WIDTH : Kst mg "CHECK_WIDTH" (.int 4) := ⟨_, PySem.W.mg_of X G x_CHECK_WIDTH, _, rfl⟩
  have c_MOST_CELLS : Kst mg "MOST_CELLS" (.int 64) := ⟨_, PySem.W.mg_of X G x_MOST_CELLS, _, rfl⟩
  have c_TOO_FEW : Kst mg "TOO_FEW" (.int (-4)) := ⟨_, PySem.W.mg_of X G x_TOO_FEW, _, rfl⟩
  have c_NOT_RIGHT : Kst mg "NOT_RIGHT" (.int (-2)) := ⟨_, PySem.W.mg_of X G x_NOT_RIGHT, _, rfl⟩
  have c_NOT_AS_TOLD : Kst mg "NOT_AS_TOLD" (.int (-1)) := ⟨_, PySem.W.mg_of X G x_NOT_AS_TOLD, _, rfl⟩
  have F0 := fun_mk (st := s_is_kind) l0 q0 k0
  have F1 := fun_mk (st := s_is_value) l1 q1 k1
  have F2 := fun_mk (st := s_value_told) l2 q2 k2
  have F3 := fun_mk (st := s_values_among) l3 q3 k3
  have F4 := fun_mk (st := s_cell_told) l4 q4 k4
  have F5 := fun_mk (st := s_cells_told) l5 q5 k5
  have F6 := fun_mk (st := s_number_bytes) l6 q6 k6
  have F7 := fun_mk (st := s_number_at) l7 q7 k7
  have F8 := fun_mk (st := s_signed_at) l8 q8 k8
  have F9 := fun_mk (st := s_packed_width) l9 q9 k9
  have F10 := fun_mk (st := s_packed_bytes) l10 q10 k10
  have F11 := fun_mk (st := s_packed_numbers) l11 q11 k11
  have F12 := fun_mk (st := s_check_number) l12 q12 k12
  have F13 := fun_mk (st := s_check_bytes) l13 q13 k13
  have F14 := fun_mk (st := s_value_bytes) l14 q14 k14
  have F15 := fun_mk (st := s_alone_bytes) l15 q15 k15
  have F16 := fun_mk (st := s_plain_bytes) l16 q16 k16
  have F17 := fun_mk (st := s_runs_in) l17 q17 k17
  have F18 := fun_mk (st := s_runs_bytes) l18 q18 k18
  have F19 := fun_mk (st := s_dictionary_bytes) l19 q19 k19
  have F20 := fun_mk (st := s_above_least_bytes) l20 q20 k20
  have F21 := fun_mk (st := s_from_least_bytes) l21 q21 k21
  have F22 := fun_mk (st := s_differences_bytes) l22 q22 k22
  have F23 := fun_mk (st := s_shared_count) l23 q23 k23
  have F24 := fun_mk (st := s_shared_bytes) l24 q24 k24
  have F25 := fun_mk (st := s_each_way) l25 q25 k25
  have F26 := fun_mk (st := s_way_taken) l26 q26 k26
  have F27 := fun_mk (st := s_alone_value) l27 q27 k27
  have F28 := fun_mk (st := s_plain_values) l28 q28 k28
  have F29 := fun_mk (st := s_one_values) l29 q29 k29
  have F30 := fun_mk (st := s_runs_values) l30 q30 k30
  have F31 := fun_mk (st := s_dictionary_values) l31 q31 k31
  have F32 := fun_mk (st := s_above_least) l32 q32 k32
  have F33 := fun_mk (st := s_from_least_values) l33 q33 k33
  have F34 := fun_mk (st := s_differences_values) l34 q34 k34
  have F35 := fun_mk (st := s_shared_values) l35 q35 k35
  have F36 := fun_mk (st := s_values_in_way) l36 q36 k36
  have F37 := fun_mk (st := s_null_state) l37 q37 k37
  have F38 := fun_mk (st := s_null_map) l38 q38 k38
  have F39 := fun_mk (st := s_page_bytes) l39 q39 k39
  have F40 := fun_mk (st := s_head_numbers) l40 q40 k40
  have F41 := fun_mk (st := s_present_marks) l41 q41 k41
  have F42 := fun_mk (st := s_cells_of) l42 q42 k42
  have F43 := fun_mk (st := s_possible_cells) l43 q43 k43
  have F44 := fun_mk (st := s_right_cells) l44 q44 k44
  have F45 := fun_mk (st := s_listed) l45 q45 k45
  have F46 := fun_mk (st := s_answer_with_list) l46 q46 k46
  have F47 := fun_mk (st := s_read) l47 q47 k47
  refine ⟨PySem.W.fnOf "read" "read" (defArgs s_read) (defBody s_read) (defScope s_read) .none kV47 dc47 pm47 an47 cd47 ct47, fun s us hu => match us, hu with | [_, _, _, _], _ => .of_eq rfl, fun base _ _ => ?_⟩
  have h_is_kind : Ok P w K mg base 1 "is_kind" ["kind"] (sp_is_kind K) := ⟨_, _, PySem.W.mg_of X G a0, F0.kp, F0.binds (ps := ["kind"]) fun _ _ _ _ _ _ us hl => match us, hl with | [_], _ => rfl, ok_is_kind F0 c_NUMBERS c_ROWS_OF_BYTES⟩
  have h_is_value : Ok P w K mg base 1 "is_value" ["kind", "value"] (sp_is_value K) := ⟨_, _, PySem.W.mg_of X G a1, F1.kp, F1.binds (ps := ["kind", "value"]) fun _ _ _ _ _ _ us hl => match us, hl with | [_, _], _ => rfl, ok_is_value F1 b_len b_all c_MOST_BYTES c_NUMBERS c_LEAST_NUMBER c_GREATEST_NUMBER⟩
  have h_value_told : Ok P w K mg base 1 "value_told" ["kind", "value"] (sp_value_told K) := ⟨_, _, PySem.W.mg_of X G a2, F2.kp, F2.binds (ps := ["kind", "value"]) fun _ _ _ _ _ _ us hl => match us, hl with | [_, _], _ => rfl, ok_value_told F2 b_len b_list c_NUMBERS⟩
  have h_values_among : Ok P w K mg base 1 "values_among" ["cells"] (sp_values_among K) := ⟨_, _, PySem.W.mg_of X G a3, F3.kp, F3.binds (ps := ["cells"]) fun _ _ _ _ _ _ us hl => match us, hl with | [_], _ => rfl, ok_values_among F3 ⟩
  have h_number_bytes : Ok P w K mg base 1 "number_bytes" ["number", "width"] (sp_number_bytes K) := ⟨_, _, PySem.W.mg_of X G a6, F6.kp, F6.binds (ps := ["number", "width"]) fun _ _ _ _ _ _ us hl => match us, hl with | [_, _], _ => rfl, ok_number_bytes F6 b_range⟩
  have h_number_at : Ok P w K mg base 1 "number_at" ["the_bytes", "at", "width"] (sp_number_at K) := ⟨_, _, PySem.W.mg_of X G a7, F7.kp, F7.binds (ps := ["the_bytes", "at", "width"]) fun _ _ _ _ _ _ us hl => match us, hl with | [_, _, _], _ => rfl, ok_number_at F7 b_reversed⟩
  have h_packed_width : Ok P w K mg base 1 "packed_width" ["q", "k"] (sp_packed_width K) := ⟨_, _, PySem.W.mg_of X G a9, F9.kp, F9.binds (ps := ["q", "k"]) fun _ _ _ _ _ _ us hl => match us, hl with | [_, _], _ => rfl, ok_packed_width F9 ⟩
  have h_check_number : Ok P w K mg base 1 "check_number" ["c", "the_bytes"] (sp_check_number K) := ⟨_, _, PySem.W.mg_of X G a12, F12.kp, F12.binds (ps := ["c", "the_bytes"]) fun _ _ _ _ _ _ us hl => match us, hl with | [_, _], _ => rfl, ok_check_number F12 c_ALL_ONES c_CHECK_STEPS w_CHECK_STEPS⟩
  have h_runs_in : Ok P w K mg base 1 "runs_in" ["values"] (sp_runs_in K) := ⟨_, _, PySem.W.mg_of X G a17, F17.kp, F17.binds (ps := ["values"]) fun _ _ _ _ _ _ us hl => match us, hl with | [_], _ => rfl, ok_runs_in F17 b_len⟩
  have h_shared_count : Ok P w K mg base 1 "shared_count" ["one", "other"] (sp_shared_count K) := ⟨_, _, PySem.W.mg_of X G a23, F23.kp, F23.binds (ps := ["one", "other"]) fun _ _ _ _ _ _ us hl => match us, hl with | [_, _], _ => rfl, ok_shared_count F23 b_min b_len⟩
  have h_way_taken : Ok P w K mg base 1 "way_taken" ["written"] (sp_way_taken K) := ⟨_, _, PySem.W.mg_of X G a26, F26.kp, F26.binds (ps := ["written"]) fun _ _ _ _ _ _ us hl => match us, hl with | [_], _ => rfl, ok_way_taken F26 b_enumerate b_len⟩
  have h_null_state : Ok P w K mg base 1 "null_state" ["n", "nulls"] (sp_null_state K) := ⟨_, _, PySem.W.mg_of X G a37, F37.kp, F37.binds (ps := ["n", "nulls"]) fun _ _ _ _ _ _ us hl => match us, hl with | [_, _], _ => rfl, ok_null_state F37 c_ALL_NULL c_SOME_NULL c_NO_NULLS⟩
  have h_cells_of : Ok P w K mg base 1 "cells_of" ["marks", "values"] (sp_cells_of K) := ⟨_, _, PySem.W.mg_of X G a42, F42.kp, F42.binds (ps := ["marks", "values"]) fun _ _ _ _ _ _ us hl => match us, hl with | [_, _], _ => rfl, ok_cells_of F42 ⟩
  have h_listed : Ok P w K mg base 1 "listed" ["numbers"] (sp_listed K) := ⟨_, _, PySem.W.mg_of X G a45, F45.kp, F45.binds (ps := ["numbers"]) fun _ _ _ _ _ _ us hl => match us, hl with | [_], _ => rfl, ok_listed F45 b_len⟩
  have h_cell_told : Ok P w K mg base 2 "cell_told" ["kind", "cell"] (sp_cell_told K) := ⟨_, _, PySem.W.mg_of X G a4, F4.kp, F4.binds (ps := ["kind", "cell"]) fun _ _ _ _ _ _ us hl => match us, hl with | [_, _], _ => rfl, ok_cell_told F4 h_value_told⟩
  have h_signed_at : Ok P w K mg base 2 "signed_at" ["the_bytes", "at", "width"] (sp_signed_at K) := ⟨_, _, PySem.W.mg_of X G a8, F8.kp, F8.binds (ps := ["the_bytes", "at", "width"]) fun _ _ _ _ _ _ us hl => match us, hl with | [_, _, _], _ => rfl, ok_signed_at F8 h_number_at⟩
  have h_packed_bytes : Ok P w K mg base 2 "packed_bytes" ["q", "numbers"] (sp_packed_bytes K) := ⟨_, _, PySem.W.mg_of X G a10, F10.kp, F10.binds (ps := ["q", "numbers"]) fun _ _ _ _ _ _ us hl => match us, hl with | [_, _], _ => rfl, ok_packed_bytes F10 b_len b_reversed h_number_bytes h_packed_width⟩
  have h_packed_numbers : Ok P w K mg base 2 "packed_numbers" ["q", "k", "the_bytes"] (sp_packed_numbers K) := ⟨_, _, PySem.W.mg_of X G a11, F11.kp, F11.binds (ps := ["q", "k", "the_bytes"]) fun _ _ _ _ _ _ us hl => match us, hl with | [_, _, _], _ => rfl, ok_packed_numbers F11 b_range h_number_at h_packed_width⟩
  have h_check_bytes : Ok P w K mg base 2 "check_bytes" ["the_bytes"] (sp_check_bytes K) := ⟨_, _, PySem.W.mg_of X G a13, F13.kp, F13.binds (ps := ["the_bytes"]) fun _ _ _ _ _ _ us hl => match us, hl with | [_], _ => rfl, ok_check_bytes F13 h_number_bytes h_check_number⟩
  have h_value_bytes : Ok P w K mg base 2 "value_bytes" ["kind", "value"] (sp_value_bytes K) := ⟨_, _, PySem.W.mg_of X G a14, F14.kp, F14.binds (ps := ["kind", "value"]) fun _ _ _ _ _ _ us hl => match us, hl with | [_, _], _ => rfl, ok_value_bytes F14 b_list c_NUMBERS h_number_bytes⟩
  have h_head_numbers : Ok P w K mg base 2 "head_numbers" ["the_bytes"] (sp_head_numbers K) := ⟨_, _, PySem.W.mg_of X G a40, F40.kp, F40.binds (ps := ["the_bytes"]) fun _ _ _ _ _ _ us hl => match us, hl with | [_], _ => rfl, ok_head_numbers F40 h_number_at⟩
  have h_answer_with_list : Ok P w K mg base 2 "answer_with_list" ["number", "numbers"] (sp_answer_with_list K) := ⟨_, _, PySem.W.mg_of X G a46, F46.kp, F46.binds (ps := ["number", "numbers"]) fun _ _ _ _ _ _ us hl => match us, hl with | [_, _], _ => rfl, ok_answer_with_list F46 h_listed⟩
  have h_cells_told : Ok P w K mg base 3 "cells_told" ["kind", "cells"] (sp_cells_told K) := ⟨_, _, PySem.W.mg_of X G a5, F5.kp, F5.binds (ps := ["kind", "cells"]) fun _ _ _ _ _ _ us hl => match us, hl with | [_, _], _ => rfl, ok_cells_told F5 h_cell_told⟩
  have h_alone_bytes : Ok P w K mg base 3 "alone_bytes" ["kind", "value"] (sp_alone_bytes K) := ⟨_, _, PySem.W.mg_of X G a15, F15.kp, F15.binds (ps := ["kind", "value"]) fun _ _ _ _ _ _ us hl => match us, hl with | [_, _], _ => rfl, ok_alone_bytes F15 b_len c_NUMBERS h_number_bytes h_value_bytes⟩
  have h_plain_bytes : Ok P w K mg base 3 "plain_bytes" ["kind", "values"] (sp_plain_bytes K) := ⟨_, _, PySem.W.mg_of X G a16, F16.kp, F16.binds (ps := ["kind", "values"]) fun _ _ _ _ _ _ us hl => match us, hl with | [_, _], _ => rfl, ok_plain_bytes F16 b_len c_NUMBERS h_value_bytes h_number_bytes⟩
  have h_above_least_bytes : Ok P w K mg base 3 "above_least_bytes" ["numbers"] (sp_above_least_bytes K) := ⟨_, _, PySem.W.mg_of X G a20, F20.kp, F20.binds (ps := ["numbers"]) fun _ _ _ _ _ _ us hl => match us, hl with | [_], _ => rfl, ok_above_least_bytes F20 b_max b_min h_packed_bytes⟩
  have h_alone_value : Ok P w K mg base 3 "alone_value" ["kind", "the_bytes", "at"] (sp_alone_value K) := ⟨_, _, PySem.W.mg_of X G a27, F27.kp, F27.binds (ps := ["kind", "the_bytes", "at"]) fun _ _ _ _ _ _ us hl => match us, hl with | [_, _, _], _ => rfl, ok_alone_value F27 b_tuple c_NUMBERS h_number_at h_signed_at⟩
  have h_plain_values : Ok P w K mg base 3 "plain_values" ["kind", "k", "the_bytes"] (sp_plain_values K) := ⟨_, _, PySem.W.mg_of X G a28, F28.kp, F28.binds (ps := ["kind", "k", "the_bytes"]) fun _ _ _ _ _ _ us hl => match us, hl with | [_, _, _], _ => rfl, ok_plain_values F28 b_range b_tuple c_NUMBERS h_number_at h_signed_at⟩
  have h_above_least : Ok P w K mg base 3 "above_least" ["least", "k", "the_bytes"] (sp_above_least K) := ⟨_, _, PySem.W.mg_of X G a32, F32.kp, F32.binds (ps := ["least", "k", "the_bytes"]) fun _ _ _ _ _ _ us hl => match us, hl with | [_, _, _], _ => rfl, ok_above_least F32 h_packed_numbers h_number_at⟩
  have h_null_map : Ok P w K mg base 3 "null_map" ["cells"] (sp_null_map K) := ⟨_, _, PySem.W.mg_of X G a38, F38.kp, F38.binds (ps := ["cells"]) fun _ _ _ _ _ _ us hl => match us, hl with | [_], _ => rfl, ok_null_map F38 h_packed_bytes⟩
  have h_present_marks : Ok P w K mg base 3 "present_marks" ["state", "n", "body"] (sp_present_marks K) := ⟨_, _, PySem.W.mg_of X G a41, F41.kp, F41.binds (ps := ["state", "n", "body"]) fun _ _ _ _ _ _ us hl => match us, hl with | [_, _, _], _ => rfl, ok_present_marks F41 c_NO_NULLS c_SOME_NULL h_packed_numbers⟩
  have h_runs_bytes : Ok P w K mg base 4 "runs_bytes" ["kind", "runs"] (sp_runs_bytes K) := ⟨_, _, PySem.W.mg_of X G a18, F18.kp, F18.binds (ps := ["kind", "runs"]) fun _ _ _ _ _ _ us hl => match us, hl with | [_, _], _ => rfl, ok_runs_bytes F18 b_len h_alone_bytes h_number_bytes⟩
  have h_dictionary_bytes : Ok P w K mg base 4 "dictionary_bytes" ["kind", "values"] (sp_dictionary_bytes K) := ⟨_, _, PySem.W.mg_of X G a19, F19.kp, F19.binds (ps := ["kind", "values"]) fun _ _ _ _ _ _ us hl => match us, hl with | [_, _], _ => rfl, ok_dictionary_bytes F19 b_len b_enumerate b_sorted b_set h_number_bytes h_plain_bytes h_packed_bytes⟩
  have h_from_least_bytes : Ok P w K mg base 4 "from_least_bytes" ["numbers"] (sp_from_least_bytes K) := ⟨_, _, PySem.W.mg_of X G a21, F21.kp, F21.binds (ps := ["numbers"]) fun _ _ _ _ _ _ us hl => match us, hl with | [_], _ => rfl, ok_from_least_bytes F21 b_min h_number_bytes h_above_least_bytes⟩
  have h_differences_bytes : Ok P w K mg base 4 "differences_bytes" ["numbers"] (sp_differences_bytes K) := ⟨_, _, PySem.W.mg_of X G a22, F22.kp, F22.binds (ps := ["numbers"]) fun _ _ _ _ _ _ us hl => match us, hl with | [_], _ => rfl, ok_differences_bytes F22 b_min b_range b_len h_number_bytes h_above_least_bytes⟩
  have h_shared_bytes : Ok P w K mg base 4 "shared_bytes" ["rows_of_bytes"] (sp_shared_bytes K) := ⟨_, _, PySem.W.mg_of X G a24, F24.kp, F24.binds (ps := ["rows_of_bytes"]) fun _ _ _ _ _ _ us hl => match us, hl with | [_], _ => rfl, ok_shared_bytes F24 c_ROWS_OF_BYTES h_alone_bytes h_number_bytes h_shared_count⟩
  have h_one_values : Ok P w K mg base 4 "one_values" ["kind", "k", "the_bytes"] (sp_one_values K) := ⟨_, _, PySem.W.mg_of X G a29, F29.kp, F29.binds (ps := ["kind", "k", "the_bytes"]) fun _ _ _ _ _ _ us hl => match us, hl with | [_, _, _], _ => rfl, ok_one_values F29 h_alone_value⟩
  have h_runs_values : Ok P w K mg base 4 "runs_values" ["kind", "k", "the_bytes"] (sp_runs_values K) := ⟨_, _, PySem.W.mg_of X G a30, F30.kp, F30.binds (ps := ["kind", "k", "the_bytes"]) fun _ _ _ _ _ _ us hl => match us, hl with | [_, _, _], _ => rfl, ok_runs_values F30 b_range b_min b_len h_number_at h_alone_bytes h_alone_value⟩
  have h_dictionary_values : Ok P w K mg base 4 "dictionary_values" ["kind", "k", "the_bytes"] (sp_dictionary_values K) := ⟨_, _, PySem.W.mg_of X G a31, F31.kp, F31.binds (ps := ["kind", "k", "the_bytes"]) fun _ _ _ _ _ _ us hl => match us, hl with | [_, _, _], _ => rfl, ok_dictionary_values F31 b_len b_min h_packed_numbers h_plain_bytes h_plain_values h_number_at⟩
  have h_from_least_values : Ok P w K mg base 4 "from_least_values" ["k", "the_bytes"] (sp_from_least_values K) := ⟨_, _, PySem.W.mg_of X G a33, F33.kp, F33.binds (ps := ["k", "the_bytes"]) fun _ _ _ _ _ _ us hl => match us, hl with | [_, _], _ => rfl, ok_from_least_values F33 h_above_least h_signed_at⟩
  have h_differences_values : Ok P w K mg base 4 "differences_values" ["k", "the_bytes"] (sp_differences_values K) := ⟨_, _, PySem.W.mg_of X G a34, F34.kp, F34.binds (ps := ["k", "the_bytes"]) fun _ _ _ _ _ _ us hl => match us, hl with | [_, _], _ => rfl, ok_differences_values F34 h_above_least h_signed_at⟩
  have h_shared_values : Ok P w K mg base 4 "shared_values" ["k", "the_bytes"] (sp_shared_values K) := ⟨_, _, PySem.W.mg_of X G a35, F35.kp, F35.binds (ps := ["k", "the_bytes"]) fun _ _ _ _ _ _ us hl => match us, hl with | [_, _], _ => rfl, ok_shared_values F35 b_range b_len c_ROWS_OF_BYTES h_number_at h_alone_value⟩
  have h_each_way : Ok P w K mg base 5 "each_way" ["kind", "values"] (sp_each_way K) := ⟨_, _, PySem.W.mg_of X G a25, F25.kp, F25.binds (ps := ["kind", "values"]) fun _ _ _ _ _ _ us hl => match us, hl with | [_, _], _ => rfl, ok_each_way F25 b_len c_NUMBERS h_shared_bytes h_differences_bytes h_from_least_bytes h_dictionary_bytes h_runs_bytes h_alone_bytes h_plain_bytes h_runs_in⟩
  have h_values_in_way : Ok P w K mg base 5 "values_in_way" ["way", "kind", "k", "the_bytes"] (sp_values_in_way K) := ⟨_, _, PySem.W.mg_of X G a36, F36.kp, F36.binds (ps := ["way", "kind", "k", "the_bytes"]) fun _ _ _ _ _ _ us hl => match us, hl with | [_, _, _, _], _ => rfl, ok_values_in_way F36 c_ROWS_OF_BYTES c_NUMBERS h_shared_values h_differences_values h_from_least_values h_dictionary_values h_runs_values h_one_values h_plain_values⟩
  have h_page_bytes : Ok P w K mg base 6 "page_bytes" ["kind", "cells"] (sp_page_bytes K) := ⟨_, _, PySem.W.mg_of X G a39, F39.kp, F39.binds (ps := ["kind", "cells"]) fun _ _ _ _ _ _ us hl => match us, hl with | [_, _], _ => rfl, ok_page_bytes F39 b_len c_SOME_NULL h_check_bytes h_number_bytes h_way_taken h_each_way h_null_map h_null_state h_values_among⟩
  have h_possible_cells : Ok P w K mg base 6 "possible_cells" ["kind", "the_bytes"] (sp_possible_cells K) := ⟨_, _, PySem.W.mg_of X G a43, F43.kp, F43.binds (ps := ["kind", "the_bytes"]) fun _ _ _ _ _ _ us hl => match us, hl with | [_, _], _ => rfl, ok_possible_cells F43 b_len b_all b_sum c_SOME_NULL c_HEAD_WIDTH c_CHECK_WIDTH c_MOST_CELLS h_cells_of h_is_value h_values_in_way h_packed_width h_present_marks h_head_numbers⟩
  have h_right_cells : Ok P w K mg base 7 "right_cells" ["kind", "the_bytes"] (sp_right_cells K) := ⟨_, _, PySem.W.mg_of X G a44, F44.kp, F44.binds (ps := ["kind", "the_bytes"]) fun _ _ _ _ _ _ us hl => match us, hl with | [_, _], _ => rfl, ok_right_cells F44 h_page_bytes h_possible_cells⟩
  exact ok_read F47 b_len c_TOO_FEW c_NOT_RIGHT c_NOT_AS_TOLD h_answer_with_list h_cells_told h_right_cells h_is_kind
end Pf
open PySem PySem.W PyProof.Rows
set_option maxRecDepth 100000 in
set_option maxHeartbeats 8000000 in
theorem PySem.Challenge.cw_pagefiles_s04_read_holds : PySem.Challenge.rw_pagefiles_s04_read.Holds := by
  w_on; k_headS; (case hw => exact ⟨[.int 0, .int 0, .int 0, .list []], by decide +kernel, by decide +kernel⟩)
  k_fillS
  refine L2.walk_specK (r := PySem.Challenge.rw_pagefiles_s04_read) (k := 8) (CX := L2.CX0) (ps := ["k", "start", "n", "the_bytes"]) (sp := Pf.sp_read) (by decide +kernel) rfl rfl ⟨rfl, by decide, by decide⟩ (fun w h Y => PySem.W.kIn_of Y) ?F ?S (fun _ _ _ _ z => z)
  case F =>
    intro w mg fa h Y KX G hmg
    refine' Pf.all_mk KX G hmg ?a0 ?l0 ?q0 ?k0 ?a1 ?l1 ?q1 ?k1 ?a2 ?l2 ?q2 ?k2 ?a3 ?l3 ?q3 ?k3 ?a4 ?l4 ?q4 ?k4 ?a5 ?l5 ?q5 ?k5 ?a6 ?l6 ?q6 ?k6 ?a7 ?l7 ?q7 ?k7 ?a8 ?l8 ?q8 ?k8 ?a9 ?l9 ?q9 ?k9 ?a10 ?l10 ?q10 ?k10 ?a11 ?l11 ?q11 ?k11 ?a12 ?l12 ?q12 ?k12 ?a13 ?l13 ?q13 ?k13 ?a14 ?l14 ?q14 ?k14 ?a15 ?l15 ?q15 ?k15 ?a16 ?l16 ?q16 ?k16 ?a17 ?l17 ?q17 ?k17 ?a18 ?l18 ?q18 ?k18 ?a19 ?l19 ?q19 ?k19 ?a20 ?l20 ?q20 ?k20 ?a21 ?l21 ?q21 ?k21 ?a22 ?l22 ?q22 ?k22 ?a23 ?l23 ?q23 ?k23 ?a24 ?l24 ?q24 ?k24 ?a25 ?l25 ?q25 ?k25 ?a26 ?l26 ?q26 ?k26 ?a27 ?l27 ?q27 ?k27 ?a28 ?l28 ?q28 ?k28 ?a29 ?l29 ?q29 ?k29 ?a30 ?l30 ?q30 ?k30 ?a31 ?l31 ?q31 ?k31 ?a32 ?l32 ?q32 ?k32 ?a33 ?l33 ?q33 ?k33 ?a34 ?l34 ?q34 ?k34 ?a35 ?l35 ?q35 ?k35 ?a36 ?l36 ?q36 ?k36 ?a37 ?l37 ?q37 ?k37 ?a38 ?l38 ?q38 ?k38 ?a39 ?l39 ?q39 ?k39 ?a40 ?l40 ?q40 ?k40 ?a41 ?l41 ?q41 ?k41 ?a42 ?l42 ?q42 ?k42 ?a43 ?l43 ?q43 ?k43 ?a44 ?l44 ?q44 ?k44 ?a45 ?l45 ?q45 ?k45 ?a46 ?l46 ?q46 ?k46 ?a47 ?l47 ?q47 ?k47 ?z_len ?z_all ?z_list ?z_range ?z_reversed ?z_enumerate ?z_sorted ?z_set ?z_max ?z_min ?z_tuple ?z_sum ?x_NUMBERS ?x_ROWS_OF_BYTES ?x_MOST_BYTES ?x_LEAST_NUMBER ?x_GREATEST_NUMBER ?x_ALL_ONES ?x_CHECK_STEPS ?y_CHECK_STEPS ?v_CHECK_STEPS ?x_ALL_NULL ?x_SOME_NULL ?x_NO_NULLS ?x_HEAD_WIDTH ?x_CHECK_WIDTH ?x_MOST_CELLS ?x_TOO_FEW ?x_NOT_RIGHT ?x_NOT_AS_TOLD
    (case a0 => k_is)
    (case l0 => k_is)
    (case q0 => k_is)
    (case k0 => k_is)
    (case a1 => k_is)
    (case l1 => k_is)
    (case q1 => k_is)
    (case k1 => k_is)
    (case a2 => k_is)
    (case l2 => k_is)
    (case q2 => k_is)
    (case k2 => k_is)
    (case a3 => k_is)
    (case l3 => k_is)
    (case q3 => k_is)
    (case k3 => k_is)
    (case a4 => k_is)
    (case l4 => k_is)
    (case q4 => k_is)
    (case k4 => k_is)
    (case a5 => k_is)
    (case l5 => k_is)
    (case q5 => k_is)
    (case k5 => k_is)
    (case a6 => k_is)
    (case l6 => k_is)
    (case q6 => k_is)
    (case k6 => k_is)
    (case a7 => k_is)
    (case l7 => k_is)
    (case q7 => k_is)
    (case k7 => k_is)
    (case a8 => k_is)
    (case l8 => k_is)
    (case q8 => k_is)
    (case k8 => k_is)
    (case a9 => k_is)
    (case l9 => k_is)
    (case q9 => k_is)
    (case k9 => k_is)
    (case a10 => k_is)
    (case l10 => k_is)
    (case q10 => k_is)
    (case k10 => k_is)
    (case a11 => k_is)
    (case l11 => k_is)
    (case q11 => k_is)
    (case k11 => k_is)
    (case a12 => k_is)
    (case l12 => k_is)
    (case q12 => k_is)
    (case k12 => k_is)
    (case a13 => k_is)
    (case l13 => k_is)
    (case q13 => k_is)
    (case k13 => k_is)
    (case a14 => k_is)
    (case l14 => k_is)
    (case q14 => k_is)
    (case k14 => k_is)
    (case a15 => k_is)
    (case l15 => k_is)
    (case q15 => k_is)
    (case k15 => k_is)
    (case a16 => k_is)
    (case l16 => k_is)
    (case q16 => k_is)
    (case k16 => k_is)
    (case a17 => k_is)
    (case l17 => k_is)
    (case q17 => k_is)
    (case k17 => k_is)
    (case a18 => k_is)
    (case l18 => k_is)
    (case q18 => k_is)
    (case k18 => k_is)
    (case a19 => k_is)
    (case l19 => k_is)
    (case q19 => k_is)
    (case k19 => k_is)
    (case a20 => k_is)
    (case l20 => k_is)
    (case q20 => k_is)
    (case k20 => k_is)
    (case a21 => k_is)
    (case l21 => k_is)
    (case q21 => k_is)
    (case k21 => k_is)
    (case a22 => k_is)
    (case l22 => k_is)
    (case q22 => k_is)
    (case k22 => k_is)
    (case a23 => k_is)
    (case l23 => k_is)
    (case q23 => k_is)
    (case k23 => k_is)
    (case a24 => k_is)
    (case l24 => k_is)
    (case q24 => k_is)
    (case k24 => k_is)
    (case a25 => k_is)
    (case l25 => k_is)
    (case q25 => k_is)
    (case k25 => k_is)
    (case a26 => k_is)
    (case l26 => k_is)
    (case q26 => k_is)
    (case k26 => k_is)
    (case a27 => k_is)
    (case l27 => k_is)
    (case q27 => k_is)
    (case k27 => k_is)
    (case a28 => k_is)
    (case l28 => k_is)
    (case q28 => k_is)
    (case k28 => k_is)
    (case a29 => k_is)
    (case l29 => k_is)
    (case q29 => k_is)
    (case k29 => k_is)
    (case a30 => k_is)
    (case l30 => k_is)
    (case q30 => k_is)
    (case k30 => k_is)
    (case a31 => k_is)
    (case l31 => k_is)
    (case q31 => k_is)
    (case k31 => k_is)
    (case a32 => k_is)
    (case l32 => k_is)
    (case q32 => k_is)
    (case k32 => k_is)
    (case a33 => k_is)
    (case l33 => k_is)
    (case q33 => k_is)
    (case k33 => k_is)
    (case a34 => k_is)
    (case l34 => k_is)
    (case q34 => k_is)
    (case k34 => k_is)
    (case a35 => k_is)
    (case l35 => k_is)
    (case q35 => k_is)
    (case k35 => k_is)
    (case a36 => k_is)
    (case l36 => k_is)
    (case q36 => k_is)
    (case k36 => k_is)
    (case a37 => k_is)
    (case l37 => k_is)
    (case q37 => k_is)
    (case k37 => k_is)
    (case a38 => k_is)
    (case l38 => k_is)
    (case q38 => k_is)
    (case k38 => k_is)
    (case a39 => k_is)
    (case l39 => k_is)
    (case q39 => k_is)
    (case k39 => k_is)
    (case a40 => k_is)
    (case l40 => k_is)
    (case q40 => k_is)
    (case k40 => k_is)
    (case a41 => k_is)
    (case l41 => k_is)
    (case q41 => k_is)
    (case k41 => k_is)
    (case a42 => k_is)
    (case l42 => k_is)
    (case q42 => k_is)
    (case k42 => k_is)
    (case a43 => k_is)
    (case l43 => k_is)
    (case q43 => k_is)
    (case k43 => k_is)
    (case a44 => k_is)
    (case l44 => k_is)
    (case q44 => k_is)
    (case k44 => k_is)
    (case a45 => k_is)
    (case l45 => k_is)
    (case q45 => k_is)
    (case k45 => k_is)
    (case a46 => k_is)
    (case l46 => k_is)
    (case q46 => k_is)
    (case k46 => k_is)
    (case a47 => k_is)
    (case l47 => k_is)
    (case q47 => k_is)
    (case k47 => k_is)
    (case z_len => k_is)
    (case z_all => k_is)
    (case z_list => k_is)
    (case z_range => k_is)
    (case z_reversed => k_is)
    (case z_enumerate => k_is)
    (case z_sorted => k_is)
    (case z_set => k_is)
    (case z_max => k_is)
    (case z_min => k_is)
    (case z_tuple => k_is)
    (case z_sum => k_is)
    (case x_NUMBERS => k_is)
    (case x_ROWS_OF_BYTES => k_is)
    (case x_MOST_BYTES => k_is)
    (case x_LEAST_NUMBER => k_is)
    (case x_GREATEST_NUMBER => k_is)
    (case x_ALL_ONES => k_is)
    (case x_CHECK_STEPS => k_is)
    (case y_CHECK_STEPS => k_is)
    (case v_CHECK_STEPS => exact ⟨rfl, _, _, rfl, by decide +kernel, by repeat (first | exact .nil | refine .cons ⟨_, rfl⟩ ?_)⟩)
    (case x_ALL_NULL => k_is)
    (case x_SOME_NULL => k_is)
    (case x_NO_NULLS => k_is)
    (case x_HEAD_WIDTH => k_is)
    (case x_CHECK_WIDTH => k_is)
    (case x_MOST_CELLS => k_is)
    (case x_TOO_FEW => k_is)
    (case x_NOT_RIGHT => k_is)
    (case x_NOT_AS_TOLD => k_is)
  case S =>
    intro K H xs a hO hwi hask hx
    cases hx with
    | cons h1 h2 =>
      cases h2 with
      | cons h3 h4 =>
        cases h4 with
        | cons h5 h6 =>
          cases h6 with
          | cons h7 h8 =>
            cases h8
            cases h7 with
            | lst hs ha =>
              have e := L2.ints_dw a.2.2.2.1 _ ha
              subst e
              cases h1
              cases h3
              cases h5
              have q : (Codec.inInt 0 18446744073709551615 a.1 && (Codec.inInt 0 18446744073709551615 a.2.1 && (Codec.inInt 0 18446744073709551615 a.2.2.1 && ((Codec.inLen 0 20000 a.2.2.2.1 && a.2.2.2.1.all (Codec.inInt 0 255)) && true)))) = true := hwi
              rw [Bool.and_eq_true, Bool.and_eq_true, Bool.and_eq_true, Bool.and_eq_true, Bool.and_eq_true] at q
              exact ⟨a.1, a.2.1, a.2.2.1, _, a.2.2.2.1, rfl, (Codec.inInt_iff.mp q.1).1, (Codec.inInt_iff.mp q.2.1).1, (Codec.inInt_iff.mp q.2.2.1).1, hs, fun c hc => Codec.inInt_iff.mp (List.all_eq_true.mp q.2.2.2.1.2 c hc), (by have := q.2.2.2.1.1; unfold Codec.inLen Codec.inNat at this; simp at this; exact this), fun H' p hp => .lst (L2.SqL.of hp) (L2.dw_ints _)⟩
#print axioms PySem.Challenge.cw_pagefiles_s04_read_holds
