import PyProof.Rows.All
import Wide.All
import OpenK.AllK
import Wide.FinOn
import Open.SpecLaws
import KE.OsGo
import HandS.ForSpec
import HandS.Comp
import HandS.Dict
import HandS.Iter
import HandS.Zip
import HandS.Evl
import HandS.Rev
import HandS.RevTup
import KE.KDictList
import HandS.Text
import PySem.Challenge.RW_sureline_s03_parity
/-! ## Hd -/
set_option Elab.async false
set_option linter.all false
set_option maxRecDepth 100000
set_option maxHeartbeats 4000000
namespace Sl
open PySem PySem.Spec PyProof.Rows L2
def topS (i : Nat) : Stmt := PySem.Challenge.pw_sureline_s03_parity.main.body.getD i (.Pass ⟨0, 0, 0, 0⟩)
abbrev s_doubled : Stmt := topS 4
theorem sc_doubled : FnScope ["octet", "twice"] ["octet"] (defScope s_doubled) := ⟨rfl, rfl, rfl, by decide +kernel, rfl, by decide +kernel, by decide +kernel⟩
abbrev s_product_of : Stmt := topS 5
theorem sc_product_of : FnScope ["a", "b", "total", "shifted", "rest"] ["a", "b"] (defScope s_product_of) := ⟨rfl, rfl, rfl, by decide +kernel, rfl, by decide +kernel, by decide +kernel⟩
abbrev s_Field_init : Stmt := inClass (topS 6) 0
theorem sc_Field_init : FnScope ["self", "octet", "exponent"] ["self"] (defScope s_Field_init) := ⟨rfl, rfl, rfl, by decide +kernel, rfl, by decide +kernel, by decide +kernel⟩
abbrev s_Field_power : Stmt := inClass (topS 6) 1
theorem sc_Field_power : FnScope ["self", "exponent"] ["self", "exponent"] (defScope s_Field_power) := ⟨rfl, rfl, rfl, by decide +kernel, rfl, by decide +kernel, by decide +kernel⟩
abbrev s_Field_scaled : Stmt := inClass (topS 6) 4
theorem sc_Field_scaled : FnScope ["self", "row", "factor", "exponent", "octet"] ["self", "row", "factor"] (defScope s_Field_scaled) := ⟨rfl, rfl, rfl, by decide +kernel, rfl, by decide +kernel, by decide +kernel⟩
abbrev s_added : Stmt := topS 10
theorem sc_added : FnScope ["a", "b", "x", "y"] ["a", "b"] (defScope s_added) := ⟨rfl, rfl, rfl, by decide +kernel, rfl, by decide +kernel, by decide +kernel⟩
abbrev s_divisor_of : Stmt := topS 11
theorem sc_divisor_of : FnScope ["field", "divisor", "exponent"] ["field"] (defScope s_divisor_of) := ⟨rfl, rfl, rfl, by decide +kernel, rfl, by decide +kernel, by decide +kernel⟩
abbrev s_Code_init : Stmt := inClass (topS 12) 0
theorem sc_Code_init : FnScope ["self"] ["self"] (defScope s_Code_init) := ⟨rfl, rfl, rfl, by decide +kernel, rfl, by decide +kernel, by decide +kernel⟩
abbrev s_Code_parity_of : Stmt := inClass (topS 12) 1
theorem sc_Code_parity_of : FnScope ["self", "row", "rest", "octet"] ["self", "row"] (defScope s_Code_parity_of) := ⟨rfl, rfl, rfl, by decide +kernel, rfl, by decide +kernel, by decide +kernel⟩
abbrev s_parity : Stmt := topS 14
theorem sc_parity : FnScope ["octets"] ["octets"] (defScope s_parity) := ⟨rfl, rfl, rfl, by decide +kernel, rfl, by decide +kernel, by decide +kernel⟩
structure Adr where
  c_Field : Addr
  c_Code : Addr
  f_doubled : Addr
  d_doubled : FuncData
  f_product_of : Addr
  d_product_of : FuncData
  f_Field_init : Addr
  d_Field_init : FuncData
  f_Field_power : Addr
  d_Field_power : FuncData
  f_Field_scaled : Addr
  d_Field_scaled : FuncData
  f_added : Addr
  d_added : FuncData
  f_divisor_of : Addr
  d_divisor_of : FuncData
  f_Code_init : Addr
  d_Code_init : FuncData
  f_Code_parity_of : Addr
  d_Code_parity_of : FuncData
  f_parity : Addr
  d_parity : FuncData
  t_MODULUS : Tok
  t_ORDER : Tok
  t_LONGEST_ROW : Tok
  t_PARITY : Tok
/-- a def of the top, a method, a class that is made, a class's attributes -/
structure DefF (K : PySem.W.Frag) (mg : Str → Option Value) (x : Str) (st : Stmt) (ps : List Str) (f : Addr) (fd : FuncData) : Prop where
  F : Fun K x x st f fd
  g : mg x = some (.ref f)
  b : Binds K fd ps []
structure DefM (K : PySem.W.Frag) (C : Addr) (x qual : Str) (st : Stmt) (ps : List Str) (f : Addr) (fd : FuncData) : Prop where
  F : Fun K x qual st f fd
  m : Meth K C x f
  b : Binds K fd ps []
structure DefI (K : PySem.W.Frag) (mg : Str → Option Value) (C : Addr) (c qual : Str) (st : Stmt) (ps : List Str) (f : Addr) (fd : FuncData) : Prop where
  F : Fun K "__init__" qual st f fd
  M : Mk K C f
  g : mg c = some (.ref C)
  b : Binds K fd ps []
structure Cl_Field (K : PySem.W.Frag) (C : Addr) : Prop where
  cl : Cls K C
  n_powers : NoAttr K C "powers"
  n_logs : NoAttr K C "logs"
structure Cl_Code (K : PySem.W.Frag) (C : Addr) : Prop where
  cl : Cls K C
  n_field : NoAttr K C "field"
  n_divisor : NoAttr K C "divisor"
structure Top (K : PySem.W.Frag) (mg : Str → Option Value) (A : Adr) : Prop where
  c_Field : Cl_Field K A.c_Field
  c_Code : Cl_Code K A.c_Code
  f_doubled : DefF K mg "doubled" s_doubled ["octet"] A.f_doubled A.d_doubled
  f_product_of : DefF K mg "product_of" s_product_of ["a", "b"] A.f_product_of A.d_product_of
  k_Field : DefI K mg A.c_Field "Field" "Field.__init__" s_Field_init ["self"] A.f_Field_init A.d_Field_init
  f_Field_power : DefM K A.c_Field "power" "Field.power" s_Field_power ["self", "exponent"] A.f_Field_power A.d_Field_power
  f_Field_scaled : DefM K A.c_Field "scaled" "Field.scaled" s_Field_scaled ["self", "row", "factor"] A.f_Field_scaled A.d_Field_scaled
  f_added : DefF K mg "added" s_added ["a", "b"] A.f_added A.d_added
  f_divisor_of : DefF K mg "divisor_of" s_divisor_of ["field"] A.f_divisor_of A.d_divisor_of
  k_Code : DefI K mg A.c_Code "Code" "Code.__init__" s_Code_init ["self"] A.f_Code_init A.d_Code_init
  f_Code_parity_of : DefM K A.c_Code "parity_of" "Code.parity_of" s_Code_parity_of ["self", "row"] A.f_Code_parity_of A.d_Code_parity_of
  f_parity : DefF K mg "parity" s_parity ["octets"] A.f_parity A.d_parity
  g_MODULUS : mg "MODULUS" = some (.int 283 A.t_MODULUS)
  g_ORDER : mg "ORDER" = some (.int 255 A.t_ORDER)
  g_LONGEST_ROW : mg "LONGEST_ROW" = some (.int 255 A.t_LONGEST_ROW)
  g_PARITY : mg "PARITY" = some (.int 16 A.t_PARITY)
  b_len : mg "len" = none
  b_range : mg "range" = none
  b_zip : mg "zip" = none
theorem lk_here {k : Str} {v : V} {r : List (Str × V)} : List.lookup k ((k, v) :: r) = some v := by
  have e : (k == k) = true := beq_self_eq_true k
  simp only [List.lookup, e]
theorem lk_past {k g : Str} {v : V} {r : List (Str × V)} (h : (k == g) = false) : List.lookup k ((g, v) :: r) = List.lookup k r := by
  simp only [List.lookup, h]
theorem put_here {f : Str} {v x : V} {r : List (Str × V)} : putF f v ((f, x) :: r) = (f, v) :: r := if_pos rfl
theorem put_past {f g : Str} {v x : V} {r r' : List (Str × V)} (h : ¬ g = f) (e : putF f v r = r') : putF f v ((g, x) :: r) = (g, x) :: r' := by
  have : putF f v ((g, x) :: r) = (g, x) :: putF f v r := if_neg h
  rw [this, e]
theorem put_end {f : Str} {v : V} : putF f v [] = [(f, v)] := rfl
def fl_Field (v0 v1 : V) : List (Str × V) := [("powers", v0), ("logs", v1)]
theorem lk_Field_powers {v0 v1 : V} : (fl_Field v0 v1).lookup ("powers" : Str) = some v0 := lk_here
theorem pt_Field_powers {v0 v1 x : V} : putF "powers" x (fl_Field v0 v1) = fl_Field x v1 := put_here
theorem lk_Field_logs {v0 v1 : V} : (fl_Field v0 v1).lookup ("logs" : Str) = some v1 := (lk_past (by decide +kernel)).trans (lk_here)
theorem pt_Field_logs {v0 v1 x : V} : putF "logs" x (fl_Field v0 v1) = fl_Field v0 x := put_past (by decide +kernel) (put_here)
theorem no_Field_power {v0 v1 : V} : (fl_Field v0 v1).lookup ("power" : Str) = none := (lk_past (by decide +kernel)).trans ((lk_past (by decide +kernel)).trans (rfl))
theorem no_Field_scaled {v0 v1 : V} : (fl_Field v0 v1).lookup ("scaled" : Str) = none := (lk_past (by decide +kernel)).trans ((lk_past (by decide +kernel)).trans (rfl))
def fl_Code (v0 v1 : V) : List (Str × V) := [("field", v0), ("divisor", v1)]
theorem lk_Code_field {v0 v1 : V} : (fl_Code v0 v1).lookup ("field" : Str) = some v0 := lk_here
theorem pt_Code_field {v0 v1 x : V} : putF "field" x (fl_Code v0 v1) = fl_Code x v1 := put_here
theorem lk_Code_divisor {v0 v1 : V} : (fl_Code v0 v1).lookup ("divisor" : Str) = some v1 := (lk_past (by decide +kernel)).trans (lk_here)
theorem pt_Code_divisor {v0 v1 x : V} : putF "divisor" x (fl_Code v0 v1) = fl_Code v0 x := put_past (by decide +kernel) (put_here)
theorem no_Code_parity_of {v0 v1 : V} : (fl_Code v0 v1).lookup ("parity_of" : Str) = none := (lk_past (by decide +kernel)).trans ((lk_past (by decide +kernel)).trans (rfl))
end Sl
/-! ## GfA -/
set_option Elab.async false
set_option maxRecDepth 100000
namespace Gf
open Fm11

theorem xlt {a b : Nat} (ha : a < 256) (hb : b < 256) : a ^^^ b < 256 := Nat.xor_lt_two_pow (n := 8) ha hb

theorem twice_eq {a : Nat} (h : a < 256) : twice a = (2 * a) ^^^ (0x11B * (a / 128)) := by
  unfold twice
  by_cases c : a < 128
  · rw [if_pos c, Nat.div_eq_of_lt c]; simp
  · rw [if_neg c]
    have : a / 128 = 1 := by omega
    rw [this]

theorem twice_lt {a : Nat} (h : a < 256) : twice a < 256 := by
  revert h; revert a; decide +kernel

theorem two_xor (a b : Nat) : 2 * (a ^^^ b) = (2 * a) ^^^ (2 * b) := by
  have := Nat.shiftLeft_xor_distrib (i := 1) (a := a) (b := b)
  simp only [Nat.shiftLeft_eq, Nat.pow_one] at this
  rw [Nat.mul_comm 2, Nat.mul_comm 2, Nat.mul_comm 2]; exact this

theorem div_xor (a b : Nat) (k : Nat) : (a ^^^ b) / 2 ^ k = (a / 2 ^ k) ^^^ (b / 2 ^ k) := by
  have := Nat.shiftRight_xor_distrib (i := k) (a := a) (b := b)
  simpa only [Nat.shiftRight_eq_div_pow] using this

theorem twice_xor {a b : Nat} (ha : a < 256) (hb : b < 256) : twice (a ^^^ b) = twice a ^^^ twice b := by
  rw [twice_eq ha, twice_eq hb, twice_eq (xlt ha hb), two_xor]
  have e := div_xor a b 7
  have e7 : (2 : Nat) ^ 7 = 128 := rfl
  rw [e7] at e
  rw [e]
  have h1 : a / 128 = 0 ∨ a / 128 = 1 := by omega
  have h2 : b / 128 = 0 ∨ b / 128 = 1 := by omega
  have sw : ∀ p q r s : Nat, (p ^^^ q) ^^^ (r ^^^ s) = (p ^^^ r) ^^^ (q ^^^ s) := by
    intro p q r s
    simp only [Nat.xor_assoc]
    rw [← Nat.xor_assoc q r s, Nat.xor_comm q r, Nat.xor_assoc r q s]
  rcases h1 with h1 | h1 <;> rcases h2 with h2 | h2 <;> rw [h1, h2, sw] <;> rfl

/-- one turn of the product -/
def turn (a b r i : Nat) : Nat := if b / 2 ^ (7 - i) % 2 = 1 then twice r ^^^ a else twice r
theorem times_fold (a b : Nat) : times a b = (List.range 8).foldl (turn a b) 0 := rfl

theorem turn_lt {a b r i : Nat} (ha : a < 256) (hr : r < 256) : turn a b r i < 256 := by
  unfold turn; split
  · exact xlt (twice_lt hr) ha
  · exact twice_lt hr
theorem fold_lt {a b : Nat} (ha : a < 256) : ∀ (l : List Nat) (r : Nat), r < 256 → l.foldl (turn a b) r < 256
  | [], _, h => h
  | i :: l, r, h => fold_lt ha l _ (turn_lt ha h)
theorem times_lt {a : Nat} (b : Nat) (ha : a < 256) : times a b < 256 := fold_lt ha _ _ (by decide)

theorem x4 (p q r s : Nat) : (p ^^^ q) ^^^ (r ^^^ s) = (p ^^^ r) ^^^ (q ^^^ s) := by
  simp only [Nat.xor_assoc]
  rw [← Nat.xor_assoc q r s, Nat.xor_comm q r, Nat.xor_assoc r q s]

theorem turn_left {a a' b r r' i : Nat} (hr : r < 256) (hr' : r' < 256) :
    turn (a ^^^ a') b (r ^^^ r') i = turn a b r i ^^^ turn a' b r' i := by
  unfold turn
  split
  · rw [twice_xor hr hr', x4]
  · rw [twice_xor hr hr']
theorem fold_left {a a' b : Nat} (ha : a < 256) (ha' : a' < 256) : ∀ (l : List Nat) (r r' : Nat), r < 256 → r' < 256 →
    l.foldl (turn (a ^^^ a') b) (r ^^^ r') = l.foldl (turn a b) r ^^^ l.foldl (turn a' b) r'
  | [], _, _, _, _ => rfl
  | i :: l, r, r', h, h' => by
    simp only [List.foldl_cons]
    rw [turn_left h h']
    exact fold_left ha ha' l _ _ (turn_lt ha h) (turn_lt ha' h')
theorem times_xor_left {a a' : Nat} (b : Nat) (ha : a < 256) (ha' : a' < 256) : times (a ^^^ a') b = times a b ^^^ times a' b := by
  have := fold_left (b := b) ha ha' (List.range 8) 0 0 (by decide) (by decide)
  exact this

theorem bit_xor (b c k : Nat) : (b ^^^ c) / 2 ^ k % 2 = (b / 2 ^ k % 2) ^^^ (c / 2 ^ k % 2) := by
  rw [div_xor]
  have := Nat.xor_mod_two_pow (n := 1) (a := b / 2 ^ k) (b := c / 2 ^ k)
  simpa using this

theorem turn_right {a b c r r' i : Nat} (hr : r < 256) (hr' : r' < 256) :
    turn a (b ^^^ c) (r ^^^ r') i = turn a b r i ^^^ turn a c r' i := by
  unfold turn
  rw [bit_xor, twice_xor hr hr']
  have h1 : b / 2 ^ (7 - i) % 2 = 0 ∨ b / 2 ^ (7 - i) % 2 = 1 := by omega
  have h2 : c / 2 ^ (7 - i) % 2 = 0 ∨ c / 2 ^ (7 - i) % 2 = 1 := by omega
  rcases h1 with h1 | h1 <;> rcases h2 with h2 | h2 <;> rw [h1, h2]
  · rw [if_neg (by decide), if_neg (by decide), if_neg (by decide)]
  · rw [if_pos (by decide), if_neg (by decide), if_pos (by decide), Nat.xor_assoc]
  · rw [if_pos (by decide), if_pos (by decide), if_neg (by decide), Nat.xor_assoc, Nat.xor_assoc, Nat.xor_comm a]
  · rw [if_neg (by decide), if_pos (by decide), if_pos (by decide), x4, Nat.xor_self, Nat.xor_zero]
theorem fold_right {a b c : Nat} (ha : a < 256) : ∀ (l : List Nat) (r r' : Nat), r < 256 → r' < 256 →
    l.foldl (turn a (b ^^^ c)) (r ^^^ r') = l.foldl (turn a b) r ^^^ l.foldl (turn a c) r'
  | [], _, _, _, _ => rfl
  | i :: l, r, r', h, h' => by
    simp only [List.foldl_cons]
    rw [turn_right h h']
    exact fold_right ha l _ _ (turn_lt ha h) (turn_lt ha h')
theorem times_xor_right {a : Nat} (b c : Nat) (ha : a < 256) : times a (b ^^^ c) = times a b ^^^ times a c := by
  have := fold_right (b := b) (c := c) ha (List.range 8) 0 0 (by decide) (by decide)
  exact this

theorem turn_twice {a b r i : Nat} (ha : a < 256) (hr : r < 256) : turn (twice a) b (twice r) i = twice (turn a b r i) := by
  unfold turn
  split
  · rw [twice_xor (twice_lt hr) ha]
  · rfl
theorem fold_twice {a b : Nat} (ha : a < 256) : ∀ (l : List Nat) (r : Nat), r < 256 →
    l.foldl (turn (twice a) b) (twice r) = twice (l.foldl (turn a b) r)
  | [], _, _ => rfl
  | i :: l, r, h => by
    simp only [List.foldl_cons]
    rw [turn_twice ha h]
    exact fold_twice ha l _ (turn_lt ha h)
theorem times_twice_left {a : Nat} (b : Nat) (ha : a < 256) : times (twice a) b = twice (times a b) := by
  have := fold_twice (b := b) ha (List.range 8) 0 (by decide)
  exact this

theorem zero_times (b : Nat) : times 0 b = 0 := by
  have : ∀ (l : List Nat), l.foldl (turn 0 b) 0 = 0 := by
    intro l
    induction l with
    | nil => rfl
    | cons i l ih =>
      rw [List.foldl_cons]
      have : turn 0 b 0 i = 0 := by unfold turn; split <;> rfl
      rw [this]; exact ih
  exact this _
theorem times_zero (a : Nat) : times a 0 = 0 := by
  have : ∀ (l : List Nat), l.foldl (turn a 0) 0 = 0 := by
    intro l
    induction l with
    | nil => rfl
    | cons i l ih =>
      rw [List.foldl_cons]
      have : turn a 0 0 i = 0 := by
        unfold turn
        rw [if_neg (by simp)]; rfl
      rw [this]; exact ih
  exact this _
theorem one_times : ∀ b < 256, times 1 b = b := by decide +kernel
theorem times_one : ∀ b < 256, times b 1 = b := by decide +kernel

/-- what holds of 0 and 1 and goes on by doubling and by sums holds of each byte -/
theorem byte_ind {p : Nat → Prop} (h0 : p 0) (h1 : p 1) (ht : ∀ a, a < 256 → p a → p (twice a)) (hx : ∀ a b, a < 256 → b < 256 → p a → p b → p (a ^^^ b)) : ∀ a, a < 256 → p a := by
  intro a
  induction a using Nat.strongRecOn with
  | ind a ih =>
    intro h
    by_cases c : a = 0
    · rw [c]; exact h0
    have hh := ih (a / 2) (by omega) (by omega)
    have h2 : p (twice (a / 2)) := ht _ (by omega) hh
    have e2 : twice (a / 2) = 2 * (a / 2) := by unfold twice; rw [if_pos (by omega)]
    have h3 : a % 2 = 0 ∨ a % 2 = 1 := by omega
    rcases h3 with h3 | h3
    · have : a = twice (a / 2) := by rw [e2]; omega
      rw [this]; exact h2
    · have : a = twice (a / 2) ^^^ 1 := by
        rw [e2]
        have : (2 * (a / 2)) ^^^ 1 = 2 * (a / 2) + 1 := by
          apply Nat.eq_of_testBit_eq
          intro i
          rw [Nat.testBit_xor]
          cases i with
          | zero => simp
          | succ i =>
            have e1 : 2 * (a / 2) / 2 = a / 2 := by omega
            have e2 : (2 * (a / 2) + 1) / 2 = a / 2 := by omega
            rw [Nat.testBit_succ, Nat.testBit_succ, Nat.testBit_succ, e1, e2]
            simp
        rw [this]; omega
      rw [this]; exact hx _ _ (twice_lt (by omega)) (by decide) h2 h1

theorem times_twice_right {b : Nat} (hb : b < 256) : ∀ a, a < 256 → times a (twice b) = twice (times a b) := by
  apply byte_ind
  · rw [zero_times, zero_times]; rfl
  · rw [one_times _ hb, one_times _ (twice_lt hb)]
  · intro a ha h
    rw [times_twice_left _ ha, times_twice_left _ ha, h]
  · intro a c ha hc h h'
    rw [times_xor_left _ ha hc, times_xor_left _ ha hc, h, h', twice_xor (times_lt _ ha) (times_lt _ hc)]

theorem times_comm {b : Nat} (hb : b < 256) : ∀ a, a < 256 → times a b = times b a := by
  apply byte_ind
  · rw [zero_times, times_zero]
  · rw [one_times _ hb, times_one _ hb]
  · intro a ha h
    rw [times_twice_left _ ha, h, times_twice_right ha _ hb]
  · intro a c ha hc h h'
    rw [times_xor_left _ ha hc, h, h', times_xor_right _ _ hb]

theorem times_assoc {b c : Nat} (hb : b < 256) : ∀ a, a < 256 → times (times a b) c = times a (times b c) := by
  apply byte_ind
  · rw [zero_times, zero_times, zero_times]
  · rw [one_times _ hb, one_times _ (times_lt _ hb)]
  · intro a ha h
    rw [times_twice_left _ ha, times_twice_left _ ha, times_twice_left _ (times_lt _ ha), h]
  · intro a d ha hd h h'
    rw [times_xor_left _ ha hd, times_xor_left _ ha hd, times_xor_left _ (times_lt _ ha) (times_lt _ hd), h, h']

theorem power_lt : ∀ k, power k < 256
  | 0 => by decide
  | k + 1 => by
    show times 3 (power k) < 256
    exact times_lt _ (by decide)
/-- the first 255 powers, one behind another -/
def pows : Nat → Nat → List Nat
  | 0, _ => []
  | n + 1, x => x :: pows n (times 3 x)
theorem pows_at : ∀ (n k i : Nat), i < n → (pows n (power k)).getD i 0 = power (k + i)
  | 0, _, _, h => absurd h (Nat.not_lt_zero _)
  | n + 1, k, 0, _ => rfl
  | n + 1, k, i + 1, h => by
    show (pows n (power (k + 1))).getD i 0 = _
    rw [pows_at n (k + 1) i (by omega)]
    congr 1; omega
def table : List Nat := pows 255 1
theorem table_at {i : Nat} (h : i < 255) : table.getD i 0 = power i := by
  have := pows_at 255 0 i h
  rw [Nat.zero_add] at this; exact this
theorem power_255 : power 255 = 1 := by decide +kernel
theorem table_all : ∀ a < 256, a ≠ 0 → (table.idxOf a < 255 ∧ table.getD (table.idxOf a) 0 = a) := by decide +kernel
/-- to which power 3 is a byte -/
def lg (a : Nat) : Nat := table.idxOf a
theorem lg_lt {a : Nat} (h : a < 256) (h0 : a ≠ 0) : lg a < 255 := (table_all a h h0).1
theorem power_lg {a : Nat} (h : a < 256) (h0 : a ≠ 0) : power (lg a) = a := by
  rw [← table_at (lg_lt h h0)]; exact (table_all a h h0).2

theorem power_add (i : Nat) : ∀ j, times (power i) (power j) = power (i + j)
  | 0 => times_one _ (power_lt _)
  | j + 1 => by
    show times (power i) (times 3 (power j)) = times 3 (power (i + j))
    rw [← power_add i j, ← times_assoc (power_lt _) 3 (by decide), ← times_assoc (by decide) _ (power_lt _), times_comm (by decide) _ (power_lt i)]
theorem power_mod (i : Nat) : power i = power (i % 255) := by
  induction i using Nat.strongRecOn with
  | ind i ih =>
    by_cases c : i < 255
    · rw [Nat.mod_eq_of_lt c]
    · have e : i = 255 + (i - 255) := by omega
      have : power i = power (i - 255) := by
        conv => lhs; rw [e]
        rw [← power_add, power_255, one_times _ (power_lt _)]
      rw [this, ih _ (by omega)]
      congr 1; omega
theorem lg_all : ∀ i < 255, table.idxOf (table.getD i 0) = i := by decide +kernel
theorem lg_power {i : Nat} (h : i < 255) : lg (power i) = i := by
  rw [← table_at h]; exact lg_all i h
theorem power_ne : ∀ i, power i ≠ 0 := by
  have : ∀ i < 255, table.getD i 0 ≠ 0 := by decide +kernel
  intro i
  rw [power_mod, ← table_at (Nat.mod_lt _ (by decide))]
  exact this _ (Nat.mod_lt _ (by decide))
theorem power_inj {i j : Nat} (hi : i < 255) (hj : j < 255) (h : power i = power j) : i = j := by
  have := congrArg lg h
  rwa [lg_power hi, lg_power hj] at this

/-- the one whose product with a is 1 -/
theorem times_eq_one {a : Nat} (ha : a < 256) (h0 : a ≠ 0) {x : Nat} (hx : x < 256) : times a x = 1 ↔ x = power (255 - lg a) := by
  have hl := lg_lt ha h0
  constructor
  · intro h
    have : times (power (255 - lg a)) (times a x) = power (255 - lg a) := by rw [h]; exact times_one _ (power_lt _)
    rw [← times_assoc ha _ (power_lt _)] at this
    have e : times (power (255 - lg a)) a = 1 := by
      conv => lhs; arg 2; rw [← power_lg ha h0]
      rw [power_add, show 255 - lg a + lg a = 255 by omega]; exact power_255
    rw [e, one_times _ hx] at this
    exact this
  · intro h
    rw [h]
    conv => lhs; arg 1; rw [← power_lg ha h0]
    rw [power_add, show lg a + (255 - lg a) = 255 by omega]; exact power_255
theorem find_unique {p : Nat → Bool} {y : Nat} : ∀ (l : List Nat), y ∈ l → p y = true → (∀ x ∈ l, p x = true → x = y) → l.find? p = some y
  | [], h, _, _ => absurd h (List.not_mem_nil)
  | x :: l, h, hp, hu => by
    by_cases c : p x = true
    · rw [List.find?_cons_of_pos c, hu x (List.mem_cons_self ..) c]
    · rw [List.find?_cons_of_neg c]
      refine find_unique l ?_ hp fun z hz => hu z (List.mem_cons_of_mem _ hz)
      rcases List.mem_cons.mp h with h | h
      · rw [h] at hp; exact absurd hp c
      · exact h
theorem inverse_eq {a : Nat} (ha : a < 256) (h0 : a ≠ 0) : inverse a = power (255 - lg a) := by
  unfold inverse
  rw [find_unique (y := power (255 - lg a)) (List.range 256) (List.mem_range.mpr (power_lt _))]
  · rfl
  · rw [beq_iff_eq]; exact (times_eq_one ha h0 (power_lt _)).mpr rfl
  · intro x hx h
    rw [beq_iff_eq] at h
    exact (times_eq_one ha h0 (List.mem_range.mp hx)).mp h
theorem inverse_zero : inverse 0 = 0 := by
  unfold inverse
  have : (List.range 256).find? (fun x => times 0 x == 1) = none := by
    rw [List.find?_eq_none]
    intro x _
    rw [zero_times]; decide
  rw [this]; rfl
theorem inverse_lt {a : Nat} (ha : a < 256) : inverse a < 256 := by
  by_cases c : a = 0
  · rw [c, inverse_zero]; decide
  · rw [inverse_eq ha c]; exact power_lt _
theorem times_inverse {a : Nat} (ha : a < 256) (h0 : a ≠ 0) : times a (inverse a) = 1 := by
  rw [inverse_eq ha h0]; exact (times_eq_one ha h0 (power_lt _)).mpr rfl
theorem times_ne {a b : Nat} (ha : a < 256) (hb : b < 256) (ha0 : a ≠ 0) (hb0 : b ≠ 0) : times a b ≠ 0 := by
  rw [← power_lg ha ha0, ← power_lg hb hb0, power_add]
  exact power_ne _
/-- a product by sums of powers -/
theorem times_lg {a b : Nat} (ha : a < 256) (hb : b < 256) (ha0 : a ≠ 0) (hb0 : b ≠ 0) : times a b = power ((lg a + lg b) % 255) := by
  conv => lhs; rw [← power_lg ha ha0, ← power_lg hb hb0]
  rw [power_add, power_mod]
end Gf
/-! ## BmA -/
set_option Elab.async false
namespace Bm
open Lean.Grind
variable {F : Type} [Field F]

def sm : Nat → (Nat → F) → F
  | 0, _ => 0
  | n + 1, f => sm n f + f n
theorem sm_congr {f g : Nat → F} : ∀ n, (∀ i, i < n → f i = g i) → sm n f = sm n g
  | 0, _ => rfl
  | n + 1, h => by
    show sm n f + f n = sm n g + g n
    rw [sm_congr n fun i hi => h i (by omega), h n (by omega)]
theorem sm_zero {f : Nat → F} : ∀ n, (∀ i, i < n → f i = 0) → sm n f = 0
  | 0, _ => rfl
  | n + 1, h => by
    show sm n f + f n = 0
    rw [sm_zero n fun i hi => h i (by omega), h n (by omega)]
    grind
theorem sm_add (f g : Nat → F) : ∀ n, sm n (fun i => f i + g i) = sm n f + sm n g
  | 0 => by show (0 : F) = 0 + 0; grind
  | n + 1 => by
    show sm n _ + (f n + g n) = (sm n f + f n) + (sm n g + g n)
    rw [sm_add f g n]; grind
theorem sm_sub (f g : Nat → F) : ∀ n, sm n (fun i => f i - g i) = sm n f - sm n g
  | 0 => by show (0 : F) = 0 - 0; grind
  | n + 1 => by
    show sm n _ + (f n - g n) = (sm n f + f n) - (sm n g + g n)
    rw [sm_sub f g n]; grind
theorem sm_mul (c : F) (f : Nat → F) : ∀ n, sm n (fun i => c * f i) = c * sm n f
  | 0 => by show (0 : F) = c * 0; grind
  | n + 1 => by
    show sm n _ + c * f n = c * (sm n f + f n)
    rw [sm_mul c f n]; grind
theorem sm_left (f : Nat → F) : ∀ n, sm (n + 1) f = f 0 + sm n (fun i => f (i + 1))
  | 0 => by show (0 : F) + f 0 = f 0 + 0; grind
  | n + 1 => by
    show sm (n + 1) f + f (n + 1) = f 0 + (sm n (fun i => f (i + 1)) + f (n + 1))
    rw [sm_left f n]; grind
/-- what lies behind n is 0: so much more may be summed -/
theorem sm_more {f : Nat → F} {n : Nat} (h : ∀ i, n ≤ i → f i = 0) : ∀ k, sm (n + k) f = sm n f
  | 0 => rfl
  | k + 1 => by
    show sm (n + k) f + f (n + k) = _
    rw [sm_more h k, h (n + k) (by omega)]; grind
theorem sm_to {f : Nat → F} {n m : Nat} (hm : n ≤ m) (h : ∀ i, n ≤ i → f i = 0) : sm m f = sm n f := by
  obtain ⟨k, rfl⟩ : ∃ k, m = n + k := ⟨m - n, by omega⟩
  exact sm_more h k
theorem sm_to' {f : Nat → F} {n m : Nat} (hm : n ≤ m) (h : ∀ i, n ≤ i → i < m → f i = 0) : sm m f = sm n f := by
  obtain ⟨k, rfl⟩ : ∃ k, m = n + k := ⟨m - n, by omega⟩
  clear hm
  induction k with
  | zero => rfl
  | succ k ih =>
    show sm (n + k) f + f (n + k) = _
    rw [ih fun i h1 h2 => h i h1 (by omega), h (n + k) (by omega) (by omega)]; grind
/-- by one place further -/
def sh (f : Nat → F) : Nat → F
  | 0 => 0
  | k + 1 => f k
/-- by m places -/
def shm (m : Nat) (f : Nat → F) : Nat → F := fun k => if k < m then 0 else f (k - m)
theorem sm_shm (m : Nat) (f : Nat → F) : ∀ n, sm (m + n) (shm m f) = sm n f
  | 0 => by
    apply sm_zero
    intro i hi
    show (if i < m then (0 : F) else _) = 0
    rw [if_pos (by omega)]
  | n + 1 => by
    show sm (m + n) (shm m f) + shm m f (m + n) = sm n f + f n
    rw [sm_shm m f n]
    have : shm m f (m + n) = f n := by
      show (if m + n < m then (0 : F) else f (m + n - m)) = _
      rw [if_neg (by omega)]; congr 1; omega
    rw [this]

/-- the product's coefficient -/
def conv (c s : Nat → F) (k : Nat) : F := sm (k + 1) fun i => c i * s (k - i)
def xconv (c s : Nat → F) : Nat → F := sh (conv c s)
theorem conv_add (a b s : Nat → F) (k : Nat) : conv (fun i => a i + b i) s k = conv a s k + conv b s k := by
  show sm (k + 1) _ = sm (k + 1) _ + sm (k + 1) _
  rw [← sm_add]
  exact sm_congr _ fun i _ => by grind
theorem conv_mul (d : F) (b s : Nat → F) (k : Nat) : conv (fun i => d * b i) s k = d * conv b s k := by
  show sm (k + 1) _ = d * sm (k + 1) _
  rw [← sm_mul]
  exact sm_congr _ fun i _ => by grind
theorem conv_shm (m : Nat) (b s : Nat → F) (k : Nat) : conv (shm m b) s k = shm m (conv b s) k := by
  by_cases h : k < m
  · show sm (k + 1) _ = if k < m then 0 else _
    rw [if_pos h]
    apply sm_zero
    intro i hi
    show (if i < m then (0 : F) else _) * _ = 0
    rw [if_pos (by omega)]; grind
  · show sm (k + 1) _ = if k < m then 0 else conv b s (k - m)
    rw [if_neg h]
    have e : m + (k - m + 1) = k + 1 := by omega
    have e2 := sm_shm m (fun i => b i * s (k - m - i)) (k - m + 1)
    rw [e] at e2
    refine Eq.trans ?_ e2
    refine sm_congr _ fun i hi => ?_
    show (if i < m then (0 : F) else b (i - m)) * s (k - i) = if i < m then 0 else b (i - m) * s (k - m - (i - m))
    by_cases g : i < m
    · rw [if_pos g, if_pos g]; grind
    · rw [if_neg g, if_neg g]
      have : k - m - (i - m) = k - i := by omega
      rw [this]
theorem xconv_add (a b s : Nat → F) (k : Nat) : xconv (fun i => a i + b i) s k = xconv a s k + xconv b s k := by
  cases k with
  | zero => show (0 : F) = 0 + 0; grind
  | succ k => exact conv_add a b s k
theorem xconv_mul (d : F) (b s : Nat → F) (k : Nat) : xconv (fun i => d * b i) s k = d * xconv b s k := by
  cases k with
  | zero => show (0 : F) = d * 0; grind
  | succ k => exact conv_mul d b s k
theorem xconv_shm (m : Nat) (b s : Nat → F) (k : Nat) : xconv (shm m b) s k = shm m (xconv b s) k := by
  cases k with
  | zero =>
    show (0 : F) = if 0 < m then 0 else xconv b s (0 - m)
    split
    · rfl
    · have : 0 - m = 0 := by omega
      rw [this]; rfl
  | succ k =>
    show conv (shm m b) s k = if k + 1 < m then 0 else xconv b s (k + 1 - m)
    rw [conv_shm]
    show (if k < m then (0 : F) else conv b s (k - m)) = _
    by_cases h : k < m
    · rw [if_pos h]
      by_cases g : k + 1 < m
      · rw [if_pos g]
      · rw [if_neg g]
        have : k + 1 - m = 0 := by omega
        rw [this]; rfl
    · rw [if_neg h, if_neg (by omega)]
      have : k + 1 - m = (k - m) + 1 := by omega
      rw [this]; rfl

/-- what the first n coefficients are worth at x -/
def pev (n : Nat) (c : Nat → F) (x : F) : F := sm n fun i => c i * x ^ i
theorem pev_add (n : Nat) (a b : Nat → F) (x : F) : pev n (fun i => a i + b i) x = pev n a x + pev n b x := by
  show sm n _ = sm n _ + sm n _
  rw [← sm_add]
  exact sm_congr _ fun i _ => by grind
theorem pev_mul (n : Nat) (d : F) (b : Nat → F) (x : F) : pev n (fun i => d * b i) x = d * pev n b x := by
  show sm n _ = d * sm n _
  rw [← sm_mul]
  exact sm_congr _ fun i _ => by grind
theorem pow_add' (x : F) (a b : Nat) : x ^ (a + b) = x ^ a * x ^ b := by
  induction b with
  | zero => rw [Nat.add_zero, Semiring.pow_zero]; grind
  | succ b ih => rw [← Nat.add_assoc, Semiring.pow_succ, Semiring.pow_succ, ih]; grind
theorem pev_shm {n m k : Nat} {b : Nat → F} (h : ∀ i, k ≤ i → b i = 0) (hn : k + m ≤ n) (x : F) : pev n (shm m b) x = x ^ m * pev n b x := by
  have e1 : pev n b x = pev k b x := sm_to (by omega) fun i hi => by rw [h i hi]; grind
  have e2 : pev n (shm m b) x = sm (m + k) fun i => shm m b i * x ^ i := by
    refine sm_to (by omega) fun i hi => ?_
    show (if i < m then (0 : F) else b (i - m)) * _ = 0
    rw [if_neg (by omega), h (i - m) (by omega)]; grind
  rw [e1, e2]
  show _ = x ^ m * sm k (fun i => b i * x ^ i)
  rw [← sm_mul]
  refine Eq.trans ?_ (sm_shm m (fun i => x ^ m * (b i * x ^ i)) k)
  refine sm_congr _ fun i hi => ?_
  show (if i < m then (0 : F) else b (i - m)) * x ^ i = if i < m then 0 else x ^ m * (b (i - m) * x ^ (i - m))
  by_cases g : i < m
  · rw [if_pos g, if_pos g]; grind
  · rw [if_neg g, if_neg g]
    have e : x ^ i = x ^ m * x ^ (i - m) := by
      rw [← pow_add']; congr 1; omega
    rw [e]; grind

theorem mul_ne {a b : F} (ha : a ≠ 0) (hb : b ≠ 0) : a * b ≠ 0 := by
  intro h
  have : a⁻¹ * (a * b) = 0 := by rw [h]; grind
  have e := Field.mul_inv_cancel ha
  apply hb
  have : b = a⁻¹ * (a * b) := by grind
  grind
theorem eq_zero_of {a b : F} (ha : a ≠ 0) (h : a * b = 0) : b = 0 := by
  by_cases hb : b = 0
  · exact hb
  · exact absurd h (mul_ne ha hb)
theorem pow_ne {a : F} (ha : a ≠ 0) : ∀ n : Nat, a ^ n ≠ 0
  | 0 => by
    rw [Semiring.pow_zero]
    exact fun h => Field.zero_ne_one (α := F) h.symm
  | n + 1 => by rw [Semiring.pow_succ]; exact mul_ne (pow_ne ha n) ha

/-- division by x - y: the quotient's coefficients, the rest ahead of them -/
def quo (n : Nat) (c : Nat → F) (y : F) (i : Nat) : F := sm (n - i) fun j => c (i + j) * y ^ j
theorem quo_step {n : Nat} {c : Nat → F} {y : F} {i : Nat} (h : i < n) : quo n c y i = c i + y * quo n c y (i + 1) := by
  show sm (n - i) _ = _
  have e : n - i = (n - (i + 1)) + 1 := by omega
  rw [e, sm_left]
  show c (i + 0) * y ^ 0 + _ = c i + y * sm (n - (i + 1)) _
  rw [← sm_mul, Semiring.pow_zero, Nat.add_zero]
  have : (sm (n - (i + 1)) fun j => c (i + (j + 1)) * y ^ (j + 1)) = sm (n - (i + 1)) fun j => y * (c (i + 1 + j) * y ^ j) := by
    refine sm_congr _ fun j _ => ?_
    have : i + (j + 1) = i + 1 + j := by omega
    rw [this, Semiring.pow_succ]; grind
  rw [this]; grind
theorem quo_end {n : Nat} {c : Nat → F} {y : F} : quo n c y n = 0 := by
  show sm (n - n) _ = 0
  rw [Nat.sub_self]; rfl
theorem quo_zero {n : Nat} {c : Nat → F} {y : F} : quo n c y 0 = pev n c y := by
  show sm (n - 0) _ = sm n _
  rw [Nat.sub_zero]
  exact sm_congr _ fun i _ => by rw [Nat.zero_add]
theorem pev_div (n : Nat) (c : Nat → F) (y z : F) : pev (n + 1) c z = pev (n + 1) c y + (z - y) * pev n (fun i => quo (n + 1) c y (i + 1)) z := by
  have e : pev (n + 1) c z = sm (n + 1) fun i => quo (n + 1) c y i * z ^ i - y * (quo (n + 1) c y (i + 1) * z ^ i) := by
    refine sm_congr _ fun i hi => ?_
    show c i * z ^ i = _
    rw [quo_step (i := i) hi]; grind
  rw [e, sm_sub, sm_left, sm_mul]
  have e2 : (sm (n + 1) fun i => quo (n + 1) c y (i + 1) * z ^ i) = pev n (fun i => quo (n + 1) c y (i + 1)) z := by
    show sm n _ + quo (n + 1) c y (n + 1) * z ^ n = _
    rw [quo_end]
    show sm n _ + _ = sm n _
    grind
  have e3 : (sm n fun i => quo (n + 1) c y (i + 1) * z ^ (i + 1)) = z * pev n (fun i => quo (n + 1) c y (i + 1)) z := by
    show _ = z * sm n _
    rw [← sm_mul]
    exact sm_congr _ fun i _ => by rw [Semiring.pow_succ]; grind
  rw [e2, e3, quo_zero, Semiring.pow_zero]
  grind
/-- **a polynomial of n coefficients with n roots is 0** -/
theorem roots_zero : ∀ (n : Nat) (c : Nat → F) (ys : List F), ys.Nodup → n ≤ ys.length → (∀ y ∈ ys, pev n c y = 0) → ∀ i, i < n → c i = 0
  | 0, _, _, _, _, _, _, h => absurd h (Nat.not_lt_zero _)
  | n + 1, c, [], _, h, _, _, _ => absurd h (Nat.not_succ_le_zero _)
  | n + 1, c, y :: ys, hd, hl, hr, i, hi => by
    have hd' := List.nodup_cons.mp hd
    have hy : pev (n + 1) c y = 0 := hr y (List.mem_cons_self ..)
    have hq : ∀ j, j < n → quo (n + 1) c y (j + 1) = 0 := by
      refine roots_zero n (fun i => quo (n + 1) c y (i + 1)) ys hd'.2 (Nat.le_of_succ_le_succ hl) ?_
      intro z hz
      have h1 : pev (n + 1) c z = 0 := hr z (List.mem_cons_of_mem _ hz)
      rw [pev_div n c y z, hy] at h1
      have hne : z - y ≠ 0 := by
        intro h
        have : z = y := by grind
        rw [this] at hz
        exact hd'.1 hz
      refine eq_zero_of hne ?_
      grind
    have hs := quo_step (c := c) (y := y) hi
    have h0 : quo (n + 1) c y (i + 1) = 0 := by
      by_cases g : i < n
      · exact hq i g
      · have : i + 1 = n + 1 := by omega
        rw [this]; exact quo_end
    have h1 : quo (n + 1) c y i = 0 := by
      cases i with
      | zero => rw [quo_zero]; exact hy
      | succ i => exact hq i (by omega)
    rw [h0, h1] at hs
    grind

/-! ### The shortest recurrence -/
/-- where n numbers of s have been gone through: c the recurrence, l its length; b the one before, m how long ago, d what it missed by; o and a are the products with s, one place on, as far as they are polynomials -/
structure Inv (s : Nat → F) (n : Nat) (c : Nat → F) (l : Nat) (b : Nat → F) (m : Nat) (d : F) (o a : Nat → F) (lb : Nat) : Prop where
  len : l + lb + m = n + 1
  le : l ≤ n
  m1 : 1 ≤ m
  d0 : d ≠ 0
  c0 : c 0 = 1
  cl : ∀ i, l < i → c i = 0
  bl : ∀ i, lb < i → b i = 0
  ol : ∀ i, l < i → o i = 0
  al : ∀ i, lb < i → a i = 0
  oc : ∀ k, k ≤ n → xconv c s k = o k
  ab : ∀ k, k + m < n + 1 → xconv b s k = a k
  ad : ∀ k, k + m = n + 1 → xconv b s k = a k + d
  det : ∀ y : F, y ≠ 0 → ∀ N, n + 1 < N → pev N c y * pev N a y - pev N b y * pev N o y ≠ 0

theorem one_ne : (1 : F) ≠ 0 := fun h => Field.zero_ne_one (α := F) h.symm

theorem inv_start (s : Nat → F) : Inv s 0 (fun i => if i = 0 then 1 else 0) 0 (fun i => if i = 0 then 1 else 0) 1 1 (fun _ => 0) (fun i => if i = 0 then -1 else 0) 0 where
  len := rfl
  le := Nat.le_refl _
  m1 := Nat.le_refl _
  d0 := one_ne
  c0 := if_pos rfl
  cl := fun i h => if_neg (by omega)
  bl := fun i h => if_neg (by omega)
  ol := fun _ _ => rfl
  al := fun i h => if_neg (by omega)
  oc := fun k h => by
    have : k = 0 := by omega
    rw [this]; rfl
  ab := fun k h => absurd h (by omega)
  ad := fun k h => by
    have : k = 0 := by omega
    rw [this]
    show (0 : F) = (if 0 = 0 then -1 else 0) + 1
    rw [if_pos rfl]; grind
  det := fun y hy N hN => by
    have e : ∀ u : F, pev N (fun i => if i = 0 then u else 0) y = u := by
      intro u
      have : pev N (fun i => if i = 0 then u else 0) y = sm 1 (fun i => (if i = 0 then u else 0) * y ^ i) :=
        sm_to (by omega) fun i hi => by
          show (if i = 0 then u else 0) * y ^ i = 0
          rw [if_neg (by omega)]; grind
      rw [this]
      show 0 + (if 0 = 0 then u else 0) * y ^ 0 = u
      rw [if_pos rfl, Semiring.pow_zero]; grind
    have z : pev N (fun _ => (0 : F)) y = 0 := sm_zero _ fun i _ => by grind
    rw [e, e, z]
    have h1 := one_ne (F := F)
    intro h
    apply h1
    grind

theorem inv_zero {s : Nat → F} {n : Nat} {c : Nat → F} {l : Nat} {b : Nat → F} {m : Nat} {d : F} {o a : Nat → F} {lb : Nat}
    (I : Inv s n c l b m d o a lb) (h : conv c s n = 0) : Inv s (n + 1) c l b (m + 1) d o a lb where
  len := by have := I.len; omega
  le := by have := I.le; omega
  m1 := by omega
  d0 := I.d0
  c0 := I.c0
  cl := I.cl
  bl := I.bl
  ol := I.ol
  al := I.al
  oc := fun k hk => by
    by_cases g : k ≤ n
    · exact I.oc k g
    · have : k = n + 1 := by omega
      rw [this, I.ol (n + 1) (by have := I.le; omega)]; exact h
  ab := fun k hk => I.ab k (by omega)
  ad := fun k hk => I.ad k (by omega)
  det := fun y hy N hN => I.det y hy N (by omega)

/-- c - e x^m b -/
def upd (c : Nat → F) (e : F) (m : Nat) (b : Nat → F) : Nat → F := fun i => c i - e * shm m b i

theorem upd_conv (c : Nat → F) (e : F) (m : Nat) (b s : Nat → F) (k : Nat) : xconv (upd c e m b) s k = xconv c s k - e * shm m (xconv b s) k := by
  have h : upd c e m b = fun i => c i + (-e) * shm m b i := by funext i; show c i - e * shm m b i = _; grind
  rw [h, xconv_add, xconv_mul, xconv_shm]; grind
theorem upd_pev {n m k : Nat} {c b : Nat → F} (h : ∀ i, k ≤ i → b i = 0) (hn : k + m ≤ n) (e y : F) : pev n (upd c e m b) y = pev n c y - e * (y ^ m * pev n b y) := by
  have h' : upd c e m b = fun i => c i + (-e) * shm m b i := by funext i; show c i - e * shm m b i = _; grind
  rw [h', pev_add, pev_mul, pev_shm h hn]; grind

theorem upd_oc {s : Nat → F} {n : Nat} {c : Nat → F} {l : Nat} {b : Nat → F} {m : Nat} {d : F} {o a : Nat → F} {lb : Nat}
    (I : Inv s n c l b m d o a lb) (e : F) (he : conv c s n = e * d) (k : Nat) (hk : k ≤ n + 1) : xconv (upd c e m b) s k = upd o e m a k := by
  rw [upd_conv]
  show xconv c s k - e * (if k < m then 0 else xconv b s (k - m)) = o k - e * (if k < m then 0 else a (k - m))
  by_cases g : k ≤ n
  · rw [I.oc k g]
    by_cases f : k < m
    · rw [if_pos f, if_pos f]
    · rw [if_neg f, if_neg f, I.ab (k - m) (by omega)]
  · have e1 : k = n + 1 := by omega
    have e2 : xconv c s k = e * d := by rw [e1]; exact he
    have hm : m ≤ n + 1 := by have := I.len; omega
    rw [e2, I.ol k (by have := I.le; omega), if_neg (by omega), if_neg (by omega), I.ad (k - m) (by omega)]
    grind
theorem upd_det {s : Nat → F} {n : Nat} {c : Nat → F} {l : Nat} {b : Nat → F} {m : Nat} {d : F} {o a : Nat → F} {lb : Nat}
    (I : Inv s n c l b m d o a lb) (e y : F) (hy : y ≠ 0) (N : Nat) (hN : n + 2 < N) :
    pev N (upd c e m b) y * pev N a y - pev N b y * pev N (upd o e m a) y ≠ 0 := by
  have hl := I.len
  rw [upd_pev (k := lb + 1) (fun i hi => I.bl i (by omega)) (by omega), upd_pev (k := lb + 1) (fun i hi => I.al i (by omega)) (by omega)]
  have := I.det y hy N (by omega)
  intro h
  apply this
  grind
theorem inv_same {s : Nat → F} {n : Nat} {c : Nat → F} {l : Nat} {b : Nat → F} {m : Nat} {d : F} {o a : Nat → F} {lb : Nat}
    (I : Inv s n c l b m d o a lb) (e : F) (he : conv c s n = e * d) (h2 : n < 2 * l) : Inv s (n + 1) (upd c e m b) l b (m + 1) d (upd o e m a) a lb where
  len := by have := I.len; omega
  le := by have := I.le; omega
  m1 := by omega
  d0 := I.d0
  c0 := by
    show c 0 - e * (if 0 < m then 0 else _) = 1
    rw [if_pos (by have := I.m1; omega), I.c0]; grind
  cl := fun i hi => by
    show c i - e * (if i < m then 0 else b (i - m)) = 0
    rw [I.cl i hi]
    split
    · grind
    · rw [I.bl (i - m) (by have := I.len; omega)]; grind
  bl := I.bl
  ol := fun i hi => by
    show o i - e * (if i < m then 0 else a (i - m)) = 0
    rw [I.ol i hi]
    split
    · grind
    · rw [I.al (i - m) (by have := I.len; omega)]; grind
  al := I.al
  oc := fun k hk => upd_oc I e he k hk
  ab := fun k hk => I.ab k (by omega)
  ad := fun k hk => I.ad k (by omega)
  det := fun y hy N hN => upd_det I e y hy N (by omega)
theorem inv_new {s : Nat → F} {n : Nat} {c : Nat → F} {l : Nat} {b : Nat → F} {m : Nat} {d : F} {o a : Nat → F} {lb : Nat}
    (I : Inv s n c l b m d o a lb) (e : F) (he : conv c s n = e * d) (h0 : conv c s n ≠ 0) (h2 : 2 * l ≤ n) :
    Inv s (n + 1) (upd c e m b) (n + 1 - l) c 1 (conv c s n) (upd o e m a) o l where
  len := by have := I.le; omega
  le := by omega
  m1 := by omega
  d0 := h0
  c0 := by
    show c 0 - e * (if 0 < m then 0 else _) = 1
    rw [if_pos (by have := I.m1; omega), I.c0]; grind
  cl := fun i hi => by
    show c i - e * (if i < m then 0 else b (i - m)) = 0
    have := I.le
    rw [I.cl i (by omega)]
    split
    · grind
    · rw [I.bl (i - m) (by have := I.len; omega)]; grind
  bl := I.cl
  ol := fun i hi => by
    show o i - e * (if i < m then 0 else a (i - m)) = 0
    have := I.le
    rw [I.ol i (by omega)]
    split
    · grind
    · rw [I.al (i - m) (by have := I.len; omega)]; grind
  al := I.ol
  oc := fun k hk => upd_oc I e he k hk
  ab := fun k hk => I.oc k (by omega)
  ad := fun k hk => by
    have : k = n + 1 := by omega
    rw [this, I.ol (n + 1) (by have := I.le; omega)]
    show conv c s n = 0 + conv c s n
    grind
  det := fun y hy N hN => by
    have hl := I.len
    have := I.det y hy N (by omega)
    rw [upd_pev (k := lb + 1) (fun i hi => I.bl i (by omega)) (by omega), upd_pev (k := lb + 1) (fun i hi => I.al i (by omega)) (by omega)]
    have hE : e ≠ 0 := by
      intro h
      apply h0; rw [he, h]; grind
    have hp : e * y ^ m ≠ 0 := mul_ne hE (pow_ne hy m)
    intro h
    refine mul_ne hp this ?_
    grind
end Bm
/-! ## BmB -/
set_option Elab.async false
namespace Bm
open Lean.Grind
variable {F : Type} [Field F]

theorem pev_sub (n : Nat) (a b : Nat → F) (x : F) : pev n (fun i => a i - b i) x = pev n a x - pev n b x := by
  show sm n _ = sm n _ - sm n _
  rw [← sm_sub]
  exact sm_congr _ fun i _ => by grind
theorem pev_sh (n : Nat) (f : Nat → F) (x : F) : pev (n + 1) (sh f) x = x * pev n f x := by
  show sm (n + 1) _ = x * sm n _
  rw [sm_left, ← sm_mul]
  have : (sm n fun i => sh f (i + 1) * x ^ (i + 1)) = sm n fun i => x * (f i * x ^ i) := by
    refine sm_congr _ fun i _ => ?_
    rw [Semiring.pow_succ]
    show f i * _ = _
    grind
  rw [this]
  show (0 : F) * x ^ 0 + _ = _
  grind
theorem pev_to {c : Nat → F} {n m : Nat} (hm : n ≤ m) (h : ∀ i, n ≤ i → i < m → c i = 0) (x : F) : pev m c x = pev n c x :=
  sm_to' hm fun i h1 h2 => by rw [h i h1 h2]; grind
theorem pev_congr {a b : Nat → F} (n : Nat) (h : ∀ i, i < n → a i = b i) (x : F) : pev n a x = pev n b x :=
  sm_congr _ fun i hi => by rw [h i hi]

/-- a sum over a list -/
def ls (g : F → F) : List F → F
  | [] => 0
  | y :: ys => g y + ls g ys
theorem ls_mul (d : F) (g : F → F) : ∀ ys, ls (fun y => d * g y) ys = d * ls g ys
  | [] => by show (0 : F) = d * 0; grind
  | y :: ys => by show d * g y + ls _ ys = d * (g y + ls g ys); rw [ls_mul d g ys]; grind
theorem ls_add (f g : F → F) : ∀ ys, ls (fun y => f y + g y) ys = ls f ys + ls g ys
  | [] => by show (0 : F) = 0 + 0; grind
  | y :: ys => by show f y + g y + ls _ ys = f y + ls f ys + (g y + ls g ys); rw [ls_add f g ys]; grind
theorem ls_congr {f g : F → F} : ∀ (ys : List F), (∀ y ∈ ys, f y = g y) → ls f ys = ls g ys
  | [], _ => rfl
  | y :: ys, h => by
    show f y + ls f ys = g y + ls g ys
    rw [h y (List.mem_cons_self ..), ls_congr ys fun z hz => h z (List.mem_cons_of_mem _ hz)]
theorem ls_zero {f : F → F} : ∀ (ys : List F), (∀ y ∈ ys, f y = 0) → ls f ys = 0
  | [], _ => rfl
  | y :: ys, h => by
    show f y + ls f ys = 0
    rw [h y (List.mem_cons_self ..), ls_zero ys fun z hz => h z (List.mem_cons_of_mem _ hz)]; grind
theorem ls_one {f : F → F} {z : F} : ∀ (ys : List F), ys.Nodup → z ∈ ys → (∀ y ∈ ys, y ≠ z → f y = 0) → ls f ys = f z
  | [], _, h, _ => absurd h List.not_mem_nil
  | y :: ys, hd, hz, h => by
    have hd' := List.nodup_cons.mp hd
    show f y + ls f ys = f z
    by_cases g : y = z
    · rw [g, ls_zero ys]
      · grind
      · intro w hw
        refine h w (List.mem_cons_of_mem _ hw) fun e => ?_
        rw [e, ← g] at hw; exact hd'.1 hw
    · rw [h y (List.mem_cons_self ..) g]
      have hz' : z ∈ ys := by
        rcases List.mem_cons.mp hz with e | e
        · exact absurd e.symm g
        · exact e
      rw [ls_one ys hd'.2 hz' fun w hw => h w (List.mem_cons_of_mem _ hw)]; grind
theorem ls_sm (n : Nat) (f : F → Nat → F) : ∀ ys, ls (fun y => sm n (f y)) ys = sm n (fun i => ls (fun y => f y i) ys)
  | [] => by
    show (0 : F) = sm n fun _ => 0
    rw [sm_zero n fun _ _ => rfl]
  | y :: ys => by
    show sm n (f y) + ls _ ys = sm n fun i => f y i + ls (fun y => f y i) ys
    rw [ls_sm n f ys, ← sm_add]
theorem ls_pev (n : Nat) (f : F → Nat → F) (x : F) (ys : List F) : ls (fun y => pev n (f y) x) ys = pev n (fun i => ls (fun y => f y i) ys) x := by
  show ls (fun y => sm n _) ys = sm n _
  rw [ls_sm]
  refine sm_congr _ fun i _ => ?_
  have : (fun y => f y i * x ^ i) = fun y => x ^ i * f y i := by funext y; grind
  rw [this, ls_mul]; grind

theorem conv_ls (c : Nat → F) (f : F → Nat → F) (k : Nat) (ys : List F) : ls (fun y => conv c (f y) k) ys = conv c (fun j => ls (fun y => f y j) ys) k := by
  show ls (fun y => sm (k + 1) _) ys = sm (k + 1) _
  rw [ls_sm]
  exact sm_congr _ fun i _ => by rw [ls_mul]
theorem conv_mulr (c s : Nat → F) (d : F) (k : Nat) : conv c (fun j => d * s j) k = d * conv c s k := by
  show sm (k + 1) _ = d * sm (k + 1) _
  rw [← sm_mul]
  exact sm_congr _ fun i _ => by grind
theorem conv_subr (c s t : Nat → F) (k : Nat) : conv c (fun j => s j - t j) k = conv c s k - conv c t k := by
  show sm (k + 1) _ = sm (k + 1) _ - sm (k + 1) _
  rw [← sm_sub]
  exact sm_congr _ fun i _ => by grind
/-- where c begins with 1 what c makes 0 is 0 -/
theorem conv_inj {c s : Nat → F} (h0 : c 0 = 1) : ∀ N, (∀ k, k < N → conv c s k = 0) → ∀ k, k < N → s k = 0 := by
  intro N h k
  induction k using Nat.strongRecOn with
  | ind k ih =>
    intro hk
    have e := h k hk
    have e2 : conv c s k = c 0 * s (k - 0) + sm k (fun i => c (i + 1) * s (k - (i + 1))) := sm_left _ k
    have e3 : sm k (fun i => c (i + 1) * s (k - (i + 1))) = 0 := by
      apply sm_zero
      intro i hi
      rw [ih (k - (i + 1)) (by omega) (by omega)]; grind
    rw [e2, e3, h0, Nat.sub_zero] at e
    grind

/-- c divided by 1 - x / y -/
def dq (c : Nat → F) (y : F) (k : Nat) : F := conv c (fun j => y⁻¹ ^ j) k
theorem dq_zero (c : Nat → F) (y : F) : dq c y 0 = c 0 := by
  show 0 + c 0 * y⁻¹ ^ 0 = _
  rw [Semiring.pow_zero]; grind
theorem dq_step (c : Nat → F) (y : F) (k : Nat) : dq c y (k + 1) = c (k + 1) + y⁻¹ * dq c y k := by
  show sm (k + 1) (fun i => c i * y⁻¹ ^ (k + 1 - i)) + c (k + 1) * y⁻¹ ^ (k + 1 - (k + 1)) = c (k + 1) + y⁻¹ * sm (k + 1) _
  rw [← sm_mul, Nat.sub_self, Semiring.pow_zero]
  have : sm (k + 1) (fun i => c i * y⁻¹ ^ (k + 1 - i)) = sm (k + 1) (fun i => y⁻¹ * (c i * y⁻¹ ^ (k - i))) := by
    refine sm_congr _ fun i hi => ?_
    have : k + 1 - i = (k - i) + 1 := by omega
    rw [this, Semiring.pow_succ]; grind
  rw [this]; grind
theorem dq_pev (c : Nat → F) {y : F} (hy : y ≠ 0) : ∀ k, y ^ k * dq c y k = pev (k + 1) c y
  | 0 => by
    rw [dq_zero]
    show _ = 0 + c 0 * y ^ 0
    grind
  | k + 1 => by
    have e : pev (k + 1 + 1) c y = pev (k + 1) c y + c (k + 1) * y ^ (k + 1) := rfl
    have hi := Field.mul_inv_cancel hy
    rw [e, ← dq_pev c hy k, dq_step, Semiring.pow_succ]
    grind
section
variable {c : Nat → F} {l : Nat} (h0 : c 0 = 1) (hl : ∀ i, l < i → c i = 0)
include hl
theorem dq_high {y : F} (hy : y ≠ 0) (hr : pev (l + 1) c y = 0) {k : Nat} (hk : l ≤ k) : dq c y k = 0 := by
  have e := dq_pev c hy k
  have : pev (k + 1) c y = pev (l + 1) c y := pev_to (by omega) (fun i h1 _ => hl i (by omega)) y
  rw [this, hr] at e
  exact eq_zero_of (pow_ne hy k) e
theorem dq_split {y : F} (hy : y ≠ 0) (hr : pev (l + 1) c y = 0) (z : F) : pev (l + 1) c z = (1 - y⁻¹ * z) * pev l (dq c y) z := by
  have e : pev (l + 1) c z = pev (l + 1) (fun i => dq c y i - y⁻¹ * sh (dq c y) i) z := by
    refine pev_congr _ (fun i _ => ?_) z
    cases i with
    | zero => rw [dq_zero]; show c 0 = c 0 - y⁻¹ * 0; grind
    | succ i => rw [dq_step]; show _ = _ - y⁻¹ * dq c y i; grind
  have e2 : pev (l + 1) (dq c y) z = pev l (dq c y) z := pev_to (by omega) (fun i h1 _ => dq_high hl hy hr h1) z
  rw [e, pev_sub, pev_mul, pev_sh, e2]; grind
theorem dq_other {y z : F} (hy : y ≠ 0) (hr : pev (l + 1) c y = 0) (hz : pev (l + 1) c z = 0) (hn : z ≠ y) : pev l (dq c y) z = 0 := by
  have e := dq_split hl hy hr z
  rw [hz] at e
  refine eq_zero_of (a := 1 - y⁻¹ * z) ?_ e.symm
  intro h
  apply hn
  have hi := Field.mul_inv_cancel hy
  grind
include h0
theorem dq_self {ys : List F} (hd : ys.Nodup) (hn : ys.length = l) (hr : ∀ y ∈ ys, y ≠ 0 ∧ pev (l + 1) c y = 0) {y : F} (hy : y ∈ ys) : pev l (dq c y) y ≠ 0 := by
  intro h
  have hlpos : 0 < l := by
    rw [← hn]; exact List.length_pos_of_mem hy
  have := roots_zero l (dq c y) ys hd (by omega) (fun z hz => by
    by_cases g : z = y
    · rw [g]; exact h
    · exact dq_other hl (hr y hy).1 (hr y hy).2 (hr z hz).2 g) 0 hlpos
  rw [dq_zero, h0] at this
  exact one_ne this
omit h0 hl in
theorem slope_sum (h2 : (1 : F) + 1 = 0) {y : F} (hy : y ≠ 0) : ∀ n, (sm n fun i => (if i % 2 = 0 then c (i + 1) else 0) * y ^ i) = y⁻¹ * pev n (dq c y) y + (if n % 2 = 1 then dq c y n * y ^ (n - 1) else 0)
  | 0 => by
    show (0 : F) = y⁻¹ * 0 + (if 0 % 2 = 1 then _ else 0)
    rw [if_neg (by decide)]; grind
  | n + 1 => by
    show sm n (fun i => (if i % 2 = 0 then c (i + 1) else 0) * y ^ i) + (if n % 2 = 0 then c (n + 1) else 0) * y ^ n = y⁻¹ * (pev n (dq c y) y + dq c y n * y ^ n) + _
    rw [slope_sum h2 hy n]
    by_cases g : n % 2 = 0
    · rw [if_pos g, if_neg (by omega), if_pos (by omega), dq_step]
      have e : n + 1 - 1 = n := by omega
      rw [e]; grind
    · rw [if_neg g, if_pos (by omega), if_neg (by omega)]
      obtain ⟨m, rfl⟩ : ∃ m, n = m + 1 := ⟨n - 1, by omega⟩
      have e : m + 1 - 1 = m := by omega
      have hi := Field.mul_inv_cancel hy
      rw [e, Semiring.pow_succ]; grind
omit h0 in
theorem slope_is (h2 : (1 : F) + 1 = 0) {y : F} (hy : y ≠ 0) (hr : pev (l + 1) c y = 0) : (sm l fun i => (if i % 2 = 0 then c (i + 1) else 0) * y ^ i) = y⁻¹ * pev l (dq c y) y := by
  rw [slope_sum h2 hy l, dq_high hl hy hr (Nat.le_refl l)]
  split <;> grind
/-- **Forney**: where c makes of s nothing from l on, and has l roots, s is made by errors at just these -/
theorem forney {ys : List F} (hd : ys.Nodup) (hn : ys.length = l) (hr : ∀ y ∈ ys, y ≠ 0 ∧ pev (l + 1) c y = 0)
    {s : Nat → F} {N : Nat} (hs : ∀ k, l ≤ k → k < N → conv c s k = 0) {e : F → F}
    (he : ∀ y ∈ ys, e y * pev l (dq c y) y = pev l (conv c s) y) : ∀ j, j < N → s j = ls (fun y => e y * y⁻¹ ^ j) ys := by
  have hP : ∀ k, k < l → conv c s k - ls (fun y => e y * dq c y k) ys = 0 := by
    refine roots_zero l (fun k => conv c s k - ls (fun y => e y * dq c y k) ys) ys hd (by omega) ?_
    intro z hz
    rw [pev_sub, ← ls_pev l (fun y k => e y * dq c y k)]
    have : ls (fun y => pev l (fun k => e y * dq c y k) z) ys = e z * pev l (dq c z) z := by
      rw [ls_one ys hd hz]
      · rw [pev_mul]
      · intro y hy hyz
        rw [pev_mul, dq_other hl (hr y hy).1 (hr y hy).2 (hr z hz).2 (Ne.symm hyz)]; grind
    rw [this, he z hz]; grind
  have hA : ∀ k, k < N → conv c s k = ls (fun y => e y * dq c y k) ys := by
    intro k hk
    by_cases g : k < l
    · have := hP k g; grind
    · rw [hs k (by omega) hk, ls_zero ys]
      intro y hy
      rw [dq_high hl (hr y hy).1 (hr y hy).2 (by omega)]; grind
  have hB : ∀ k, k < N → conv c (fun j => s j - ls (fun y => e y * y⁻¹ ^ j) ys) k = 0 := by
    intro k hk
    rw [conv_subr, hA k hk, ← conv_ls c (fun y j => e y * y⁻¹ ^ j)]
    have : ls (fun y => conv c (fun j => e y * y⁻¹ ^ j) k) ys = ls (fun y => e y * dq c y k) ys :=
      ls_congr ys fun y _ => by rw [conv_mulr]; rfl
    rw [this]; grind
  intro j hj
  have := conv_inj h0 N hB j hj
  grind
end
/-- at a root of the recurrence the product with s isn't 0 -/
theorem omega_ne {s : Nat → F} {n : Nat} {c : Nat → F} {l : Nat} {b : Nat → F} {m : Nat} {d : F} {o a : Nat → F} {lb : Nat}
    (I : Inv s n c l b m d o a lb) {y : F} (hy : y ≠ 0) (hr : pev (l + 1) c y = 0) : pev l (conv c s) y ≠ 0 := by
  have hdet := I.det y hy (n + 2) (by omega)
  have e : pev (n + 2) c y = 0 := by
    rw [← hr]; exact pev_to (by have := I.le; omega) (fun i h1 _ => I.cl i (by omega)) y
  have e2 : pev (n + 2) o y = y * pev l (conv c s) y := by
    rw [← pev_sh]
    have : pev (n + 2) o y = pev (l + 1) o y := pev_to (by have := I.le; omega) (fun i h1 _ => I.ol i (by omega)) y
    rw [this]
    refine pev_congr _ (fun i hi => ?_) y
    rw [← I.oc i (by have := I.le; omega)]; rfl
  intro h
  apply hdet
  rw [e, e2, h]; grind
theorem conv_high {s : Nat → F} {n : Nat} {c : Nat → F} {l : Nat} {b : Nat → F} {m : Nat} {d : F} {o a : Nat → F} {lb : Nat}
    (I : Inv s n c l b m d o a lb) {k : Nat} (h1 : l ≤ k) (h2 : k < n) : conv c s k = 0 := by
  have := I.oc (k + 1) (by omega)
  rw [I.ol (k + 1) (by omega)] at this
  exact this
end Bm
/-! ## GfB -/
set_option Elab.async false
set_option maxRecDepth 100000
namespace Gf
open Fm11 Bm
open Lean.Grind

structure GF where
  v : Nat
  lt : v < 256
theorem GF.ext {a b : GF} (h : a.v = b.v) : a = b := by
  cases a; cases b; cases h; rfl
/-- a number's byte -/
def up (x : Nat) : GF := ⟨x % 256, Nat.mod_lt _ (by decide)⟩
theorem up_v {x : Nat} (h : x < 256) : (up x).v = x := Nat.mod_eq_of_lt h
theorem up_of (a : GF) : up a.v = a := GF.ext (up_v a.lt)
theorem up_inj {x y : Nat} (hx : x < 256) (hy : y < 256) (h : up x = up y) : x = y := by
  have := congrArg GF.v h
  rwa [up_v hx, up_v hy] at this
def gpow (a : GF) : Nat → GF
  | 0 => ⟨1, by decide⟩
  | n + 1 => ⟨times (gpow a n).v a.v, times_lt _ (gpow a n).lt⟩
def ginv (a : GF) : GF := ⟨inverse a.v, inverse_lt a.lt⟩
/-- a number as a sum of 1s -/
def gnat (n : Nat) : GF := ⟨n % 2, by omega⟩
instance : Add GF := ⟨fun a b => ⟨a.v ^^^ b.v, xlt a.lt b.lt⟩⟩
instance : Mul GF := ⟨fun a b => ⟨times a.v b.v, times_lt _ a.lt⟩⟩
instance : NatCast GF := ⟨gnat⟩
instance (n : Nat) : OfNat GF n := ⟨gnat n⟩
instance : SMul Nat GF := ⟨fun n a => gnat n * a⟩
instance : HPow GF Nat GF := ⟨gpow⟩
instance : Neg GF := ⟨fun a => a⟩
instance : Sub GF := ⟨fun a b => a + b⟩
instance : IntCast GF := ⟨fun z => gnat z.natAbs⟩
instance : SMul Int GF := ⟨fun z a => gnat z.natAbs * a⟩
instance : Inv GF := ⟨ginv⟩
instance : Div GF := ⟨fun a b => a * b⁻¹⟩
instance : HPow GF Int GF := ⟨fun a z => match z with
  | .ofNat n => gpow a n
  | .negSucc n => ginv (gpow a (n + 1))⟩
theorem add_v (a b : GF) : (a + b).v = a.v ^^^ b.v := rfl
theorem mul_v (a b : GF) : (a * b).v = times a.v b.v := rfl
theorem zero_v : (0 : GF).v = 0 := rfl
theorem one_v : (1 : GF).v = 1 := rfl
theorem ginv_v (a : GF) : (ginv a).v = inverse a.v := by
  unfold ginv
  dsimp only
theorem inv_v (a : GF) : (a⁻¹).v = inverse a.v := ginv_v a
theorem gnat_succ (n : Nat) : gnat (n + 1) = gnat n + 1 := by
  apply GF.ext
  show (n + 1) % 2 = (n % 2) ^^^ 1
  have : n % 2 = 0 ∨ n % 2 = 1 := by omega
  rcases this with h | h <;> rw [h] <;> rw [Nat.add_mod, h] <;> rfl
theorem ne_zero_v {a : GF} (h : a ≠ 0) : a.v ≠ 0 := fun e => h (GF.ext e)

instance : CommRing GF where
  nsmul := inferInstance
  npow := inferInstance
  zsmul := inferInstance
  add_zero a := GF.ext (Nat.xor_zero _)
  add_comm a b := GF.ext (Nat.xor_comm _ _)
  add_assoc a b c := GF.ext (Nat.xor_assoc _ _ _)
  mul_assoc a b c := GF.ext (times_assoc b.lt _ a.lt)
  mul_one a := GF.ext (times_one _ a.lt)
  one_mul a := GF.ext (one_times _ a.lt)
  left_distrib a b c := GF.ext (times_xor_right _ _ a.lt)
  right_distrib a b c := GF.ext (times_xor_left _ a.lt b.lt)
  zero_mul a := GF.ext (zero_times _)
  mul_zero a := GF.ext (times_zero _)
  pow_zero a := rfl
  pow_succ a n := rfl
  ofNat_succ n := gnat_succ n
  ofNat_eq_natCast n := rfl
  nsmul_eq_natCast_mul n a := rfl
  neg_add_cancel a := GF.ext (Nat.xor_self _)
  sub_eq_add_neg a b := rfl
  neg_zsmul i a := by
    show gnat (-i).natAbs * a = gnat i.natAbs * a
    rw [Int.natAbs_neg]
  zsmul_natCast_eq_nsmul n a := rfl
  intCast_ofNat n := rfl
  intCast_neg i := by
    show gnat (-i).natAbs = gnat i.natAbs
    rw [Int.natAbs_neg]
  mul_comm a b := GF.ext (times_comm b.lt _ a.lt)
theorem ginv_ginv (a : GF) : ginv (ginv a) = a := by
  apply GF.ext
  rw [ginv_v, ginv_v]
  by_cases h : a.v = 0
  · rw [h, inverse_zero, inverse_zero]
  · have hi : inverse a.v ≠ 0 := by
      rw [inverse_eq a.lt h]; exact power_ne _
    have e1 := times_inverse a.lt h
    have hl := inverse_lt a.lt
    have e2 := times_inverse hl hi
    have := congrArg (times a.v) e2
    rw [← times_assoc hl _ a.lt, e1, one_times _ (inverse_lt hl), times_one _ a.lt] at this
    exact this
theorem ginv_one : ginv ⟨1, by decide⟩ = ⟨1, by decide⟩ := by
  apply GF.ext
  rw [ginv_v]
  show inverse 1 = 1
  decide +kernel
instance : Field GF where
  zpow := inferInstance
  div_eq_mul_inv a b := rfl
  zero_ne_one := by
    intro h
    exact absurd (congrArg GF.v h) (by decide)
  inv_zero := GF.ext ((inv_v 0).trans inverse_zero)
  mul_inv_cancel {a} h := GF.ext (by
    rw [mul_v, inv_v, times_inverse a.lt (ne_zero_v h)]; rfl)
  zpow_zero a := rfl
  zpow_succ a n := rfl
  zpow_neg a n := by
    match n with
    | .ofNat 0 => exact GF.ext (congrArg GF.v ginv_one.symm)
    | .ofNat (k + 1) => rfl
    | .negSucc k => exact (ginv_ginv _).symm
theorem two : (1 : GF) + 1 = 0 := GF.ext (by decide)
instance : IsCharP GF 2 where
  ofNat_ext_iff {x y} := by
    constructor
    · intro h
      exact congrArg GF.v h
    · intro h
      exact GF.ext h
example (a b : GF) : (a + b) * (a + b) = a * a + b * b := by grind
example (a b : GF) : a - b = a + b := by grind

theorem up_zero : up 0 = 0 := rfl
theorem up_one : up 1 = 1 := rfl
theorem up_xor {a b : Nat} (ha : a < 256) (hb : b < 256) : up (a ^^^ b) = up a + up b := by
  apply GF.ext
  rw [add_v, up_v ha, up_v hb, up_v (xlt ha hb)]
theorem up_times {a b : Nat} (ha : a < 256) (hb : b < 256) : up (times a b) = up a * up b := by
  apply GF.ext
  rw [mul_v, up_v ha, up_v hb, up_v (times_lt _ ha)]
theorem up_inverse {a : Nat} (ha : a < 256) : up (inverse a) = (up a)⁻¹ := by
  apply GF.ext
  rw [inv_v, up_v ha, up_v (inverse_lt ha)]
theorem up_eq_zero {a : Nat} (ha : a < 256) : up a = 0 ↔ a = 0 := by
  constructor
  · intro h
    have := congrArg GF.v h
    rwa [up_v ha, zero_v] at this
  · intro h; rw [h]; rfl
theorem up_power : ∀ k, up (power k) = up 3 ^ k
  | 0 => rfl
  | k + 1 => by
    show up (times 3 (power k)) = _
    rw [up_times (by decide) (power_lt _), up_power k, Semiring.pow_succ]; grind
theorem up_power_ne (k : Nat) : up (power k) ≠ 0 := fun h => power_ne k ((up_eq_zero (power_lt k)).mp h)

/-- bytes alone -/
def By (l : List Nat) : Prop := ∀ x ∈ l, x < 256
theorem By.getD {l : List Nat} (h : By l) (i : Nat) : l.getD i 0 < 256 := by
  rw [List.getD_eq_getElem?_getD]
  cases e : l[i]? with
  | none => decide
  | some x => exact h x (List.mem_of_getElem? e)
theorem By.nil : By [] := fun _ h => absurd h List.not_mem_nil
theorem By.cons {x : Nat} {l : List Nat} (hx : x < 256) (h : By l) : By (x :: l) := by
  intro y hy
  rcases List.mem_cons.mp hy with e | e
  · rw [e]; exact hx
  · exact h y e
theorem By.head {x : Nat} {l : List Nat} (h : By (x :: l)) : x < 256 := h x (List.mem_cons_self ..)
theorem By.tail {x : Nat} {l : List Nat} (h : By (x :: l)) : By l := fun y hy => h y (List.mem_cons_of_mem _ hy)
theorem By.append {l m : List Nat} (h : By l) (g : By m) : By (l ++ m) := by
  intro x hx
  rcases List.mem_append.mp hx with e | e
  · exact h x e
  · exact g x e
theorem By.left {l m : List Nat} (h : By (l ++ m)) : By l := fun x hx => h x (List.mem_append.mpr (.inl hx))
theorem By.right {l m : List Nat} (h : By (l ++ m)) : By m := fun x hx => h x (List.mem_append.mpr (.inr hx))
theorem By.reverse {l : List Nat} (h : By l) : By l.reverse := fun x hx => h x (List.mem_reverse.mp hx)
theorem By.map {α : Type} {f : α → Nat} {l : List α} (h : ∀ x ∈ l, f x < 256) : By (l.map f) := by
  intro x hx
  obtain ⟨y, hy, rfl⟩ := List.mem_map.mp hx
  exact h y hy
theorem By.take {l : List Nat} (h : By l) (n : Nat) : By (l.take n) := fun x hx => h x (List.mem_of_mem_take hx)
theorem By.drop {l : List Nat} (h : By l) (n : Nat) : By (l.drop n) := fun x hx => h x (List.mem_of_mem_drop hx)
theorem By.rep (n : Nat) : By (List.replicate n 0) := by
  intro x hx
  rw [List.eq_of_mem_replicate hx]; decide

/-- a row's coefficients, the constant first -/
def co (l : List Nat) (i : Nat) : GF := up (l.getD i 0)
theorem co_far {l : List Nat} {i : Nat} (h : l.length ≤ i) : co l i = 0 := by
  show up (l.getD i 0) = 0
  rw [List.getD_eq_getElem?_getD, List.getElem?_eq_none h]; rfl

theorem xsum_lt {f : Nat → Nat} (hf : ∀ i, f i < 256) : ∀ (l : List Nat) (r : Nat), r < 256 → l.foldl (fun r i => r ^^^ f i) r < 256
  | [], _, h => h
  | i :: l, r, h => xsum_lt hf l _ (xlt h (hf i))
theorem up_xsum {f : Nat → Nat} (hf : ∀ i, f i < 256) (n : Nat) : up ((List.range n).foldl (fun r i => r ^^^ f i) 0) = sm n fun i => up (f i) := by
  induction n with
  | zero => rfl
  | succ n ih =>
    rw [List.range_succ, List.foldl_append]
    show up (_ ^^^ f n) = _ + _
    rw [up_xor (xsum_lt hf _ _ (by decide)) (hf n), ih]

theorem worth_lt {x : Nat} : ∀ (l : List Nat) (r : Nat), r < 256 → By l → l.foldl (fun r c => times r x ^^^ c) r < 256
  | [], _, h, _ => h
  | c :: l, r, h, hb => worth_lt l _ (xlt (times_lt _ h) hb.head) hb.tail
theorem worth_byte {l : List Nat} (x : Nat) (h : By l) : worth l x < 256 := worth_lt l 0 (by decide) h
theorem worth_snoc (l : List Nat) (c x : Nat) : worth (l ++ [c]) x = times (worth l x) x ^^^ c := by
  unfold worth
  rw [List.foldl_append]; rfl
theorem up_worth_rev {x : Nat} (hx : x < 256) : ∀ l : List Nat, By l → up (worth l.reverse x) = pev l.length (co l) (up x)
  | [], _ => rfl
  | c :: l, h => by
    rw [List.reverse_cons, worth_snoc, up_xor (times_lt _ (worth_byte x h.tail.reverse)) h.head, up_times (worth_byte x h.tail.reverse) hx, up_worth_rev hx l h.tail]
    show _ = sm (l.length + 1) _
    rw [sm_left]
    have : (sm l.length fun i => co (c :: l) (i + 1) * up x ^ (i + 1)) = up x * pev l.length (co l) (up x) := by
      show _ = up x * sm _ _
      rw [← sm_mul]
      refine sm_congr _ fun i _ => ?_
      have : co (c :: l) (i + 1) = co l i := rfl
      rw [this, Semiring.pow_succ]; grind
    rw [this]
    show _ = up c * up x ^ 0 + _
    rw [Semiring.pow_zero]; grind
theorem up_at {x : Nat} (hx : x < 256) {l : List Nat} (h : By l) : up (at_ l x) = pev l.length (co l) (up x) := up_worth_rev hx l h
theorem at_lt (x : Nat) {l : List Nat} (h : By l) : at_ l x < 256 := worth_byte x h.reverse
end Gf
/-! ## GfC -/
set_option Elab.async false
set_option maxRecDepth 100000
namespace Gf
open Fm11 Bm
open Lean.Grind

theorem getD_map {f : Nat → Nat} (h0 : f 0 = 0) (l : List Nat) (i : Nat) : (l.map f).getD i 0 = f (l.getD i 0) := by
  rw [List.getD_eq_getElem?_getD, List.getD_eq_getElem?_getD, List.getElem?_map]
  cases l[i]? with
  | none => exact h0.symm
  | some x => rfl
theorem getD_range {f : Nat → Nat} (n i : Nat) : ((List.range n).map f).getD i 0 = if i < n then f i else 0 := by
  rw [List.getD_eq_getElem?_getD, List.getElem?_map]
  by_cases h : i < n
  · rw [List.getElem?_range h, if_pos h]; rfl
  · rw [List.getElem?_eq_none (by rw [List.length_range]; omega), if_neg h]; rfl
theorem getD_far {l : List Nat} {i : Nat} (h : l.length ≤ i) : l.getD i 0 = 0 := by
  rw [List.getD_eq_getElem?_getD, List.getElem?_eq_none h]; rfl

theorem plus_by {p q : List Nat} (hp : By p) (hq : By q) : By (plus p q) := By.map fun i _ => xlt (hp.getD i) (hq.getD i)
theorem co_plus {p q : List Nat} (hp : By p) (hq : By q) (i : Nat) : co (plus p q) i = co p i + co q i := by
  show up ((List.map _ (List.range _)).getD i 0) = _
  rw [getD_range]
  split
  · exact up_xor (hp.getD i) (hq.getD i)
  · rw [co_far (l := p) (by omega), co_far (l := q) (by omega), up_zero]; grind
theorem scaled_by {c : Nat} (k : Nat) {p : List Nat} (hc : c < 256) : By (scaled c k p) := (By.rep k).append (By.map fun x _ => times_lt x hc)
theorem co_scaled {c : Nat} (k : Nat) {p : List Nat} (hc : c < 256) (hp : By p) (i : Nat) : co (scaled c k p) i = up c * shm k (co p) i := by
  show up ((List.replicate k 0 ++ p.map (times c)).getD i 0) = up c * (if i < k then 0 else co p (i - k))
  by_cases h : i < k
  · rw [if_pos h, List.getD_eq_getElem?_getD, List.getElem?_append_left (by rw [List.length_replicate]; exact h), List.getElem?_replicate, if_pos h]
    show up 0 = _
    rw [up_zero]; grind
  · rw [if_neg h, List.getD_eq_getElem?_getD, List.getElem?_append_right (by rw [List.length_replicate]; omega), List.length_replicate, ← List.getD_eq_getElem?_getD, getD_map (times_zero c), up_times hc (hp.getD _)]
    rfl
theorem scaled_length (c k : Nat) (p : List Nat) : (scaled c k p).length = k + p.length := by
  unfold scaled; rw [List.length_append, List.length_replicate, List.length_map]
theorem plus_length (p q : List Nat) : (plus p q).length = max p.length q.length := by
  unfold plus; rw [List.length_map, List.length_range]

/-- what stands behind n of s's numbers, of lists -/
structure St (s : List Nat) (n : Nat) (c : List Nat) (l : Nat) (b : List Nat) (m d : Nat) : Prop where
  cb : By c
  bb : By b
  db : d < 256
  cn : c.length ≤ l + 1
  c1 : 1 ≤ c.length
  inv : ∃ o a lb, Inv (co s) n (co c) l (co b) m (up d) o a lb ∧ b.length ≤ lb + 1
theorem St.start (s : List Nat) : St s 0 [1] 0 [1] 1 1 where
  cb := By.cons (by decide) By.nil
  bb := By.cons (by decide) By.nil
  db := by decide
  cn := by decide
  c1 := by decide
  inv := by
    refine ⟨fun _ => 0, fun i => if i = 0 then -1 else 0, 0, ?_, by decide⟩
    have e : co [1] = fun i => if i = 0 then (1 : GF) else 0 := by
      funext i
      cases i with
      | zero => rfl
      | succ i => rw [co_far (by show 1 ≤ i + 1; omega), if_neg (by omega)]
    have h := inv_start (co s)
    rw [e, up_one]; exact h
/-- what the recurrence misses by -/
def miss (s c : List Nat) (l n : Nat) : Nat := (List.range (l + 1)).foldl (fun r i => r ^^^ times (c.getD i 0) (s.getD (n - i) 0)) 0
theorem miss_lt {s c : List Nat} (l n : Nat) (hc : By c) : miss s c l n < 256 :=
  xsum_lt (f := fun i => times (c.getD i 0) (s.getD (n - i) 0)) (fun i => times_lt _ (hc.getD i)) _ _ (by decide)
theorem miss_conv {s c : List Nat} {l n : Nat} (hs : By s) (hc : By c) (hl : l ≤ n) (hcl : ∀ i, l < i → co c i = 0) : up (miss s c l n) = conv (co c) (co s) n := by
  unfold miss
  rw [up_xsum (f := fun i => times (c.getD i 0) (s.getD (n - i) 0)) fun i => times_lt _ (hc.getD i)]
  have : (sm (l + 1) fun i => up (times (c.getD i 0) (s.getD (n - i) 0))) = sm (l + 1) fun i => co c i * co s (n - i) :=
    sm_congr _ fun i _ => up_times (hc.getD i) (hs.getD _)
  rw [this]
  refine (sm_to' (by omega) fun i h1 h2 => ?_).symm
  rw [hcl i (by omega)]; grind
theorem St.zero {s : List Nat} {n : Nat} {c : List Nat} {l : Nat} {b : List Nat} {m d : Nat} (hs : By s) (h : St s n c l b m d) (hd : miss s c l n = 0) : St s (n + 1) c l b (m + 1) d where
  cb := h.cb
  bb := h.bb
  db := h.db
  cn := h.cn
  c1 := h.c1
  inv := by
    obtain ⟨o, a, lb, I, g⟩ := h.inv
    refine ⟨o, a, lb, inv_zero I ?_, g⟩
    rw [← miss_conv hs h.cb I.le I.cl, hd]; rfl
/-- the better one -/
def better (c b : List Nat) (m d0 d : Nat) : List Nat := plus c (scaled (times d (inverse d0)) m b)
theorem better_co {c b : List Nat} {m d0 d : Nat} (hc : By c) (hb : By b) (hd0 : d0 < 256) (hd : d < 256) : co (better c b m d0 d) = upd (co c) (up d * (up d0)⁻¹) m (co b) := by
  funext i
  have hq : times d (inverse d0) < 256 := times_lt _ hd
  show co (plus _ _) i = co c i - _ * shm m (co b) i
  rw [co_plus hc (scaled_by m hq), co_scaled m hq hb, up_times hd (inverse_lt hd0), up_inverse hd0]
  rfl
theorem better_by {c b : List Nat} {m d0 d : Nat} (hc : By c) (hd : d < 256) : By (better c b m d0 d) := plus_by hc (scaled_by m (times_lt _ hd))
theorem better_length (c b : List Nat) (m d0 d : Nat) : (better c b m d0 d).length = max c.length (m + b.length) := by
  unfold better; rw [plus_length, scaled_length]
theorem quo_up {x y : GF} (hy : y ≠ 0) : x = x * y⁻¹ * y := by
  have := Field.mul_inv_cancel hy
  grind
theorem St.same {s : List Nat} {n : Nat} {c : List Nat} {l : Nat} {b : List Nat} {m d0 : Nat} (hs : By s) (h : St s n c l b m d0) (h2 : n < 2 * l) :
    St s (n + 1) (better c b m d0 (miss s c l n)) l b (m + 1) d0 where
  cb := better_by h.cb (miss_lt _ _ h.cb)
  bb := h.bb
  db := h.db
  cn := by
    obtain ⟨o, a, lb, I, g⟩ := h.inv
    have := I.len; have := h.cn
    rw [better_length]; omega
  c1 := by have := h.c1; rw [better_length]; omega
  inv := by
    obtain ⟨o, a, lb, I, g⟩ := h.inv
    refine ⟨upd o (up (miss s c l n) * (up d0)⁻¹) m a, a, lb, ?_, g⟩
    rw [better_co h.cb h.bb h.db (miss_lt _ _ h.cb)]
    refine inv_same I _ ?_ h2
    rw [miss_conv hs h.cb I.le I.cl]
    exact quo_up I.d0
theorem St.new {s : List Nat} {n : Nat} {c : List Nat} {l : Nat} {b : List Nat} {m d0 : Nat} (hs : By s) (h : St s n c l b m d0) (hd : miss s c l n ≠ 0) (h2 : 2 * l ≤ n) :
    St s (n + 1) (better c b m d0 (miss s c l n)) (n + 1 - l) c 1 (miss s c l n) where
  cb := better_by h.cb (miss_lt _ _ h.cb)
  bb := h.cb
  db := miss_lt _ _ h.cb
  cn := by
    obtain ⟨o, a, lb, I, g⟩ := h.inv
    have := I.len; have := h.cn
    rw [better_length]; omega
  c1 := by have := h.c1; rw [better_length]; omega
  inv := by
    obtain ⟨o, a, lb, I, g⟩ := h.inv
    have e := miss_conv hs h.cb I.le I.cl
    refine ⟨upd o (up (miss s c l n) * (up d0)⁻¹) m a, o, l, ?_, h.cn⟩
    rw [better_co h.cb h.bb h.db (miss_lt _ _ h.cb)]
    have hne : conv (co c) (co s) n ≠ 0 := by
      rw [← e]
      exact fun z => hd ((up_eq_zero (miss_lt _ _ h.cb)).mp z)
    rw [e]
    refine inv_new I _ ?_ hne h2
    exact quo_up I.d0
theorem recur_step (s : List Nat) (k : Nat) (c : List Nat) (l : Nat) (b : List Nat) (m d0 : Nat) :
    recur s (k + 1) (c, l, b, m, d0) = if miss s c l (s.length - (k + 1)) = 0 then recur s k (c, l, b, m + 1, d0)
      else if 2 * l ≤ s.length - (k + 1) then recur s k (better c b m d0 (miss s c l (s.length - (k + 1))), s.length - (k + 1) + 1 - l, c, 1, miss s c l (s.length - (k + 1)))
      else recur s k (better c b m d0 (miss s c l (s.length - (k + 1))), l, b, m + 1, d0) := rfl
theorem recur_St {s : List Nat} (hs : By s) : ∀ (k n : Nat) (c : List Nat) (l : Nat) (b : List Nat) (m d0 : Nat), n + k = s.length → St s n c l b m d0 →
    ∃ b' m' d', St s s.length (recur s k (c, l, b, m, d0)).1 (recur s k (c, l, b, m, d0)).2 b' m' d'
  | 0, n, c, l, b, m, d0, hn, h => by
    have : n = s.length := by omega
    rw [this] at h
    exact ⟨b, m, d0, h⟩
  | k + 1, n, c, l, b, m, d0, hn, h => by
    have e : s.length - (k + 1) = n := by omega
    rw [recur_step, e]
    by_cases g : miss s c l n = 0
    · rw [if_pos g]
      exact recur_St hs k (n + 1) _ _ _ _ _ (by omega) (h.zero hs g)
    · rw [if_neg g]
      by_cases f : 2 * l ≤ n
      · rw [if_pos f]
        exact recur_St hs k (n + 1) _ _ _ _ _ (by omega) (h.new hs g f)
      · rw [if_neg f]
        exact recur_St hs k (n + 1) _ _ _ _ _ (by omega) (h.same hs (by omega))
theorem locator_St {s : List Nat} (hs : By s) : ∃ b m d, St s s.length (locator s).1 (locator s).2 b m d :=
  recur_St hs s.length 0 [1] 0 [1] 1 1 (by omega) (St.start s)

theorem syndromes_by {b : List Nat} (h : By b) : By (syndromes b) := By.map fun _ _ => worth_byte _ h
theorem syndromes_length (b : List Nat) : (syndromes b).length = 16 := by
  unfold syndromes; rw [List.length_map, List.length_range]; rfl
theorem syndromes_at {b : List Nat} {j : Nat} (h : j < 16) : (syndromes b).getD j 0 = worth b (power j) := by
  unfold syndromes; rw [getD_range]; exact if_pos h

/-! ### The mended row -/
def spot (n i : Nat) : Nat := inverse (power (n - 1 - i))
def placesOf (c : List Nat) (n : Nat) : List Nat := (List.range n).filter fun i => at_ c (spot n i) == 0
def omegaOf (c s : List Nat) : List Nat := (List.range PARITY).map fun k => (List.range (k + 1)).foldl (fun r i => r ^^^ times (c.getD i 0) (s.getD (k - i) 0)) 0
def errOf (c s : List Nat) (n i : Nat) : Nat := times (power (n - 1 - i)) (times (at_ (omegaOf c s) (spot n i)) (inverse (at_ (slope c) (spot n i))))
def fixedOf (b c s : List Nat) : List Nat := (List.range b.length).map fun i => if (placesOf c b.length).contains i = true then b.getD i 0 ^^^ errOf c s b.length i else b.getD i 0
/-- mended, without the look back -/
def mended (b : List Nat) : Option (List Nat × Nat) :=
  let s := syndromes b
  let c := locator s
  if 8 < c.2 ∨ (placesOf c.1 b.length).length ≠ c.2 then none else some (fixedOf b c.1 s, c.2)
theorem mend_def (b : List Nat) : mend b = if (syndromes b).all (fun x => x == 0) = true then some (b, 0)
    else if 8 < (locator (syndromes b)).2 ∨ (placesOf (locator (syndromes b)).1 b.length).length ≠ (locator (syndromes b)).2 then none
    else if (syndromes (fixedOf b (locator (syndromes b)).1 (syndromes b))).all (fun x => x == 0) = true then some (fixedOf b (locator (syndromes b)).1 (syndromes b), (locator (syndromes b)).2) else none := rfl

theorem up_spot {n i : Nat} : up (spot n i) = (up (power (n - 1 - i)))⁻¹ := up_inverse (power_lt _)
theorem spot_lt (n i : Nat) : spot n i < 256 := inverse_lt (power_lt _)
theorem inv_inv' {a : GF} : a⁻¹⁻¹ = a := ginv_ginv a
theorem inv_ne {a : GF} (h : a ≠ 0) : a⁻¹ ≠ 0 := by
  intro e
  have := Field.mul_inv_cancel h
  rw [e] at this
  apply one_ne (F := GF)
  grind
theorem spot_ne (n i : Nat) : up (spot n i) ≠ 0 := by
  rw [up_spot]; exact inv_ne (up_power_ne _)
theorem spot_inj {n i j : Nat} (hn : n ≤ 255) (hi : i < n) (hj : j < n) (h : up (spot n i) = up (spot n j)) : i = j := by
  rw [up_spot, up_spot] at h
  have := congrArg (fun x : GF => x⁻¹) h
  simp only [inv_inv'] at this
  have := up_inj (power_lt _) (power_lt _) this
  have := power_inj (by omega) (by omega) this
  omega
theorem map_nodup {α β : Type} {f : α → β} : ∀ {l : List α}, l.Nodup → (∀ a ∈ l, ∀ b ∈ l, f a = f b → a = b) → (l.map f).Nodup
  | [], _, _ => List.nodup_nil
  | a :: l, h, hf => by
    have h' := List.nodup_cons.mp h
    rw [List.map_cons, List.nodup_cons]
    refine ⟨fun hm => ?_, map_nodup h'.2 fun x hx y hy => hf x (List.mem_cons_of_mem _ hx) y (List.mem_cons_of_mem _ hy)⟩
    obtain ⟨b, hb, e⟩ := List.mem_map.mp hm
    have := hf b (List.mem_cons_of_mem _ hb) a (List.mem_cons_self ..) e
    rw [this] at hb
    exact h'.1 hb
/-- the roots within the row -/
def rootsOf (c : List Nat) (n : Nat) : List GF := (placesOf c n).map fun i => up (spot n i)
theorem places_mem {c : List Nat} {n i : Nat} : i ∈ placesOf c n ↔ i < n ∧ at_ c (spot n i) = 0 := by
  unfold placesOf
  rw [List.mem_filter, List.mem_range, beq_iff_eq]
theorem roots_nodup {c : List Nat} {n : Nat} (hn : n ≤ 255) : (rootsOf c n).Nodup := by
  refine map_nodup (List.Nodup.sublist List.filter_sublist List.nodup_range) ?_
  intro a ha b hb h
  exact spot_inj hn (places_mem.mp ha).1 (places_mem.mp hb).1 h
theorem roots_are {c : List Nat} {n l : Nat} (hc : By c) (hl : c.length ≤ l + 1) : ∀ y ∈ rootsOf c n, y ≠ 0 ∧ pev (l + 1) (co c) y = 0 := by
  intro y hy
  obtain ⟨i, hi, rfl⟩ := List.mem_map.mp hy
  refine ⟨spot_ne n i, ?_⟩
  have e := up_at (spot_lt n i) hc
  rw [(places_mem.mp hi).2] at e
  rw [pev_to hl fun i h _ => co_far h]
  exact e.symm
theorem omega_by {c s : List Nat} (hc : By c) : By (omegaOf c s) := By.map fun k _ => xsum_lt (f := fun i => times (c.getD i 0) (s.getD (k - i) 0)) (fun i => times_lt _ (hc.getD i)) _ _ (by decide)
theorem omega_co {c s : List Nat} (hc : By c) (hs : By s) {k : Nat} (hk : k < 16) : co (omegaOf c s) k = conv (co c) (co s) k := by
  show up ((List.map _ (List.range 16)).getD k 0) = sm (k + 1) _
  rw [getD_range, if_pos hk, up_xsum (f := fun i => times (c.getD i 0) (s.getD (k - i) 0)) fun i => times_lt _ (hc.getD i)]
  exact sm_congr _ fun i _ => up_times (hc.getD i) (hs.getD _)
theorem omega_length (c s : List Nat) : (omegaOf c s).length = 16 := by
  unfold omegaOf; rw [List.length_map, List.length_range]; rfl
theorem slope_by {c : List Nat} (hc : By c) : By (slope c) := By.map fun i _ => by
  split
  · exact hc.getD _
  · decide
theorem slope_co (c : List Nat) (i : Nat) : co (slope c) i = if i % 2 = 0 then co c (i + 1) else 0 := by
  show up ((List.map _ (List.range _)).getD i 0) = _
  rw [getD_range]
  split
  · split
    · rfl
    · rfl
  · split
    · rw [co_far (by omega)]; rfl
    · rfl

section
variable {b s c : List Nat} {n l : Nat} (hs : By s) (hs16 : s.length = 16) (hn : n ≤ 255)
  {b' : List Nat} {m' d' : Nat} (h : St s 16 c l b' m' d') (hp : (placesOf c n).length = l)
include hs h
theorem omega_at {y : Nat} (hy : y < 256) : up (at_ (omegaOf c s) y) = pev l (conv (co c) (co s)) (up y) := by
  obtain ⟨o, a, lb, I, g⟩ := h.inv
  rw [up_at hy (omega_by h.cb), omega_length, pev_congr 16 (fun i hi => omega_co h.cb hs hi)]
  exact pev_to I.le (fun i h1 h2 => conv_high I h1 h2) _
omit hs in
theorem slope_at {y : Nat} (hy : y < 256) : up (at_ (slope c) y) = sm l fun i => (if i % 2 = 0 then co c (i + 1) else 0) * up y ^ i := by
  rw [up_at hy (slope_by h.cb)]
  have e : (slope c).length = c.length - 1 := by unfold slope; rw [List.length_map, List.length_range]
  have := h.cn
  have e2 : pev l (co (slope c)) (up y) = pev (slope c).length (co (slope c)) (up y) := pev_to (by omega) (fun i h1 _ => co_far h1) _
  rw [← e2]
  exact sm_congr _ fun i _ => by rw [slope_co]
include hn hp
theorem spots_good {i : Nat} (hi : i ∈ placesOf c n) : at_ (omegaOf c s) (spot n i) ≠ 0 ∧ at_ (slope c) (spot n i) ≠ 0 ∧
    up (errOf c s n i) * pev l (dq (co c) (up (spot n i))) (up (spot n i)) = pev l (conv (co c) (co s)) (up (spot n i)) := by
  obtain ⟨o, a, lb, I, g⟩ := h.inv
  have hy : up (spot n i) ∈ rootsOf c n := List.mem_map.mpr ⟨i, hi, rfl⟩
  have hr := roots_are (n := n) h.cb h.cn
  have hrn : (rootsOf c n).length = l := by unfold rootsOf; rw [List.length_map]; exact hp
  have h1 : pev l (conv (co c) (co s)) (up (spot n i)) ≠ 0 := omega_ne I (hr _ hy).1 (hr _ hy).2
  have h2 : pev l (dq (co c) (up (spot n i))) (up (spot n i)) ≠ 0 := dq_self I.c0 I.cl (roots_nodup hn) hrn hr hy
  have h3 : up (at_ (slope c) (spot n i)) = (up (spot n i))⁻¹ * pev l (dq (co c) (up (spot n i))) (up (spot n i)) := by
    rw [slope_at h (spot_lt n i)]
    exact slope_is I.cl two (hr _ hy).1 (hr _ hy).2
  have h4 := omega_at hs h (spot_lt n i)
  refine ⟨fun e => h1 ?_, fun e => ?_, ?_⟩
  · rw [← h4, e]; rfl
  · rw [e] at h3
    exact mul_ne (inv_ne (hr _ hy).1) h2 h3.symm
  · unfold errOf
    have b1 := at_lt (spot n i) (omega_by (s := s) h.cb)
    have b2 := at_lt (spot n i) (slope_by h.cb)
    rw [up_times (power_lt _) (times_lt _ b1), up_times b1 (inverse_lt b2), up_inverse b2, h3, h4, up_spot]
    rw [up_spot] at h2
    generalize pev l (dq (co c) (up (power (n - 1 - i)))⁻¹) (up (power (n - 1 - i)))⁻¹ = D at h2
    generalize pev l (conv (co c) (co s)) (up (power (n - 1 - i)))⁻¹ = O
    have hx := up_power_ne (n - 1 - i)
    generalize up (power (n - 1 - i)) = X at hx
    rw [inv_inv']
    have e1 := Field.mul_inv_cancel (mul_ne hx h2)
    grind
end

theorem ls_append {F : Type} [Field F] (g : F → F) : ∀ (l m : List F), ls g (l ++ m) = ls g l + ls g m
  | [], m => by show ls g m = 0 + _; grind
  | x :: l, m => by show g x + ls g (l ++ m) = g x + ls g l + _; rw [ls_append g l m]; grind
theorem ls_filter (g : GF → GF) (p : Nat → Bool) (Y : Nat → GF) : ∀ n, ls g (((List.range n).filter p).map Y) = sm n fun i => if p i = true then g (Y i) else 0
  | 0 => rfl
  | n + 1 => by
    rw [List.range_succ, List.filter_append, List.map_append, ls_append, ls_filter g p Y n]
    show _ = sm n (fun i => if p i = true then g (Y i) else 0) + if p n = true then g (Y n) else 0
    by_cases h : p n = true
    · rw [List.filter_cons_of_pos h, if_pos h]
      show _ + (g (Y n) + 0) = _
      grind
    · rw [List.filter_cons_of_neg h, if_neg h]
      rfl
theorem co_left {l m : List Nat} {i : Nat} (h : i < l.length) : co (l ++ m) i = co l i := by
  show up ((l ++ m).getD i 0) = up (l.getD i 0)
  rw [List.getD_eq_getElem?_getD, List.getElem?_append_left h, ← List.getD_eq_getElem?_getD]
theorem up_worth {x : Nat} (hx : x < 256) (l : List Nat) (h : By l) : up (worth l x) = sm l.length fun i => co l i * up x ^ (l.length - 1 - i) := by
  have e := up_worth_rev hx l.reverse h.reverse
  rw [List.reverse_reverse, List.length_reverse] at e
  rw [e]
  have rev : ∀ (n : Nat) (f : Nat → GF), sm n f = sm n fun i => f (n - 1 - i) := by
    intro n
    induction n with
    | zero => intro f; rfl
    | succ n ih =>
      intro f
      rw [sm_left]
      show _ = sm n _ + f (n + 1 - 1 - n)
      have e0 : n + 1 - 1 - n = 0 := by omega
      rw [e0, ih]
      have : (sm n fun i => f (n - 1 - i + 1)) = sm n fun i => f (n + 1 - 1 - i) := by
        refine sm_congr _ fun i hi => ?_
        have : n - 1 - i + 1 = n + 1 - 1 - i := by omega
        rw [this]
      rw [this]; grind
  show sm _ _ = _
  rw [rev]
  refine sm_congr _ fun i hi => ?_
  have : co l.reverse (l.length - 1 - i) = co l i := by
    show up (l.reverse.getD _ 0) = up (l.getD i 0)
    rw [List.getD_eq_getElem?_getD, List.getElem?_reverse (by omega), List.getD_eq_getElem?_getD]
    have : l.length - 1 - (l.length - 1 - i) = i := by omega
    rw [this]
  rw [this]
theorem pow_pow' (x : GF) (a b : Nat) : (x ^ a) ^ b = x ^ (a * b) := by
  induction b with
  | zero => rfl
  | succ b ih =>
    have e : (x ^ a) ^ (b + 1) = (x ^ a) ^ b * x ^ a := Semiring.pow_succ _ _
    rw [e, Nat.mul_succ, Bm.pow_add', ih]
theorem errOf_lt (c s : List Nat) (n i : Nat) : errOf c s n i < 256 := times_lt _ (power_lt _)
theorem fixed_by {b c s : List Nat} (hb : By b) : By (fixedOf b c s) := By.map fun i _ => by
  split
  · exact xlt (hb.getD i) (errOf_lt _ _ _ _)
  · exact hb.getD i
theorem fixed_length (b c s : List Nat) : (fixedOf b c s).length = b.length := by
  unfold fixedOf; rw [List.length_map, List.length_range]
theorem fixed_right {b : List Nat} (hb : By b) (hn : b.length ≤ 255) (hp : (placesOf (locator (syndromes b)).1 b.length).length = (locator (syndromes b)).2) :
    (syndromes (fixedOf b (locator (syndromes b)).1 (syndromes b))).all (fun x => x == 0) = true := by
  have hs := syndromes_by hb
  obtain ⟨b', m', d', h⟩ := locator_St hs
  rw [syndromes_length] at h
  generalize hc : (locator (syndromes b)).1 = c at hp h ⊢
  generalize hl : (locator (syndromes b)).2 = l at hp h
  have hF := fixed_by (c := c) (s := syndromes b) hb
  obtain ⟨o, a, lb, I, g⟩ := h.inv
  have hrn : (rootsOf c b.length).length = l := by unfold rootsOf; rw [List.length_map]; exact hp
  have key := forney I.c0 I.cl (roots_nodup hn) hrn (roots_are h.cb h.cn) (s := co (syndromes b)) (N := 16) (fun k h1 h2 => conv_high I h1 h2)
    (e := fun y => pev l (conv (co c) (co (syndromes b))) y * (pev l (dq (co c) y) y)⁻¹)
    (fun y hy => by
      have h2 := dq_self I.c0 I.cl (roots_nodup hn) hrn (roots_are h.cb h.cn) hy
      exact (quo_up h2).symm)
  rw [List.all_eq_true]
  intro x hx
  obtain ⟨j, hj, rfl⟩ := List.mem_map.mp hx
  have hj16 : j < 16 := List.mem_range.mp hj
  rw [beq_iff_eq, ← up_eq_zero (worth_byte _ hF), up_worth (power_lt j) _ hF, fixed_length]
  have kj := key j hj16
  have es : co (syndromes b) j = sm b.length fun i => co b i * up (power j) ^ (b.length - 1 - i) := by
    show up ((syndromes b).getD j 0) = _
    rw [syndromes_at hj16, up_worth (power_lt j) _ hb]
  unfold rootsOf placesOf at kj
  rw [ls_filter, es] at kj
  have split : (sm b.length fun i => co (fixedOf b c (syndromes b)) i * up (power j) ^ (b.length - 1 - i)) =
      (sm b.length fun i => co b i * up (power j) ^ (b.length - 1 - i)) +
      sm b.length fun i => if (at_ c (spot b.length i) == 0) = true then
        pev l (conv (co c) (co (syndromes b))) (up (spot b.length i)) * (pev l (dq (co c) (up (spot b.length i))) (up (spot b.length i)))⁻¹ * (up (spot b.length i))⁻¹ ^ j else 0 := by
    rw [← sm_add]
    refine sm_congr _ fun i hi => ?_
    have e1 : co (fixedOf b c (syndromes b)) i = up (if (placesOf c b.length).contains i = true then b.getD i 0 ^^^ errOf c (syndromes b) b.length i else b.getD i 0) := by
      show up ((List.map _ (List.range _)).getD i 0) = _
      rw [getD_range, if_pos hi]
    rw [e1]
    by_cases f : i ∈ placesOf c b.length
    · have f' := (places_mem.mp f).2
      rw [if_pos (List.contains_iff_mem.mpr f), if_pos (beq_iff_eq.mpr f'), up_xor (hb.getD i) (errOf_lt _ _ _ _)]
      have sg := (spots_good hs hn h hp f).2.2
      have hy : up (spot b.length i) ∈ rootsOf c b.length := List.mem_map.mpr ⟨i, f, rfl⟩
      have h2 := dq_self I.c0 I.cl (roots_nodup hn) hrn (roots_are h.cb h.cn) hy
      have e2 : (up (spot b.length i))⁻¹ ^ j = up (power j) ^ (b.length - 1 - i) := by
        rw [up_spot, inv_inv', up_power, up_power, pow_pow', pow_pow', Nat.mul_comm]
      rw [e2, ← sg]
      show (co b i + _) * _ = co b i * _ + _
      have := Field.mul_inv_cancel h2
      grind
    · have f' : ¬ (at_ c (spot b.length i) == 0) = true := by
        rw [beq_iff_eq]
        exact fun e => f (places_mem.mpr ⟨hi, e⟩)
      rw [if_neg (fun e => f (List.contains_iff_mem.mp e)), if_neg f']
      show co b i * _ = _
      grind
  rw [split, ← kj]
  grind

theorem worth_one (x : Nat) : worth [1] x = 1 := by
  show times 0 x ^^^ 1 = 1
  rw [zero_times]; rfl
theorem all_zero {s : List Nat} (h : s.all (fun x => x == 0) = true) (i : Nat) : s.getD i 0 = 0 := by
  rw [List.getD_eq_getElem?_getD]
  cases e : s[i]? with
  | none => rfl
  | some x => exact beq_iff_eq.mp (List.all_eq_true.mp h x (List.mem_of_getElem? e))
theorem recur_zero {s : List Nat} (h : s.all (fun x => x == 0) = true) : ∀ (k : Nat) (b : List Nat) (m d0 : Nat), recur s k ([1], 0, b, m, d0) = ([1], 0)
  | 0, _, _, _ => rfl
  | k + 1, b, m, d0 => by
    rw [recur_step, if_pos]
    · exact recur_zero h k b (m + 1) d0
    · show 0 ^^^ times 1 (s.getD _ 0) = 0
      rw [all_zero h, times_zero]; rfl
/-- **the look back isn't wanted** -/
theorem mend_is {b : List Nat} (hb : By b) (hn : b.length ≤ 255) : mend b = mended b := by
  rw [mend_def]
  unfold mended
  by_cases z : (syndromes b).all (fun x => x == 0) = true
  · rw [if_pos z]
    have e : locator (syndromes b) = ([1], 0) := recur_zero z _ _ _ _
    have ep : placesOf [1] b.length = [] := by
      unfold placesOf
      rw [List.filter_eq_nil_iff]
      intro i _
      show ¬ (worth [1] (spot b.length i) == 0) = true
      rw [worth_one]; decide
    show some (b, 0) = if 8 < (locator (syndromes b)).2 ∨ (placesOf (locator (syndromes b)).1 b.length).length ≠ (locator (syndromes b)).2 then none else some (fixedOf b (locator (syndromes b)).1 (syndromes b), (locator (syndromes b)).2)
    rw [e]
    show some (b, 0) = if 8 < 0 ∨ (placesOf [1] b.length).length ≠ 0 then none else some (fixedOf b [1] (syndromes b), 0)
    rw [if_neg (by rw [ep]; show ¬ (8 < 0 ∨ 0 ≠ 0); omega)]
    have : fixedOf b [1] (syndromes b) = b := by
      unfold fixedOf
      rw [ep]
      apply List.ext_getElem?
      intro i
      rw [List.getElem?_map]
      by_cases hi : i < b.length
      · rw [List.getElem?_range hi]
        show some (if ([] : List Nat).contains i = true then _ else b.getD i 0) = _
        rw [if_neg (by simp), List.getD_eq_getElem?_getD, List.getElem?_eq_getElem hi]; rfl
      · rw [List.getElem?_eq_none (by rw [List.length_range]; omega), List.getElem?_eq_none (by omega)]; rfl
    rw [this]
  · rw [if_neg z]
    show _ = if 8 < (locator (syndromes b)).2 ∨ (placesOf (locator (syndromes b)).1 b.length).length ≠ (locator (syndromes b)).2 then none else some _
    by_cases g : 8 < (locator (syndromes b)).2 ∨ (placesOf (locator (syndromes b)).1 b.length).length ≠ (locator (syndromes b)).2
    · rw [if_pos g, if_pos g]
    · rw [if_neg g, if_neg g, if_pos (fixed_right hb hn (by omega))]
end Gf
/-! ## GfD -/
set_option Elab.async false
set_option maxRecDepth 100000
namespace Gf
open Fm11 Bm
open Lean.Grind

/-- two rows added -/
def addl (a b : List Nat) : List Nat := (a.zip b).map fun y => y.1 ^^^ y.2
theorem addl_cons (x : Nat) (a : List Nat) (y : Nat) (b : List Nat) : addl (x :: a) (y :: b) = (x ^^^ y) :: addl a b := rfl
theorem addl_length (a b : List Nat) : (addl a b).length = min a.length b.length := by
  unfold addl; rw [List.length_map, List.length_zip]
theorem addl_by {a b : List Nat} (ha : By a) (hb : By b) : By (addl a b) := By.map fun x hx => by
  have := List.of_mem_zip (a := x.1) (b := x.2) hx
  exact xlt (ha _ this.1) (hb _ this.2)
theorem fold_addl {x : Nat} : ∀ (a b : List Nat) (r q : Nat), a.length = b.length → By a → By b → r < 256 → q < 256 →
    (addl a b).foldl (fun r c => times r x ^^^ c) (r ^^^ q) = a.foldl (fun r c => times r x ^^^ c) r ^^^ b.foldl (fun r c => times r x ^^^ c) q
  | [], [], _, _, _, _, _, _, _ => rfl
  | [], _ :: _, _, _, h, _, _, _, _ => by cases h
  | _ :: _, [], _, _, h, _, _, _, _ => by cases h
  | u :: a, v :: b, r, q, h, ha, hb, hr, hq => by
    rw [addl_cons, List.foldl_cons, List.foldl_cons, List.foldl_cons, times_xor_left _ hr hq, x4]
    exact fold_addl a b _ _ (Nat.succ.inj h) ha.tail hb.tail (xlt (times_lt _ hr) ha.head) (xlt (times_lt _ hq) hb.head)
theorem worth_addl {a b : List Nat} (x : Nat) (h : a.length = b.length) (ha : By a) (hb : By b) : worth (addl a b) x = worth a x ^^^ worth b x :=
  fold_addl a b 0 0 h ha hb (by decide) (by decide)
theorem worth_nil (x : Nat) : worth [] x = 0 := rfl
theorem worth_map {f x : Nat} (hf : f < 256) : ∀ (l : List Nat) (r : Nat), By l → r < 256 → (l.map (times f)).foldl (fun r c => times r x ^^^ c) (times f r) = times f (l.foldl (fun r c => times r x ^^^ c) r)
  | [], _, _, _ => rfl
  | c :: l, r, h, hr => by
    rw [List.map_cons, List.foldl_cons, List.foldl_cons]
    have e : times (times f r) x ^^^ times f c = times f (times r x ^^^ c) := by
      rw [times_xor_right _ _ hf, times_assoc hr _ hf]
    rw [e]
    exact worth_map hf l _ h.tail (xlt (times_lt _ hr) h.head)
theorem worth_scale {f : Nat} (x : Nat) (hf : f < 256) {l : List Nat} (h : By l) : worth (l.map (times f)) x = times f (worth l x) := by
  have := worth_map (x := x) hf l 0 h (by decide)
  rw [times_zero] at this
  exact this
theorem worth_cons (c : Nat) (x : Nat) (l : List Nat) (h : c < 256) (hl : By l) (hx : x < 256) : up (worth (c :: l) x) = up c * up x ^ l.length + up (worth l x) := by
  rw [up_worth hx (c :: l) (By.cons h hl), up_worth hx l hl]
  show sm (l.length + 1) _ = _
  rw [sm_left]
  have e1 : (c :: l).length - 1 - 0 = l.length := by simp
  have e2 : (sm l.length fun i => co (c :: l) (i + 1) * up x ^ ((c :: l).length - 1 - (i + 1))) = sm l.length fun i => co l i * up x ^ (l.length - 1 - i) := by
    refine sm_congr _ fun i hi => ?_
    have : (c :: l).length - 1 - (i + 1) = l.length - 1 - i := by simp; omega
    rw [this]; rfl
  rw [e1, e2]; rfl
theorem worth_append (x : Nat) (hx : x < 256) (m : List Nat) (hm : By m) : ∀ l : List Nat, By l → up (worth (l ++ m) x) = up (worth l x) * up x ^ m.length + up (worth m x)
  | [], _ => by
    show up (worth m x) = up 0 * _ + _
    rw [up_zero]; grind
  | c :: l, h => by
    rw [List.cons_append, worth_cons c x (l ++ m) h.head (h.tail.append hm) hx, worth_append x hx m hm l h.tail, worth_cons c x l h.head h.tail hx, List.length_append, Bm.pow_add']
    grind

/-- what's left behind a row, one byte further -/
def lfsr (g r : List Nat) (c : Nat) : List Nat := addl (r.drop 1 ++ [0]) (g.map (times (c ^^^ r.headD 0)))
theorem zip_map_right {α β γ δ : Type} (f : β → γ) (h : α → γ → δ) : ∀ (a : List α) (b : List β), (a.zip b).map (fun y => h y.1 (f y.2)) = (a.zip (b.map f)).map fun y => h y.1 y.2
  | [], _ => rfl
  | _ :: _, [] => rfl
  | x :: a, y :: b => by
    rw [List.map_cons, List.zip_cons_cons, List.zip_cons_cons, List.map_cons, List.map_cons, zip_map_right f h a b]
def gen : List Nat := (roots PARITY).drop 1
theorem parity_fold (b : List Nat) : parity b = b.foldl (lfsr gen) (List.replicate 16 0) := by
  unfold parity
  show b.foldl _ _ = _
  have : (fun (r : Bytes) c => let f := c ^^^ r.headD 0
    ((r.drop 1 ++ [0]).zip gen).map fun (y : Nat × Nat) => y.1 ^^^ times f y.2) = lfsr gen := by
    funext r c
    exact zip_map_right (times (c ^^^ r.headD 0)) (fun a b => a ^^^ b) _ _
  show b.foldl (fun (r : Bytes) c => let f := c ^^^ r.headD 0
    ((r.drop 1 ++ [0]).zip gen).map fun (y : Nat × Nat) => y.1 ^^^ times f y.2) _ = _
  rw [this]; rfl
theorem gen_length : gen.length = 16 := by decide +kernel
theorem gen_by : By gen := by unfold By; decide +kernel
theorem headD_lt {r : List Nat} (h : By r) : r.headD 0 < 256 := by
  cases r with
  | nil => decide
  | cons x r => exact h.head
theorem lfsr_length {r : List Nat} (c : Nat) (h : r.length = 16) : (lfsr gen r c).length = 16 := by
  unfold lfsr
  rw [addl_length, List.length_append, List.length_drop, List.length_map, gen_length, h]; rfl
theorem lfsr_by {r : List Nat} {c : Nat} (h : By r) (hc : c < 256) : By (lfsr gen r c) :=
  addl_by ((h.drop 1).append (By.cons (by decide) By.nil)) (By.map fun x _ => times_lt _ (xlt hc (headD_lt h)))
theorem gen_root : ∀ j < 16, worth (1 :: gen) (power j) = 0 := by decide +kernel
/-- a row with its parity is 0 there -/
theorem lfsr_step {x : Nat} (hx : x < 256) (hg : worth (1 :: gen) x = 0) {r : List Nat} {c : Nat} (h : By r) (hc : c < 256) (hl : r.length = 16) :
    up (worth (lfsr gen r c) x) = up x * up (worth r x) + up c * up x ^ 16 := by
  obtain ⟨r0, t, rfl⟩ : ∃ r0 t, r = r0 :: t := by
    cases r with
    | nil => cases hl
    | cons a b => exact ⟨a, b, rfl⟩
  have ht : t.length = 15 := Nat.succ.inj hl
  have hf : c ^^^ r0 < 256 := xlt hc h.head
  have e : lfsr gen (r0 :: t) c = addl (t ++ [0]) (gen.map (times (c ^^^ r0))) := rfl
  have b1 : By (t ++ [0]) := h.tail.append (By.cons (by decide) By.nil)
  have b2 : By (gen.map (times (c ^^^ r0))) := By.map fun x _ => times_lt _ hf
  have e3 := worth_cons 1 x gen (by decide) gen_by hx
  rw [hg, gen_length] at e3
  rw [e, worth_addl x (by rw [List.length_append, List.length_map, gen_length, ht]; rfl) b1 b2, up_xor (worth_byte x b1) (worth_byte x b2), worth_scale x hf gen_by,
    up_times hf (worth_byte x gen_by), worth_snoc, worth_cons r0 x t h.head h.tail hx, ht, Nat.xor_zero, up_times (worth_byte x h.tail) hx, up_xor hc h.head]
  have e4 : up x ^ 16 = up x ^ 15 * up x := Semiring.pow_succ _ _
  have e5 : up 0 = up 1 * up x ^ 16 + up (worth gen x) := e3
  rw [up_zero, up_one] at e5
  grind
theorem lfsr_root {x : Nat} (hx : x < 256) (hg : worth (1 :: gen) x = 0) : ∀ (l r : List Nat) (q : Nat), By l → By r → r.length = 16 → q < 256 → up q * up x ^ 16 = up (worth r x) →
    up (l.foldl (fun r c => times r x ^^^ c) q) * up x ^ 16 = up (worth (l.foldl (lfsr gen) r) x)
  | [], _, _, _, _, _, _, h => h
  | c :: l, r, q, hl, hr, h16, hq, h => by
    rw [List.foldl_cons, List.foldl_cons]
    refine lfsr_root hx hg l _ _ hl.tail (lfsr_by hr hl.head) (lfsr_length _ h16) (xlt (times_lt _ hq) hl.head) ?_
    rw [lfsr_step hx hg hr hl.head h16, up_xor (times_lt _ hq) hl.head, up_times hq hx, ← h]
    grind
theorem lfsr_all {l r : List Nat} (hl : By l) (hr : By r) (h : r.length = 16) : By (l.foldl (lfsr gen) r) ∧ (l.foldl (lfsr gen) r).length = 16 := by
  induction l generalizing r with
  | nil => exact ⟨hr, h⟩
  | cons c l ih => exact ih hl.tail (lfsr_by hr hl.head) (lfsr_length _ h)
theorem parity_by {b : List Nat} (h : By b) : By (parity b) := by
  rw [parity_fold]; exact (lfsr_all h (By.rep 16) (List.length_replicate ..)).1
theorem parity_length {b : List Nat} (h : By b) : (parity b).length = 16 := by
  rw [parity_fold]; exact (lfsr_all h (By.rep 16) (List.length_replicate ..)).2
theorem parity_root {b : List Nat} (h : By b) {j : Nat} (hj : j < 16) : up (worth b (power j)) * up (power j) ^ 16 = up (worth (parity b) (power j)) := by
  rw [parity_fold]
  refine lfsr_root (power_lt j) (gen_root j hj) b _ 0 h (By.rep 16) (List.length_replicate ..) (by decide) ?_
  have : ∀ x, worth (List.replicate 16 0) x = 0 := by
    intro x
    unfold worth
    have : ∀ n, (List.replicate n 0).foldl (fun r c => times r x ^^^ c) 0 = 0 := by
      intro n
      induction n with
      | zero => rfl
      | succ n ih =>
        rw [List.replicate_succ, List.foldl_cons, zero_times]; exact ih
    exact this 16
  rw [this, up_zero]; grind
/-- the difference from the right row with the same front has the same values -/
theorem worth_diff {f t : List Nat} (hf : By f) (ht : By t) (hl : t.length = 16) {j : Nat} (hj : j < 16) : worth (addl (parity f) t) (power j) = worth (f ++ t) (power j) := by
  have hp := parity_by hf
  apply up_inj (worth_byte _ (addl_by hp ht)) (worth_byte _ (hf.append ht))
  rw [worth_addl _ (by rw [parity_length hf, hl]) hp ht, up_xor (worth_byte _ hp) (worth_byte _ ht), ← parity_root hf hj, worth_append _ (power_lt j) t ht f hf, hl]
theorem syndromes_diff {b : List Nat} (h : By b) (h16 : 16 ≤ b.length) : syndromes b = (List.range 16).map fun j => worth (addl (parity (b.take (b.length - 16))) (b.drop (b.length - 16))) (power j) := by
  unfold syndromes
  apply List.map_congr_left
  intro j hj
  rw [worth_diff (h.take _) (h.drop _) (by rw [List.length_drop]; omega) (List.mem_range.mp hj), List.take_append_drop]
/-- the product of the roots' factors, one more -/
theorem roots_step (n : Nat) : roots (n + 1) = addl (roots n ++ [0]) ((0 :: roots n).map (times (power n))) :=
  zip_map_right (times (power n)) (fun a b => a ^^^ b) _ _
theorem roots_by : ∀ n, By (roots n)
  | 0 => By.cons (by decide) By.nil
  | n + 1 => by
    rw [roots_step]
    exact addl_by ((roots_by n).append (By.cons (by decide) By.nil)) (By.map fun x _ => times_lt _ (power_lt _))
theorem roots_length : ∀ n, (roots n).length = n + 1
  | 0 => rfl
  | n + 1 => by
    rw [roots_step, addl_length, List.length_append, List.length_map, List.length_cons, List.length_cons, roots_length n]
    show min (n + 1 + 1) (n + 1 + 1) = _
    rw [Nat.min_self]
end Gf
/-! ## GfE -/
set_option Elab.async false
set_option maxRecDepth 100000
namespace Gf
open Fm11 Bm
open Lean.Grind
/-- how much the recurrence c misses s by at a place -/
def lack (c s : List Nat) (n : Nat) : Nat := (List.range c.length).foldl (fun r i => r ^^^ times (c.getD i 0) (s.getD (n - i) 0)) 0
theorem xfold_more {f : Nat → Nat} {m : Nat} (h : ∀ i, m ≤ i → f i = 0) : ∀ k, (List.range (m + k)).foldl (fun r i => r ^^^ f i) 0 = (List.range m).foldl (fun r i => r ^^^ f i) 0
  | 0 => rfl
  | k + 1 => by
    rw [← Nat.add_assoc, List.range_succ, List.foldl_append, xfold_more h k]
    show _ ^^^ f (m + k) = _
    rw [h _ (by omega), Nat.xor_zero]
theorem miss_lack {s c : List Nat} {l n : Nat} (h : c.length ≤ l + 1) : miss s c l n = lack c s n := by
  unfold miss lack
  obtain ⟨k, hk⟩ : ∃ k, l + 1 = c.length + k := ⟨l + 1 - c.length, by omega⟩
  rw [hk]
  exact xfold_more (f := fun i => times (c.getD i 0) (s.getD (n - i) 0)) (fun i hi => by rw [getD_far hi, zero_times]) k
theorem lack_lt {c : List Nat} (s : List Nat) (n : Nat) (hc : By c) : lack c s n < 256 :=
  xsum_lt (f := fun i => times (c.getD i 0) (s.getD (n - i) 0)) (fun i => times_lt _ (hc.getD i)) _ _ (by decide)
theorem getD_take {l : List Nat} {i k : Nat} (h : i < k) : (l.take k).getD i 0 = l.getD i 0 := by
  rw [List.getD_eq_getElem?_getD, List.getElem?_take_of_lt h, ← List.getD_eq_getElem?_getD]
/-- the evaluator's coefficients as the program has them -/
def evOf (c s : List Nat) : List Nat := (List.range (c.length - 1)).map fun k => lack (c.take (k + 1)) s k
theorem ev_by {c s : List Nat} (hc : By c) : By (evOf c s) := By.map fun k _ => lack_lt _ _ (hc.take _)
theorem ev_length (c s : List Nat) : (evOf c s).length = c.length - 1 := by unfold evOf; rw [List.length_map, List.length_range]
theorem lack_take {c s : List Nat} {k : Nat} (hk : k + 1 ≤ c.length) : lack (c.take (k + 1)) s k = (List.range (k + 1)).foldl (fun r i => r ^^^ times (c.getD i 0) (s.getD (k - i) 0)) 0 := by
  unfold lack
  rw [List.length_take, Nat.min_eq_left hk]
  have : ∀ (n : Nat), n ≤ k + 1 → (List.range n).foldl (fun r i => r ^^^ times ((c.take (k + 1)).getD i 0) (s.getD (k - i) 0)) 0 = (List.range n).foldl (fun r i => r ^^^ times (c.getD i 0) (s.getD (k - i) 0)) 0 := by
    intro n
    induction n with
    | zero => intro _; rfl
    | succ n ih =>
      intro h
      rw [List.range_succ, List.foldl_append, List.foldl_append, ih (by omega)]
      show _ ^^^ times ((c.take (k + 1)).getD n 0) _ = _ ^^^ times (c.getD n 0) _
      rw [getD_take (by omega)]
  exact this (k + 1) (Nat.le_refl _)
theorem ev_co {c s : List Nat} (hc : By c) (hs : By s) {k : Nat} (hk : k < c.length - 1) : co (evOf c s) k = conv (co c) (co s) k := by
  show up ((List.map _ (List.range _)).getD k 0) = sm (k + 1) _
  rw [getD_range, if_pos hk, lack_take (by omega), up_xsum (f := fun i => times (c.getD i 0) (s.getD (k - i) 0)) fun i => times_lt _ (hc.getD i)]
  exact sm_congr _ fun i _ => up_times (hc.getD i) (hs.getD _)
theorem slope_list (c : List Nat) : ((List.range (c.length - 1)).map fun i => if (1 + i) % 2 = 1 then c.getD (1 + i) 0 else 0) = slope c := by
  unfold slope
  apply List.map_congr_left
  intro i _
  by_cases g : i % 2 = 0
  · rw [if_pos g, if_pos (by omega), Nat.add_comm]
  · rw [if_neg g, if_neg (by omega)]
theorem slope_length (c : List Nat) : (slope c).length = c.length - 1 := by unfold slope; rw [List.length_map, List.length_range]

/-- a power's other way -/
theorem power_neg {p : Nat} (h : p < 255) : power ((-(p : Int)) % 255).toNat = inverse (power p) := by
  rw [inverse_eq (power_lt p) (power_ne p), lg_power h, power_mod (255 - p)]
  congr 1
  omega
/-- the places counted from the row's end -/
def placesP (c : List Nat) (n : Nat) : List Nat := (List.range n).filter fun p => at_ c (inverse (power p)) == 0
theorem placesP_mem {c : List Nat} {n p : Nat} : p ∈ placesP c n ↔ p < n ∧ at_ c (inverse (power p)) = 0 := by
  unfold placesP
  rw [List.mem_filter, List.mem_range, beq_iff_eq]
theorem placesP_nodup (c : List Nat) (n : Nat) : (placesP c n).Nodup := List.Nodup.sublist List.filter_sublist List.nodup_range
theorem rev_count (n : Nat) (f : Nat → Bool) : ((List.range n).filter f).length = ((List.range n).filter fun i => f (n - 1 - i)).length := by
  have e : (List.range n).map (fun i => n - 1 - i) = (List.range n).reverse := by
    apply List.ext_getElem?
    intro i
    rw [List.getElem?_map]
    by_cases h : i < n
    · rw [List.getElem?_range h, List.getElem?_reverse (by rw [List.length_range]; exact h), List.length_range, List.getElem?_range (by omega)]
      rfl
    · rw [List.getElem?_eq_none (by rw [List.length_range]; omega), List.getElem?_eq_none (by rw [List.length_reverse, List.length_range]; omega)]
      rfl
  have e2 : ((List.range n).filter fun i => f (n - 1 - i)).map (fun i => n - 1 - i) = ((List.range n).map fun i => n - 1 - i).filter f := by
    rw [List.filter_map]
    rfl
  have := congrArg List.length e2
  rw [List.length_map, e, List.filter_reverse, List.length_reverse] at this
  exact this.symm
theorem placesP_length (c : List Nat) (n : Nat) : (placesP c n).length = (placesOf c n).length := rev_count n _
theorem mem_places {c : List Nat} {n i : Nat} (h : i < n) : n - 1 - i ∈ placesP c n ↔ i ∈ placesOf c n := by
  rw [placesP_mem, places_mem]
  constructor
  · intro z; exact ⟨h, z.2⟩
  · intro z; exact ⟨by omega, z.2⟩
/-- the error at a place, as the program has it -/
def errP (c s : List Nat) (p : Nat) : Nat := times (power p) (times (at_ (evOf c s) (inverse (power p))) (inverse (at_ (slope c) (inverse (power p)))))
theorem errP_lt (c s : List Nat) (p : Nat) : errP c s p < 256 := times_lt _ (power_lt _)
section
variable {s c : List Nat} {n l : Nat} (hs : By s) (hn : n ≤ 255) {b' : List Nat} {m' d' : Nat} (h : St s 16 c l b' m' d') (hp : (placesP c n).length = l)
include hn h hp
/-- as many roots as the recurrence is long: its list is as long as may be -/
theorem long : c.length = l + 1 := by
  have hcn := h.cn
  have h1 := h.c1
  by_cases g : c.length = l + 1
  · exact g
  · exfalso
    rw [placesP_length] at hp
    obtain ⟨o, a, lb, I, _⟩ := h.inv
    have hr := roots_are (n := n) (l := c.length - 1) h.cb (by omega)
    have := roots_zero c.length (co c) (rootsOf c n) (roots_nodup hn) (by unfold rootsOf; rw [List.length_map]; omega) (fun y hy => by
      have := (hr y hy).2
      rwa [show c.length - 1 + 1 = c.length by omega] at this) 0 (by omega)
    rw [I.c0] at this
    exact one_ne this
include hs
theorem ev_at {y : Nat} (hy : y < 256) : at_ (evOf c s) y = at_ (omegaOf c s) y := by
  have hL := long hn h hp
  apply up_inj (at_lt _ (ev_by h.cb)) (at_lt _ (omega_by h.cb))
  rw [omega_at hs h hy, up_at hy (ev_by h.cb), ev_length, hL]
  exact pev_congr _ (fun i hi => ev_co h.cb hs (by omega)) _
/-- where an error is, neither is 0 -/
theorem at_place {p : Nat} (hpm : p ∈ placesP c n) : at_ (evOf c s) (inverse (power p)) ≠ 0 ∧ at_ (slope c) (inverse (power p)) ≠ 0 ∧ errP c s p = errOf c s n (n - 1 - p) := by
  have hlt := (placesP_mem.mp hpm).1
  have e : n - 1 - (n - 1 - p) = p := by omega
  have hi : n - 1 - p ∈ placesOf c n := by
    rw [places_mem]
    refine ⟨by omega, ?_⟩
    unfold spot
    rw [e]
    exact (placesP_mem.mp hpm).2
  have sg := spots_good hs hn h (by rw [← placesP_length]; exact hp) hi
  unfold spot at sg
  rw [e] at sg
  have ee := ev_at hs hn h hp (y := inverse (power p)) (inverse_lt (power_lt p))
  refine ⟨by rw [ee]; exact sg.1, sg.2.1, ?_⟩
  unfold errP errOf spot
  rw [ee, e]
end
/-- the row, right at the first i places -/
def fixAt (b c s : List Nat) (ps : List Nat) : List Nat := (List.range b.length).map fun j => if (b.length - 1 - j) ∈ ps then b.getD j 0 ^^^ errP c s (b.length - 1 - j) else b.getD j 0
theorem fixAt_nil (b c s : List Nat) : fixAt b c s [] = b := by
  unfold fixAt
  apply List.ext_getElem?
  intro i
  rw [List.getElem?_map]
  by_cases h : i < b.length
  · rw [List.getElem?_range h]
    show some (if (b.length - 1 - i) ∈ ([] : List Nat) then _ else b.getD i 0) = _
    rw [if_neg List.not_mem_nil, List.getD_eq_getElem?_getD, List.getElem?_eq_getElem h]
    rfl
  · rw [List.getElem?_eq_none (by rw [List.length_range]; omega), List.getElem?_eq_none (by omega)]
    rfl
theorem fixAt_length (b c s ps : List Nat) : (fixAt b c s ps).length = b.length := by
  unfold fixAt
  rw [List.length_map, List.length_range]
theorem fixAt_get {b c s ps : List Nat} {j : Nat} (h : j < b.length) : (fixAt b c s ps).getD j 0 = if (b.length - 1 - j) ∈ ps then b.getD j 0 ^^^ errP c s (b.length - 1 - j) else b.getD j 0 := by
  unfold fixAt
  rw [getD_range, if_pos h]
theorem fixAt_more {b c s ps : List Nat} {p : Nat} (hp : p < b.length) (hn : p ∉ ps) :
    (fixAt b c s ps).set (b.length - 1 - p) ((fixAt b c s ps).getD (b.length - 1 - p) 0 ^^^ errP c s p) = fixAt b c s (ps ++ [p]) := by
  have e : b.length - 1 - (b.length - 1 - p) = p := by omega
  rw [fixAt_get (by omega), e, if_neg hn]
  apply List.ext_getElem?
  intro j
  rw [List.getElem?_set, fixAt_length]
  by_cases h : j < b.length
  · by_cases g : b.length - 1 - p = j
    · rw [if_pos g, if_pos (by omega)]
      unfold fixAt
      rw [List.getElem?_map, List.getElem?_range h]
      show _ = some (if (b.length - 1 - j) ∈ ps ++ [p] then _ else _)
      have : b.length - 1 - j = p := by omega
      rw [if_pos (List.mem_append.mpr (.inr (List.mem_singleton.mpr this))), this, g]
    · rw [if_neg g]
      unfold fixAt
      rw [List.getElem?_map, List.getElem?_map, List.getElem?_range h]
      show some (if (b.length - 1 - j) ∈ ps then _ else _) = some (if (b.length - 1 - j) ∈ ps ++ [p] then _ else _)
      by_cases f : b.length - 1 - j ∈ ps
      · rw [if_pos f, if_pos (List.mem_append.mpr (.inl f))]
      · rw [if_neg f, if_neg]
        intro z
        rcases List.mem_append.mp z with z | z
        · exact f z
        · have := List.mem_singleton.mp z
          omega
  · rw [if_neg (by omega), List.getElem?_eq_none (by rw [fixAt_length]; omega), List.getElem?_eq_none (by rw [fixAt_length]; omega)]
theorem fixAt_all {b : List Nat} (hb : By b) (hn : b.length ≤ 255) {l : Nat} {c : List Nat} {b' : List Nat} {m' d' : Nat} (h : St (syndromes b) 16 c l b' m' d') (hp : (placesP c b.length).length = l) :
    fixAt b c (syndromes b) (placesP c b.length) = fixedOf b c (syndromes b) := by
  unfold fixAt fixedOf
  apply List.map_congr_left
  intro j hj
  have hj' := List.mem_range.mp hj
  by_cases g : b.length - 1 - j ∈ placesP c b.length
  · rw [if_pos g, if_pos (List.contains_iff_mem.mpr ((mem_places hj').mp g)), (at_place (syndromes_by hb) hn h hp g).2.2]
    have : b.length - 1 - (b.length - 1 - j) = j := by omega
    rw [this]
  · rw [if_neg g, if_neg (fun z => g ((mem_places hj').mpr (List.contains_iff_mem.mp z)))]
/-- mended, as the program does it -/
theorem mend_P {b : List Nat} (hb : By b) (hn : b.length ≤ 255) : mend b =
    if 8 < (locator (syndromes b)).2 then none else if (placesP (locator (syndromes b)).1 b.length).length ≠ (locator (syndromes b)).2 then none
    else some (fixAt b (locator (syndromes b)).1 (syndromes b) (placesP (locator (syndromes b)).1 b.length), (locator (syndromes b)).2) := by
  have hst := locator_St (syndromes_by hb)
  rw [syndromes_length] at hst
  obtain ⟨b', m', d', h⟩ := hst
  rw [mend_is hb hn]
  show (if 8 < (locator (syndromes b)).2 ∨ (placesOf (locator (syndromes b)).1 b.length).length ≠ (locator (syndromes b)).2 then none else some (fixedOf b (locator (syndromes b)).1 (syndromes b), (locator (syndromes b)).2)) = _
  rw [placesP_length]
  by_cases g : 8 < (locator (syndromes b)).2
  · rw [if_pos g, if_pos (.inl g)]
  · rw [if_neg g]
    by_cases f : (placesOf (locator (syndromes b)).1 b.length).length = (locator (syndromes b)).2
    · rw [if_neg (fun z => z.elim g (fun y => y f)), if_neg (fun z => z f), fixAt_all hb hn h (by rw [placesP_length]; exact f)]
    · rw [if_pos f, if_pos (.inr f)]
end Gf
/-! ## GfF -/
set_option Elab.async false
set_option maxRecDepth 100000
namespace Gf
open Fm11
theorem xor_ones {c : Nat} (h : c < 2 ^ 32) : c ^^^ (2 ^ 32 - 1) = 2 ^ 32 - 1 - c := by
  apply Nat.eq_of_testBit_eq
  intro i
  have e : 2 ^ 32 - 1 - c = 2 ^ 32 - (c + 1) := by omega
  rw [e, Nat.testBit_xor, Nat.testBit_two_pow_sub_succ h, Nat.testBit_two_pow_sub_one]
  by_cases g : i < 32
  · rw [decide_eq_true g]; cases c.testBit i <;> rfl
  · rw [decide_eq_false g]
    have : c.testBit i = false := Nat.testBit_lt_two_pow (Nat.lt_of_lt_of_le h (Nat.pow_le_pow_right (by decide) (by omega)))
    rw [this]; rfl
theorem sumBit_lt {c : Nat} (h : c < 2 ^ 32) : sumBit c < 2 ^ 32 := by
  unfold sumBit
  split
  · exact Nat.xor_lt_two_pow (by omega) (by decide)
  · omega
/-- one byte more -/
def crcByte (c x : Nat) : Nat := (List.range 8).foldl (fun c _ => sumBit c) (c ^^^ x)
def crcRaw (l : List Nat) : Nat := l.foldl crcByte (2 ^ 32 - 1)
def crcBits (c n : Nat) : Nat := (List.range n).foldl (fun c _ => sumBit c) c
theorem crcBits_succ (c n : Nat) : crcBits c (n + 1) = sumBit (crcBits c n) := by
  unfold crcBits
  rw [List.range_succ, List.foldl_append]; rfl
theorem crcBits_lt {c : Nat} (h : c < 2 ^ 32) : ∀ n, crcBits c n < 2 ^ 32
  | 0 => h
  | n + 1 => by rw [crcBits_succ]; exact sumBit_lt (crcBits_lt h n)
theorem crcByte_lt {c x : Nat} (h : c < 2 ^ 32) (hx : x < 256) : crcByte c x < 2 ^ 32 := crcBits_lt (Nat.xor_lt_two_pow h (by omega)) 8
theorem crcRaw_lt {l : List Nat} (h : By l) : crcRaw l < 2 ^ 32 := by
  have : ∀ (l : List Nat) (c : Nat), By l → c < 2 ^ 32 → l.foldl crcByte c < 2 ^ 32 := by
    intro l
    induction l with
    | nil => intro c _ h; exact h
    | cons x l ih => intro c hb h; exact ih _ hb.tail (crcByte_lt h hb.head)
  exact this l _ h (by decide)
theorem sum_raw (l : List Nat) : sum l = 2 ^ 32 - 1 - crcRaw l := rfl
theorem sum_xor {l : List Nat} (h : By l) : crcRaw l ^^^ (2 ^ 32 - 1) = sum l := by
  rw [xor_ones (crcRaw_lt h), sum_raw]
theorem sum_lt (l : List Nat) : sum l < 2 ^ 32 := by rw [sum_raw]; omega
theorem le_succ (n x : Nat) : le (n + 1) x = le n x ++ [x / 256 ^ n % 256] := by
  unfold le
  rw [List.range_succ, List.map_append]; rfl
theorem le_length (n x : Nat) : (le n x).length = n := by unfold le; rw [List.length_map, List.length_range]
theorem le_by (n x : Nat) : By (le n x) := By.map fun _ _ => Nat.mod_lt _ (by decide)
theorem number_cons (x : Nat) (l : List Nat) : number (x :: l) = x + 256 * number l := rfl
theorem number_lt {l : List Nat} (h : By l) : number l < 256 ^ l.length := by
  induction l with
  | nil => decide
  | cons x l ih =>
    rw [number_cons, List.length_cons, Nat.pow_succ]
    have := ih h.tail
    have := h.head
    omega
theorem number_le (x : Nat) : ∀ n, number (le n x) = x % 256 ^ n := by
  intro n
  have key : ∀ (n k : Nat), number ((List.range n).map fun i => x / 256 ^ (k + i) % 256) = x / 256 ^ k % 256 ^ n := by
    intro n
    induction n with
    | zero => intro k; rw [Nat.pow_zero, Nat.mod_one]; rfl
    | succ n ih =>
      intro k
      rw [List.range_succ_eq_map, List.map_cons, List.map_map, number_cons]
      have e : ((fun i => x / 256 ^ (k + i) % 256) ∘ Nat.succ) = fun i => x / 256 ^ ((k + 1) + i) % 256 := by
        funext i
        show x / 256 ^ (k + (i + 1)) % 256 = _
        rw [show k + (i + 1) = k + 1 + i by omega]
      rw [e, ih (k + 1), Nat.add_zero, Nat.pow_succ, ← Nat.div_div_eq_div_mul, Nat.pow_succ, Nat.mul_comm (256 ^ n) 256, Nat.mod_mul]
  have := key n 0
  rw [Nat.pow_zero, Nat.div_one] at this
  have e : (fun i => x / 256 ^ (0 + i) % 256) = fun i => x / 256 ^ i % 256 := by
    funext i
    rw [Nat.zero_add]
  rw [e] at this
  exact this
theorem number_inj {l m : List Nat} (hl : By l) (hm : By m) (h : l.length = m.length) (e : number l = number m) : l = m := by
  induction l generalizing m with
  | nil =>
    cases m with
    | nil => rfl
    | cons _ _ => cases h
  | cons x l ih =>
    cases m with
    | nil => cases h
    | cons y m =>
      rw [number_cons, number_cons] at e
      have h1 := hl.head
      have h2 := hm.head
      have : x = y := by omega
      rw [this, ih hl.tail hm.tail (Nat.succ.inj h) (by omega)]
/-- four bytes tell the sum -/
theorem sum_bytes {l m : List Nat} (hm : By m) (h4 : m.length = 4) : le 4 (sum l) = m ↔ number m = sum l := by
  have e : number (le 4 (sum l)) = sum l := by
    rw [number_le]
    exact Nat.mod_eq_of_lt (sum_lt l)
  constructor
  · intro h; rw [← h]; exact e
  · intro h
    exact number_inj (le_by _ _) hm (by rw [le_length, h4]) (by rw [e, h])
end Gf
/-! ## RevL -/
set_option Elab.async false
set_option linter.all false
set_option maxRecDepth 100000
set_option maxHeartbeats 4000000
/-! list(reversed(a list)), a rule of my own -/
namespace Rl
open PySem PySem.Spec PyProof.Rows RT
section
variable {prog : Program} {w : World} {A : Around} {E : Value → Shared → Prop} {s : Shared}
abbrev AtRev (items : Array Value) (i : Nat) (v : Value) : Prop := items[items.size - 1 - i]? = some v
theorem extend_rev {R : Result → Shared → Prop} {it l S : Addr} {items : Array Value} (free : A.handled = none) (iter : s.heap.IsRevIter it l ((items.size : Int) - 1)) (lst : s.heap.IsList l items) (apart : l ≠ it) (size : items.size ≤ sizeLine)
    (Si : S ≠ it) (Sl : S ≠ l) (res : Value) (c₀ : Nat) (here : s.heap.get? S = some { cls := .type "list", data := .seq #[] c₀ })
    (fin : ∀ h' tk acc c, (∀ b o, b ≠ S → b ≠ it → s.heap.get? b = some o → h'.get? b = some o) → h'.get? S = some { cls := .type "list", dict := none, data := .seq acc c, slots := #[] } → ItemsOf (AtRev items) acc items.size → R (.ok (.ret res)) { s with heap := h', toks := tk }) :
    wpAny (model prog w) A.in1 (Builtin.List.listExtendWith (.ref S) (.ref it) res)
      (fun f s' => match f with | .done f => R (.ok f) s' | .again c' => c'.quiet = true ∧ codeAny (model prog w) A c' R s') (fun e s' => R (.error e) s') s := by
  have walk := (Walks.listRev (prog := prog) (w := w) (A := A.in1) free it l apart items).toS
  have Sfp : S ∉ [it, l] := fun z => by rcases List.mem_cons.mp z with z | z; exact Si z; exact Sl (List.mem_singleton.mp z)
  have ty : s.TypeIs (.ref it) "list_reverseiterator" := iter.typeIs
  have differ : Builtin.List.listSameRef (.ref S) (.ref it) = false := by simp [Builtin.List.listSameRef, Si]
  unfold Builtin.List.listExtendWith
  refine wpAny_bind (wpAny_typeOf ty ?_); rw [if_neg (by rw [differ]; decide)]
  refine wpAny_bind (wpAny_pyIter_revIter iter (wpAny_bind (wpAny_holding ?_)))
  unfold Builtin.List.listLengthHint
  refine wpAny_bind (wpAny_specialOf ty nolen_lri ?_); show wpAny _ A.in1 (specialOf (Value.ref it) (Str.ofString "__length_hint__") >>= _) _ _ _
  refine wpAny_bind (wpAny_specialOf ty hint_lri ?_); generalize hid : ("list_reverseiterator.__length_hint__" : String) = name
  wp_delta; rw [show splitId name = some ("list_reverseiterator", "__length_hint__") from by subst hid; decide +kernel]; subst hid
  refine wpAny_bind (wpAny_isInstance (b := true) ty (by rw [isSubtype_type]; kernel_rfl) (wpAny_pure ?_)); rw [if_neg (by decide)]
  have at0 : ((items.size : Nat) : Int) - 1 - ((0 : Nat) : Int) = (items.size : Int) - 1 := by omega
  refine wpAny_pure ⟨plainId_quiet F.plain_extend_loop _, codeAny_extend_loopS walk size S Sfp res items.size 0 _ #[] c₀ rfl (Nat.zero_le _) ⟨Nat.zero_le _, by rw [at0]; exact iter, lst⟩ here (ItemsOf.nil _) fun s' acc c moved there made => ?_⟩
  rw [Moved.eq_with moved]
  refine fin s'.heap s'.toks acc c (fun b o bS bi e => moved.heap b o (fun z => ?_) e) there made
  rcases List.mem_cons.mp z with z | z; exact bS z; exact bi (List.mem_singleton.mp z)
theorem init_rev {R : Result → Shared → Prop} {it l S : Addr} {items : Array Value} (free : A.handled = none) (iter : s.heap.IsRevIter it l ((items.size : Int) - 1)) (lst : s.heap.IsList l items) (apart : l ≠ it) (size : items.size ≤ sizeLine)
    (Si : S ≠ it) (Sl : S ≠ l) (here : s.heap.get? S = some { cls := .type "list", data := .seq #[] })
    (fin : ∀ h' tk acc c, (∀ b o, b ≠ S → b ≠ it → s.heap.get? b = some o → h'.get? b = some o) → h'.get? S = some { cls := .type "list", dict := none, data := .seq acc c, slots := #[] } → ItemsOf (AtRev items) acc items.size → R (.ok (.ret .none)) { s with heap := h', toks := tk }) :
    wpAny (model prog w) A.in1 (Builtin.«list.__init__» ⟨[.ref S, .ref it], []⟩)
      (fun f s' => match f with | .done f => R (.ok f) s' | .again c' => c'.quiet = true ∧ codeAny (model prog w) A c' R s') (fun e s' => R (.error e) s') s := by
  show wpAny _ _ (do let was ← Builtin.List.listItems (.ref S); Builtin.List.listUpdate (.ref S) (fun _ => #[]); letGo was.toList.reverse; Builtin.List.listExtendWith (.ref S) (.ref it) .none) _ _ s
  refine wpAny_bind ?_; unfold Builtin.List.listItems
  refine wpAny_bind (wpAny_seqItems here rfl (wpAny_pure ?_)); show wpAny _ _ (updateSeq S (fun _ => #[]) >>= fun _ => letGo (#[] : Array Value).toList.reverse >>= fun _ => Builtin.List.listExtendWith (.ref S) (.ref it) .none) _ _ s
  refine wpAny_bind (wpAny_updateSeq here rfl (wpAny_bind (wpAny_letGo ?_)))
  have now := Heap.get?_update_self (Obj.mapSeq (fun _ => (#[] : Array Value))) here rfl
  have other : ∀ b o, b ≠ S → s.heap.get? b = some o → (s.heap.update S (Obj.mapSeq (fun _ => (#[] : Array Value)))).get? b = some o := fun b o hb e => (Heap.get?_update_other _ _ hb.symm).trans e
  exact extend_rev free (iter.at fun o e => other _ o Si.symm e) (lst.at fun o e => other _ o Sl.symm e) apart size Si Sl .none _ now fun h' tk acc c kept there made => fin h' tk acc c (fun b o bS bi e => kept b o bS bi (other b o bS e)) there made
theorem call_list_rev {Q : Value → Shared → Prop} {it l : Addr} {items : Array Value} (free : A.handled = none) (iter : s.heap.IsRevIter it l ((items.size : Int) - 1)) (lst : s.heap.IsList l items) (apart : l ≠ it) (size : items.size ≤ sizeLine)
    (fin : ∀ h' tk acc c, (∀ b o, b ≠ it → s.heap.get? b = some o → h'.get? b = some o) → h'.get? s.heap.objs.size = some { cls := .type "list", dict := none, data := .seq acc c, slots := #[] } → ItemsOf (AtRev items) acc items.size → Q (.ref s.heap.objs.size) { s with heap := h', toks := tk }) :
    wpAny (model prog w) A (call (.type "list") [.ref it]) Q E s := by
  obtain ⟨oi, hoi, _⟩ := id iter
  obtain ⟨ol, hol, _⟩ := id lst
  have big1 : s.heap.objs.size ≠ it := Nat.ne_of_gt (Heap.lt_size hoi)
  have big2 : s.heap.objs.size ≠ l := Nat.ne_of_gt (Heap.lt_size hol)
  refine callType_codes (Q₁ := fun obj s₁ => obj = .ref s.heap.objs.size ∧ s₁ = { s with heap := s.heap.push { cls := .type "list", data := .seq #[] } }) F.called_list (F.typeCall_list_1 _) F.entry_list_init (code_list_new _ ⟨rfl, rfl⟩) fun obj s₁ both => ?_
  obtain ⟨rfl, rfl⟩ := both
  have here : (s.heap.push { cls := .type "list", data := .seq #[] }).get? s.heap.objs.size = some { cls := .type "list", data := .seq #[] } := Heap.get?_push_size _ rfl
  refine ⟨⟨_, here, rfl⟩, F.args_list_init_2 _ _, init_rev (A := A.in1) free (iter.at fun o e => Heap.get?_push_of_some _ e) (lst.push _) apart size big1 big2 here fun h' tk acc c kept there made => ?_⟩
  exact ⟨rfl, fin h' tk acc c (fun b o bi e => kept b o (Nat.ne_of_lt (Heap.lt_size e)) bi (Heap.get?_push_of_some _ e)) there made⟩
end
end Rl
namespace L2
open PySem PySem.Spec PyProof.Rows
section
variable {X : Cx}
/-- list(reversed(e)), e a list -/
def tLstRev (K : PySem.W.Frag) (te : TE) : TE := fun σ H Q => te σ H fun v H1 => ∃ (a : Addr) (xs : List V), v = .ref a ∧ SqL K H1 a xs ∧ ∀ q, H1 q = none → Q (.ref q) (upd H1 q (.lst xs.reverse))
theorem boots : bootBuiltins ("list" : Str) = some (.type "list") := by decide +kernel
theorem pe_lstRev {e : Expr} {te : TE} {p p2 pos pos2 : Pos} (hc : X.calm = true) (hg : Gl X "list") (hm : X.mg "list" = none) (hg2 : Gl X "reversed") (hm2 : X.mg "reversed" = none) (he : PE X e te)
    (hs : starEach [e] X.env = (false, eval e X.env) :: starEach [] X.env := by rfl)
    (hs2 : starEach [.Call (.Name "reversed" p2) [e] [] pos2] X.env = (false, eval (.Call (.Name "reversed" p2) [e] [] pos2) X.env) :: starEach [] X.env := by rfl) :
    PE X (.Call (.Name "list" p) [.Call (.Name "reversed" p2) [e] [] pos2] [] pos) (tLstRev X.K te) := by
  refine ⟨fun pins s σ H Q I h => ?_⟩
  refine Call_ (ld_blt I hg hm boots (PyProof.Rows.callWith_type1 (args_cons (Call_ (ld_blt I hg2 hm2 PyProof.Rows.boot_reversed (PyProof.Rows.callWith_type1 (args_cons (thn (he.run pins s σ H _ I h) fun u s1 z => args_nil ?_) hs) hs rfl))) hs2) hs2 rfl))
  obtain ⟨v, H1, I1, r1, a, xs, rfl, hq, q⟩ := z
  obtain rfl : u = Value.ref a := r1
  obtain ⟨its, rv, p', hz⟩ := I1.list hq
  refine call_reversed_list p'.isList (args_nil ?_)
  have I2 : Inv X pins σ H1 { s1 with heap := s1.heap.push (revObj a ((its.toArray.size : Int) - 1)) } := I1.kept (t' := s1.toks) fun b o e => Heap.get?_push_of_some _ e
  obtain ⟨f0, f1, f2, f3, f4, f5⟩ := I1.fpOk (H' := H1) (b := s1.heap.objs.size) (Nat.le_refl _) (I1.hok.fresh (Nat.le_refl _))
  have isl := p'.isList
  obtain ⟨ol, hol, _⟩ := id isl
  refine Rl.call_list_rev (s := { s1 with heap := s1.heap.push (revObj a ((its.toArray.size : Int) - 1)) }) (I1.ok.hd hc) ⟨_, Heap.get?_push_size _ rfl, rfl, rfl⟩ (isl.push _) (Nat.ne_of_lt (Heap.lt_size hol)) (by rw [List.size_toArray, ← rv.length]; exact hz) fun h' tk acc c hk there hi => ?_
  have big : s1.heap.objs.size ≤ (s1.heap.push (revObj a ((its.toArray.size : Int) - 1))).objs.size := by rw [Heap.size_push]; exact Nat.le_succ _
  refine ⟨.ref _, upd H1 _ (.lst xs.reverse), I1.turnedNew (t' := tk) (ch := [s1.heap.objs.size]) (fun b o hb e => hk b o (fun z => hb (List.mem_singleton.mpr z)) (Heap.get?_push_of_some _ e)) (fun b hb => by rw [List.mem_singleton.mp hb]; exact ⟨f0, f1, f2, f3, f4, f5⟩) big
    (show ObjOk X.prog X.w _ _ _ (.lst xs.reverse) from ⟨by rw [List.length_reverse]; exact hz, acc.toList, c, RT.vals_rev rv hi, by rw [Array.toArray_toList]; exact there⟩), rfl, q _ (I1.hok.fresh big)⟩
end
end L2
/-! ## Bs -/
set_option Elab.async false
set_option linter.all false
set_option maxRecDepth 100000
set_option maxHeartbeats 4000000
namespace Sl
open PySem PySem.Spec PyProof.Rows L2 Evl
/-- whole numbers from 0 on, as values -/
def nv (l : List Nat) : List V := l.map fun (n : Nat) => V.int (n : Int)
theorem nv_length (l : List Nat) : (nv l).length = l.length := List.length_map _
theorem nv_get {l : List Nat} {i : Nat} {x : Nat} (h : l[i]? = some x) : (nv l)[i]? = some (.int (x : Int)) := by
  unfold nv
  rw [List.getElem?_map, h]
  rfl
theorem nv_of {l : List Nat} {i : Nat} {v : V} (h : (nv l)[i]? = some v) : ∃ x, l[i]? = some x ∧ v = .int (x : Int) := by
  unfold nv at h
  rw [List.getElem?_map] at h
  cases e : l[i]? with
  | none => rw [e] at h; cases h
  | some x => rw [e] at h; exact ⟨x, rfl, (Option.some.inj h).symm⟩
theorem nv_append (l m : List Nat) : nv (l ++ m) = nv l ++ nv m := List.map_append
theorem getD_some {l : List Nat} {i : Nat} (h : i < l.length) : l[i]? = some (l.getD i 0) := by
  rw [List.getD_eq_getElem?_getD, List.getElem?_eq_getElem h]
  rfl
theorem atI_nv {l : List Nat} {z : Int} {i : Nat} (e : z = (i : Int)) (h : i < l.length) : atI (nv l) z = some (.int ((l.getD i 0 : Nat) : Int)) := by
  rw [e]
  exact atI_nat (nv_get (getD_some h))
theorem xor_cast {a b : Nat} : Builtin.bitXor (a : Int) (b : Int) = ((a ^^^ b : Nat) : Int) := by
  rw [Bits.bitXor_pp (Int.natCast_nonneg a) (Int.natCast_nonneg b)]
  simp
/-! ### parts of a list, comprehensions over lists of numbers -/
theorem cut_from (l : List Nat) (k : Nat) : cutV (nv l) (some (k : Int)) none = nv (l.drop k) := by
  unfold cutV
  rw [HT.sIx_nat, HT.sIx_none, nv_length]
  unfold nv
  rw [List.map_drop]
  by_cases h : k ≤ l.length
  · rw [Nat.min_eq_left h]
    exact List.take_of_length_le (by rw [List.length_drop, List.length_map]; exact Nat.le_refl _)
  · rw [Nat.min_eq_right (by omega), List.drop_of_length_le (by rw [List.length_map]; exact Nat.le_refl _), List.drop_of_length_le (by rw [List.length_map]; omega)]
    exact List.take_nil
theorem cut_to (l : List Nat) (k : Nat) : cutV (nv l) none (some (k : Int)) = nv (l.take k) := by
  unfold cutV
  rw [HT.sIx_nat, HT.sIx_none, nv_length, List.drop_zero, Nat.sub_zero]
  unfold nv
  rw [List.map_take]
  by_cases h : k ≤ l.length
  · rw [Nat.min_eq_left h]
  · rw [Nat.min_eq_right (by omega), List.take_of_length_le (by rw [List.length_map]; exact Nat.le_refl _), List.take_of_length_le (by rw [List.length_map]; omega)]
theorem cut_mid (l : List Nat) {j k : Nat} (hjk : j ≤ k) : cutV (nv l) (some (j : Int)) (some (k : Int)) = nv ((l.drop j).take (k - j)) := by
  unfold cutV
  rw [HT.sIx_nat, HT.sIx_nat, nv_length]
  unfold nv
  rw [List.map_take, List.map_drop]
  by_cases h : k ≤ l.length
  · rw [Nat.min_eq_left h, Nat.min_eq_left (by omega)]
  · rw [Nat.min_eq_right (by omega)]
    by_cases g : j ≤ l.length
    · rw [Nat.min_eq_left g, List.take_of_length_le (by rw [List.length_drop, List.length_map]; exact Nat.le_refl _), List.take_of_length_le (by rw [List.length_drop, List.length_map]; omega)]
    · rw [Nat.min_eq_right (by omega), List.drop_of_length_le (by rw [List.length_map]; exact Nat.le_refl _), List.drop_of_length_le (by rw [List.length_map]; omega), List.take_nil, List.take_nil]
theorem rep_flat (n : Nat) : (List.replicate n [V.int 0]).flatten = nv (List.replicate n 0) := by
  induction n with
  | zero => rfl
  | succ n ih =>
    rw [List.replicate_succ, List.flatten_cons, ih]
    rfl
theorem nv_line {l : List Nat} (h : l.length ≤ 100000) : (nv l).length ≤ sizeLine := by
  rw [nv_length]
  exact sz_of h
/-- what a comprehension has made behind i turns -/
def Mk (H : Hp) (D : Addr) (ys : List V) (H' : Hp) : Prop := H D = none ∧ Ex H H' ∧ H' D = some (.lst ys)
theorem Mk.more {H H1 H2 : Hp} {D : Addr} {ys : List V} (p : Mk H D ys H1) (e : Ex H1 H2) (y : V) : Mk H D (ys ++ [y]) (upd H2 D (.lst (ys ++ [y]))) :=
  ⟨p.1, Ex.mut (p.2.1.trans e) p.1, upd_same⟩
theorem map_take_more {f : Nat → V} {l : List Nat} {i x : Nat} (h : l[i]? = some x) : (l.take (i + 1)).map f = (l.take i).map f ++ [f x] := by
  rw [List.take_add_one, h, List.map_append]
  rfl
/-- [.. for x in row] -/
theorem lc_nv {K : PySem.W.Frag} {a : Addr} {l : List Nat} {g : TG} {te : TE} {vs : List Nat} {σ : L2.St} {H : Hp} {Q : Addr → Hp → Prop} (f : Nat → Nat) (hs : SqL K H a (nv l)) (hz : l.length ≤ 40000)
    (turn : ∀ (i x : Nat) (H1 : Hp) (R : VK), l[i]? = some x → Ex H H1 → (∀ H2, Ex H1 H2 → R (.int (f x : Nat)) H2) → g (.int (x : Nat)) (wipe σ vs) H1 fun σ2 H2 => wipe σ2 vs = wipe σ vs ∧ te σ2 H2 R)
    (k : ∀ p H', H p = none → Ex H H' → H' p = some (.lst (nv (l.map f))) → Q p H') :
    (∃ xs, SqL K H a xs) ∧ ∀ D, H D = none → ∃ W : Nat → Nat → Hp → Prop, (∃ m, W 0 m (upd H D (.lst []))) ∧ ∀ i m H', W i m H' →
      ((Itl K a).stop i H' ∧ Q D H') ∨ ((Itl K a).go i H' ∧ ∃ Nx : Hp → Prop, (∀ H'', Nx H'' → ∃ m', m' < m ∧ W (i + 1) m' H'') ∧ ∀ x H'', (Itl K a).yld i H' x H'' → g x (wipe σ vs) H'' fun σ2 H2 => wipe σ2 vs = wipe σ vs ∧ tYes σ2 H2 fun b H3 =>
        if b = true then te σ2 H3 fun y H4 => ∃ acc, H4 D = some (.lst acc) ∧ acc.length < sizeLine ∧ Nx (upd H4 D (.lst (acc ++ [y]))) else Nx H3) := by
  refine ⟨⟨_, hs⟩, fun D hD => ?_⟩
  refine lc_list (xs := nv l) (fun i H' => Mk H D ((l.take i).map fun x => V.int (f x : Nat)) H') ⟨hD, Ex.new hD, upd_same⟩ (fun i H' _ p => ex_l p.2.1 hs) (fun i x H' hi p => ?_) (fun H' p => ?_)
  · obtain ⟨z, hz', rfl⟩ := nv_of hi
    refine turn i z H' _ hz' p.2.1 fun H2 e2 => ?_
    have e3 := map_take_more (f := fun x => V.int (f x : Nat)) hz'
    refine ⟨_, e2 _ _ p.2.2, ?_, ?_⟩
    · rw [List.length_map, List.length_take]
      exact sz_lt (by omega)
    · show Mk H D _ _
      rw [e3]
      exact p.more e2 _
  · rw [nv_length, List.take_length] at p
    refine k D H' p.1 p.2.1 ?_
    have := p.2.2
    rw [this]
    unfold nv
    rw [List.map_map]
    rfl
/-- [.. for i in range(lo, lo + n)] -/
theorem lc_rg {n : Nat} {lo : Int} {g : TG} {te : TE} {vs : List Nat} {σ : L2.St} {H : Hp} {Q : Addr → Hp → Prop} (f : Nat → Nat) (hz : n ≤ 40000)
    (turn : ∀ (i : Nat) (H1 : Hp) (R : VK), i < n → Ex H H1 → (∀ H2, Ex H1 H2 → R (.int (f i : Nat)) H2) → g (.int (lo + (i : Int))) (wipe σ vs) H1 fun σ2 H2 => wipe σ2 vs = wipe σ vs ∧ te σ2 H2 R)
    (k : ∀ p H', H p = none → Ex H H' → H' p = some (.lst (nv ((List.range n).map f))) → Q p H') :
    ∀ D, H D = none → ∃ W : Nat → Nat → Hp → Prop, (∃ m, W 0 m (upd H D (.lst []))) ∧ ∀ i m H', W i m H' →
      ((Itr lo n).stop i H' ∧ Q D H') ∨ ((Itr lo n).go i H' ∧ ∃ Nx : Hp → Prop, (∀ H'', Nx H'' → ∃ m', m' < m ∧ W (i + 1) m' H'') ∧ ∀ x H'', (Itr lo n).yld i H' x H'' → g x (wipe σ vs) H'' fun σ2 H2 => wipe σ2 vs = wipe σ vs ∧ tYes σ2 H2 fun b H3 =>
        if b = true then te σ2 H3 fun y H4 => ∃ acc, H4 D = some (.lst acc) ∧ acc.length < sizeLine ∧ Nx (upd H4 D (.lst (acc ++ [y]))) else Nx H3) := by
  intro D hD
  refine lc_range (lo := lo) (n := n) (fun i H' => Mk H D ((List.range i).map fun x => V.int (f x : Nat)) H') ⟨hD, Ex.new hD, upd_same⟩ (fun i H' hi p => ?_) (fun H' p => ?_)
  · refine turn i H' _ hi p.2.1 fun H2 e2 => ?_
    refine ⟨_, e2 _ _ p.2.2, ?_, ?_⟩
    · rw [List.length_map, List.length_range]
      exact sz_lt (by omega)
    · show Mk H D _ _
      rw [List.range_succ, List.map_append]
      exact p.more e2 _
  · refine k D H' p.1 p.2.1 ?_
    have := p.2.2
    rw [this]
    unfold nv
    rw [List.map_map]
    rfl
/-- [i for i in range(n) if ..] -/
theorem lc_rf {n : Nat} {g : TG} {tt : TT} {te : TE} {vs : List Nat} {σ : L2.St} {H : Hp} {Q : Addr → Hp → Prop} (f : Nat → Bool) (hz : n ≤ 40000)
    (turn : ∀ (i : Nat) (H1 : Hp) (R : Bool → L2.St → Hp → Prop), i < n → Ex H H1 → (∀ σ2 H2, Ex H1 H2 → wipe σ2 vs = wipe σ vs → (∀ H3 (S : VK), S (.int (i : Nat)) H3 → te σ2 H3 S) → R (f i) σ2 H2) → g (.int (0 + (i : Int))) (wipe σ vs) H1 fun σ2 H2 => wipe σ2 vs = wipe σ vs ∧ tt σ2 H2 fun b H3 => R b σ2 H3)
    (k : ∀ p H', H p = none → Ex H H' → H' p = some (.lst (nv ((List.range n).filter f))) → Q p H') :
    ∀ D, H D = none → ∃ W : Nat → Nat → Hp → Prop, (∃ m, W 0 m (upd H D (.lst []))) ∧ ∀ i m H', W i m H' →
      ((Itr 0 n).stop i H' ∧ Q D H') ∨ ((Itr 0 n).go i H' ∧ ∃ Nx : Hp → Prop, (∀ H'', Nx H'' → ∃ m', m' < m ∧ W (i + 1) m' H'') ∧ ∀ x H'', (Itr 0 n).yld i H' x H'' → g x (wipe σ vs) H'' fun σ2 H2 => wipe σ2 vs = wipe σ vs ∧ tt σ2 H2 fun b H3 =>
        if b = true then te σ2 H3 fun y H4 => ∃ acc, H4 D = some (.lst acc) ∧ acc.length < sizeLine ∧ Nx (upd H4 D (.lst (acc ++ [y]))) else Nx H3) := by
  intro D hD
  refine lc_range (lo := 0) (n := n) (fun i H' => Mk H D (nv ((List.range i).filter f)) H') ⟨hD, Ex.new hD, upd_same⟩ (fun i H' hi p => ?_) (fun H' p => ?_)
  · refine turn i H' (fun b σ2 H3 => if b = true then te σ2 H3 fun y H4 => ∃ acc, H4 D = some (.lst acc) ∧ acc.length < sizeLine ∧ Mk H D (nv ((List.range (i + 1)).filter f)) (upd H4 D (.lst (acc ++ [y]))) else Mk H D (nv ((List.range (i + 1)).filter f)) H3) hi p.2.1 fun σ2 H2 e2 hw hte => ?_
    have hlen : ((List.range i).filter f).length ≤ i := by
      have := List.length_filter_le f (List.range i)
      rwa [List.length_range] at this
    by_cases c : f i = true
    · show if f i = true then _ else _
      rw [if_pos c]
      refine hte H2 _ ⟨_, e2 _ _ p.2.2, ?_, ?_⟩
      · rw [nv_length]
        exact sz_lt (by omega)
      · rw [List.range_succ, List.filter_append, List.filter_cons_of_pos c, nv_append]
        exact p.more e2 _
    · show if f i = true then _ else _
      rw [if_neg c, List.range_succ, List.filter_append, List.filter_cons_of_neg c]
      show Mk H D (nv ((List.range i).filter f ++ [])) H2
      rw [List.append_nil]
      exact ⟨p.1, p.2.1.trans e2, e2 _ _ p.2.2⟩
  · exact k D H' p.1 p.2.1 p.2.2
/-- [x for x in list if ..], things of any kind -/
theorem lc_ft {α : Type} {K : PySem.W.Frag} {a : Addr} {ps : List α} {g : TG} {tt : TT} {te : TE} {vs : List Nat} {σ : L2.St} {H : Hp} {Q : Addr → Hp → Prop} (r : α → V) (f : α → Bool) (hs : SqL K H a (ps.map r)) (hz : ps.length ≤ 40000)
    (turn : ∀ (i : Nat) (y : α) (H1 : Hp) (R : Bool → L2.St → Hp → Prop), ps[i]? = some y → Ex H H1 → (∀ σ2 H2, Ex H1 H2 → wipe σ2 vs = wipe σ vs → (∀ H3 (S : VK), S (r y) H3 → te σ2 H3 S) → R (f y) σ2 H2) → g (r y) (wipe σ vs) H1 fun σ2 H2 => wipe σ2 vs = wipe σ vs ∧ tt σ2 H2 fun b H3 => R b σ2 H3)
    (k : ∀ p H', H p = none → Ex H H' → H' p = some (.lst ((ps.filter f).map r)) → Q p H') :
    (∃ xs, SqL K H a xs) ∧ ∀ D, H D = none → ∃ W : Nat → Nat → Hp → Prop, (∃ m, W 0 m (upd H D (.lst []))) ∧ ∀ i m H', W i m H' →
      ((Itl K a).stop i H' ∧ Q D H') ∨ ((Itl K a).go i H' ∧ ∃ Nx : Hp → Prop, (∀ H'', Nx H'' → ∃ m', m' < m ∧ W (i + 1) m' H'') ∧ ∀ x H'', (Itl K a).yld i H' x H'' → g x (wipe σ vs) H'' fun σ2 H2 => wipe σ2 vs = wipe σ vs ∧ tt σ2 H2 fun b H3 =>
        if b = true then te σ2 H3 fun y H4 => ∃ acc, H4 D = some (.lst acc) ∧ acc.length < sizeLine ∧ Nx (upd H4 D (.lst (acc ++ [y]))) else Nx H3) := by
  refine ⟨⟨_, hs⟩, fun D hD => ?_⟩
  refine lc_list (xs := ps.map r) (fun i H' => Mk H D (((ps.take i).filter f).map r) H') ⟨hD, Ex.new hD, upd_same⟩ (fun i H' _ p => ex_l p.2.1 hs) (fun i x H' hi p => ?_) (fun H' p => ?_)
  · rw [List.getElem?_map] at hi
    obtain ⟨y, hy, rfl⟩ : ∃ y, ps[i]? = some y ∧ x = r y := by
      cases e : ps[i]? with
      | none => rw [e] at hi; cases hi
      | some z => rw [e] at hi; exact ⟨z, rfl, (Option.some.inj hi).symm⟩
    refine turn i y H' (fun b σ2 H3 => if b = true then te σ2 H3 fun y H4 => ∃ acc, H4 D = some (.lst acc) ∧ acc.length < sizeLine ∧ Mk H D (((ps.take (i + 1)).filter f).map r) (upd H4 D (.lst (acc ++ [y]))) else Mk H D (((ps.take (i + 1)).filter f).map r) H3) hy p.2.1 fun σ2 H2 e2 hw hte => ?_
    have hlen : ((ps.take i).filter f).length ≤ ps.length := by
      have := List.length_filter_le f (ps.take i)
      rw [List.length_take] at this
      omega
    have et : ps.take (i + 1) = ps.take i ++ [y] := by
      rw [List.take_add_one, hy]
      rfl
    by_cases c : f y = true
    · show if f y = true then _ else _
      rw [if_pos c]
      refine hte H2 _ ⟨_, e2 _ _ p.2.2, ?_, ?_⟩
      · rw [List.length_map]
        exact sz_lt (by omega)
      · rw [et, List.filter_append, List.filter_cons_of_pos c, List.map_append]
        exact p.more e2 _
    · show if f y = true then _ else _
      rw [if_neg c, et, List.filter_append, List.filter_cons_of_neg c]
      show Mk H D (((ps.take i).filter f ++ []).map r) H2
      rw [List.append_nil]
      exact ⟨p.1, p.2.1.trans e2, e2 _ _ p.2.2⟩
  · rw [List.length_map, List.take_length] at p
    exact k D H' p.1 p.2.1 p.2.2
/-- [.. for x, y in zip(a, b)], of one length -/
theorem lc_zp {K : PySem.W.Frag} {a b : Addr} {l m : List Nat} {g : TG} {te : TE} {vs : List Nat} {σ : L2.St} {H : Hp} {Q : Addr → Hp → Prop} (f : Nat × Nat → Nat) (hl : l.length = m.length) (hs : SqL K H a (nv l)) (hs2 : SqL K H b (nv m)) (hz : l.length ≤ 40000)
    (turn : ∀ (i x y : Nat) (T : Addr) (H1 : Hp) (R : VK), l[i]? = some x → m[i]? = some y → Ex H H1 → H1 T = some (.tup [.int (x : Int), .int (y : Int)]) → (∀ H2, Ex H1 H2 → R (.int (f (x, y) : Nat)) H2) → g (.ref T) (wipe σ vs) H1 fun σ2 H2 => wipe σ2 vs = wipe σ vs ∧ te σ2 H2 R)
    (k : ∀ p H', H p = none → Ex H H' → H' p = some (.lst (nv ((l.zip m).map f))) → Q p H') :
    ∀ D, H D = none → ∃ W : Nat → Nat → Hp → Prop, (∃ m, W 0 m (upd H D (.lst []))) ∧ ∀ i m H', W i m H' →
      ((Itz K a b).stop i H' ∧ Q D H') ∨ ((Itz K a b).go i H' ∧ ∃ Nx : Hp → Prop, (∀ H'', Nx H'' → ∃ m', m' < m ∧ W (i + 1) m' H'') ∧ ∀ x H'', (Itz K a b).yld i H' x H'' → g x (wipe σ vs) H'' fun σ2 H2 => wipe σ2 vs = wipe σ vs ∧ tYes σ2 H2 fun b H3 =>
        if b = true then te σ2 H3 fun y H4 => ∃ acc, H4 D = some (.lst acc) ∧ acc.length < sizeLine ∧ Nx (upd H4 D (.lst (acc ++ [y]))) else Nx H3) := by
  intro D hD
  refine ⟨fun i n H' => n = l.length - i ∧ i ≤ l.length ∧ Mk H D (((l.zip m).take i).map fun x => V.int (f x : Nat)) H', ⟨l.length, rfl, Nat.zero_le _, hD, Ex.new hD, upd_same⟩, ?_⟩
  rintro i n H' ⟨rfl, hi, p⟩
  have qx := ex_l p.2.1 hs
  have qy := ex_l p.2.1 hs2
  by_cases hlt : i < l.length
  · have hx : l[i]? = some l[i] := List.getElem?_eq_getElem hlt
    have hlt2 : i < m.length := by omega
    have hy : m[i]? = some m[i] := List.getElem?_eq_getElem hlt2
    refine .inr ⟨⟨_, _, _, _, qx, qy, nv_get hx, nv_get hy⟩, fun H'' => Mk H D (((l.zip m).take (i + 1)).map fun x => V.int (f x : Nat)) H'', fun H'' p' => ⟨l.length - (i + 1), by omega, rfl, hlt, p'⟩, fun v H'' y => ?_⟩
    obtain ⟨T, x', y', rfl, hT, rfl, f1, f2⟩ := y
    have ex1 : x' = .int (l[i] : Nat) := Option.some.inj ((f1 _ qx).symm.trans (nv_get hx))
    have ex2 : y' = .int (m[i] : Nat) := Option.some.inj ((f2 _ qy).symm.trans (nv_get hy))
    subst ex1 ex2
    have eT : Ex H' (upd H' T (.tup [.int (l[i] : Nat), .int (m[i] : Nat)])) := Ex.new hT
    refine turn i _ _ T _ _ hx hy (p.2.1.trans eT) upd_same fun H2 e2 => ?_
    have hz' : (l.zip m)[i]? = some (l[i], m[i]) := by
      rw [List.getElem?_zip_eq_some]
      exact ⟨hx, hy⟩
    refine ⟨_, (eT.trans e2) _ _ p.2.2, ?_, ?_⟩
    · rw [List.length_map, List.length_take]
      exact sz_lt (by omega)
    · show Mk H D _ _
      rw [List.take_add_one, hz', List.map_append]
      exact p.more (eT.trans e2) _
  · have ei : i = l.length := by omega
    refine .inl ⟨⟨_, _, qx, qy, .inl (by rw [nv_length]; omega)⟩, k D H' p.1 p.2.1 ?_⟩
    have := p.2.2
    rw [this, List.take_of_length_le (by rw [List.length_zip]; omega)]
    unfold nv
    rw [List.map_map]
    rfl
def iv (l : List Int) : List V := l.map V.int
theorem iv_nat (l : List Nat) : iv (l.map fun (n : Nat) => (n : Int)) = nv l := by
  unfold iv nv
  rw [List.map_map]
  rfl
def natsI (l : List Nat) : List Int := l.map fun (n : Nat) => (n : Int)
def ansOut (a : Fm11.Ans) : List Int := a.code :: a.rows.flatMap fun r => (r.length : Int) :: natsI r
/-- the field's second list -/
def lg0 (x : Nat) : Nat := if x = 0 then 0 else Gf.lg x
def logs : List Nat := (List.range 256).map lg0
theorem logs_length : logs.length = 256 := by
  unfold logs
  rw [List.length_map, List.length_range]
theorem logs_at {x : Nat} (h : x < 256) : logs.getD x 0 = lg0 x := by
  unfold logs
  rw [Gf.getD_range, if_pos h]
theorem table_length : Gf.table.length = 255 := by decide +kernel
def FieldAt (A : Adr) (H : Hp) (a : Addr) : Prop := ∃ dx p q, H a = some (.ins A.c_Field dx (fl_Field (.ref p) (.ref q))) ∧ H p = some (.lst (nv Gf.table)) ∧ H q = some (.lst (nv logs))
theorem FieldAt.ex {A : Adr} {H H' : Hp} {a : Addr} (e : Ex H H') (h : FieldAt A H a) : FieldAt A H' a := by
  obtain ⟨dx, p, q, h1, h2, h3⟩ := h
  exact ⟨dx, p, q, e _ _ h1, e _ _ h2, e _ _ h3⟩
/-- an object made anew leaves what was there -/
theorem new_ex {H H1 : Hp} {c dx : Addr} {o1 o2 : HO} (nc : H c = none) (ndx : H dx = none) (k : ∀ b u, upd (upd H dx o1) c o2 b = some u → b ≠ c → H1 b = some u) : Ex H H1 := fun b u hb =>
  k b u (by rw [upd_ne (ne_of_none hb nc), upd_ne (ne_of_none hb ndx)]; exact hb) (ne_of_none hb nc)
/-! ### promises: of the field -/
def sp_doubled (K : PySem.W.Frag) (A : Adr) : Sp := fun vs H Q _ => ∃ a : Nat, vs = [.int (a : Int)] ∧ a < 256 ∧ Q (.int (Fm11.twice a : Nat)) H
def sp_product_of (K : PySem.W.Frag) (A : Adr) : Sp := fun vs H Q _ => ∃ a b : Nat, vs = [.int (a : Int), .int (b : Int)] ∧ a < 256 ∧ b < 256 ∧ Q (.int (Fm11.times a b : Nat)) H
def sp_Field_init (K : PySem.W.Frag) (A : Adr) : Sp := fun vs H Q _ => ∃ p dx : Addr, vs = [.ref p] ∧ H p = some (.ins A.c_Field dx []) ∧
  ∀ H' : Hp, FieldAt A H' p → (∀ b o, H b = some o → b ≠ p → H' b = some o) → Q .non H'
def sp_Field_power (K : PySem.W.Frag) (A : Adr) : Sp := fun vs H Q _ => ∃ (f : Addr) (z : Int), vs = [.ref f, .int z] ∧ FieldAt A H f ∧ Q (.int (Fm11.power (z % 255).toNat : Nat)) H
def sp_Field_scaled (K : PySem.W.Frag) (A : Adr) : Sp := fun vs H Q _ => ∃ (f r : Addr) (l : List Nat) (c : Nat), vs = [.ref f, .ref r, .int (c : Int)] ∧ FieldAt A H f ∧ SqL K H r (nv l) ∧ Gf.By l ∧ l.length ≤ 40000 ∧ c < 256 ∧
  ∀ p H', H p = none → Ex H H' → H' p = some (.lst (nv (l.map (Fm11.times c)))) → Q (.ref p) H'
/-! ### of the code -/
def CodeAt (A : Adr) (H : Hp) (a : Addr) : Prop := ∃ dx f d, H a = some (.ins A.c_Code dx (fl_Code (.ref f) (.ref d))) ∧ FieldAt A H f ∧ H d = some (.lst (nv Gf.gen))
theorem CodeAt.ex {A : Adr} {H H' : Hp} {a : Addr} (e : Ex H H') (h : CodeAt A H a) : CodeAt A H' a := by
  obtain ⟨dx, f, d, h1, h2, h3⟩ := h
  exact ⟨dx, f, d, e _ _ h1, h2.ex e, e _ _ h3⟩
def sp_added (K : PySem.W.Frag) (A : Adr) : Sp := fun vs H Q _ => ∃ (a b : Addr) (l m : List Nat), vs = [.ref a, .ref b] ∧ SqL K H a (nv l) ∧ SqL K H b (nv m) ∧ l.length = m.length ∧ l.length ≤ 40000 ∧
  ∀ p H', H p = none → Ex H H' → H' p = some (.lst (nv (Gf.addl l m))) → Q (.ref p) H'
def sp_divisor_of (K : PySem.W.Frag) (A : Adr) : Sp := fun vs H Q _ => ∃ f : Addr, vs = [.ref f] ∧ FieldAt A H f ∧
  ∀ p H', H p = none → Ex H H' → H' p = some (.lst (nv Gf.gen)) → Q (.ref p) H'
def sp_Code_init (K : PySem.W.Frag) (A : Adr) : Sp := fun vs H Q _ => ∃ p dx : Addr, vs = [.ref p] ∧ H p = some (.ins A.c_Code dx []) ∧
  ∀ H' : Hp, CodeAt A H' p → (∀ b o, H b = some o → b ≠ p → H' b = some o) → Q .non H'
def sp_Code_parity_of (K : PySem.W.Frag) (A : Adr) : Sp := fun vs H Q _ => ∃ (c r : Addr) (l : List Nat), vs = [.ref c, .ref r] ∧ CodeAt A H c ∧ SqL K H r (nv l) ∧ Gf.By l ∧
  ∀ p H', H p = none → Ex H H' → H' p = some (.lst (nv (Fm11.parity l))) → Q (.ref p) H'
/-- a pair of a number and a list, all new -/
def Pair (H H' : Hp) (p : Addr) (n : Nat) (l : List Nat) : Prop := ∃ q, H p = none ∧ H q = none ∧ Ex H H' ∧ H' p = some (.tup [.int (n : Int), .ref q]) ∧ H' q = some (.lst (nv l))
/-! ### of sums and packets -/
/-- the packet that bytes ahead of a sum tell -/
def packetOf (l : List Nat) : Fm11.Packet := ⟨Fm11.number (l.take 4), l.getD 4 0, Fm11.number ((l.drop 5).take 8), Fm11.number ((l.drop 13).take 8), Fm11.number ((l.drop 21).take 2), l.drop 23⟩
def fitsKind (k : Fm11.Packet) : Bool := decide (k.kind ≤ 3 ∧ (k.kind = 1 ↔ k.bytes ≠ []))
end Sl
/-! ## C0 -/
set_option Elab.async false
set_option linter.all false
set_option maxRecDepth 100000
set_option maxHeartbeats 4000000
namespace Sl
open PySem PySem.Spec PyProof.Rows L2 Evl
theorem iv_natsI (l : List Nat) : iv (natsI l) = nv l := iv_nat l
theorem nats_ints (l : List Nat) : Fm11Neutral.nats (natsI l) = l := by
  unfold Fm11Neutral.nats natsI
  rw [List.map_map]
  exact (List.map_congr_left (fun n _ => rfl)).trans (List.map_id l)
theorem natsI_length (l : List Nat) : (natsI l).length = l.length := by unfold natsI; rw [List.length_map]
theorem in_bytes {l : List Int} (h : l.all (PySem.W.Codec.inInt 0 255) = true) : ∃ m : List Nat, l = natsI m ∧ Gf.By m := by
  induction l with
  | nil => exact ⟨[], rfl, Gf.By.nil⟩
  | cons z l ih =>
    rw [List.all_cons, Bool.and_eq_true] at h
    obtain ⟨m, h1, h2⟩ := ih h.2
    have h3 := PySem.W.Codec.inInt_iff.mp h.1
    refine ⟨z.toNat :: m, by rw [h1]; show _ = ((z.toNat : Nat) : Int) :: natsI m; rw [Int.toNat_of_nonneg h3.1], Gf.By.cons (by omega) h2⟩
theorem all_byte {l : List Nat} (h : Gf.By l) : l.all Fm11.isByte = true := by
  rw [List.all_eq_true]
  exact fun z hz => decide_eq_true (h z hz)
theorem bytes_ok {l : List Nat} (h : Gf.By l) (n : Nat) : Fm11.bytesOk l n = decide (l.length ≤ n) := by
  unfold Fm11.bytesOk
  rw [all_byte h]
  rfl
end Sl
/-! ## C1 -/
set_option Elab.async false
set_option linter.all false
set_option maxRecDepth 100000
set_option maxHeartbeats 4000000
namespace Sl
open PySem PySem.Spec PyProof.Rows L2 Evl
section
variable {P : Program} {w : World} {K : PySem.W.Frag} {mg : Str → Option Value} {base : Heap} {A : Adr}
def timesOut (a b : Nat) : List Int := if a < 256 ∧ b < 256 then [(Fm11.times a b : Nat)] else [-1]
def parityOut (l : List Nat) : List Int := if l.length ≤ 239 then 0 :: 16 :: natsI (Fm11.parity l) else [-1]
def sp_parity (K : PySem.W.Frag) (A : Adr) : Sp := fun vs H Q _ => ∃ (o : Addr) (l : List Nat), vs = [.ref o] ∧ SqL K H o (nv l) ∧ Gf.By l ∧ ∀ p H', H' p = some (.lst (iv (parityOut l))) → Q (.ref p) H'
theorem ok_parity (T : Top K mg A) (G_Code_init : FnOk P w K mg base CX0 5 A.f_Code_init A.d_Code_init ["self"] (sp_Code_init K A)) (G_Code_parity_of : FnOk P w K mg base CX0 2 A.f_Code_parity_of A.d_Code_parity_of ["self", "row"] (sp_Code_parity_of K A)) : FnOk P w K mg base CX0 7 A.f_parity A.d_parity ["octets"] (sp_parity K A) := by
  refine T.f_parity.F.ok sc_parity (fun vs H Q E h => by obtain ⟨_, _, rfl, _⟩ := h; rfl) (fun cdv Ar outer s H vs Q E hr h => ?_)
  obtain ⟨o, l, rfl, ho, hby, q⟩ := h
  refine ⟨_, (pss_cons (ps_if (pt_cmpR op_gt (pe_callB call_len_seq (by rfl) T.b_len PySem.boot_len (pa_cons (pv 0) pa_nil)) (pe_op op_sub (pe_glob (v := .int 255) rfl T.g_LONGEST_ROW ⟨_, rfl⟩) (pe_glob (v := .int 16) rfl T.g_PARITY ⟨_, rfl⟩)) (nomark _)) (pss_one (ps_ret (pe_lst (pa_cons (pe_un un_neg pe_int) pa_nil)))) pss_nil)
    (pss_one (ps_ret (pe_op op_cat (pe_lst (pa_cons pe_int (pa_cons (pe_glob (v := .int 16) rfl T.g_PARITY ⟨_, rfl⟩) pa_nil))) (pe_meth (pe_make0 T.k_Code.M G_Code_init (hr.mono (by decide)) rfl T.k_Code.g T.k_Code.b .nil pass0) T.c_Code.cl T.f_Code_parity_of.m G_Code_parity_of (hr.mono (by decide)) T.f_Code_parity_of.b .nil pass0 (pa_cons (pv 0) pa_nil)))))), ?_⟩
  unfold parityOut at q
  refine ⟨_, rfl, o, _, rfl, .inl ho, _, _, rfl, rfl, _, _, rfl, rfl, _, rfl, ite2 (fun z => ?_) (fun z => ?_)⟩
  · have hz : (255 : Int) - 16 < ((nv l).length : Nat) := of_decide_eq_true z
    rw [nv_length] at hz
    rw [if_neg (by omega)] at q
    exact ⟨_, rfl, by decide, fun p np => q p _ upd_same⟩
  · have hz : l.length ≤ 239 := by
      by_cases k : l.length ≤ 239
      · exact k
      · exact absurd (decide_eq_true (show (255 : Int) - 16 < ((nv l).length : Nat) by rw [nv_length]; omega)) z
    rw [if_pos hz] at q
    refine ⟨by decide, fun p1 n1 => ?_⟩
    have x1 := Ex.new (o := .lst [.int 0, .int 16]) n1
    intro c dx nc ndx nex
    have x1c : ∀ b u, H b = some u → b ≠ c → b ≠ dx → upd (upd (upd H p1 (.lst [.int 0, .int 16])) dx (.own c)) c (.ins A.c_Code dx []) b = some u := fun b u hb k1 k2 => by
      rw [upd_ne k1, upd_ne k2]
      exact x1 _ _ hb
    refine ⟨c, dx, rfl, upd_same, fun H1 hC k1 => ⟨rfl, ?_⟩⟩
    have p1c : p1 ≠ c := fun e => by rw [← e, upd_same] at nc; cases nc
    have p1d : p1 ≠ dx := fun e => by rw [← e, upd_same] at ndx; cases ndx
    have v1 : H1 p1 = some (.lst [.int 0, .int 16]) := k1 _ _ (by rw [upd_ne p1c, upd_ne p1d, upd_same]) p1c
    have x2 : Ex H H1 := fun b u hb => by
      have kc : b ≠ c := ne_of_none (x1 _ _ hb) nc
      exact k1 b u (x1c b u hb kc (ne_of_none (x1 _ _ hb) ndx)) kc
    obtain ⟨dxc, f, d, g1, g2, g3⟩ := id hC
    refine ⟨c, _, _, rfl, g1, no_Code_parity_of, _, rfl, c, o, l, rfl, hC, ex_l x2 ho, hby, fun p2 H2 n2 x3 h2 => ?_⟩
    refine ⟨p1, p2, _, _, rfl, rfl, x3 _ _ v1, h2, by rw [nv_length, Gf.parity_length hby]; decide, fun p3 n3 => q p3 _ ?_⟩
    rw [upd_same, ← iv_natsI]
    rfl
end
end Sl
/-! ## D1 -/
set_option Elab.async false
set_option linter.all false
set_option maxRecDepth 100000
set_option maxHeartbeats 4000000
namespace Sl
open PySem PySem.Spec PyProof.Rows L2 Evl
section
variable {P : Program} {w : World} {K : PySem.W.Frag} {mg : Str → Option Value} {base : Heap} {A : Adr}
theorem ok_doubled (T : Top K mg A) : FnOk P w K mg base CX0 1 A.f_doubled A.d_doubled ["octet"] (sp_doubled K A) := by
  refine T.f_doubled.F.ok sc_doubled (fun vs H Q E h => by obtain ⟨_, rfl, _⟩ := h; rfl) (fun cdv Ar outer s H vs Q E hr h => ?_)
  obtain ⟨a, rfl, ha, q⟩ := h
  refine ⟨_, (pss_cons (ps_set (i := 1) sc_doubled.nd rfl (Or.inl rfl) (pe_op op_mul (pv 0) pe_int))
    (pss_cons (ps_if (pt_cmpR op_gt (pv 1) pe_int (nomark _)) (pss_one (ps_ret (pe_op op_xor (pv 1) (pe_glob (v := .int 283) rfl T.g_MODULUS ⟨_, rfl⟩)))) pss_nil)
    (pss_one (ps_ret (pv 1))))), ?_⟩
  refine ⟨_, rfl, _, _, rfl, rfl, .inl ⟨by omega, by omega⟩, ?_⟩
  refine ⟨_, rfl, _, _, rfl, rfl, _, rfl, ?_⟩
  have e2 : ((a : Int) * 2) = ((2 * a : Nat) : Int) := by omega
  unfold Fm11.twice at q
  refine ite2 (fun c => ?_) (fun c => ?_)
  · have c' : ¬ a < 128 := by have := of_decide_eq_true c; omega
    refine ⟨_, rfl, _, _, rfl, rfl, ?_⟩
    show Q (.int (Builtin.bitXor ((a : Int) * 2) ((283 : Nat) : Int))) H
    rw [e2, xor_cast]
    rw [if_neg c'] at q
    exact q
  · have c' : a < 128 := by
      by_cases k : a < 128
      · exact k
      · exact absurd (decide_eq_true (by omega)) c
    refine ⟨_, rfl, ?_⟩
    show Q (.int ((a : Int) * 2)) H
    rw [e2]
    rw [if_pos c'] at q
    exact q
theorem half_is : ∀ r < 256, r = if r % 2 = 1 then Fm11.twice (r / 2) ^^^ 1 else Fm11.twice (r / 2) := by decide +kernel
theorem times_half {s r : Nat} (hs : s < 256) (hr : r < 256) : Fm11.times s r = if r % 2 = 1 then s ^^^ Fm11.times (Fm11.twice s) (r / 2) else Fm11.times (Fm11.twice s) (r / 2) := by
  have h2 : r / 2 < 256 := by omega
  have e := half_is r hr
  have et : Fm11.times s (Fm11.twice (r / 2)) = Fm11.times (Fm11.twice s) (r / 2) := by rw [Gf.times_twice_right h2 s hs, Gf.times_twice_left _ hs]
  by_cases c : r % 2 = 1
  · rw [if_pos c] at e ⊢
    conv => lhs; rw [e]
    rw [Gf.times_xor_right _ _ hs, et, Gf.times_one s hs, Nat.xor_comm]
  · rw [if_neg c] at e ⊢
    conv => lhs; rw [e]
    exact et
theorem ok_product_of (T : Top K mg A) (G_doubled : FnOk P w K mg base CX0 1 A.f_doubled A.d_doubled ["octet"] (sp_doubled K A)) : FnOk P w K mg base CX0 2 A.f_product_of A.d_product_of ["a", "b"] (sp_product_of K A) := by
  refine T.f_product_of.F.ok sc_product_of (fun vs H Q E h => by obtain ⟨_, _, rfl, _⟩ := h; rfl) (fun cdv Ar outer s H vs Q E hr h => ?_)
  obtain ⟨a, b, rfl, ha, hb, q⟩ := h
  refine ⟨_, (pss_cons (ps_set (i := 2) sc_product_of.nd rfl (Or.inl rfl) pe_int)
    (pss_cons (ps_set (i := 3) sc_product_of.nd rfl (Or.inl rfl) (pv 0))
    (pss_cons (ps_set (i := 4) sc_product_of.nd rfl (Or.inl rfl) (pv 1))
    (pss_cons (ps_while PassesOwn.never (pt_cmpR op_gt (pv 4) pe_int (nomark _))
    (pss_cons (ps_if (pt_cmpR op_eq (pe_op op_mod (pv 4) pe_int) pe_int (nomark _)) (pss_one (ps_set (i := 2) sc_product_of.nd rfl (Or.inl rfl) (pe_op op_xor (pv 2) (pv 3)))) pss_nil)
    (pss_cons (ps_set (i := 3) sc_product_of.nd rfl (Or.inl rfl) (pe_call G_doubled (hr.mono (by decide)) rfl T.f_doubled.g T.f_doubled.F.kp T.f_doubled.b .nil pass0 (pa_cons (pv 3) pa_nil)))
    (pss_one (ps_set (i := 4) sc_product_of.nd rfl (Or.inl rfl) (pe_op op_fdiv (pv 4) pe_int))))))
    (pss_one (ps_ret (pv 2))))))), ?_⟩
  refine ⟨_, rfl, _, rfl, ?_⟩
  refine ⟨fun m σ H' => H' = H ∧ ∃ t s r : Nat, σ = [some (.int (a : Nat)), some (.int (b : Nat)), some (.int (t : Nat)), some (.int (s : Nat)), some (.int (r : Nat))] ∧ r = m ∧ s < 256 ∧ r < 256 ∧ Fm11.times a b = t ^^^ Fm11.times s r,
    ⟨b, rfl, 0, a, b, rfl, rfl, ha, hb, (Nat.zero_xor _).symm⟩, ?_⟩
  rintro m σ H' ⟨rfl, t, s, r, rfl, rfl, hs, hr, e⟩
  refine ⟨_, rfl, _, _, rfl, rfl, _, rfl, ?_⟩
  refine ite2 (fun c => ?_) (fun c => ?_)
  · have hr0 : 0 < r := by have := of_decide_eq_true c; omega
    refine ⟨fun σ' H'' => H'' = H' ∧ ∃ t s : Nat, σ' = [some (.int (a : Nat)), some (.int (b : Nat)), some (.int (t : Nat)), some (.int (s : Nat)), some (.int ((r / 2 : Nat) : Int))] ∧ s < 256 ∧ Fm11.times a b = t ^^^ Fm11.times s (r / 2),
      fun σ' H'' hN => ?_, ?_⟩
    · obtain ⟨rfl, t', s', rfl, k1, k2⟩ := hN
      exact ⟨r / 2, by omega, rfl, t', s', r / 2, rfl, rfl, k1, by omega, k2⟩
    have hdiv : (r : Int) / 2 = ((r / 2 : Nat) : Int) := by omega
    rw [times_half hs hr] at e
    refine ⟨_, rfl, _, _, rfl, rfl, (by show (0 : Int) < 2; decide), rfl, _, rfl, ite2 (fun z => ?_) (fun z => ?_)⟩
    · have hz : r % 2 = 1 := by have := V.int.inj (of_decide_eq_true z); omega
      rw [if_pos hz, ← Nat.xor_assoc] at e
      refine ⟨_, rfl, _, rfl, _, _, rfl, rfl, ?_⟩
      refine ⟨_, rfl, s, rfl, hs, ?_⟩
      refine ⟨_, rfl, _, _, rfl, rfl, ⟨by decide, by decide⟩, rfl, t ^^^ s, Fm11.twice s, ?_, Gf.twice_lt hs, e⟩
      show [some (V.int (a : Nat)), some (V.int (b : Nat)), some (V.int (Builtin.bitXor (t : Nat) (s : Nat))), some (V.int (Fm11.twice s : Nat)), some (V.int ((r : Int) / 2))] = _
      rw [hdiv, xor_cast]
    · have hz : ¬ r % 2 = 1 := fun y => z (decide_eq_true (by show V.int _ = V.int 1; congr 1; omega))
      rw [if_neg hz] at e
      refine ⟨_, rfl, s, rfl, hs, ?_⟩
      refine ⟨_, rfl, _, _, rfl, rfl, ⟨by decide, by decide⟩, rfl, t, Fm11.twice s, ?_, Gf.twice_lt hs, e⟩
      show [some (V.int (a : Nat)), some (V.int (b : Nat)), some (V.int (t : Nat)), some (V.int (Fm11.twice s : Nat)), some (V.int ((r : Int) / 2))] = _
      rw [hdiv]
  · have hr0 : r = 0 := by
      by_cases k : r = 0
      · exact k
      · exact absurd (decide_eq_true (by omega)) c
    rw [hr0, Gf.times_zero, Nat.xor_zero] at e
    rw [e] at q
    exact ⟨_, rfl, q⟩
theorem ok_Field_power (T : Top K mg A) : FnOk P w K mg base CX0 1 A.f_Field_power A.d_Field_power ["self", "exponent"] (sp_Field_power K A) := by
  refine T.f_Field_power.F.ok sc_Field_power (fun vs H Q E h => by obtain ⟨_, _, rfl, _⟩ := h; rfl) (fun cdv Ar outer s H vs Q E hr h => ?_)
  obtain ⟨f, z, rfl, ⟨dx, p, r, h1, h2, h3⟩, q⟩ := h
  refine ⟨_, (pss_one (ps_ret (pe_ix ix_list (pe_fld (pv 0) rfl) (pe_op op_mod (pv 1) (pe_glob (v := .int 255) rfl T.g_ORDER ⟨_, rfl⟩)) (fun _ _ => rfl)))), ?_⟩
  refine ⟨_, rfl, _, _, _, _, _, rfl, h1, T.c_Field.cl, T.c_Field.n_powers, lk_Field_powers, ?_⟩
  refine ⟨_, rfl, _, _, rfl, rfl, (by show (0 : Int) < 255; decide), ?_⟩
  have hz : z % 255 = ((z % 255).toNat : Int) := (Int.toNat_of_nonneg (Int.emod_nonneg _ (by decide))).symm
  have hz2 : (z % 255).toNat < 255 := by have := Int.emod_lt_of_pos z (show (0 : Int) < 255 by decide); omega
  refine ⟨p, nv Gf.table, z % 255, _, rfl, rfl, .inl (.inl h2), atI_nv hz (by rw [table_length]; exact hz2), ?_⟩
  rw [Gf.table_at hz2]
  exact q
end
end Sl
/-! ## D2 -/
set_option Elab.async false
set_option linter.all false
set_option maxRecDepth 100000
set_option maxHeartbeats 4000000
namespace Sl
open PySem PySem.Spec PyProof.Rows L2 Evl
section
variable {P : Program} {w : World} {K : PySem.W.Frag} {mg : Str → Option Value} {base : Heap} {A : Adr}
theorem lg_sub {a b : Nat} (ha : a < 256) (hb : b < 256) (ha0 : a ≠ 0) (hb0 : b ≠ 0) : Fm11.times a (Fm11.inverse b) = Fm11.power (((Gf.lg a : Int) - (Gf.lg b : Int)) % 255).toNat := by
  rw [Gf.inverse_eq hb hb0]
  conv => lhs; arg 1; rw [← Gf.power_lg ha ha0]
  rw [Gf.power_add, Gf.power_mod]
  congr 1
  have := Gf.lg_lt hb hb0
  omega
theorem ok_Field_scaled (T : Top K mg A) : FnOk P w K mg base CX0 1 A.f_Field_scaled A.d_Field_scaled ["self", "row", "factor"] (sp_Field_scaled K A) := by
  refine T.f_Field_scaled.F.ok sc_Field_scaled (fun vs H Q E h => by obtain ⟨_, _, _, _, rfl, _⟩ := h; rfl) (fun cdv Ar outer s H vs Q E hr h => ?_)
  obtain ⟨f, r, l, c, rfl, ⟨dx, p, lr, h1, h2, h3⟩, hr', hby, hz, hc, q⟩ := h
  refine ⟨_, (pss_cons (ps_if (pt_cmpR op_eq (pv 2) pe_int (nomark _)) (pss_one (ps_ret (pe_op op_rep (pe_lst (pa_cons pe_int pa_nil)) (pe_callB call_len_seq (by rfl) T.b_len PySem.boot_len (pa_cons (pv 1) pa_nil))))) pss_nil)
    (pss_cons (ps_set (i := 3) sc_Field_scaled.nd rfl (Or.inr rfl) (pe_ix ix_list (pe_fld (pv 0) rfl) (pv 2) (fun _ _ => rfl)))
    (pss_one (ps_ret (pe_lc (own := [("octet", 4)]) (g := gName 4) (te := (tIf (tTest (tOp (rI0 fun i j => .bl (decide (j < i))) (tVar 4) (tC (.int 0)))) (tOp (rIxL K) (tFld K (tVar 0) "powers") (tOp (rI (fun _ j => 0 < j) fun i j => .int (i % j)) (tOp (rI0 fun i j => .int (i + j)) (tVar 3) (tOp (rIxL K) (tFld K (tVar 0) "logs") (tVar 4))) (tC (.int 255)))) (tC (.int 0)))) (tt := tYes) rfl sc_Field_scaled.nd (pi_list (pv 1)) (blkOk_by (own := [("octet", 4)]) (N := ["self", "row", "factor", "exponent", "octet"]) (sc := defScope s_Field_scaled) (by decide +kernel)) (fun _ _ _ _ _ => (pg_name (i := 4) sc_Field_scaled.nd rfl (Or.inl rfl))) (fun _ _ _ _ _ => pts_nil) (fun _ _ _ _ _ => (pe_ifExp (pt_cmpR op_gt (pv 4) pe_int (nomark _)) (pe_ix ix_list (pe_fld (pv 0) rfl) (pe_op op_mod (pe_op op_add (pv 3) (pe_ix ix_list (pe_fld (pv 0) rfl) (pv 4) (fun _ _ => rfl))) (pe_glob (v := .int 255) rfl T.g_ORDER ⟨_, rfl⟩)) (fun _ _ => rfl)) pe_int))))))), ?_⟩
  refine ⟨_, rfl, rfl, _, rfl, ite2 (fun e => ?_) (fun e => ?_)⟩
  · have e0 : c = 0 := by have := V.int.inj (of_decide_eq_true e); omega
    refine ⟨by decide, fun p1 n1 => ?_⟩
    refine ⟨_, rfl, r, nv l, rfl, .inl (ex_l (Ex.new n1) hr'), ?_⟩
    refine ⟨p1, _, _, rfl, rfl, upd_same, by rw [nv_length]; omega, by rw [nv_length]; omega, ?_, fun p2 n2 => ?_⟩
    · rw [nv_length]
      show 1 * (l.length : Int).toNat ≤ sizeLine
      rw [Int.toNat_natCast, Nat.one_mul]
      exact sz_of (by omega)
    · refine q p2 _ (fresh_back (Ex.new n1) n2) ((Ex.new n1).trans (Ex.new n2)) ?_
      rw [upd_same, nv_length, Int.toNat_natCast, rep_flat, e0]
      congr 3
      have : Fm11.times 0 = fun _ => 0 := by
        funext x
        exact Gf.zero_times x
      rw [this]
      exact (List.map_const' ..).symm
  · have hc0 : c ≠ 0 := fun z => e (decide_eq_true (by rw [z]; rfl))
    refine ⟨_, rfl, _, _, _, _, _, rfl, h1, T.c_Field.cl, T.c_Field.n_logs, lk_Field_logs, ?_⟩
    refine ⟨_, rfl, lr, nv logs, _, _, rfl, rfl, .inl (.inl h3), atI_nv rfl (by rw [logs_length]; exact hc), ?_⟩
    rw [logs_at hc]
    have e1 : lg0 c = Gf.lg c := if_neg hc0
    rw [e1]
    refine ⟨_, rfl, r, rfl, lc_nv (Fm11.times c) hr' hz (fun i x H1 R hx e1 k => ?_) q⟩
    have hx256 : x < 256 := hby x (List.mem_of_getElem? hx)
    refine ⟨rfl, ?_⟩
    refine ⟨_, rfl, _, _, rfl, rfl, _, rfl, ite2 (fun z => ?_) (fun z => ?_)⟩
    · have hx0 : x ≠ 0 := by have := of_decide_eq_true z; omega
      refine ⟨_, rfl, _, _, _, _, _, rfl, (e1 _ _ h1), T.c_Field.cl, T.c_Field.n_powers, lk_Field_powers, ?_⟩
      refine ⟨_, rfl, _, rfl, _, _, _, _, _, rfl, (e1 _ _ h1), T.c_Field.cl, T.c_Field.n_logs, lk_Field_logs, ?_⟩
      refine ⟨_, rfl, lr, nv logs, _, _, rfl, rfl, .inl (.inl (e1 _ _ h3)), atI_nv rfl (by rw [logs_length]; exact hx256), ?_⟩
      refine ⟨_, _, rfl, rfl, _, _, rfl, rfl, (by show (0 : Int) < 255; decide), ?_⟩
      rw [logs_at hx256]
      have e2 : lg0 x = Gf.lg x := if_neg hx0
      rw [e2]
      have hl : (Gf.lg c + Gf.lg x) % 255 < 255 := Nat.mod_lt _ (by decide)
      refine ⟨p, nv Gf.table, _, _, rfl, rfl, .inl (.inl (e1 _ _ h2)), atI_nv (i := (Gf.lg c + Gf.lg x) % 255) (by omega) (by rw [table_length]; exact hl), ?_⟩
      rw [Gf.table_at hl, ← Gf.times_lg hc hx256 hc0 hx0]
      exact k _ (Ex.refl _)
    · have hx0 : x = 0 := by
        have : ¬ (0 : Int) < (x : Int) := fun y => z (decide_eq_true y)
        omega
      have := k _ (Ex.refl _)
      rw [hx0, Gf.times_zero] at this
      exact this
end
end Sl
/-! ## D3 -/
set_option Elab.async false
set_option linter.all false
set_option maxRecDepth 100000
set_option maxHeartbeats 4000000
namespace Sl
open PySem PySem.Spec PyProof.Rows L2 Evl
section
variable {P : Program} {w : World} {K : PySem.W.Frag} {mg : Str → Option Value} {base : Heap} {A : Adr}
def logsAt (i : Nat) : List Nat := (List.range 256).map fun x => if x ≠ 0 ∧ Gf.lg x < i then Gf.lg x else 0
theorem logsAt_length (i : Nat) : (logsAt i).length = 256 := by
  unfold logsAt
  rw [List.length_map, List.length_range]
theorem logsAt_zero : logsAt 0 = List.replicate 256 0 := by decide +kernel
theorem logsAt_end : logsAt 255 = logs := by
  unfold logsAt logs
  apply List.map_congr_left
  intro x hx
  unfold lg0
  by_cases c : x = 0
  · rw [if_pos c, if_neg (fun z => z.1 c)]
  · rw [if_neg c, if_pos ⟨c, Gf.lg_lt (List.mem_range.mp hx) c⟩]
theorem logsAt_step {i : Nat} (h : i < 255) : (logsAt i).set (Fm11.power i) i = logsAt (i + 1) := by
  apply List.ext_getElem?
  intro x
  rw [List.getElem?_set]
  unfold logsAt
  rw [List.length_map, List.length_range, List.getElem?_map, List.getElem?_map]
  by_cases hx : x < 256
  · rw [List.getElem?_range hx]
    by_cases c : Fm11.power i = x
    · rw [if_pos c, if_pos (by rw [c]; exact hx)]
      rw [← c]
      show some i = some (if Fm11.power i ≠ 0 ∧ Gf.lg (Fm11.power i) < i + 1 then Gf.lg (Fm11.power i) else 0)
      rw [Gf.lg_power h, if_pos ⟨Gf.power_ne i, Nat.lt_succ_self i⟩]
    · rw [if_neg c]
      show some (if x ≠ 0 ∧ Gf.lg x < i then Gf.lg x else 0) = some (if x ≠ 0 ∧ Gf.lg x < i + 1 then Gf.lg x else 0)
      congr 1
      by_cases z : x = 0
      · rw [if_neg (fun y => y.1 z), if_neg (fun y => y.1 z)]
      · have hne : Gf.lg x ≠ i := fun y => c (by rw [← y]; exact Gf.power_lg hx z)
        by_cases g : Gf.lg x < i
        · rw [if_pos ⟨z, g⟩, if_pos ⟨z, by omega⟩]
        · rw [if_neg (fun y => g y.2), if_neg (fun y => g (by have := y.2; omega))]
  · have : Fm11.power i ≠ x := fun y => hx (by rw [← y]; exact Gf.power_lt i)
    rw [if_neg this, List.getElem?_eq_none (by rw [List.length_range]; omega)]
    rfl
theorem table_more {i : Nat} (h : i < 255) : Gf.table.take (i + 1) = Gf.table.take i ++ [Fm11.power i] := by
  rw [List.take_add_one, getD_some (by rw [table_length]; exact h), Gf.table_at h]
  rfl
theorem nv_set (l : List Nat) (i x : Nat) : (nv l).set i (.int (x : Int)) = nv (l.set i x) := by
  unfold nv
  rw [List.map_set]
theorem ok_Field_init (T : Top K mg A) (G_product_of : FnOk P w K mg base CX0 2 A.f_product_of A.d_product_of ["a", "b"] (sp_product_of K A)) : FnOk P w K mg base CX0 3 A.f_Field_init A.d_Field_init ["self"] (sp_Field_init K A) := by
  refine T.k_Field.F.ok sc_Field_init (fun vs H Q E h => by obtain ⟨_, _, rfl, _⟩ := h; rfl) (fun cdv Ar outer s H vs Q E hr h => ?_)
  obtain ⟨p, dx, rfl, hp, q⟩ := h
  refine ⟨_, (pss_cons (ps_fld (pv 0) (pe_lst pa_nil) rfl)
    (pss_cons (ps_fld (pv 0) (pe_op op_rep (pe_lst (pa_cons pe_int pa_nil)) pe_int) rfl)
    (pss_cons (ps_set (i := 1) sc_Field_init.nd rfl (Or.inl rfl) pe_int)
    (pss_one (ps_for PassesOwn.never rfl (pi_range1 rfl T.b_range (pa_cons (pe_glob (v := .int 255) rfl T.g_ORDER ⟨_, rfl⟩) pa_nil)) (pg_name (i := 2) sc_Field_init.nd rfl (Or.inl rfl))
    (pss_cons (ps_expr (pe_bm PySem.F.plainAttrs_list PySem.F.slot_list_append PySem.F.type_list_append mt_append (pe_fld (pv 0) rfl) (pa_cons (pv 1) pa_nil)))
    (pss_cons (ps_asg (pv 2) (pg_sub (pe_fld (pv 0) rfl) (pv 1) set_list))
    (pss_one (ps_set (i := 1) sc_Field_init.nd rfl (Or.inl rfl) (pe_call G_product_of (hr.mono (by decide)) rfl T.f_product_of.g T.f_product_of.F.kp T.f_product_of.b .nil pass0 (pa_cons (pv 1) (pa_cons pe_int pa_nil)))))))))))), ?_⟩
  refine ⟨by decide, fun o no => ?_⟩
  have op : p ≠ o := ne_of_none hp no
  refine ⟨_, rfl, p, A.c_Field, dx, [], rfl, by rw [upd_ne op]; exact hp, T.c_Field.cl, T.c_Field.n_powers, by decide, ?_⟩
  refine ⟨by decide, fun z nz => ?_⟩
  refine ⟨z, _, _, rfl, rfl, upd_same, by decide, by decide, by decide, fun r nr => ?_⟩
  have rz : r ≠ z := fun e => by rw [e, upd_same] at nr; cases nr
  rw [upd_ne rz] at nr
  have zp : z ≠ p := fun e => by rw [e, upd_same] at nz; cases nz
  rw [upd_ne zp] at nz
  have zo : z ≠ o := fun e => by rw [e, upd_same] at nz; cases nz
  rw [upd_ne zo] at nz
  have rp : r ≠ p := fun e => by rw [e, upd_same] at nr; cases nr
  rw [upd_ne rp] at nr
  have ro : r ≠ o := fun e => by rw [e, upd_same] at nr; cases nr
  rw [upd_ne ro] at nr
  refine ⟨_, rfl, p, A.c_Field, dx, _, rfl, by rw [upd_ne rp.symm, upd_ne zp.symm, upd_same], T.c_Field.cl, T.c_Field.n_logs, by show 1 < 1000; decide, ?_⟩
  refine ⟨_, rfl, by show (-(2 ^ 62) : Int) ≤ 255; decide, by show (255 : Int) < 2 ^ 62; decide, for_range (lo := 0) (n := 255) (fun i σ H' => ∃ v : Option V, σ = [some (.ref p), some (.int (Fm11.power i : Nat)), v] ∧
    H' p = some (.ins A.c_Field dx (fl_Field (.ref o) (.ref r))) ∧ H' o = some (.lst (nv (Gf.table.take i))) ∧ H' r = some (.lst (nv (logsAt i))) ∧ ∀ b o', H b = some o' → b ≠ p → H' b = some o') ⟨none, rfl, ?_, ?_, ?_, fun b o' hb hbp => ?_⟩ ?_ ?_⟩
  · rw [upd_same]
    rfl
  · rw [upd_ne op.symm, upd_ne ro.symm, upd_ne zo.symm, upd_ne op.symm, upd_same]
    rfl
  · rw [upd_ne rp, upd_same, logsAt_zero, ← rep_flat]
    rfl
  · rw [upd_ne hbp, upd_ne (ne_of_none hb nr), upd_ne (ne_of_none hb nz), upd_ne hbp, upd_ne (ne_of_none hb no)]
    exact hb
  · rintro i σ H' hi ⟨v, rfl, e1, e2, e3, e4⟩
    have hlt := Gf.power_lt i
    refine ⟨_, rfl, _, _, _, _, _, rfl, e1, T.c_Field.cl, T.c_Field.n_powers, lk_Field_powers, .inl ⟨rfl, _, SqL.of e2⟩, _, rfl, o, _, _, rfl, rfl, e2, ?_, ?_⟩
    · rw [nv_length, List.length_take]
      exact sz_lt (by omega)
    have e1' : (upd H' o (.lst (nv (Gf.table.take i) ++ [.int (Fm11.power i : Nat)]))) p = some (.ins A.c_Field dx (fl_Field (.ref o) (.ref r))) := by
      rw [upd_ne op]; exact e1
    have e3' : (upd H' o (.lst (nv (Gf.table.take i) ++ [.int (Fm11.power i : Nat)]))) r = some (.lst (nv (logsAt i))) := by
      rw [upd_ne ro]; exact e3
    refine ⟨_, rfl, _, rfl, _, _, _, _, _, rfl, e1', T.c_Field.cl, T.c_Field.n_logs, lk_Field_logs, _, rfl, r, _, _, _, rfl, rfl, e3', ixN_nat (j := Fm11.power i) (by rw [nv_length, logsAt_length]; exact hlt), ?_⟩
    refine ⟨_, rfl, Fm11.power i, 3, rfl, hlt, by decide, ?_⟩
    rw [Gf.times_comm (b := 3) (by decide) _ hlt]
    have ei : (0 : Int) + (i : Int) = ((i : Nat) : Int) := Int.zero_add _
    refine ⟨some (.int (i : Nat)), ?_, ?_, ?_, ?_, fun b o' hb hbp => ?_⟩
    · show [some (V.ref p), some (.int (Fm11.power (i + 1) : Nat)), some (.int (0 + (i : Int)))] = _
      rw [ei]
    · rw [upd_ne rp.symm]; exact e1'
    · rw [upd_ne ro.symm, upd_same, table_more hi, nv_append]; rfl
    · rw [upd_same]
      show some (HO.lst ((nv (logsAt i)).set (Fm11.power i) (.int (0 + (i : Int))))) = _
      rw [ei, nv_set, logsAt_step hi]
    · rw [upd_ne (ne_of_none hb nr), upd_ne (ne_of_none hb no)]
      exact e4 b o' hb hbp
  · rintro σ H' ⟨v, rfl, e1, e2, e3, e4⟩
    refine q H' ⟨dx, o, r, e1, ?_, ?_⟩ e4
    · rw [e2, List.take_of_length_le (by rw [table_length]; exact Nat.le_refl _)]
    · rw [e3, logsAt_end]
theorem ok_added (T : Top K mg A) : FnOk P w K mg base CX0 1 A.f_added A.d_added ["a", "b"] (sp_added K A) := by
  refine T.f_added.F.ok sc_added (fun vs H Q E h => by obtain ⟨_, _, _, _, rfl, _⟩ := h; rfl) (fun cdv Ar outer s H vs Q E hr h => ?_)
  obtain ⟨a, b, l, m, rfl, ha, hb, hlm, hz, q⟩ := h
  refine ⟨_, (pss_one (ps_ret (pe_lc (own := [("x", 2), ("y", 3)]) (g := gTup K 2 (gCons (gName 2) (gCons (gName 3) gNil))) (te := (tOp (rI0 fun i j => .int (Builtin.bitXor i j)) (tVar 2) (tVar 3))) (tt := tYes) rfl sc_added.nd (pi_zip (by rfl) T.b_zip (pa_cons (pv 0) (pa_cons (pv 1) pa_nil))) (blkOk_by (own := [("x", 2), ("y", 3)]) (N := ["a", "b", "x", "y"]) (sc := defScope s_added) (by decide +kernel)) (fun _ _ _ _ _ => (pg_tup rfl (pgs_cons (pg_name (i := 2) sc_added.nd rfl (Or.inl rfl)) (pgs_cons (pg_name (i := 3) sc_added.nd rfl (Or.inl rfl)) pgs_nil)))) (fun _ _ _ _ _ => pts_nil) (fun _ _ _ _ _ => (pe_op op_xor (pv 2) (pv 3)))))), ?_⟩
  refine ⟨_, rfl, _, rfl, a, b, _, _, rfl, ha, hb, lc_zp (fun y => y.1 ^^^ y.2) hlm ha hb hz (fun i x y t H1 R hx hy e1 ht k => ?_) q⟩
  refine ⟨t, _, rfl, SqT.of ht, rfl, _, _, rfl, _, _, rfl, rfl, rfl, ?_⟩
  refine ⟨_, rfl, _, rfl, _, _, rfl, rfl, ?_⟩
  show R (.int (Builtin.bitXor (x : Int) (y : Int))) H1
  rw [xor_cast]
  exact k _ (Ex.refl _)
end
end Sl
/-! ## D4 -/
set_option Elab.async false
set_option linter.all false
set_option maxRecDepth 100000
set_option maxHeartbeats 4000000
namespace Sl
open PySem PySem.Spec PyProof.Rows L2 Evl
section
variable {P : Program} {w : World} {K : PySem.W.Frag} {mg : Str → Option Value} {base : Heap} {A : Adr}
theorem nv_drop1 (l : List Nat) : cutV (nv l) (some 1) none = nv (l.drop 1) := cut_from l 1
theorem ok_divisor_of (T : Top K mg A) (G_Field_power : FnOk P w K mg base CX0 1 A.f_Field_power A.d_Field_power ["self", "exponent"] (sp_Field_power K A)) (G_Field_scaled : FnOk P w K mg base CX0 1 A.f_Field_scaled A.d_Field_scaled ["self", "row", "factor"] (sp_Field_scaled K A)) (G_added : FnOk P w K mg base CX0 1 A.f_added A.d_added ["a", "b"] (sp_added K A)) : FnOk P w K mg base CX0 2 A.f_divisor_of A.d_divisor_of ["field"] (sp_divisor_of K A) := by
  refine T.f_divisor_of.F.ok sc_divisor_of (fun vs H Q E h => by obtain ⟨_, rfl, _⟩ := h; rfl) (fun cdv Ar outer s H vs Q E hr h => ?_)
  obtain ⟨f, rfl, hF, q⟩ := h
  refine ⟨_, (pss_cons (ps_set (i := 1) sc_divisor_of.nd rfl (Or.inl rfl) (pe_lst (pa_cons pe_int pa_nil)))
    (pss_cons (ps_for PassesOwn.never rfl (pi_range1 rfl T.b_range (pa_cons (pe_glob (v := .int 16) rfl T.g_PARITY ⟨_, rfl⟩) pa_nil)) (pg_name (i := 2) sc_divisor_of.nd rfl (Or.inl rfl))
    (pss_one (ps_set (i := 1) sc_divisor_of.nd rfl (Or.inl rfl) (pe_call G_added (hr.mono (by decide)) rfl T.f_added.g T.f_added.F.kp T.f_added.b .nil pass0 (pa_cons (pe_op op_cat (pv 1) (pe_lst (pa_cons pe_int pa_nil))) (pa_cons (pe_op op_cat (pe_lst (pa_cons pe_int pa_nil)) (pe_meth (pv 0) T.c_Field.cl T.f_Field_scaled.m G_Field_scaled (hr.mono (by decide)) T.f_Field_scaled.b .nil pass0 (pa_cons (pv 1) (pa_cons (pe_meth (pv 0) T.c_Field.cl T.f_Field_power.m G_Field_power (hr.mono (by decide)) T.f_Field_power.b .nil pass0 (pa_cons (pv 2) pa_nil)) pa_nil)))) pa_nil))))))
    (pss_one (ps_ret (pe_slice sl_list (pv 1) (po_some pe_int) po_none))))), ?_⟩
  refine ⟨by decide, fun o no => ?_⟩
  refine ⟨_, rfl, by show (-(2 ^ 62) : Int) ≤ 16; decide, by show (16 : Int) < 2 ^ 62; decide, for_range (lo := 0) (n := 16) (fun i σ H' => ∃ (d : Addr) (v : Option V), σ = [some (.ref f), some (.ref d), v] ∧
    H' d = some (.lst (nv (Fm11.roots i))) ∧ Ex H H') ⟨o, none, rfl, upd_same, Ex.new no⟩ ?_ ?_⟩
  · rintro i σ H' hi ⟨d, v, rfl, hd, e0⟩
    have hL := Gf.roots_length i
    have hB := Gf.roots_by i
    refine ⟨_, rfl, by decide, fun p1 n1 => ?_⟩
    have x1 := Ex.new (o := .lst [.int 0]) n1
    refine ⟨d, p1, _, _, rfl, rfl, x1 _ _ hd, upd_same, by rw [nv_length]; exact sz_of (by show _ + 1 ≤ _; omega), fun p2 n2 => ?_⟩
    have x2 := x1.trans (Ex.new (o := .lst (nv (Fm11.roots i) ++ [.int 0])) n2)
    refine ⟨by decide, fun p3 n3 => ?_⟩
    have x3 := x2.trans (Ex.new (o := .lst [.int 0]) n3)
    obtain ⟨dx, p, lr, h1, h2, h3⟩ := id (hF.ex (e0.trans x3))
    have hF3 : FieldAt A _ f := ⟨dx, p, lr, h1, h2, h3⟩
    refine ⟨_, rfl, _, _, _, rfl, h1, no_Field_scaled, _, rfl, _, rfl, _, _, _, rfl, h1, no_Field_power, _, rfl, f, _, rfl, hF3, ?_⟩
    have ei : ((0 + (i : Int)) % 255).toNat = i := by omega
    rw [ei]
    refine ⟨f, d, Fm11.roots i, Fm11.power i, rfl, hF3, SqL.of (x3 _ _ hd), hB, by omega, Gf.power_lt i, fun p4 H4 n4 e4 h4 => ?_⟩
    have h3' := e4 _ _ (show _ = some (HO.lst [V.int 0]) from upd_same (a := p3))
    refine ⟨p3, p4, _, _, rfl, rfl, h3', h4, by rw [nv_length, List.length_map]; exact sz_of (by show 1 + _ ≤ _; omega), fun p5 n5 => ?_⟩
    have x5 := (Ex.new (o := .lst ([V.int 0] ++ nv ((Fm11.roots i).map (Fm11.times (Fm11.power i))))) n5)
    have h2' : (upd (upd (upd H' p1 (.lst [.int 0])) p2 (.lst (nv (Fm11.roots i) ++ [.int 0]))) p3 (.lst [.int 0])) p2 = some (.lst (nv (Fm11.roots i ++ [0]))) := by
      refine (Ex.new n3) _ _ ?_
      rw [upd_same, nv_append]
      rfl
    refine ⟨p2, p5, Fm11.roots i ++ [0], (0 :: Fm11.roots i).map (Fm11.times (Fm11.power i)), rfl, SqL.of ((e4.trans x5) _ _ h2'), SqL.of ?_, ?_, ?_, fun p6 H6 n6 e6 h6 => ?_⟩
    · rw [upd_same, List.map_cons, Gf.times_zero]
      rfl
    · rw [List.length_append, List.length_map]
      rfl
    · rw [List.length_append, hL]
      show i + 1 + 1 ≤ _
      omega
    · refine ⟨p6, _, rfl, ?_, ((e0.trans x3).trans (e4.trans x5)).trans e6⟩
      rw [h6, Gf.roots_step]
  · rintro σ H' ⟨d, v, rfl, hd, e0⟩
    refine ⟨_, rfl, _, rfl, d, _, rfl, SqL.of hd, fun p np => ?_⟩
    rw [nv_drop1]
    exact q p _ (fresh_back e0 np) (e0.trans (Ex.new np)) upd_same
theorem ok_Code_init (T : Top K mg A) (G_Field_init : FnOk P w K mg base CX0 3 A.f_Field_init A.d_Field_init ["self"] (sp_Field_init K A)) (G_divisor_of : FnOk P w K mg base CX0 2 A.f_divisor_of A.d_divisor_of ["field"] (sp_divisor_of K A)) : FnOk P w K mg base CX0 5 A.f_Code_init A.d_Code_init ["self"] (sp_Code_init K A) := by
  refine T.k_Code.F.ok sc_Code_init (fun vs H Q E h => by obtain ⟨_, _, rfl, _⟩ := h; rfl) (fun cdv Ar outer s H vs Q E hr h => ?_)
  obtain ⟨p, dx, rfl, hp, q⟩ := h
  refine ⟨_, (pss_cons (ps_fld (pv 0) (pe_make0 T.k_Field.M G_Field_init (hr.mono (by decide)) rfl T.k_Field.g T.k_Field.b .nil pass0) rfl)
    (pss_one (ps_fld (pv 0) (pe_call G_divisor_of (hr.mono (by decide)) rfl T.f_divisor_of.g T.f_divisor_of.F.kp T.f_divisor_of.b .nil pass0 (pa_cons (pe_fld (pv 0) rfl) pa_nil)) rfl))), ?_⟩
  intro f fx nf nfx nex
  have fp : p ≠ f := ne_of_none hp nf
  have fxp : p ≠ fx := ne_of_none hp nfx
  refine ⟨f, fx, rfl, upd_same, fun H1 hF k1 => ⟨rfl, ?_⟩⟩
  have x1 : Ex H H1 := fun b o hb => k1 b o (by rw [upd_ne (ne_of_none hb nf), upd_ne (ne_of_none hb nfx)]; exact hb) (ne_of_none hb nf)
  have hp1 := x1 _ _ hp
  refine ⟨_, rfl, p, A.c_Code, dx, [], rfl, hp1, T.c_Code.cl, T.c_Code.n_field, by decide, ?_⟩
  have hF2 : FieldAt A (upd H1 p (.ins A.c_Code dx (putF "field" (.ref f) []))) f := by
    obtain ⟨dx', a, b, h1, h2, h3⟩ := hF
    have pa : p ≠ a := fun e => by rw [e, h2] at hp1; cases hp1
    have pb : p ≠ b := fun e => by rw [e, h3] at hp1; cases hp1
    exact ⟨dx', a, b, by rw [upd_ne fp.symm]; exact h1, by rw [upd_ne pa.symm]; exact h2, by rw [upd_ne pb.symm]; exact h3⟩
  refine ⟨_, rfl, p, A.c_Code, dx, _, _, rfl, upd_same, T.c_Code.cl, T.c_Code.n_field, rfl, ?_⟩
  refine ⟨f, rfl, hF2, fun d H3 nd e3 h3 => ?_⟩
  refine ⟨_, rfl, p, A.c_Code, dx, _, rfl, e3 _ _ upd_same, T.c_Code.cl, T.c_Code.n_divisor, by show 1 < 1000; decide, ?_⟩
  have hF3 := hF2.ex e3
  have hp3 := e3 _ _ (show _ = some (HO.ins A.c_Code dx (putF "field" (.ref f) [])) from upd_same (a := p))
  have pd : p ≠ d := fun e => by rw [e, h3] at hp3; cases hp3
  refine q _ ⟨dx, f, d, by rw [upd_same]; rfl, ?_, by rw [upd_ne pd.symm]; exact h3⟩ fun b o hb hbp => ?_
  · obtain ⟨dx', a, b, h1, h2, h3⟩ := hF3
    have pa : p ≠ a := fun e => by rw [e, h2] at hp3; cases hp3
    have pb : p ≠ b := fun e => by rw [e, h3] at hp3; cases hp3
    exact ⟨dx', a, b, by rw [upd_ne fp.symm]; exact h1, by rw [upd_ne pa.symm]; exact h2, by rw [upd_ne pb.symm]; exact h3⟩
  · rw [upd_ne hbp]
    refine e3 _ _ ?_
    rw [upd_ne hbp]
    exact x1 _ _ hb
theorem ok_Code_parity_of (T : Top K mg A) (G_Field_scaled : FnOk P w K mg base CX0 1 A.f_Field_scaled A.d_Field_scaled ["self", "row", "factor"] (sp_Field_scaled K A)) (G_added : FnOk P w K mg base CX0 1 A.f_added A.d_added ["a", "b"] (sp_added K A)) : FnOk P w K mg base CX0 2 A.f_Code_parity_of A.d_Code_parity_of ["self", "row"] (sp_Code_parity_of K A) := by
  refine T.f_Code_parity_of.F.ok sc_Code_parity_of (fun vs H Q E h => by obtain ⟨_, _, _, rfl, _⟩ := h; rfl) (fun cdv Ar outer s H vs Q E hr h => ?_)
  obtain ⟨c, r, l, rfl, hC, hr', hby, q⟩ := h
  refine ⟨_, (pss_cons (ps_set (i := 2) sc_Code_parity_of.nd rfl (Or.inl rfl) (pe_op op_rep (pe_lst (pa_cons pe_int pa_nil)) (pe_glob (v := .int 16) rfl T.g_PARITY ⟨_, rfl⟩)))
    (pss_cons (ps_for PassesOwn.never rfl (pi_list (pv 1)) (pg_name (i := 3) sc_Code_parity_of.nd rfl (Or.inl rfl))
    (pss_one (ps_set (i := 2) sc_Code_parity_of.nd rfl (Or.inl rfl) (pe_call G_added (hr.mono (by decide)) rfl T.f_added.g T.f_added.F.kp T.f_added.b .nil pass0 (pa_cons (pe_op op_cat (pe_slice sl_list (pv 2) (po_some pe_int) po_none) (pe_lst (pa_cons pe_int pa_nil))) (pa_cons (pe_meth (pe_fld (pv 0) rfl) T.c_Field.cl T.f_Field_scaled.m G_Field_scaled (hr.mono (by decide)) T.f_Field_scaled.b .nil pass0 (pa_cons (pe_fld (pv 0) rfl) (pa_cons (pe_op op_xor (pv 3) (pe_ix ix_list (pv 2) pe_int (fun _ _ => rfl))) pa_nil))) pa_nil))))))
    (pss_one (ps_ret (pv 2))))), ?_⟩
  refine ⟨by decide, fun o no => ⟨o, _, _, rfl, rfl, upd_same, by decide, by decide, by decide, fun o2 no2 => ?_⟩⟩
  have x0 := (Ex.new (o := .lst [V.int 0]) no).trans (Ex.new (o := .lst (List.replicate (16 : Int).toNat [V.int 0]).flatten) no2)
  refine ⟨_, rfl, r, rfl, ⟨_, ex_l x0 hr'⟩, for_list (K := K) (a := r) (xs := nv l) (fun i σ H' => ∃ (d : Addr) (v : Option V), σ = [some (.ref c), some (.ref r), some (.ref d), v] ∧
    H' d = some (.lst (nv ((l.take i).foldl (Gf.lfsr Gf.gen) (List.replicate 16 0)))) ∧ Ex H H' ∧ H d = none) ⟨o2, none, rfl, by rw [upd_same]; exact congrArg (fun y => some (HO.lst y)) (rep_flat 16), x0, fresh_back (Ex.new no) no2⟩ (fun i σ H' _ ⟨_, _, _, _, e, _⟩ => ex_l e hr') ?_ ?_⟩
  · rintro i y σ H' hi ⟨d, v, rfl, hd, e0, nd⟩
    obtain ⟨z, hz, rfl⟩ := nv_of hi
    have hz256 : z < 256 := hby z (List.mem_of_getElem? hz)
    obtain ⟨hB, hL⟩ := Gf.lfsr_all (hby.take i) (Gf.By.rep 16) (List.length_replicate ..)
    have hnext : (l.take (i + 1)).foldl (Gf.lfsr Gf.gen) (List.replicate 16 0) = Gf.lfsr Gf.gen ((l.take i).foldl (Gf.lfsr Gf.gen) (List.replicate 16 0)) z := by
      rw [List.take_add_one, hz, List.foldl_append]
      rfl
    generalize (l.take i).foldl (Gf.lfsr Gf.gen) (List.replicate 16 0) = s at hd hB hL hnext
    refine ⟨_, rfl, _, rfl, d, _, rfl, SqL.of hd, fun p1 n1 => ?_⟩
    rw [nv_drop1]
    have x1 := Ex.new (o := .lst (nv (s.drop 1))) n1
    refine ⟨by decide, fun p2 n2 => ?_⟩
    have x2 := x1.trans (Ex.new (o := .lst [V.int 0]) n2)
    refine ⟨p1, p2, _, _, rfl, rfl, (Ex.new n2) _ _ upd_same, upd_same, by rw [nv_length, List.length_drop, hL]; decide, fun p3 n3 => ?_⟩
    have x3 := x2.trans (Ex.new (o := .lst (nv (s.drop 1) ++ [V.int 0])) n3)
    obtain ⟨dxc, f, dv, g1, g2, g3⟩ := id (hC.ex (e0.trans x3))
    obtain ⟨dx, p, lr, h1, h2, h3⟩ := id g2
    refine ⟨_, rfl, _, _, _, _, _, rfl, g1, T.c_Code.cl, T.c_Code.n_field, lk_Code_field, _, _, _, rfl, h1, no_Field_scaled, _, rfl, _, _, _, _, _, rfl, g1, T.c_Code.cl, T.c_Code.n_divisor, lk_Code_divisor, _, rfl, _, rfl, d, nv s, _, _, rfl, rfl, SqL.of (x3 _ _ hd), atI_nv (i := 0) rfl (by rw [hL]; decide), ?_⟩
    have hh : s.getD 0 0 = s.headD 0 := by cases s <;> rfl
    rw [hh]
    have hx : z ^^^ s.headD 0 < 256 := Gf.xlt hz256 (Gf.headD_lt hB)
    refine ⟨_, _, rfl, rfl, ?_⟩
    refine ⟨f, dv, Gf.gen, z ^^^ s.headD 0, by rw [← xor_cast]; rfl, g2, SqL.of g3, Gf.gen_by, by rw [Gf.gen_length]; decide, hx, fun p4 H4 n4 e4 h4 => ?_⟩
    have h3' := e4 _ _ (show _ = some (HO.lst (nv (s.drop 1) ++ [V.int 0])) from upd_same (a := p3))
    refine ⟨p3, p4, s.drop 1 ++ [0], Gf.gen.map (Fm11.times (z ^^^ s.headD 0)), rfl, SqL.of (by rw [h3', nv_append]; rfl), SqL.of h4, ?_, ?_, fun p6 H6 n6 e6 h6 => ?_⟩
    · rw [List.length_append, List.length_drop, List.length_map, hL, Gf.gen_length]
      rfl
    · rw [List.length_append, List.length_drop, hL]
      decide
    · refine ⟨p6, _, rfl, ?_, ((e0.trans x3).trans e4).trans e6, fresh_back ((e0.trans x3).trans e4) n6⟩
      rw [h6, hnext]
      rfl
  · rintro σ H' ⟨d, v, rfl, hd, e0, nd⟩
    rw [nv_length, List.take_length] at hd
    refine ⟨_, rfl, q d H' nd e0 ?_⟩
    rw [hd, Gf.parity_fold]
end
end Sl
/-! ## F1 -/
set_option Elab.async false
set_option linter.all false
set_option maxRecDepth 100000
set_option maxHeartbeats 4000000
namespace Sl
open PySem PySem.Spec PyProof.Rows L2 Evl
section
variable {P : Program} {w : World} {K : PySem.W.Frag} {mg : Str → Option Value} {base : Heap} {A : Adr}
/-- every def keeps its promise -/
theorem all_ok (T : Top K mg A) : FnOk P w K mg base CX0 7 A.f_parity A.d_parity ["octets"] (sp_parity K A) := by
  have G_doubled : FnOk P w K mg base CX0 1 A.f_doubled A.d_doubled ["octet"] (sp_doubled K A) := ok_doubled T
  have G_product_of : FnOk P w K mg base CX0 2 A.f_product_of A.d_product_of ["a", "b"] (sp_product_of K A) := ok_product_of T G_doubled
  have G_Field_init : FnOk P w K mg base CX0 3 A.f_Field_init A.d_Field_init ["self"] (sp_Field_init K A) := ok_Field_init T G_product_of
  have G_Field_power : FnOk P w K mg base CX0 1 A.f_Field_power A.d_Field_power ["self", "exponent"] (sp_Field_power K A) := ok_Field_power T
  have G_Field_scaled : FnOk P w K mg base CX0 1 A.f_Field_scaled A.d_Field_scaled ["self", "row", "factor"] (sp_Field_scaled K A) := ok_Field_scaled T
  have G_added : FnOk P w K mg base CX0 1 A.f_added A.d_added ["a", "b"] (sp_added K A) := ok_added T
  have G_divisor_of : FnOk P w K mg base CX0 2 A.f_divisor_of A.d_divisor_of ["field"] (sp_divisor_of K A) := ok_divisor_of T G_Field_power G_Field_scaled G_added
  have G_Code_init : FnOk P w K mg base CX0 5 A.f_Code_init A.d_Code_init ["self"] (sp_Code_init K A) := ok_Code_init T G_Field_init G_divisor_of
  have G_Code_parity_of : FnOk P w K mg base CX0 2 A.f_Code_parity_of A.d_Code_parity_of ["self", "row"] (sp_Code_parity_of K A) := ok_Code_parity_of T G_Field_scaled G_added
  have G_parity : FnOk P w K mg base CX0 7 A.f_parity A.d_parity ["octets"] (sp_parity K A) := ok_parity T G_Code_init G_Code_parity_of
  exact G_parity
end
--WITNESS [.list []]
def spEnd (K : PySem.W.Frag) : Sp := fun vs H Q _ => ∃ (o : Addr) (l : List Nat), vs = [.ref o] ∧ SqL K H o (nv l) ∧ Gf.By l ∧ ∀ p H', H' p = some (.lst (iv (parityOut l))) → Q (.ref p) H'
theorem parity_is {l : List Nat} (h : Gf.By l) : PyFm11.parity (natsI l) = parityOut l := by
  show ansOut ((if Fm11.bytesOk (Fm11Neutral.nats (natsI l)) 239 then (⟨0, [Fm11.parity (Fm11Neutral.nats (natsI l))]⟩ : Fm11.Ans) else Fm11.says (-1), Fm11.begin_ 0).1 : Fm11.Ans) = _
  rw [nats_ints, bytes_ok h]
  unfold parityOut
  by_cases c : l.length ≤ 239
  · rw [if_pos c, decide_eq_true c, if_pos rfl]
    show 0 :: (((Fm11.parity l).length : Nat) : Int) :: (natsI (Fm11.parity l) ++ []) = _
    rw [Gf.parity_length h, List.append_nil]
    rfl
  · rw [if_neg c, decide_eq_false c]
    rfl
theorem end_ok : ∀ (K : PySem.W.Frag) (H : Hp) (xs : List V) (a : PySem.W.Codec.denoteAll PySem.Challenge.rw_sureline_s03_parity.args), OnlyF H → PySem.W.Codec.withinAll PySem.Challenge.rw_sureline_s03_parity.args a = true → PySem.W.Codec.app PySem.Challenge.rw_sureline_s03_parity.args PySem.Challenge.rw_sureline_s03_parity.asked a = true → DwAll K H xs (PySem.W.Codec.encAll PySem.Challenge.rw_sureline_s03_parity.args a) →
      spEnd K xs H (fun v H' => Dw K H' v (PySem.Challenge.rw_sureline_s03_parity.ret.enc (PySem.W.Codec.app PySem.Challenge.rw_sureline_s03_parity.args PySem.Challenge.rw_sureline_s03_parity.f a))) fun _ _ _ => False := by
  intro K H xs a hO hwi hask hx
  obtain ⟨a, u⟩ := a
  cases hx with
  | cons h1 h2 =>
    cases h2
    cases h1 with
    | lst hs ha =>
      have e := ints_dw a _ ha
      subst e
      have q : ((PySem.W.Codec.inLen 0 300 a && a.all (PySem.W.Codec.inInt 0 255)) && true) = true := hwi
      rw [Bool.and_eq_true, Bool.and_eq_true] at q
      obtain ⟨l, rfl, hby⟩ := in_bytes q.1.2
      refine ⟨_, l, rfl, by rw [← iv_natsI]; exact hs, hby, fun p H' hp => ?_⟩
      rw [← parity_is hby] at hp
      exact .lst (SqL.of hp) (dw_ints _)
theorem all_mk {P : Program} {w : World} {K : PySem.W.Frag} {h : Heap} {mg : Str → Option Value} {fa : Addr} (X : K.In h) (G : h.Ns mainGlobals mg) (hfa : mg "parity" = some (.ref fa))
    {CField : Addr}
    {CCode : Addr}
    {Fdoubled : Addr}
    {od_doubled an_doubled : Option Addr} {sl_doubled : Array (Option Value)} {oc_doubled kV_doubled dc_doubled pm_doubled cd_doubled ct_doubled : Value}
    {Fproduct_of : Addr}
    {od_product_of an_product_of : Option Addr} {sl_product_of : Array (Option Value)} {oc_product_of kV_product_of dc_product_of pm_product_of cd_product_of ct_product_of : Value}
    {FField_init : Addr}
    {od_Field_init an_Field_init : Option Addr} {sl_Field_init : Array (Option Value)} {oc_Field_init kV_Field_init dc_Field_init pm_Field_init cd_Field_init ct_Field_init : Value}
    {FField_power : Addr}
    {od_Field_power an_Field_power : Option Addr} {sl_Field_power : Array (Option Value)} {oc_Field_power kV_Field_power dc_Field_power pm_Field_power cd_Field_power ct_Field_power : Value}
    {FField_scaled : Addr}
    {od_Field_scaled an_Field_scaled : Option Addr} {sl_Field_scaled : Array (Option Value)} {oc_Field_scaled kV_Field_scaled dc_Field_scaled pm_Field_scaled cd_Field_scaled ct_Field_scaled : Value}
    {Fadded : Addr}
    {od_added an_added : Option Addr} {sl_added : Array (Option Value)} {oc_added kV_added dc_added pm_added cd_added ct_added : Value}
    {Fdivisor_of : Addr}
    {od_divisor_of an_divisor_of : Option Addr} {sl_divisor_of : Array (Option Value)} {oc_divisor_of kV_divisor_of dc_divisor_of pm_divisor_of cd_divisor_of ct_divisor_of : Value}
    {FCode_init : Addr}
    {od_Code_init an_Code_init : Option Addr} {sl_Code_init : Array (Option Value)} {oc_Code_init kV_Code_init dc_Code_init pm_Code_init cd_Code_init ct_Code_init : Value}
    {FCode_parity_of : Addr}
    {od_Code_parity_of an_Code_parity_of : Option Addr} {sl_Code_parity_of : Array (Option Value)} {oc_Code_parity_of kV_Code_parity_of dc_Code_parity_of pm_Code_parity_of cd_Code_parity_of ct_Code_parity_of : Value}
    {Fparity : Addr}
    {od_parity an_parity : Option Addr} {sl_parity : Array (Option Value)} {oc_parity kV_parity dc_parity pm_parity cd_parity ct_parity : Value}
    {t_MODULUS : Tok}
    {t_ORDER : Tok}
    {t_LONGEST_ROW : Tok}
    {t_PARITY : Tok}
    (a_Field : PySem.W.nsIn K mainGlobals "Field" = some (some (.ref CField)))
    (pg_Field : PySem.W.plainGet K CField Str.empty = true)
    (hd_Field : PySem.W.hasDictIn K CField = true)
    (po_Field : PySem.W.plainOver K CField = true)
    (sa_Field : PySem.W.findIn K (.ref CField) "__setattr__" = some (some (.builtin "object.__setattr__")))
    (mk_Field : PySem.W.makesIn K CField = true)
    (kc_Field : PySem.W.keepIn K (.ref CField) = true)
    (n_Field_powers : PySem.W.findIn K (.ref CField) "powers" = some none)
    (n_Field_logs : PySem.W.findIn K (.ref CField) "logs" = some none)
    (a_Code : PySem.W.nsIn K mainGlobals "Code" = some (some (.ref CCode)))
    (pg_Code : PySem.W.plainGet K CCode Str.empty = true)
    (hd_Code : PySem.W.hasDictIn K CCode = true)
    (po_Code : PySem.W.plainOver K CCode = true)
    (sa_Code : PySem.W.findIn K (.ref CCode) "__setattr__" = some (some (.builtin "object.__setattr__")))
    (mk_Code : PySem.W.makesIn K CCode = true)
    (kc_Code : PySem.W.keepIn K (.ref CCode) = true)
    (n_Code_field : PySem.W.findIn K (.ref CCode) "field" = some none)
    (n_Code_divisor : PySem.W.findIn K (.ref CCode) "divisor" = some none)
    (a_doubled : PySem.W.nsIn K mainGlobals "doubled" = some (some (.ref Fdoubled)))
    (l_doubled : K.lookup Fdoubled = some ⟨oc_doubled, od_doubled, .func (PySem.W.fnOf "doubled" "doubled" (defArgs s_doubled) (defBody s_doubled) (defScope s_doubled) .none kV_doubled dc_doubled pm_doubled an_doubled cd_doubled ct_doubled), sl_doubled⟩)
    (c_doubled : PySem.W.codeIn K cd_doubled "doubled" = true)
    (k_doubled : PySem.W.keepIn K (.ref Fdoubled) = true)
    (a_product_of : PySem.W.nsIn K mainGlobals "product_of" = some (some (.ref Fproduct_of)))
    (l_product_of : K.lookup Fproduct_of = some ⟨oc_product_of, od_product_of, .func (PySem.W.fnOf "product_of" "product_of" (defArgs s_product_of) (defBody s_product_of) (defScope s_product_of) .none kV_product_of dc_product_of pm_product_of an_product_of cd_product_of ct_product_of), sl_product_of⟩)
    (c_product_of : PySem.W.codeIn K cd_product_of "product_of" = true)
    (k_product_of : PySem.W.keepIn K (.ref Fproduct_of) = true)
    (a_Field_init : PySem.W.findIn K (.ref CField) "__init__" = some (some (.ref FField_init)))
    (i_Field_init : PySem.W.isFn K (.ref FField_init) = true)
    (l_Field_init : K.lookup FField_init = some ⟨oc_Field_init, od_Field_init, .func (PySem.W.fnOf "__init__" "Field.__init__" (defArgs s_Field_init) (defBody s_Field_init) (defScope s_Field_init) .none kV_Field_init dc_Field_init pm_Field_init an_Field_init cd_Field_init ct_Field_init), sl_Field_init⟩)
    (c_Field_init : PySem.W.codeIn K cd_Field_init "Field.__init__" = true)
    (k_Field_init : PySem.W.keepIn K (.ref FField_init) = true)
    (a_Field_power : PySem.W.findIn K (.ref CField) "power" = some (some (.ref FField_power)))
    (i_Field_power : PySem.W.isFn K (.ref FField_power) = true)
    (l_Field_power : K.lookup FField_power = some ⟨oc_Field_power, od_Field_power, .func (PySem.W.fnOf "power" "Field.power" (defArgs s_Field_power) (defBody s_Field_power) (defScope s_Field_power) .none kV_Field_power dc_Field_power pm_Field_power an_Field_power cd_Field_power ct_Field_power), sl_Field_power⟩)
    (c_Field_power : PySem.W.codeIn K cd_Field_power "Field.power" = true)
    (k_Field_power : PySem.W.keepIn K (.ref FField_power) = true)
    (a_Field_scaled : PySem.W.findIn K (.ref CField) "scaled" = some (some (.ref FField_scaled)))
    (i_Field_scaled : PySem.W.isFn K (.ref FField_scaled) = true)
    (l_Field_scaled : K.lookup FField_scaled = some ⟨oc_Field_scaled, od_Field_scaled, .func (PySem.W.fnOf "scaled" "Field.scaled" (defArgs s_Field_scaled) (defBody s_Field_scaled) (defScope s_Field_scaled) .none kV_Field_scaled dc_Field_scaled pm_Field_scaled an_Field_scaled cd_Field_scaled ct_Field_scaled), sl_Field_scaled⟩)
    (c_Field_scaled : PySem.W.codeIn K cd_Field_scaled "Field.scaled" = true)
    (k_Field_scaled : PySem.W.keepIn K (.ref FField_scaled) = true)
    (a_added : PySem.W.nsIn K mainGlobals "added" = some (some (.ref Fadded)))
    (l_added : K.lookup Fadded = some ⟨oc_added, od_added, .func (PySem.W.fnOf "added" "added" (defArgs s_added) (defBody s_added) (defScope s_added) .none kV_added dc_added pm_added an_added cd_added ct_added), sl_added⟩)
    (c_added : PySem.W.codeIn K cd_added "added" = true)
    (k_added : PySem.W.keepIn K (.ref Fadded) = true)
    (a_divisor_of : PySem.W.nsIn K mainGlobals "divisor_of" = some (some (.ref Fdivisor_of)))
    (l_divisor_of : K.lookup Fdivisor_of = some ⟨oc_divisor_of, od_divisor_of, .func (PySem.W.fnOf "divisor_of" "divisor_of" (defArgs s_divisor_of) (defBody s_divisor_of) (defScope s_divisor_of) .none kV_divisor_of dc_divisor_of pm_divisor_of an_divisor_of cd_divisor_of ct_divisor_of), sl_divisor_of⟩)
    (c_divisor_of : PySem.W.codeIn K cd_divisor_of "divisor_of" = true)
    (k_divisor_of : PySem.W.keepIn K (.ref Fdivisor_of) = true)
    (a_Code_init : PySem.W.findIn K (.ref CCode) "__init__" = some (some (.ref FCode_init)))
    (i_Code_init : PySem.W.isFn K (.ref FCode_init) = true)
    (l_Code_init : K.lookup FCode_init = some ⟨oc_Code_init, od_Code_init, .func (PySem.W.fnOf "__init__" "Code.__init__" (defArgs s_Code_init) (defBody s_Code_init) (defScope s_Code_init) .none kV_Code_init dc_Code_init pm_Code_init an_Code_init cd_Code_init ct_Code_init), sl_Code_init⟩)
    (c_Code_init : PySem.W.codeIn K cd_Code_init "Code.__init__" = true)
    (k_Code_init : PySem.W.keepIn K (.ref FCode_init) = true)
    (a_Code_parity_of : PySem.W.findIn K (.ref CCode) "parity_of" = some (some (.ref FCode_parity_of)))
    (i_Code_parity_of : PySem.W.isFn K (.ref FCode_parity_of) = true)
    (l_Code_parity_of : K.lookup FCode_parity_of = some ⟨oc_Code_parity_of, od_Code_parity_of, .func (PySem.W.fnOf "parity_of" "Code.parity_of" (defArgs s_Code_parity_of) (defBody s_Code_parity_of) (defScope s_Code_parity_of) .none kV_Code_parity_of dc_Code_parity_of pm_Code_parity_of an_Code_parity_of cd_Code_parity_of ct_Code_parity_of), sl_Code_parity_of⟩)
    (c_Code_parity_of : PySem.W.codeIn K cd_Code_parity_of "Code.parity_of" = true)
    (k_Code_parity_of : PySem.W.keepIn K (.ref FCode_parity_of) = true)
    (a_parity : PySem.W.nsIn K mainGlobals "parity" = some (some (.ref Fparity)))
    (l_parity : K.lookup Fparity = some ⟨oc_parity, od_parity, .func (PySem.W.fnOf "parity" "parity" (defArgs s_parity) (defBody s_parity) (defScope s_parity) .none kV_parity dc_parity pm_parity an_parity cd_parity ct_parity), sl_parity⟩)
    (c_parity : PySem.W.codeIn K cd_parity "parity" = true)
    (k_parity : PySem.W.keepIn K (.ref Fparity) = true)
    (g_MODULUS : PySem.W.nsIn K mainGlobals "MODULUS" = some (some (.int 283 t_MODULUS)))
    (g_ORDER : PySem.W.nsIn K mainGlobals "ORDER" = some (some (.int 255 t_ORDER)))
    (g_LONGEST_ROW : PySem.W.nsIn K mainGlobals "LONGEST_ROW" = some (some (.int 255 t_LONGEST_ROW)))
    (g_PARITY : PySem.W.nsIn K mainGlobals "PARITY" = some (some (.int 16 t_PARITY)))
    (b_len : PySem.W.nsIn K mainGlobals "len" = some none)
    (b_range : PySem.W.nsIn K mainGlobals "range" = some none)
    (b_zip : PySem.W.nsIn K mainGlobals "zip" = some none) :
    ∃ fd : FuncData, (∀ (s : Shared) (us : List Value), us.length = (["octets"] : List Str).length → BindsTo s fd ⟨us, []⟩ ((["octets"] : List Str).zip us)) ∧ ∀ base : Heap, K.In base → base.Ns mainGlobals mg → FnOk P w K mg base CX0 7 fa fd ["octets"] (spEnd K) := by
  have e := hfa.symm.trans (PySem.W.mg_of X G a_parity)
  cases e
  have T : Top K mg ⟨CField,
    CCode,
    Fdoubled,
    (PySem.W.fnOf "doubled" "doubled" (defArgs s_doubled) (defBody s_doubled) (defScope s_doubled) .none kV_doubled dc_doubled pm_doubled an_doubled cd_doubled ct_doubled),
    Fproduct_of,
    (PySem.W.fnOf "product_of" "product_of" (defArgs s_product_of) (defBody s_product_of) (defScope s_product_of) .none kV_product_of dc_product_of pm_product_of an_product_of cd_product_of ct_product_of),
    FField_init,
    (PySem.W.fnOf "__init__" "Field.__init__" (defArgs s_Field_init) (defBody s_Field_init) (defScope s_Field_init) .none kV_Field_init dc_Field_init pm_Field_init an_Field_init cd_Field_init ct_Field_init),
    FField_power,
    (PySem.W.fnOf "power" "Field.power" (defArgs s_Field_power) (defBody s_Field_power) (defScope s_Field_power) .none kV_Field_power dc_Field_power pm_Field_power an_Field_power cd_Field_power ct_Field_power),
    FField_scaled,
    (PySem.W.fnOf "scaled" "Field.scaled" (defArgs s_Field_scaled) (defBody s_Field_scaled) (defScope s_Field_scaled) .none kV_Field_scaled dc_Field_scaled pm_Field_scaled an_Field_scaled cd_Field_scaled ct_Field_scaled),
    Fadded,
    (PySem.W.fnOf "added" "added" (defArgs s_added) (defBody s_added) (defScope s_added) .none kV_added dc_added pm_added an_added cd_added ct_added),
    Fdivisor_of,
    (PySem.W.fnOf "divisor_of" "divisor_of" (defArgs s_divisor_of) (defBody s_divisor_of) (defScope s_divisor_of) .none kV_divisor_of dc_divisor_of pm_divisor_of an_divisor_of cd_divisor_of ct_divisor_of),
    FCode_init,
    (PySem.W.fnOf "__init__" "Code.__init__" (defArgs s_Code_init) (defBody s_Code_init) (defScope s_Code_init) .none kV_Code_init dc_Code_init pm_Code_init an_Code_init cd_Code_init ct_Code_init),
    FCode_parity_of,
    (PySem.W.fnOf "parity_of" "Code.parity_of" (defArgs s_Code_parity_of) (defBody s_Code_parity_of) (defScope s_Code_parity_of) .none kV_Code_parity_of dc_Code_parity_of pm_Code_parity_of an_Code_parity_of cd_Code_parity_of ct_Code_parity_of),
    fa,
    (PySem.W.fnOf "parity" "parity" (defArgs s_parity) (defBody s_parity) (defScope s_parity) .none kV_parity dc_parity pm_parity an_parity cd_parity ct_parity),
    t_MODULUS,
    t_ORDER,
    t_LONGEST_ROW,
    t_PARITY⟩ := ⟨⟨⟨pg_Field, hd_Field, po_Field, sa_Field⟩, n_Field_powers, n_Field_logs⟩,
    ⟨⟨pg_Code, hd_Code, po_Code, sa_Code⟩, n_Code_field, n_Code_divisor⟩,
    ⟨(fun_mk (st := s_doubled) l_doubled c_doubled k_doubled), PySem.W.mg_of X G a_doubled, ((fun_mk (st := s_doubled) l_doubled c_doubled k_doubled).binds (ps := ["octet"]) fun _ _ _ _ _ _ us hl => match us, hl with | [_], _ => rfl)⟩,
    ⟨(fun_mk (st := s_product_of) l_product_of c_product_of k_product_of), PySem.W.mg_of X G a_product_of, ((fun_mk (st := s_product_of) l_product_of c_product_of k_product_of).binds (ps := ["a", "b"]) fun _ _ _ _ _ _ us hl => match us, hl with | [_, _], _ => rfl)⟩,
    ⟨(fun_mk (st := s_Field_init) l_Field_init c_Field_init k_Field_init), ⟨mk_Field, a_Field_init, i_Field_init, kc_Field⟩, PySem.W.mg_of X G a_Field, ((fun_mk (st := s_Field_init) l_Field_init c_Field_init k_Field_init).binds (ps := ["self"]) fun _ _ _ _ _ _ us hl => match us, hl with | [_], _ => rfl)⟩,
    ⟨(fun_mk (st := s_Field_power) l_Field_power c_Field_power k_Field_power), ⟨a_Field_power, i_Field_power, k_Field_power⟩, ((fun_mk (st := s_Field_power) l_Field_power c_Field_power k_Field_power).binds (ps := ["self", "exponent"]) fun _ _ _ _ _ _ us hl => match us, hl with | [_, _], _ => rfl)⟩,
    ⟨(fun_mk (st := s_Field_scaled) l_Field_scaled c_Field_scaled k_Field_scaled), ⟨a_Field_scaled, i_Field_scaled, k_Field_scaled⟩, ((fun_mk (st := s_Field_scaled) l_Field_scaled c_Field_scaled k_Field_scaled).binds (ps := ["self", "row", "factor"]) fun _ _ _ _ _ _ us hl => match us, hl with | [_, _, _], _ => rfl)⟩,
    ⟨(fun_mk (st := s_added) l_added c_added k_added), PySem.W.mg_of X G a_added, ((fun_mk (st := s_added) l_added c_added k_added).binds (ps := ["a", "b"]) fun _ _ _ _ _ _ us hl => match us, hl with | [_, _], _ => rfl)⟩,
    ⟨(fun_mk (st := s_divisor_of) l_divisor_of c_divisor_of k_divisor_of), PySem.W.mg_of X G a_divisor_of, ((fun_mk (st := s_divisor_of) l_divisor_of c_divisor_of k_divisor_of).binds (ps := ["field"]) fun _ _ _ _ _ _ us hl => match us, hl with | [_], _ => rfl)⟩,
    ⟨(fun_mk (st := s_Code_init) l_Code_init c_Code_init k_Code_init), ⟨mk_Code, a_Code_init, i_Code_init, kc_Code⟩, PySem.W.mg_of X G a_Code, ((fun_mk (st := s_Code_init) l_Code_init c_Code_init k_Code_init).binds (ps := ["self"]) fun _ _ _ _ _ _ us hl => match us, hl with | [_], _ => rfl)⟩,
    ⟨(fun_mk (st := s_Code_parity_of) l_Code_parity_of c_Code_parity_of k_Code_parity_of), ⟨a_Code_parity_of, i_Code_parity_of, k_Code_parity_of⟩, ((fun_mk (st := s_Code_parity_of) l_Code_parity_of c_Code_parity_of k_Code_parity_of).binds (ps := ["self", "row"]) fun _ _ _ _ _ _ us hl => match us, hl with | [_, _], _ => rfl)⟩,
    ⟨(fun_mk (st := s_parity) l_parity c_parity k_parity), PySem.W.mg_of X G a_parity, ((fun_mk (st := s_parity) l_parity c_parity k_parity).binds (ps := ["octets"]) fun _ _ _ _ _ _ us hl => match us, hl with | [_], _ => rfl)⟩,
    PySem.W.mg_of X G g_MODULUS,
    PySem.W.mg_of X G g_ORDER,
    PySem.W.mg_of X G g_LONGEST_ROW,
    PySem.W.mg_of X G g_PARITY,
    PySem.W.mg_none_of X G b_len,
    PySem.W.mg_none_of X G b_range,
    PySem.W.mg_none_of X G b_zip⟩
  exact ⟨(PySem.W.fnOf "parity" "parity" (defArgs s_parity) (defBody s_parity) (defScope s_parity) .none kV_parity dc_parity pm_parity an_parity cd_parity ct_parity), fun s us hu => match us, hu with | [_], _ => .of_eq rfl, fun base _ _ => all_ok T⟩
end Sl
/-! ## F2 -/
set_option Elab.async false
open PySem PySem.W PyProof.Rows
set_option maxRecDepth 100000 in
set_option maxHeartbeats 0 in
theorem PySem.Challenge.cw_sureline_s03_parity_holds : PySem.Challenge.rw_sureline_s03_parity.Holds := by
  w_on; k_headS; (case hw => exact ⟨[.list []], by decide +kernel, by decide +kernel⟩)
  k_fillS
  refine L2.walk_specK (r := PySem.Challenge.rw_sureline_s03_parity) (k := 7) (CX := L2.CX0) (ps := ["octets"]) (sp := Sl.spEnd) (by decide +kernel) rfl rfl ⟨rfl, by decide, by decide⟩ (fun w h Y => PySem.W.kIn_of Y) ?F ?S (fun _ _ _ _ z => z)
  case F =>
    intro w mg fa h Y KX G hmg
    refine' Sl.all_mk KX G hmg ?a_Field ?pg_Field ?hd_Field ?po_Field ?sa_Field ?mk_Field ?kc_Field ?n_Field_powers ?n_Field_logs ?a_Code ?pg_Code ?hd_Code ?po_Code ?sa_Code ?mk_Code ?kc_Code ?n_Code_field ?n_Code_divisor ?a_doubled ?l_doubled ?c_doubled ?k_doubled ?a_product_of ?l_product_of ?c_product_of ?k_product_of ?a_Field_init ?i_Field_init ?l_Field_init ?c_Field_init ?k_Field_init ?a_Field_power ?i_Field_power ?l_Field_power ?c_Field_power ?k_Field_power ?a_Field_scaled ?i_Field_scaled ?l_Field_scaled ?c_Field_scaled ?k_Field_scaled ?a_added ?l_added ?c_added ?k_added ?a_divisor_of ?l_divisor_of ?c_divisor_of ?k_divisor_of ?a_Code_init ?i_Code_init ?l_Code_init ?c_Code_init ?k_Code_init ?a_Code_parity_of ?i_Code_parity_of ?l_Code_parity_of ?c_Code_parity_of ?k_Code_parity_of ?a_parity ?l_parity ?c_parity ?k_parity ?g_MODULUS ?g_ORDER ?g_LONGEST_ROW ?g_PARITY ?b_len ?b_range ?b_zip
    (case a_Field => k_is)
    (case pg_Field => k_is)
    (case hd_Field => k_is)
    (case po_Field => k_is)
    (case sa_Field => k_is)
    (case mk_Field => k_is)
    (case kc_Field => k_is)
    (case n_Field_powers => k_is)
    (case n_Field_logs => k_is)
    (case a_Code => k_is)
    (case pg_Code => k_is)
    (case hd_Code => k_is)
    (case po_Code => k_is)
    (case sa_Code => k_is)
    (case mk_Code => k_is)
    (case kc_Code => k_is)
    (case n_Code_field => k_is)
    (case n_Code_divisor => k_is)
    (case a_doubled => k_is)
    (case l_doubled => k_is)
    (case c_doubled => k_is)
    (case k_doubled => k_is)
    (case a_product_of => k_is)
    (case l_product_of => k_is)
    (case c_product_of => k_is)
    (case k_product_of => k_is)
    (case a_Field_init => k_is)
    (case i_Field_init => k_is)
    (case l_Field_init => k_is)
    (case c_Field_init => k_is)
    (case k_Field_init => k_is)
    (case a_Field_power => k_is)
    (case i_Field_power => k_is)
    (case l_Field_power => k_is)
    (case c_Field_power => k_is)
    (case k_Field_power => k_is)
    (case a_Field_scaled => k_is)
    (case i_Field_scaled => k_is)
    (case l_Field_scaled => k_is)
    (case c_Field_scaled => k_is)
    (case k_Field_scaled => k_is)
    (case a_added => k_is)
    (case l_added => k_is)
    (case c_added => k_is)
    (case k_added => k_is)
    (case a_divisor_of => k_is)
    (case l_divisor_of => k_is)
    (case c_divisor_of => k_is)
    (case k_divisor_of => k_is)
    (case a_Code_init => k_is)
    (case i_Code_init => k_is)
    (case l_Code_init => k_is)
    (case c_Code_init => k_is)
    (case k_Code_init => k_is)
    (case a_Code_parity_of => k_is)
    (case i_Code_parity_of => k_is)
    (case l_Code_parity_of => k_is)
    (case c_Code_parity_of => k_is)
    (case k_Code_parity_of => k_is)
    (case a_parity => k_is)
    (case l_parity => k_is)
    (case c_parity => k_is)
    (case k_parity => k_is)
    (case g_MODULUS => k_is)
    (case g_ORDER => k_is)
    (case g_LONGEST_ROW => k_is)
    (case g_PARITY => k_is)
    (case b_len => k_is)
    (case b_range => k_is)
    (case b_zip => k_is)
  case S => exact Sl.end_ok
